import PyProof.Rows.All
import Wide.All
import OpenK.AllK
import Wide.FinOn
import Lean
import PyProof.EqAt
import PyProof.EqKinds
import PyProof.TupleCall
import PySem.SetOps
import PyProof.SetScanFacts
import PyProof.TupleKey
import PyProof.SetKind
import PyProof.SetRoads
import PyProof.IsRules
import PyProof.ZipIter
import PyProof.TupleIter
import PyProof.ListMulRoad
import PyProof.FactsAll.tuple
import PyProof.ListRange
import PyProof.Draws
import PyProof.EnumFor
import PyProof.Rows.ListMul
import PyProof.AutoListH
import PySem.Challenge.RW_purseborder_k35_slow_drains
set_option Elab.async false
set_option linter.all false
set_option maxRecDepth 100000
noncomputable section
noncomputable def zWb:=@PySem.wpAny_bind
noncomputable def zHp:=@PySem.Heap.get?_push_of_some
theorem zOb {α β:Type}{x:Option α}{f:α->Option β}{b:β} (h:x.bind f=some b):∃ a,x=some a/\f a=some b:=Option.bind_eq_some_iff.mp h
theorem zOm {α β:Type}{x:Option α}{f:α->β}{b:β} (h:x.map f=some b):∃ a,x=some a/\f a=b:=Option.map_eq_some_iff.mp h
theorem zMc {α:Type}{a:α}{l:List α}:a∈a::l:=List.mem_cons_self
theorem zMo {α:Type} (y:α) {a:α}{l:List α} (h:a∈l):a∈y::l:=List.mem_cons_of_mem y h
namespace L2
open PySem PySem.Spec PyProof.Rows
abbrev Key:=Sum Int Str
noncomputable def pB:Key->Value->Bool
 | .inl k,v=>Value.isInt k v
 | .inr x,v=>Value.isStrOf x v
noncomputable def Sy (w:World):Key->Int
 | .inl k=>hashInt k
 | .inr x=>hashStr w x
theorem tS:∀ {k:Key}{v:Value},pB k v=true->(∃ i t,k=Sum.inl i/\v=Value.int i t)\/(∃ x t,k=Sum.inr x/\v=Value.str x t)
 | .inl i,v,h=>by
  obtain⟨t,e⟩:=Value.isInt_shape (k:=i) (v:=v) h;exact .inl ⟨i,t,rfl,e⟩
 | .inr x,v,h=>by
  obtain⟨t,e⟩:=Value.isStrOf_shape (x:=x) (v:=v) h;exact .inr ⟨x,t,rfl,e⟩
theorem Sv (i:Int) (t:Tok):pB (.inl i) (.int i t)=true:=by simp[pB,Value.isInt]
theorem Su (x:Str) (t:Tok):pB (.inr x) (.str x t)=true:=by simp[pB,Value.isStrOf]
theorem Ss (a b:Int):decide ((Sum.inl a:Key)=Sum.inl b)=(a == b):=by
 by_cases e:a=b
 .subst e;simp
 .have h:¬ (Sum.inl a:Key)=Sum.inl b:=λ q=>e (Sum.inl.inj q);rw[decide_eq_false h];exact (beq_eq_false_iff_ne.mpr e).symm
theorem Sk (a b:Str):decide ((Sum.inr a:Key)=Sum.inr b)=decide (a=b):=by
 by_cases e:a=b
 .subst e;simp
 .have h:¬ (Sum.inr a:Key)=Sum.inr b:=λ q=>e (Sum.inr.inj q);rw[decide_eq_false h,decide_eq_false e]
theorem Sq (a:Int) (b:Str):decide ((Sum.inl a:Key)=Sum.inr b)=false:=decide_eq_false (λ q=>nomatch q)
theorem So (a:Str) (b:Int):decide ((Sum.inr a:Key)=Sum.inl b)=false:=decide_eq_false (λ q=>nomatch q)
noncomputable def wK (prog:Program) (w:World):PySem.KeyKind prog w Key where
 is:=pB
 hash:=Sy w
 inj:=λ v a b ha hb=>by
  rcases tS ha with ⟨i,t,rfl,rfl⟩ | ⟨x,t,rfl,rfl⟩
  .rcases tS hb with ⟨j,u,rfl,e⟩ | ⟨y,u,rfl,e⟩
   .injection e with e1 _;rw[e1]
   .exact nomatch e
  .rcases tS hb with ⟨j,u,rfl,e⟩ | ⟨y,u,rfl,e⟩
   .exact nomatch e
   .injection e with e1 _;rw[e1]
 byValue:=λ k v h=>by
  rcases tS h with ⟨i,t,rfl,rfl⟩ | ⟨x,t,rfl,rfl⟩ <;> rfl
 pyHash:=λ hv h=>by
  rcases tS hv with ⟨i,t,rfl,rfl⟩ | ⟨x,t,rfl,rfl⟩
  .exact wpAny_pyHash_int h
  .exact wpAny_pyHash_str h
 eqBool:=λ hu hv h=>by
  rcases tS hu with ⟨i,t,rfl,rfl⟩ | ⟨x,t,rfl,rfl⟩
  .rcases tS hv with ⟨j,u,rfl,rfl⟩ | ⟨y,u,rfl,rfl⟩
   .rw[Ss] at h;exact wpAny_eqBool_int h
   .rw[Sq] at h;exact SeqAt.EqAt.int_str i t y u _ _ _ _ h
  .rcases tS hv with ⟨j,u,rfl,rfl⟩ | ⟨y,u,rfl,rfl⟩
   .rw[So] at h;exact SeqAt.EqAt.str_int x t j u _ _ _ _ h
   .rw[Sk] at h;exact wpAny_eqBool_str h
 «strs»:=λ k x t v h=>by
  rcases tS h with ⟨i,u,rfl,e⟩ | ⟨y,u,rfl,e⟩
  .exact nomatch e
  .injection e with e1 _
   subst e1;cases v <;> rfl
theorem T4 (prog:Program) (w:World) (i:Int) (t:Tok):(wK prog w).is (.inl i) (.int i t)=true:=Sv i t
theorem T3 (prog:Program) (w:World) (x:Str) (t:Tok):(wK prog w).is (.inr x) (.str x t)=true:=Su x t
end L2
namespace L2
open PySem PySem.Spec PyProof.Rows
inductive V where
 | zh | bl (b:Bool) | int (i:Int) | str (x:Str) | pR (b:Array UInt8) | kc (b:UInt64) | ref (a:Addr) | ty (n:String)
 deriving DecidableEq
noncomputable def RelV:V->Value->Prop
 | .zh,u=>u=Value.none
 | .bl b,u=>u=Value.bool b
 | .int i,u=>∃ t,u=Value.int i t
 | .str x,u=>∃ t,u=Value.str x t
 | .pR b,u=>∃ t,u=Value.bytes b t
 | .kc b,u=>∃ t,u=Value.float b t
 | .ref a,u=>u=Value.ref a
 | .ty n,u=>u=Value.type n
abbrev Vals:List V->List Value->Prop:=Paired RelV
theorem Vals.length {xs:List V}{us:List Value}(r:Vals xs us):xs.length=us.length:=Paired.length r
theorem Vals.get:∀ {xs:List V}{us:List Value}{i:Nat}{x:V},Vals xs us->xs[i]?=some x->∃ u,us[i]?=some u/\RelV x u
 | _,_,_,_,.nil,e=>by simp at e
 | _,_,0,_,.cons r _,e=>by simp at e;subst e;exact⟨_,rfl,r⟩
 | _,_,i+1,x,.cons _ t,e=>by
  obtain⟨u,h1,h2⟩:=Vals.get (i:=i) (x:=x) t (by simpa using e);exact⟨u,by simpa using h1,h2⟩
theorem Vals.set {x:V}{u:Value}(r:RelV x u):∀ {xs:List V}{us:List Value}(i:Nat),Vals xs us->Vals (xs.set i x) (us.set i u)
 | _,_,_,.nil=>.nil
 | _,_,0,.cons _ t=>.cons r t
 | _,_,i+1,.cons q t=>.cons q (Vals.set r i t)
theorem Vals.append:∀ {xs ys:List V}{us ws:List Value},Vals xs us->Vals ys ws->Vals (xs++ys) (us++ws)
 | _,_,_,_,.nil,s=>s
 | _,_,_,_,.cons r t,s=>.cons r (Vals.append t s)
noncomputable def um:Option V->Option Value->Prop
 | some v,some u=>RelV v u
 | none,none=>True
 | _,_=>False
def KV {κ:Type}:List (κ × V)->List (κ × Value)->Prop:=Paired λ(p:κ × V) (q:κ × Value)=>p.1=q.1/\RelV p.2 q.2
noncomputable def kV:Key->V
 | .inl i=>.int i
 | .inr x=>.str x
inductive HO where
  | lst (xs:List V)
  | tup (xs:List V)
  | dK (kvs:List (Key×V)) | dT (kvs:List (List Key×V))
  | set (S:Int->Bool) (n:Nat)
  | ins (C dx:Addr) (fs:List (Str×V))
  | own (x:Addr)
  | xd (fs:List (Str×V))
  | met (f x:Addr)
  | jH (lo hi:Int)
  | wo (o:Obj) (u:HO)
  | rM (ps:Array Value)
  | ext (φ:Heap->Prop)
abbrev Hp:=Addr->Option HO
noncomputable def upd (H:Hp) (a:Addr) (o:HO):Hp:=λ b=>if b=a then some o else H b
theorem yZ {H:Hp}{a:Addr}{o:HO}:upd H a o a=some o:=by unfold upd;rw[if_pos rfl]
theorem yI {H:Hp}{a b:Addr}{o:HO}(h:b≠a):upd H a o b=H b:=by unfold upd;rw[if_neg h]
theorem oJ {H:Hp}{a b:Addr}{o u:HO}(h:H a=some o) (h':H b=some u) (d:o≠u):a≠b:=by
 intro e;subst e;rw[h] at h';exact d (Option.some.inj h')
theorem sS {H:Hp}{a b:Addr}{o:HO}(h:H a=some o) (h':H b=none):a≠b:=by
 intro e;subst e;rw[h] at h';cases h'
section
variable (P:Program) (w:World)
noncomputable def xn (H:Hp) (h:Heap) (a:Addr):HO->Prop
 | .lst xs=>xs.length<=sizeLine/\∃ (its:List Value) (n:Nat),Vals xs its/\h.get? a=some { cls:=.type "list",data:=.seq its.toArray n }
 | .tup xs=>xs.length<=sizeLine/\∃ its:List Value,Vals xs its/\IsTup h a its.toArray
 | .dK kvs=>kvs.length<=sizeLine/\(a == sysModules)=false/\∃ vs,KV kvs vs/\h.DictOf (wK P w) a vs
 | .dT kvs=>kvs.length<=sizeLine/\(a == sysModules)=false/\∃ xs:List (List Key×Addr×Value),
   Paired (λ(p:List Key×V) (q:List Key×Addr×Value)=>p.1=q.1/\H q.2.1=some (.tup (p.1.map kV))/\RelV p.2 q.2.2) kvs xs/\
   ∃ o es ep,h.get? a=some o/\o.ExactDict/\o.data=.dict es ep/\es.toList=xs.map (entryOfKey (tupleKind (wK P w)))/\(xs.map (·.1)).Nodup
 | .set S n=>h.SetOf (intKind P w) a S n
 | .ins C dx fs=>H dx=some (.own a)/\fs.length<=1000/\dx≠a/\h.get? a=some (PySem.W.instObj C dx)/\
   ∃ mA,h.Ns1 dx mA/\(∀ f,um (fs.lookup f) (mA f))/\PySem.Within mA (fs.map (·.1))
 | .own _=>∃ o,h.get? a=some o
 | .xd fs=>∃ mA,h.Ns1 a mA/\∀ f,um (fs.lookup f) (mA f)
 | .jH lo hi=>∃ t u v,h.get? a=some { cls:=.type "range",data:=.fields #[.int lo t,.int hi u,.int 1 v] }
 | .wo o u=>h.get? a=some o/\xn H h a u
 | .rM ps=>h.get? a=some { cls:=.none,data:=.fields ps }
 | .met f x=>h.get? a=some (PySem.W.methodObj (.ref f) (.ref x))
 | .ext φ=>φ h/\(∃ o,h.get? a=some o)/\∀ h1 h2:Heap,φ h1->(∀ o,h1.get? a=some o->h2.get? a=some o)->φ h2
def yX (H:Hp) (h:Heap):Prop:=∀ a o,H a=some o->xn P w H h a o
end
section
variable {P:Program}{w:World}{H H':Hp}{h h':Heap}{a:Addr}{o:HO}
theorem xn.lt (x:xn P w H h a o):a<h.objs.size:=by
 cases o with
 | lst xs=>obtain⟨_,_,_,_,e⟩:=x;exact Heap.lt_size e
 | tup xs=>obtain⟨_,_,_,p⟩:=x;exact p.lt
 | dK kvs=>obtain⟨_,_,_,_,o,_,_,e,_⟩:=x;exact Heap.lt_size e
 | dT kvs=>obtain⟨_,_,_,_,o,_,_,e,_⟩:=x;exact Heap.lt_size e
 | set S n=>obtain⟨o,_,_,_,e,_⟩:=x;exact Heap.lt_size e
 | ins C dx fs=>obtain⟨_,_,_,e,_⟩:=x;exact Heap.lt_size e
 | own y=>obtain⟨_,e⟩:=x;exact Heap.lt_size e
 | xd fs=>obtain⟨_,⟨_,_,_,e,_⟩,_⟩:=x;exact Heap.lt_size e
 | jH lo hi=>obtain⟨_,_,_,e⟩:=x;exact Heap.lt_size e
 | wo ob u=>obtain⟨e,_⟩:=x;exact Heap.lt_size e
 | rM ps=>exact Heap.lt_size (show h.get? a=some _ from x)
 | met f y=>exact Heap.lt_size (show h.get? a=some _ from x)
 | ext φ=>obtain⟨_,⟨_,e⟩,_⟩:=x;exact Heap.lt_size e
theorem Paired.lO {α β:Type}{F G:α->β->Prop}:∀ {l₁:List α}{l₂:List β},Paired F l₁ l₂->(∀ a b,F a b->G a b)->Paired G l₁ l₂
 | _,_,.nil,_=>.nil
 | _,_,.cons r t,f=>.cons (f _ _ r) (Paired.lO t f)
theorem xn.sI (x:xn P w H h a o) (k:∀ b u,(b=a\/H b=some (.own a))->h.get? b=some u->h'.get? b=some u)
  (ho:∀ b,H b=some (.own a)->H' b=some (.own a)) (ht:∀ b xs,H b=some (.tup xs)->H' b=some (.tup xs)):xn P w H' h' a o:=by
 induction o with
 | lst xs=>obtain⟨z,its,n,r,e⟩:=x;exact⟨z,its,n,r,k _ _ (.inl rfl) e⟩
 | tup xs=>obtain⟨z,its,r,ob,e,c⟩:=x;exact⟨z,its,r,ob,k _ _ (.inl rfl) e,c⟩
 | dK kvs=>obtain⟨z,y,vs,r,ob,es,ep,e,c⟩:=x;exact⟨z,y,vs,r,ob,es,ep,k _ _ (.inl rfl) e,c⟩
 | dT kvs=>
  obtain⟨z,y,xs,r,ob,es,ep,e,c⟩:=x;exact⟨z,y,xs,Paired.lO r λ p q z=>⟨z.1,ht _ _ z.2.1,z.2.2⟩,ob,es,ep,k _ _ (.inl rfl) e,c⟩
 | set S n=>obtain⟨ob,es,ep,t,e,c⟩:=x;exact⟨ob,es,ep,t,k _ _ (.inl rfl) e,c⟩
 | ins C dx fs=>
  obtain⟨d,z,ne,e,mA,⟨od,es,ep,e2,c⟩,r⟩:=x;exact⟨ho _ d,z,ne,k _ _ (.inl rfl) e,mA,⟨od,es,ep,k _ _ (.inr d) e2,c⟩,r⟩
 | own y=>obtain⟨ob,e⟩:=x;exact⟨ob,k _ _ (.inl rfl) e⟩
 | xd fs=>obtain⟨mA,⟨od,es,ep,e,c⟩,r⟩:=x;exact⟨mA,⟨od,es,ep,k _ _ (.inl rfl) e,c⟩,r⟩
 | jH lo hi=>obtain⟨t,u,v,e⟩:=x;exact⟨t,u,v,k _ _ (.inl rfl) e⟩
 | wo ob u ih=>obtain⟨e,q⟩:=x;exact⟨k _ _ (.inl rfl) e,ih q⟩
 | rM ps=>
  have e:h.get? a=some { cls:=.none,data:=.fields ps }:=x;show h'.get? a=some { cls:=.none,data:=.fields ps };exact k a _ (.inl rfl) e
 | met f y=>
  have e:h.get? a=some (PySem.W.methodObj (.ref f) (.ref y)):=x;show h'.get? a=some (PySem.W.methodObj (.ref f) (.ref y));exact k a _ (.inl rfl) e
 | ext φ=>obtain⟨p,⟨o,e⟩,st⟩:=x;exact⟨st _ _ p λ o q=>k _ _ (.inl rfl) q,⟨o,k _ _ (.inl rfl) e⟩,st⟩
theorem yX.lt (x:yX P w H h) (e:H a=some o):a<h.objs.size:=(x a o e).lt
theorem yX.fresh (x:yX P w H h) (e:h.objs.size<=a):H a=none:=by
 cases q:H a with
 | none=>rfl
 | some u=>exact absurd (Nat.lt_of_lt_of_le (x.lt q) e) (Nat.lt_irrefl _)
theorem yX.kept (x:yX P w H h) (k:∀ b u,h.get? b=some u->h'.get? b=some u):yX P w H h':=λ a o e=>
 (x a o e).sI (λ b u _ q=>k b u q) (λ _ q=>q) λ _ _ q=>q
theorem yX.laid (x:yX P w H h) (k:∀ b u,h.get? b=some u->h'.get? b=some u) (hp:h.objs.size<=a) (new:xn P w (upd H a o) h' a o):yX P w (upd H a o) h':=λ b u e=>by
 have hn:=x.fresh hp;by_cases hb:b=a
 .subst hb;rw[yZ] at e;cases e;exact new
 .rw[yI hb] at e;exact (x b u e).sI (λ c v _ q=>k c v q) (λ c q=>by rw[yI (sS q hn)];exact q) λ c xs q=>by rw[yI (sS q hn)];exact q
end
def Rd (H:Hp) (a:Addr) (u:HO):Prop:=H a=some u\/∃ o,H a=some (.wo o u)
theorem Rd.ok {P:Program}{w:World}{H:Hp}{h:Heap}{a:Addr}{u:HO}(r:Rd H a u) (x:yX P w H h):xn P w H h a u:=by
 rcases r with r | ⟨o,r⟩
 .exact x a u r
 .obtain⟨_,q⟩:=x a _ r;exact q
noncomputable def nW:Option HO->Prop
 | some (.lst _)=>True
 | some (.dK _)=>True
 | some (.dT _)=>True
 | some (.set _ _)=>True
 | some (.ins _ _ _)=>True
 | some (.ext _)=>True
 | _=>False
section
variable {P:Program}{w:World}{H:Hp}{h h':Heap}{x e:Addr}{o':HO}
theorem yX.write (ok:yX P w H h) (mu:nW (H x)) (he:e=x\/H e=some (.own x)) (k:∀ b u,b≠e->h.get? b=some u->h'.get? b=some u) (heo:∃ u,h'.get? e=some u)
  (new:xn P w (upd H x o') h' x o'):yX P w (upd H x o') h':=λ b u q=>by
 have nown:∀ c y,H c=some (.own y)->c≠x:=λ c y r z=>by subst z;rw[r] at mu;exact mu
 have ntup:∀ c xs,H c=some (.tup xs)->c≠x:=λ c xs r z=>by subst z;rw[r] at mu;exact mu
 by_cases hb:b=x
 .subst hb;rw[yZ] at q;cases q;exact new
 .rw[yI hb] at q;by_cases hbe:b=e
  .have q':H b=some (.own x):=by
    rcases he with z | z
    .exact absurd (hbe.trans z) hb
    .rw[hbe];exact z
   rw[q] at q';cases q';obtain⟨v,hv⟩:=heo;exact⟨v,by rw[hbe];exact hv⟩
  .refine (ok b u q).sI (λ c v hc r=>k c v ?_ r) (λ c r=>by rw[yI (nown c b r)];exact r) λ c xs r=>by rw[yI (ntup c xs r)];exact r
   rcases hc with rfl | hc
   .exact hbe
   .rintro rfl;rcases he with z | z
    .exact nown c b hc z
    .rw[hc] at z;cases z;exact hb rfl
end
structure Un (fs ex:List Addr) (H H':Hp) (h h':Heap):Prop where
 keep:∀ b o,h.get? b=some o->H b=none->b∉fs->b∉ex->h'.get? b=some o
 slot:∀ b o,h.get? b=some o->H b=none->b∈fs->b∉ex->∃ sl,h'.get? b=some { o with slots:=sl }
 free:∀ b o,h.get? b=some o->H b=none->b∉ex->H' b=none
 there:∀ b o,h.get? b=some o->b∉ex->∃ o',h'.get? b=some o'
 sE:∀ b xs,H b=some (.tup xs)->H' b=some (.tup xs)
 tV:∀ b o u,H b=some (.wo o u)->H' b=some (.wo o u)
 sH:∀ b ps,H b=some (.rM ps)->∃ more,H' b=some (.rM (ps++more))
section
variable {fs fs' ex ex':List Addr}{H H1 H2:Hp}{h h1 h2 h':Heap}{a x e:Addr}{o:HO}
theorem Un.any (u:Un fs ex H H1 h h1) {b:Addr}{ob:Obj}(q:h.get? b=some ob) (n:H b=none) (hx:b∉ex):∃ sl,h1.get? b=some { ob with slots:=sl }:=by
 by_cases hb:b∈fs
 .exact u.slot b ob q n hb hx
 .exact⟨ob.slots,u.keep b ob q n hb hx⟩
theorem Un.kept (k:∀ b u,h.get? b=some u->h'.get? b=some u):Un fs ex H H h h':=
 ⟨λ b ob q _ _ _=>k b ob q,λ b ob q _ _ _=>⟨ob.slots,k b ob q⟩,λ _ _ _ n _=>n,λ b ob q _=>⟨ob,k b ob q⟩,λ _ _ q=>q,λ _ _ _ q=>q,λ _ ps q=>⟨#[],by rw[q];simp⟩⟩
theorem Un.refl:Un fs ex H H h h:=Un.kept λ _ _ q=>q
theorem Un.laid (k:∀ b u,h.get? b=some u->h'.get? b=some u) (hp:h.objs.size<=a) (hn:H a=none):Un fs ex H (upd H a o) h h' where
 keep:=λ b u q _ _ _=>k b u q
 slot:=λ b u q _ _ _=>⟨u.slots,k b u q⟩
 free:=λ b u q n _=>by rw[yI (Nat.ne_of_lt (Nat.lt_of_lt_of_le (Heap.lt_size q) hp))];exact n
 there:=λ b u q _=>⟨u,k b u q⟩
 sE:=λ b xs q=>by rw[yI (sS q hn)];exact q
 tV:=λ b u xs q=>by rw[yI (sS q hn)];exact q
 sH:=λ b ps q=>⟨#[],by rw[yI (sS q hn),q];simp⟩
theorem Un.write (mu:nW (H x)) (he:e=x\/H e=some (.own x)) (k:∀ b u,b≠e->h.get? b=some u->h'.get? b=some u) (heo:∃ u,h'.get? e=some u):Un fs ex H (upd H x o) h h':=by
 have hx:∀ b,H b=none->b≠x:=λ b n z=>by subst z;rw[n] at mu;exact mu
 have hb:∀ b,H b=none->b≠e:=λ b n z=>by
  subst z;rcases he with r | r
  .exact hx b n r
  .rw[n] at r;cases r
 have hm:∀ b u,H b=some u->¬ nW (some u)->b≠x:=λ b u q nm z=>by subst z;rw[q] at mu;exact nm mu
 refine⟨λ b u q n _ _=>k b u (hb b n) q,λ b u q n _ _=>⟨u.slots,k b u (hb b n) q⟩,λ b u q n _=>by rw[yI (hx b n)];exact n,λ b u q _=>?_,
  λ b xs q=>by rw[yI (hm b _ q λ z=>z)];exact q,λ b u xs q=>by rw[yI (hm b _ q λ z=>z)];exact q,λ b ps q=>⟨#[],by rw[yI (hm b _ q λ z=>z),q];simp⟩⟩
 by_cases hbe:b=e
 .subst hbe;exact heo
 .exact⟨u,k b u hbe q⟩
end
noncomputable def mJ (h:Heap) (H:Hp):List Addr:=(List.range h.objs.size).filter λ a=>(H a).isSome
noncomputable def tT (h:Heap) (H:Hp):Heap:=PySem.W.hideAll h (mJ h H)
theorem Rc (h:Heap) (H:Hp):(tT h H).objs.size=h.objs.size:=PySem.W.hideAll_size _ _
theorem Rf {h:Heap}{H:Hp}{b:Addr}{o:Obj}(e:h.get? b=some o) (n:H b=none):(tT h H).get? b=some o:=
 PySem.W.hideAll_get _ e λ hm=>by
  have q:(H b).isSome=true:=(List.mem_filter.mp hm).2;rw[n] at q;simp at q
theorem Tb {h:Heap}{H:Hp}{b:Addr}{o:Obj}(e:(tT h H).get? b=some o):h.get? b=some o/\H b=none:=by
 have e':h.get? b=some o:=PySem.W.of_hideAll (mJ h H) e;refine⟨e',?_⟩;cases q:H b with
 | none=>rfl
 | some x=>
  have hm:b∈mJ h H:=List.mem_filter.mpr ⟨List.mem_range.mpr (Heap.lt_size e'),by simp[q]⟩;have z:(tT h H).get? b=none:=PySem.W.hideAll_none (mJ h H) hm;rw[z] at e;cases e
end L2
namespace L2
open PySem PySem.Spec PyProof.Rows
structure Mod (K:PySem.W.Frag) (mg:Str->Option Value) (base:Heap):Prop where
 iR:K.In base
 glob:base.Ns mainGlobals mg
 blt:∃ mb,base.Ns builtinsNs mb/\∀ x:Str,x≠"__name__"->mb x=bootBuiltins x
 nolimit:base.NoLimit
structure Cx where
 prog:Program
 w:World
 K:PySem.W.Frag
 mg:Str->Option Value
 base:Heap
 A:Around
 N:List Str
 s₀:Shared
 H₀:Hp
 env:Env
 outer:List Env
 stack:List Env
 ex:List Addr
 fn:Str->Bool
 calm:Bool
 pn:List (Addr×Obj)
 xe:Value->Shared->Prop
noncomputable def vJ (l:List Env):List Addr:=l.filterMap (·.frame)
abbrev Cx.fs (X:Cx):List Addr:=vJ X.outer
def fm (sc:Scope) (x:Str):Prop:=sc.names.lookup x=some .local\/sc.names.lookup x=some .cell\/sc.names.lookup x=some .free
def Loc (sc:Scope) (x:Str):Prop:=sc.names.lookup x=some .local\/sc.names.lookup x=some .cell
def Look (env:Env) (h:Heap) (m:Str->Option Value) (x:Str) (u:Value):Prop:=
 (env.kindOf x=some .local/\m x=some u)\/((env.kindOf x=some .cell\/env.kindOf x=some .free)/\∃ c,env.cells.lookup x=some c/\h.IsCell c (some u))
structure Cx.Ok (X:Cx):Prop where
 mod:Mod X.K X.mg X.base
 kind:X.env.scope.kind=.function
 glob:X.env.globals=mainGlobals
 blt:X.env.builtins=builtinsNs
 above:X.s₀.heap.objs.size<=X.env.locals
 inj:∀ x y c,X.env.cells.lookup x=some c->X.env.cells.lookup y=some c->x=y
 has:∀ x,(X.env.kindOf x=some .cell\/X.env.kindOf x=some .free)->∃ c,X.env.cells.lookup x=some c
 nK:∀ x c,X.fn x=true->X.env.cells.lookup x=some c->X.s₀.heap.objs.size<=c
 hd:X.calm=true->X.A.handled=none
 frames:X.A.frames=some X.stack
 mL:X.stack=X.outer\/(X.stack=X.env::X.outer/\X.env.frame=some X.env.locals)
 gF:∀ b∈X.ex,b≠X.env.locals/\∀ x c,X.env.cells.lookup x=some c->c≠b
 bs:∀ b o,X.base.get? b=some o->X.s₀.heap.get? b=some o/\X.H₀ b=none
 qv:X.base.objs.size<=X.s₀.heap.objs.size
 oH:∀ b o,X.base.get? b=some o->b∉X.ex
 nc:∀ b∈X.ex,b∉X.fs
 uC:X.s₀.heap.FunFrames X.base X.outer
 pK:∀ b∈X.fs,X.H₀ b=none
structure Inv (X:Cx) (pins:List (Addr×Obj)) (σ:List (Option V)) (H:Hp) (s:Shared):Prop where
 ok:X.Ok
 os:s.os=X.s₀.os
 bare:AllBare s.gens
 base:Un X.fs X.ex X.H₀ H X.s₀.heap s.heap
 loc:∃ m,s.heap.Ns X.env.locals m/\∀ (i:Nat) (x:Str) (v:V),X.N[i]?=some x->σ[i]?=some (some v)->fm X.env.scope x->∃ u,RelV v u/\Look X.env s.heap m x u
 cell:∀ x c,X.env.cells.lookup x=some c->∃ v,s.heap.IsCell c v
 free:H X.env.locals=none
 u_:∀ x c,X.env.cells.lookup x=some c->H c=none
 pin:∀ p∈X.pn++pins,s.heap.get? p.1=some p.2/\H p.1=none/\p.1≠X.env.locals/\p.1∉X.fs/\∀ v,p.2.data≠.cell v
 zB:yX X.prog X.w H s.heap
 len:σ.length=X.N.length
section
variable {X:Cx}{pins:List (Addr×Obj)}{σ:List (Option V)}{H H':Hp}{s:Shared}{h':Heap}
theorem Cx.Ok.Th (ok:X.Ok) {b:Addr}{o:Obj}(e:X.base.get? b=some o):b∉X.fs:=λ hb=>by
 have:=(ok.uC.mem hb).1;rw[e] at this;cases this
theorem Inv.bs (I:Inv X pins σ H s):∀ b o,X.base.get? b=some o->s.heap.get? b=some o/\H b=none:=λ b o e=>
 ⟨I.base.keep b o (I.ok.bs b o e).1 (I.ok.bs b o e).2 (I.ok.Th e) (I.ok.oH b o e),I.base.free b o (I.ok.bs b o e).1 (I.ok.bs b o e).2 (I.ok.oH b o e)⟩
theorem Inv.bk (I:Inv X pins σ H s):∀ b o,X.base.get? b=some o->s.heap.get? b=some o:=λ b o e=>(I.bs b o e).1
theorem Inv.mod (I:Inv X pins σ H s):Mod X.K X.mg X.base:=I.ok.mod
theorem Inv.vF (I:Inv X pins σ H s):X.K.In s.heap:=I.ok.mod.iR.keeps I.bk
theorem Inv.lt (I:Inv X pins σ H s):X.env.locals<s.heap.objs.size:=let ⟨_,hn,_⟩:=I.loc;hn.lt
theorem Inv.sz (I:Inv X pins σ H s):X.s₀.heap.objs.size<=s.heap.objs.size:=Nat.le_trans I.ok.above (Nat.le_of_lt I.lt)
theorem Inv.cN (I:Inv X pins σ H s) {a:Addr}(h:s.heap.objs.size<=a):a∉X.fs:=λ hb=>by
 obtain⟨_,o,ho,_⟩:=I.ok.uC.mem hb;exact absurd (Nat.lt_of_lt_of_le (Heap.lt_size ho) (Nat.le_trans I.sz h)) (Nat.lt_irrefl _)
theorem Inv.qt (I:Inv X pins σ H s):∀ x c,X.env.cells.lookup x=some c->c≠X.env.locals:=λ x c e z=>by
 obtain⟨v,o,ho,hd⟩:=I.cell x c e;obtain⟨m,⟨o',es,ep,ho',hd',_⟩,_⟩:=I.loc;rw[z,ho'] at ho;cases ho;rw[hd'] at hd;cases hd
theorem Inv.uC (I:Inv X pins σ H s):s.heap.FunFrames X.base X.outer:=by
 have all:∀ (l:List Env),(∀ b∈vJ l,b∈X.fs)->X.s₀.heap.FunFrames X.base l->s.heap.FunFrames X.base l:=by
  intro l
  induction l with
  | nil=>intro _ _;trivial
  | cons env r ih=>
   intro hs hl;obtain⟨hk,⟨L,o,hf,hn,ho,hd⟩,hr⟩:=hl;have hL:L∈X.fs:=hs L (by unfold vJ;rw[List.filterMap_cons,hf];exact zMc);obtain⟨sl,e⟩:=I.base.slot L o ho (I.ok.pK L hL) hL λ z=>I.ok.nc L z hL;exact⟨hk,⟨L,_,hf,hn,e,hd⟩,ih (λ b hb=>hs b (by unfold vJ;rw[List.filterMap_cons,hf];exact zMo _ hb)) hr⟩
 exact all X.outer (λ _ hb=>hb) I.ok.uC
theorem Inv.stack (I:Inv X pins σ H s):s.heap.FunFrames X.base X.stack:=by
 rcases I.ok.mL with e | ⟨e,hf⟩
 .rw[e];exact I.uC
 .rw[e];obtain⟨m,hn,_⟩:=I.loc;refine .cons (by rw[I.ok.kind];decide) hf hn ?_ I.uC;exact Heap.get?_none_of_le (Nat.le_trans I.ok.qv I.ok.above)
theorem Inv.jk (I:Inv X pins σ H s):∀ b∈vJ X.stack,b∈X.env.locals::X.fs:=λ b hb=>by
 rcases I.ok.mL with e | ⟨e,hf⟩
 .rw[e] at hb;exact zMo _ hb
 .rw[e] at hb;unfold vJ at hb;rw[List.filterMap_cons,hf] at hb;exact hb
theorem Inv.eT (I:Inv X pins σ H s):∀ b∈vJ X.stack,H b=none:=λ b hb=>by
 rcases List.mem_cons.mp (I.jk b hb) with e | hb
 .rw[e];exact I.free
 .obtain⟨_,o,ho,_⟩:=I.ok.uC.mem hb;exact I.base.free b o ho (I.ok.pK b hb) λ z=>I.ok.nc b z hb
theorem Inv.step {g':Array GenState}{t':Nat}{d':Drawn}{ch:List Addr}(I:Inv X pins σ H s)
  (hch:∀ b∈ch,(b∈X.ex\/X.s₀.heap.objs.size<=b)/\b≠X.env.locals/\(∀ x c,X.env.cells.lookup x=some c->c≠b)/\∀ p∈X.pn++pins,p.1≠b)
  (keep:∀ b o,b≠X.env.locals->b∉X.fs->b∉ch->s.heap.get? b=some o->H b=none->h'.get? b=some o)
  (slot:∀ b o,b≠X.env.locals->b∈X.fs->b∉ch->s.heap.get? b=some o->H b=none->∃ sl,h'.get? b=some { o with slots:=sl }) (free:∀ b o,b∉ch->s.heap.get? b=some o->H b=none->H' b=none)
  (there:∀ b o,b∉ch->s.heap.get? b=some o->∃ o',h'.get? b=some o')
  (sE:∀ b xs,H b=some (.tup xs)->H' b=some (.tup xs)) (tV:∀ b o u,H b=some (.wo o u)->H' b=some (.wo o u)) (sH:∀ b ps,H b=some (.rM ps)->∃ more,H' b=some (.rM (ps++more)))
  (ns:∀ m,s.heap.Ns X.env.locals m->h'.Ns X.env.locals m) (zB:yX X.prog X.w H' h') (hg:AllBare g'):
  Inv X pins σ H' { s with heap:=h',gens:=g',drawn:=d',toks:=t' }:=by
 have neL:∀ b o,X.s₀.heap.get? b=some o->b≠X.env.locals:=λ b o e=>Nat.ne_of_lt (Nat.lt_of_lt_of_le (Heap.lt_size e) I.ok.above);have neC:∀ b o,X.s₀.heap.get? b=some o->b∉X.ex->b∉ch:=λ b o e hx hb=>by
  rcases (hch b hb).1 with z | z
  .exact hx z
  .exact absurd (Nat.lt_of_lt_of_le (Heap.lt_size e) z) (Nat.lt_irrefl _)
 have cellK:∀ x c,X.env.cells.lookup x=some c->∀ v,s.heap.IsCell c v->h'.IsCell c v:=λ x c e v ⟨o,ho,hd⟩=>by
  have nch:c∉ch:=λ z=>(hch c z).2.2.1 x c e rfl;by_cases hc:c∈X.fs
  .obtain⟨sl,q⟩:=slot c o (I.qt x c e) hc nch ho (I.u_ x c e);exact⟨_,q,hd⟩
  .exact⟨o,keep c o (I.qt x c e) hc nch ho (I.u_ x c e),hd⟩
 refine⟨I.ok,I.os,hg,⟨λ b o e n hb hx=>?_,λ b o e n hb hx=>?_,λ b o e n hx=>?_,λ b o e hx=>?_,λ b xs e=>sE b xs (I.base.sE b xs e),λ b o xs e=>tV b o xs (I.base.tV b o xs e),λ b ps e=>?_⟩,?_,λ x c e=>?_,?_,λ x c e=>?_,λ p hp=>?_,zB,I.len⟩
 .exact keep b o (neL b o e) hb (neC b o e hx) (I.base.keep b o e n hb hx) (I.base.free b o e n hx)
 .obtain⟨sl,e1⟩:=I.base.slot b o e n hb hx;obtain⟨sl',e2⟩:=slot b _ (neL b o e) hb (neC b o e hx) e1 (I.base.free b o e n hx);exact⟨sl',e2⟩
 .obtain⟨o',e1⟩:=I.base.there b o e hx;exact free b o' (neC b o e hx) e1 (I.base.free b o e n hx)
 .obtain⟨o',e1⟩:=I.base.there b o e hx;exact there b o' (neC b o e hx) e1
 .obtain⟨m1,e1⟩:=I.base.sH b ps e;obtain⟨m2,e2⟩:=sH b _ e1;exact⟨m1++m2,by rw[e2,Array.append_assoc]⟩
 .obtain⟨m,hn,hl⟩:=I.loc;refine⟨m,ns m hn,λ i x v e1 e2 e3=>?_⟩;obtain⟨u,r,l⟩:=hl i x v e1 e2 e3;refine⟨u,r,?_⟩;rcases l with l | ⟨k,c,e,z⟩
  .exact .inl l
  .exact .inr ⟨k,c,e,cellK x c e _ z⟩
 .obtain⟨v,z⟩:=I.cell x c e;exact⟨v,cellK x c e v z⟩
 .obtain⟨m,⟨o,_,_,ho,_⟩,_⟩:=I.loc;exact free _ o (λ z=>(hch _ z).2.1 rfl) ho I.free
 .obtain⟨v,o,ho,hd⟩:=I.cell x c e;exact free c o (λ z=>(hch c z).2.2.1 x c e rfl) ho (I.u_ x c e)
 .obtain⟨e,n,ne,nf,d⟩:=I.pin p hp;have nch:p.1∉ch:=λ z=>(hch p.1 z).2.2.2 p hp rfl;exact⟨keep p.1 p.2 ne nf nch e n,free p.1 p.2 nch e n,ne,nf,d⟩
theorem Inv.un {t':Nat}(I:Inv X pins σ H s) (u:Un X.fs [] H H' s.heap h') (zB:yX X.prog X.w H' h'):Inv X pins σ H' { s with heap:=h',toks:=t' }:=by
 obtain⟨m,⟨o,es,ep,ho,r⟩,_⟩:=id I.loc;obtain⟨sl,hL⟩:=u.any ho I.free (by simp);exact I.step (g':=s.gens) (d':=s.drawn) (ch:=[]) (λ _ z=>nomatch z) (λ b o _ hb _ e n=>u.keep b o e n hb (by simp)) (λ b o _ hb _ e n=>u.slot b o e n hb (by simp)) (λ b o _ e n=>u.free b o e n (by simp)) (λ b o _ e=>u.there b o e (by simp)) u.sE u.tV u.sH (λ m' hm=>by
  obtain⟨o',es',ep',ho',r'⟩:=hm;rw[ho] at ho';cases ho';exact⟨_,es',ep',hL,r'⟩) zB I.bare
theorem Inv.call {g':Array GenState}{t':Nat}{d':Drawn}{ch:List Addr}(I:Inv X pins σ H s) (u:Un (vJ X.stack) ch H H' s.heap h') (zB:yX X.prog X.w H' h') (hg:AllBare g')
  (hch:∀ b∈ch,(b∈X.ex\/X.s₀.heap.objs.size<=b)/\b≠X.env.locals/\(∀ x c,X.env.cells.lookup x=some c->c≠b)/\∀ p∈X.pn++pins,p.1≠b):
  Inv X pins σ H' { s with heap:=h',gens:=g',drawn:=d',toks:=t' }:=by
 obtain⟨m,⟨o,es,ep,ho,r⟩,_⟩:=id I.loc;obtain⟨sl,hL⟩:=u.any ho I.free λ z=>(hch _ z).2.1 rfl;exact I.step (ch:=ch) hch (λ b o hL hb hc e n=>u.keep b o e n (λ z=>(List.mem_cons.mp (I.jk b z)).elim hL hb) hc) (λ b o _ _ hc e n=>u.any e n hc) (λ b o hc e n=>u.free b o e n hc) (λ b o hc e=>u.there b o e hc) u.sE u.tV u.sH (λ m' hm=>by
  obtain⟨o',es',ep',ho',r'⟩:=hm;rw[ho] at ho';cases ho';exact⟨_,es',ep',hL,r'⟩) zB hg
theorem Inv.turned {t':Nat}{it:Addr}(I:Inv X pins σ H s) (k:∀ b o,b≠it->s.heap.get? b=some o->h'.get? b=some o) (hn:H it=none) (hL:it≠X.env.locals)
  (h1:it∈X.ex\/X.s₀.heap.objs.size<=it) (h2:∀ x c,X.env.cells.lookup x=some c->c≠it) (h3:∀ p∈X.pn++pins,p.1≠it):Inv X pins σ H { s with heap:=h',toks:=t' }:=by
 have nit:∀ b u,H b=some u->b≠it:=λ b u e z=>by rw[z,hn] at e;cases e
 refine I.step (g':=s.gens) (d':=s.drawn) (ch:=[it]) (λ b hb=>?_) (λ b o _ _ hc e _=>k b o (λ z=>hc (by simp[z])) e) (λ b o _ _ hc e _=>⟨o.slots,k b o (λ z=>hc (by simp[z])) e⟩) (λ _ _ _ _ n=>n)
  (λ b o hc e=>⟨o,k b o (λ z=>hc (by simp[z])) e⟩) (λ _ _ e=>e) (λ _ _ _ e=>e) (λ b ps e=>⟨#[],by rw[e];simp⟩) (λ m hm=>?_) (λ b u e=>?_) I.bare
 .have e:b=it:=by simpa using hb
  subst e;exact⟨h1,hL,h2,h3⟩
 .obtain⟨o,es,ep,ho,r⟩:=hm;exact⟨o,es,ep,k _ o (Ne.symm hL) ho,r⟩
 .refine (I.zB b u e).sI (λ c v hc q=>k c v ?_ q) (λ _ q=>q) λ _ _ q=>q;rcases hc with z | z
  .rw[z];exact nit b u e
  .exact nit c _ z
theorem Inv.tok (I:Inv X pins σ H s) (t:Nat):Inv X pins σ H { s with toks:=t }:=I.un (h':=s.heap) (t':=t) Un.refl I.zB
theorem Inv.kept {t':Nat}(I:Inv X pins σ H s) (k:∀ b u,s.heap.get? b=some u->h'.get? b=some u):Inv X pins σ H { s with heap:=h',toks:=t' }:=I.un (Un.kept k) (I.zB.kept k)
theorem Inv.laid {a:Addr}{o:HO}{t':Nat}(I:Inv X pins σ H s) (k:∀ b u,s.heap.get? b=some u->h'.get? b=some u) (hp:s.heap.objs.size<=a) (new:xn X.prog X.w (upd H a o) h' a o):
  Inv X pins σ (upd H a o) { s with heap:=h',toks:=t' }:=I.un (Un.laid k hp (I.zB.fresh hp)) (I.zB.laid k hp new)
theorem Inv.write {x e:Addr}{o:HO}{t':Nat}(I:Inv X pins σ H s) (mu:nW (H x)) (he:e=x\/H e=some (.own x)) (k:∀ b u,b≠e->s.heap.get? b=some u->h'.get? b=some u) (heo:∃ u,h'.get? e=some u)
  (new:xn X.prog X.w (upd H x o) h' x o):Inv X pins σ (upd H x o) { s with heap:=h',toks:=t' }:=I.un (Un.write mu he k heo) (I.zB.write mu he k heo new)
theorem Inv.jQ {pins':List (Addr×Obj)}(I:Inv X pins σ H s) (h:∀ p∈pins',s.heap.get? p.1=some p.2/\H p.1=none/\p.1≠X.env.locals/\p.1∉X.fs/\∀ v,p.2.data≠.cell v):Inv X pins' σ H s:=
 ⟨I.ok,I.os,I.bare,I.base,I.loc,I.cell,I.free,I.u_,λ p hp=>(List.mem_append.mp hp).elim (λ z=>I.pin p (List.mem_append_left _ z)) (h p),I.zB,I.len⟩
theorem cP {N:List Str}(hN:N.Nodup) {i j:Nat}{x:Str}(a:N[i]?=some x) (b:N[j]?=some x):i=j:=by
 obtain⟨h1,e1⟩:=List.getElem?_eq_some_iff.mp a;obtain⟨h2,e2⟩:=List.getElem?_eq_some_iff.mp b;exact (List.getElem_inj hN).mp (e1.trans e2.symm)
theorem X1 {M:Model}{A:Around}{E:Value->Shared->Prop}{i:Nat}{x:Str}{v:V}{u:Value}{Q:Unit->Shared->Prop}(I:Inv X pins σ H s) (hN:X.N.Nodup) (hi:X.N[i]?=some x) (hx:Loc X.env.scope x) (r:RelV v u)
  (h:∀ s',Inv X pins (σ.set i (some v)) H s'->(∃ a,Heap.SameBut a s.heap s'.heap/\(a=X.env.locals\/X.env.cells.lookup x=some a))->Q () s') (hf:X.fn x=true\/X.env.scope.names.lookup x=some .local:=by first | exact .inl rfl | exact .inr rfl | assumption):wpAny M A (storeName X.env x u) Q E s:=by
 obtain⟨m,hn,hl⟩:=id I.loc;have hcls:(X.env.scope.kind == .class||(X.env.scope.kind == .module&&X.env.locals != X.env.globals))=false:=by rw[I.ok.kind];rfl
 have hiσ:i < σ.length:=by rw[I.len];exact (List.getElem?_eq_some_iff.mp hi).1
 have qt:=I.qt;have tracked:∀ {a:Addr}{h':Heap},(∃ o,s.heap.get? a=some o/\H a=none)->Heap.SameBut a s.heap h'->yX X.prog X.w H h':=λ{a h'} ha hs b ob e=>by
  obtain⟨_,_,hfree⟩:=ha;refine (I.zB b ob e).sI (λ c w' hc q=>(hs.2 c ?_).trans q) (λ _ q=>q) λ _ _ q=>q;rintro rfl;rcases hc with rfl | hc
  .rw[hfree] at e;cases e
  .rw[hfree] at hc;cases hc
 rcases hx with hk | hk
 .refine wpAny_storeName_local hk hn (λ h' hn' hs=>?_) hcls;obtain⟨oL,_,_,hoL,_⟩:=id hn;refine h _ ⟨I.ok,I.os,I.bare,⟨λ b o e n hb hx=>?_,λ b o e n hb hx=>?_,I.base.free,λ b o e hx=>?_,I.base.sE,I.base.tV,I.base.sH⟩,⟨_,hn',λ j y v' e1 e2 e3=>?_⟩,λ y c e=>?_,I.free,I.u_,λ p hp=>?_,tracked ⟨oL,hoL,I.free⟩ hs,by simpa using I.len⟩ ⟨_,hs,.inl rfl⟩
  .exact (hs.2 b (Nat.ne_of_lt (Nat.lt_of_lt_of_le (Heap.lt_size e) I.ok.above))).trans (I.base.keep b o e n hb hx)
  .obtain⟨sl,e1⟩:=I.base.slot b o e n hb hx;exact⟨sl,(hs.2 b (Nat.ne_of_lt (Nat.lt_of_lt_of_le (Heap.lt_size e) I.ok.above))).trans e1⟩
  .obtain⟨o',e1⟩:=I.base.there b o e hx;exact⟨o',(hs.2 b (Nat.ne_of_lt (Nat.lt_of_lt_of_le (Heap.lt_size e) I.ok.above))).trans e1⟩
  .by_cases hj:j=i
   .subst hj;rw[hi] at e1;cases e1;rw[List.getElem?_set_self hiσ] at e2;cases e2;exact⟨u,r,.inl ⟨hk,by simp⟩⟩
   .rw[List.getElem?_set_ne (Ne.symm hj)] at e2;obtain⟨u',r',q⟩:=hl j y v' e1 e2 e3;refine⟨u',r',?_⟩;rcases q with ⟨k,e⟩ | ⟨k,c,e,z⟩
    .refine .inl ⟨k,?_⟩;have:y≠x:=λ e=>hj (cP hN e1 (e▸hi));simp[this,e]
    .exact .inr ⟨k,c,e,z.sameBut hs (qt y c e)⟩
  .obtain⟨w',z⟩:=I.cell y c e;exact⟨w',z.sameBut hs (qt y c e)⟩
  .obtain⟨e,n,ne,nf,d⟩:=I.pin p hp;exact⟨(hs.2 p.1 ne).trans e,n,ne,nf,d⟩
 .have hfn:X.fn x=true:=by
   rcases hf with z | z
   .exact z
   .rw[z] at hk;cases hk
  obtain⟨c,hc⟩:=I.ok.has x (.inl hk);obtain⟨w',z⟩:=I.cell x c hc;refine wpAny_storeName_cell I.ok.kind hk hc z (λ h' hc' hs=>?_);obtain⟨oc,hoc,hocd⟩:=id z;refine h { s with heap:=h' } ⟨I.ok,I.os,I.bare,⟨λ b o e n hb hx=>?_,λ b o e n hb hx=>?_,I.base.free,λ b o e hx=>?_,I.base.sE,I.base.tV,I.base.sH⟩,⟨m,hn.sameBut hs (Ne.symm (qt x c hc)),λ j y v' e1 e2 e3=>?_⟩,λ y c' e=>?_,I.free,I.u_,λ p hp=>?_,tracked ⟨oc,hoc,I.u_ x c hc⟩ hs,by simpa using I.len⟩ ⟨c,hs,.inr hc⟩
  .exact (hs.2 b (Nat.ne_of_lt (Nat.lt_of_lt_of_le (Heap.lt_size e) (I.ok.nK x c hfn hc)))).trans (I.base.keep b o e n hb hx)
  .obtain⟨sl,e1⟩:=I.base.slot b o e n hb hx;exact⟨sl,(hs.2 b (Nat.ne_of_lt (Nat.lt_of_lt_of_le (Heap.lt_size e) (I.ok.nK x c hfn hc)))).trans e1⟩
  .obtain⟨o',e1⟩:=I.base.there b o e hx;exact⟨o',(hs.2 b (Nat.ne_of_lt (Nat.lt_of_lt_of_le (Heap.lt_size e) (I.ok.nK x c hfn hc)))).trans e1⟩
  .by_cases hj:j=i
   .subst hj;rw[hi] at e1;cases e1;rw[List.getElem?_set_self hiσ] at e2;cases e2;exact⟨u,r,.inr ⟨.inl hk,c,hc,hc'⟩⟩
   .rw[List.getElem?_set_ne (Ne.symm hj)] at e2;obtain⟨u',r',q⟩:=hl j y v' e1 e2 e3;refine⟨u',r',?_⟩;rcases q with q | ⟨k,c',e,z'⟩
    .exact .inl q
    .refine .inr ⟨k,c',e,z'.sameBut hs ?_⟩;rintro rfl;exact hj (cP hN e1 (I.ok.inj _ _ _ e hc▸hi))
  .by_cases hcc:c'=c
   .subst hcc;exact⟨_,hc'⟩
   .obtain⟨w2,z2⟩:=I.cell y c' e;exact⟨w2,z2.sameBut hs hcc⟩
  .obtain⟨e,n,ne,nf,d⟩:=I.pin p hp;refine⟨(hs.2 p.1 ?_).trans e,n,ne,nf,d⟩;intro q;rw[q,hoc] at e;have q':oc=p.2:=Option.some.inj e;exact d w' (by rw[<- q'];exact hocd)
theorem jj {M:Model}{A:Around}{E:Value->Shared->Prop}{i:Nat}{x:Str}{v:V}{u:Value}{Q:Unit->Shared->Prop}(I:Inv X pins σ H s) (hN:X.N.Nodup) (hi:X.N[i]?=some x) (hx:Loc X.env.scope x) (r:RelV v u)
  (h:∀ s',Inv X pins (σ.set i (some v)) H s'->Q () s') (hf:X.fn x=true\/X.env.scope.names.lookup x=some .local:=by first | exact .inl rfl | exact .inr rfl | assumption):wpAny M A (storeName X.env x u) Q E s:=
 X1 I hN hi hx r (λ s' I' _=>h s' I') hf
theorem Inv.QG {s':Shared}{ch:List Addr}(I:Inv X pins σ H s) (ho:s'.os=s.os) (u:Un (vJ X.stack) ch H H' s.heap s'.heap) (zB:yX X.prog X.w H' s'.heap) (hg:AllBare s'.gens)
  (hch:∀ b∈ch,(b∈X.ex\/X.s₀.heap.objs.size<=b)/\b≠X.env.locals/\(∀ x c,X.env.cells.lookup x=some c->c≠b)/\∀ p∈X.pn++pins,p.1≠b):Inv X pins σ H' s':=by
 obtain⟨h',g',d',t',o'⟩:=s';have e:o'=s.os:=ho;subst e;exact I.call (g':=g') (t':=t') (d':=d') u zB hg hch
end
abbrev XK:=Value->Option Addr->Hp->Prop
abbrev St:=List (Option V)
abbrev VK:=V->Hp->Prop
abbrev TE:=St->Hp->VK->Prop
abbrev TT:=St->Hp->(Bool->Hp->Prop)->Prop
abbrev TA:=St->Hp->(List V->Hp->Prop)->Prop
structure Ends where
 nx:St->Hp->Prop
 rt:VK
 bk:St->Hp->Prop:=λ _ _=>False
 ct:St->Hp->Prop:=λ _ _=>False
abbrev TS:=Ends->St->Hp->Prop
def EP (X:Cx) (pins:List (Addr×Obj)) (σ:St) (Q:VK) (u:Value) (s':Shared):Prop:=∃ v H',Inv X pins σ H' s'/\RelV v u/\Q v H'
def TP (X:Cx) (pins:List (Addr×Obj)) (σ:St) (Q:Bool->Hp->Prop) (b:Bool) (s':Shared):Prop:=∃ H',Inv X pins σ H' s'/\Q b H'
def AP (X:Cx) (pins:List (Addr×Obj)) (σ:St) (Q:List V->Hp->Prop) (us:List Value) (s':Shared):Prop:=∃ vs H',Inv X pins σ H' s'/\Vals vs us/\Q vs H'
def SP (X:Cx) (pins:List (Addr×Obj)) (D:Ends) (f:Flow) (s':Shared):Prop:=
 match f with
 | .next=>∃ σ' H',Inv X pins σ' H' s'/\D.nx σ' H'
 | .brk=>∃ σ' H',Inv X pins σ' H' s'/\D.bk σ' H'
 | .cont=>∃ σ' H',Inv X pins σ' H' s'/\D.ct σ' H'
 | .ret u=>∃ v σ' H',Inv X pins σ' H' s'/\RelV v u/\D.rt v H'
def PE (X:Cx) (e:Expr) (t:TE):Prop:=
 ∀ (pins:List (Addr×Obj)) (s:Shared) (σ:St) (H:Hp) (Q:VK),Inv X pins σ H s->t σ H Q->wpAny (model X.prog X.w) X.A (eval e X.env) (EP X pins σ Q) X.xe s
def PT (X:Cx) (e:Expr) (t:TT):Prop:=
 ∀ (pins:List (Addr×Obj)) (s:Shared) (σ:St) (H:Hp) (Q:Bool->Hp->Prop),Inv X pins σ H s->t σ H Q->wpAny (model X.prog X.w) X.A (isTrue e X.env (eval e X.env)) (TP X pins σ Q) X.xe s
def PW (X:Cx) (e:Expr) (t:TT):Prop:=
 ∀ (whole:Sem Value) (pins:List (Addr×Obj)) (s:Shared) (σ:St) (H:Hp) (Q:Bool->Hp->Prop),Inv X pins σ H s->t σ H Q->wpAny (model X.prog X.w) X.A (isTrue e X.env whole) (TP X pins σ Q) X.xe s
theorem PW.pt {X:Cx}{e:Expr}{t:TT}(h:PW X e t):PT X e t:=h _
def PA (X:Cx) (es:List Expr) (t:TA):Prop:=
 ∀ (pos:Pos) (pins:List (Addr×Obj)) (s:Shared) (σ:St) (H:Hp) (Q:List V->Hp->Prop),Inv X pins σ H s->t σ H Q->wpAny (model X.prog X.w) X.A (spliced (backTo pos (starEach es X.env))) (AP X pins σ Q) X.xe s
def PS (X:Cx) (st:Stmt) (t:TS):Prop:=
 ∀ (pins:List (Addr×Obj)) (s:Shared) (σ:St) (H:Hp) (D:Ends),Inv X pins σ H s->t D σ H->wpAny (model X.prog X.w) X.A (exec st X.env) (SP X pins D) X.xe s
def xX (X:Cx) (st:List Stmt) (t:TS):Prop:=
 ∀ (pins:List (Addr×Obj)) (s:Shared) (σ:St) (H:Hp) (D:Ends),Inv X pins σ H s->t D σ H->wpAny (model X.prog X.w) X.A (execs st X.env) (SP X pins D) X.xe s
theorem zK {α:Type}{t:Sem α}{Q Q':α->Shared->Prop}{M:Model}{A:Around}{E:Value->Shared->Prop}{s:Shared}(h:wpAny M A t Q E s) (hQ:∀ a s,Q a s->Q' a s):wpAny M A t Q' E s:=wpAny_mono h hQ λ _ _ x=>x
end L2
namespace L2
open PySem PySem.Spec PyProof.Rows
section
variable {X:Cx}
def je (i:Nat):TE:=fun σ H Q=>∃ v,σ[i]?=some (some v)/\Q v H
def tC (v:V):TE:=λ _ H Q=>Q v H
theorem WY {i:Nat}{x:Str}{pos:Pos}(hN:X.N[i]?=some x) (hv:fm X.env.scope x) (hd:(x == ("__debug__":Str))=false:=by decide) (hcd:(x == ("__classdict__":Str))=false:=by decide):PE X (.Name x pos) (je i):=by
 intro pins s σ H Q I h;obtain⟨v,e,h⟩:=h;obtain⟨m,hn,hl⟩:=I.loc;obtain⟨u,r,l⟩:=hl i x v hN e hv;have fin:EP X pins σ Q u s:=⟨v,H,I,r,h⟩
 rcases l with ⟨hk,hm⟩ | ⟨hk,c,hc,hcell⟩
 .exact wpAny_Name (wpAny_loadName_local I.ok.kind hk hn hm fin) hd
 .rcases hk with hk | hk
  .exact wpAny_Name (wpAny_loadName_cell I.ok.kind hk hc hcell fin) hd
  .exact wpAny_Name (wpAny_loadName_free I.ok.kind hk hc hcell fin hcd) hd
theorem Vi {i j pos}:PE X (.Constant (.int i) j pos) (tC (.int i)):=λ _ _ _ H _ I h=>wpAny_Constant_int ⟨.int i,H,I.tok _,⟨_,rfl⟩,h⟩
theorem Vs {b j pos}:PE X (.Constant (.bool b) j pos) (tC (.bl b)):=λ _ _ _ H _ I h=>Constant_bool ⟨.bl b,H,I,rfl,h⟩
theorem Ve {j pos}:PE X (.Constant .none j pos) (tC .zh):=λ _ _ _ H _ I h=>Constant_none ⟨.zh,H,I,rfl,h⟩
theorem Va {x j pos}:PE X (.Constant (.str x) j pos) (tC (.str x)):=λ _ _ _ H _ I h=>Calls.Constant_str ⟨.str x,H,I.tok _,⟨_,rfl⟩,h⟩
def Gl (X:Cx) (x:Str):Prop:=X.env.kindOf x=some .globalImplicit
theorem bw {E:Value->Shared->Prop}{pins:List (Addr×Obj)}{s:Shared}{σ:St}{H:Hp}{x:Str}{u:Value}{pos:Pos}{Q:Value->Shared->Prop}(I:Inv X pins σ H s) (hg:Gl X x) (hm:X.mg x=some u) (h:Q u s)
  (hd:(x == ("__debug__":Str))=false:=by decide):wpAny (model X.prog X.w) X.A (eval (.Name x pos) X.env) Q E s:=
 Calls.Name_function_global I.ok.kind hg (Calls.loadGlobal_global (by rw[I.ok.glob];exact I.mod.glob.keeps I.bk) hm h) hd
theorem p9 {E:Value->Shared->Prop}{pins:List (Addr×Obj)}{s:Shared}{σ:St}{H:Hp}{x:Str}{u:Value}{pos:Pos}{Q:Value->Shared->Prop}(I:Inv X pins σ H s) (hg:Gl X x) (hm:X.mg x=none) (hv:bootBuiltins x=some u) (h:Q u s)
  (hn:x≠"__name__":=by decide) (hd:(x == ("__debug__":Str))=false:=by decide):wpAny (model X.prog X.w) X.A (eval (.Name x pos) X.env) Q E s:=by
 obtain⟨mb,h1,h2⟩:=I.mod.blt;exact Calls.Name_function_global I.ok.kind hg (Calls.loadGlobal_builtin (by rw[I.ok.glob];exact I.mod.glob.keeps I.bk) hm (by rw[I.ok.blt];exact h1.keeps I.bk) ((h2 x hn).trans hv) h) hd
theorem Vk {x:Str}{v:V}{u:Value}{pos:Pos}(hg:Gl X x) (hm:X.mg x=some u) (r:RelV v u) (hd:(x == ("__debug__":Str))=false:=by decide):PE X (.Name x pos) (tC v):=
 λ _ _ _ H _ I h=>bw I hg hm ⟨v,H,I,r,h⟩ hd
theorem Vr {x:Str}{v:V}{u:Value}{pos:Pos}(hg:Gl X x) (hm:X.mg x=none) (hv:bootBuiltins x=some u) (r:RelV v u) (hn:x≠"__name__":=by decide) (hd:(x == ("__debug__":Str))=false:=by decide):PE X (.Name x pos) (tC v):=
 λ _ _ _ H _ I h=>p9 I hg hm hv ⟨v,H,I,r,h⟩ hn hd
variable {a b:Expr}{ta tb:TE}{pos:Pos}
variable {tA tB':TT}{rest:List Expr}
def Xz (t u:TT):TT:=fun σ H Q=>t σ H λ c H1=>if c=true then u σ H1 Q else Q false H1
def Xm (t u:TT):TT:=fun σ H Q=>t σ H λ c H1=>if c=true then Q true H1 else u σ H1 Q
def Xo (t:TT):TT:=fun σ H Q=>t σ H λ c H1=>Q (!c) H1
theorem Ws (ha:PT X a tA):PW X (.BoolOp .And [a] pos) tA:=by
 intro wh pins s σ H Q I h;refine isTrue_and (zK (ha pins s σ H Q I h) λ c s1 e=>?_);cases c with
 | true=>exact isTrue_and_nil e
 | false=>exact e
theorem Wq (ha:PT X a tA):PW X (.BoolOp .Or [a] pos) tA:=by
 intro wh pins s σ H Q I h;refine isTrue_or (zK (ha pins s σ H Q I h) λ c s1 e=>?_);cases c with
 | false=>exact isTrue_or_nil e
 | true=>exact e
theorem Wt (ha:PT X a tA) (hb:PW X (.BoolOp .And (b::rest) pos) tB'):PW X (.BoolOp .And (a::b::rest) pos) (Xz tA tB'):=by
 intro wh pins s σ H Q I h;refine isTrue_and (zK (ha pins s σ H _ I h) λ c s1 ⟨H1,I1,q1⟩=>?_);cases c with
 | true=>exact hb wh pins s1 σ H1 Q I1 q1
 | false=>exact⟨H1,I1,q1⟩
theorem Wr (ha:PT X a tA) (hb:PW X (.BoolOp .Or (b::rest) pos) tB'):PW X (.BoolOp .Or (a::b::rest) pos) (Xm tA tB'):=by
 intro wh pins s σ H Q I h;refine isTrue_or (zK (ha pins s σ H _ I h) λ c s1 ⟨H1,I1,q1⟩=>?_);cases c with
 | true=>exact⟨H1,I1,q1⟩
 | false=>exact hb wh pins s1 σ H1 Q I1 q1
theorem Wx (ha:PT X a tA):PT X (.UnaryOp .Not a pos) (Xo tA):=by
 intro pins s σ H Q I h;exact isTrue_not (ha pins s σ H (λ c H1=>Q (!c) H1) I h)
def Xy (ta tb:TE):TE:=fun σ H Q=>ta σ H λ x H1=>∃ c,x=.bl c/\if c=true then tb σ H1 Q else Q (.bl false) H1
def Xn (ta:TE):TE:=fun σ H Q=>ta σ H λ x H1=>∃ c,x=.bl c/\Q (.bl (!c)) H1
theorem Vc {op} {t:TE}(h:PE X a t):PE X (.BoolOp op [a] pos) t:=λ pins s σ H Q I hw=>BoolOp_one (h pins s σ H Q I hw)
theorem Vt (ha:PE X a ta) (hb:PE X (.BoolOp .And (b::rest) pos) tb):PE X (.BoolOp .And (a::b::rest) pos) (Xy ta tb):=by
 intro pins s σ H Q I h;refine BoolOp_and (zK (ha pins s σ H _ I h) λ v s1 ⟨x,H1,I1,r1,q1⟩=>?_);obtain⟨c,rfl,q1⟩:=q1;cases r1;refine wpAny_truthy_bool ?_;cases c with
 | true=>exact hb pins s1 σ H1 Q I1 q1
 | false=>exact⟨.bl false,H1,I1,rfl,q1⟩
theorem Vd (ha:PE X a ta):PE X (.UnaryOp .Not a pos) (Xn ta):=by
 intro pins s σ H Q I h;refine UnaryOp_ (zK (ha pins s σ H _ I h) λ v s1 ⟨x,H1,I1,r1,q1⟩=>?_);obtain⟨c,rfl,q1⟩:=q1;cases r1;exact not_of (wpAny_truthy_bool ⟨.bl (!c),H1,I1,rfl,q1⟩)
def Xs (t:TT) (ta tb:TE):TE:=fun σ H Q=>t σ H λ c H1=>if c=true then ta σ H1 Q else tb σ H1 Q
theorem Vj {c:Expr}(hc:PT X c tA) (ha:PE X a ta) (hb:PE X b tb):PE X (.IfExp c a b pos) (Xs tA ta tb):=by
 intro pins s σ H Q I h;refine wpAny_IfExp (zK (hc pins s σ H _ I h) λ d s1 ⟨H1,I1,q1⟩=>?_);cases d with
 | true=>exact ha pins s1 σ H1 Q I1 q1
 | false=>exact hb pins s1 σ H1 Q I1 q1
end
end L2
namespace L2
open PySem PySem.Spec PyProof.Rows
def zV (K:PySem.W.Frag) (H:Hp) (a:Addr) (xs:List V):Prop:=
 Rd H a (.lst xs)\/
  ∃ (o:Obj) (its:Array Value) (n:Nat),K.lookup a=some o/\o.cls=.type "list"/\o.dict=none/\o.data=.seq its n/\its.size<=sizeLine/\Vals xs its.toList
def zZ (K:PySem.W.Frag) (H:Hp) (a:Addr) (xs:List V):Prop:=
 Rd H a (.tup xs)\/
  ∃ (o:Obj) (its:Array Value) (n:Nat),K.lookup a=some o/\o.cls=.type "tuple"/\o.data=.seq its n/\its.size<=sizeLine/\Vals xs its.toList
noncomputable def Pa:Value->Option V
 | .none=>some .zh
 | .bool b=>some (.bl b)
 | .int i _=>some (.int i)
 | .str x _=>some (.str x)
 | .bytes b _=>some (.pR b)
 | .float b _=>some (.kc b)
 | .ref a=>some (.ref a)
 | .type n=>some (.ty n)
 | _=>none
theorem RelV.abs {x:V}{u:Value}(r:RelV x u):Pa u=some x:=by
 cases x with
 | zh=>cases r;rfl
 | bl _=>cases r;rfl
 | int _=>obtain⟨t,rfl⟩:=r;rfl
 | str _=>obtain⟨t,rfl⟩:=r;rfl
 | pR _=>obtain⟨t,rfl⟩:=r;rfl
 | kc _=>obtain⟨t,rfl⟩:=r;rfl
 | ref _=>cases r;rfl
 | ty _=>cases r;rfl
theorem RelV.inj {x y:V}{u:Value}(r:RelV x u) (q:RelV y u):x=y:=Option.some.inj (r.abs.symm.trans q.abs)
theorem Vals.inj:∀ {xs ys:List V}{us:List Value},Vals xs us->Vals ys us->xs=ys
 | _,_,_,.nil,.nil=>rfl
 | _,_,_,.cons r t,.cons r' t'=>by rw[r.inj r',Vals.inj t t']
section
variable {X:Cx}{pins:List (Addr×Obj)}{σ:St}{H:Hp}{s:Shared}{a:Addr}{xs ys:List V}
theorem zV.of {K:PySem.W.Frag}(h:H a=some (.lst xs)):zV K H a xs:=.inl (.inl h)
theorem zZ.of {K:PySem.W.Frag}(h:H a=some (.tup xs)):zZ K H a xs:=.inl (.inl h)
theorem Inv.list (I:Inv X pins σ H s) (h:zV X.K H a xs):∃ its:List Value,Vals xs its/\PlainL s.heap a its.toArray/\xs.length<=sizeLine:=by
 rcases h with h | ⟨o,its,n,hk,hc,hd,hs,hz,r⟩
 .obtain⟨z,its,n,r,e⟩:=h.ok I.zB;exact⟨its,r,⟨_,n,e,rfl,rfl,rfl⟩,z⟩
 .refine⟨its.toList,r,⟨o,n,I.vF a o hk,hc,hd,by simpa using hs⟩,?_⟩;have e:=r.length;simp only[Array.length_toList] at e;omega
theorem Inv.tuple (I:Inv X pins σ H s) (h:zZ X.K H a xs):∃ its:List Value,Vals xs its/\IsTup s.heap a its.toArray/\xs.length<=sizeLine:=by
 rcases h with h | ⟨o,its,n,hk,hc,hs,hz,r⟩
 .obtain⟨z,its,r,p⟩:=h.ok I.zB;exact⟨its,r,p,z⟩
 .refine⟨its.toList,r,⟨o,I.vF a o hk,hc,n,by simpa using hs⟩,?_⟩;have e:=r.length;simp only[Array.length_toList] at e;omega
theorem Inv.iM (I:Inv X pins σ H s) (h:zV X.K H a xs) (h':zV X.K H a ys):xs=ys:=by
 obtain⟨its,r,⟨o,n,e,_,_,d⟩,_⟩:=I.list h;obtain⟨its',r',⟨o',n',e',_,_,d'⟩,_⟩:=I.list h';rw[e] at e';cases e';rw[d] at d'
 injection d' with d1 _
 have:its=its':=by simpa using congrArg Array.toList d1
 subst this;exact r.inj r'
theorem Inv.jd (I:Inv X pins σ H s) (h:zZ X.K H a xs) (h':zZ X.K H a ys):xs=ys:=by
 obtain⟨its,r,⟨o,e,_,n,d⟩,_⟩:=I.tuple h;obtain⟨its',r',⟨o',e',_,n',d'⟩,_⟩:=I.tuple h';rw[e] at e';cases e';rw[d] at d'
 injection d' with d1 _
 have:its=its':=by simpa using congrArg Array.toList d1
 subst this;exact r.inj r'
end
abbrev Cx.uM (X:Cx) (E:Value->Shared->Prop):Cx:={ X with xe:=E }
abbrev Cx.sP (X:Cx):Cx:=X.uM λ _ _=>False
theorem Cx.Ok.uM {X:Cx}(ok:X.Ok) (E:Value->Shared->Prop):(X.uM E).Ok:=
 ⟨ok.mod,ok.kind,ok.glob,ok.blt,ok.above,ok.inj,ok.has,ok.nK,ok.hd,ok.frames,ok.mL,ok.gF,ok.bs,ok.qv,ok.oH,ok.nc,ok.uC,ok.pK⟩
theorem Cx.Ok.sC {X:Cx}{E:Value->Shared->Prop}(ok:(X.uM E).Ok):X.Ok:=
 ⟨ok.mod,ok.kind,ok.glob,ok.blt,ok.above,ok.inj,ok.has,ok.nK,ok.hd,ok.frames,ok.mL,ok.gF,ok.bs,ok.qv,ok.oH,ok.nc,ok.uC,ok.pK⟩
section
variable {X:Cx}{pins:List (Addr×Obj)}{σ:St}{H:Hp}{s:Shared}{E:Value->Shared->Prop}
theorem Inv.uM (I:Inv X pins σ H s) (E:Value->Shared->Prop):Inv (X.uM E) pins σ H s:=⟨I.ok.uM E,I.os,I.bare,I.base,I.loc,I.cell,I.free,I.u_,I.pin,I.zB,I.len⟩
theorem Inv.sC (I:Inv (X.uM E) pins σ H s):Inv X pins σ H s:=⟨I.ok.sC,I.os,I.bare,I.base,I.loc,I.cell,I.free,I.u_,I.pin,I.zB,I.len⟩
theorem SP.sC {D:Ends}{f:Flow}{s':Shared}(h:SP (X.uM E) pins D f s'):SP X pins D f s':=by
 cases f with
 | next=>obtain⟨σ',H',I,q⟩:=h;exact⟨σ',H',I.sC,q⟩
 | brk=>obtain⟨σ',H',I,q⟩:=h;exact⟨σ',H',I.sC,q⟩
 | cont=>obtain⟨σ',H',I,q⟩:=h;exact⟨σ',H',I.sC,q⟩
 | ret u=>obtain⟨v,σ',H',I,r,q⟩:=h;exact⟨v,σ',H',I.sC,r,q⟩
theorem xX.sP {st:List Stmt}{t:TS}(h:xX X.sP st t):xX X st t:=λ pins s σ H D I hw=>
 wpAny_mono (h pins s σ H D (I.uM _) hw) (λ _ _ q=>q.sC) λ _ _ z=>False.elim z
end
section
variable {X:Cx}{st:Stmt}{rest:List Stmt}{t u:TS}{e:Expr}{te:TE}{pos:Pos}
def Xp:TS:=λ D σ H=>D.nx σ H
def Xk (t u:TS):TS:=λ D σ H=>t { D with nx:=u D } σ H
theorem W2:xX X [] Xp:=λ _ _ σ H _ I h=>wpAny_execs_nil ⟨σ,H,I,h⟩
theorem W3 (h1:PS X st t) (h2:xX X rest u):xX X (st::rest) (Xk t u):=by
 intro pins s σ H D I h;refine wpAny_execs_cons (zK (h1 pins s σ H { D with nx:=u D } I h) λ f s1 q=>?_);cases f with
 | next=>
  obtain⟨σ',H',I',q⟩:=q;exact h2 pins s1 σ' H' D I' q
 | ret v=>exact q
 | brk=>exact q
 | cont=>exact q
theorem W0 (h1:PS X st t):xX X [st] t:=by
 intro pins s σ H D I h;refine wpAny_execs_cons (zK (h1 pins s σ H D I h) λ f s1 q=>?_);cases f with
 | next=>exact wpAny_execs_nil q
 | ret v=>exact q
 | brk=>exact q
 | cont=>exact q
theorem Inv.quiet {pins:List (Addr×Obj)}{σ:St}{H:Hp}{s:Shared}(I:Inv X pins σ H s):interactive X.env=false:=by simp[interactive,I.ok.kind]
def Xu (te:TE):TS:=λ D σ H=>te σ H λ _ H1=>D.nx σ H1
theorem WA (he:PE X e te) (hs:swapsWith e none pos.line X.env=pure false:=by rfl):PS X (.Expr e pos) (Xu te):=by
 intro pins s σ H D I h;exact wpAny_Expr_any (zK (he pins s σ H _ I h) λ v s1 ⟨x,H1,I1,r1,q1⟩=>⟨σ,H1,I1,q1⟩) I.quiet hs
def Xl (te:TE):TS:=λ D σ H=>te σ H D.rt
theorem W7 (he:PE X e te):PS X (.Return (some e) pos) (Xl te):=by
 intro pins s σ H D I h;exact wpAny_Return_some (zK (he pins s σ H _ I h) λ v s1 ⟨x,H1,I1,r1,q1⟩=>⟨x,σ,H1,I1,r1,q1⟩)
def Xr (c:TT) (t u:TS):TS:=λ D σ H=>c σ H λ b H1=>if b=true then t D σ H1 else u D σ H1
theorem W8 {c:Expr}{a b:List Stmt}{tc:TT}(hc:PT X c tc) (ha:xX X a t) (hb:xX X b u):PS X (.If c a b pos) (Xr tc t u):=by
 intro pins s σ H D I h;refine wpAny_If (zK (hc pins s σ H _ I h) λ d s1 ⟨H1,I1,q1⟩=>?_);cases d with
 | true=>exact ha pins s1 σ H1 D I1 q1
 | false=>exact hb pins s1 σ H1 D I1 q1
end
abbrev TG:=V->St->Hp->(St->Hp->Prop)->Prop
abbrev sf:=List V->St->Hp->(St->Hp->Prop)->Prop
def PG (X:Cx) (target:Expr) (t:TG):Prop:=
 ∀ (pins:List (Addr×Obj)) (s:Shared) (σ:St) (H:Hp) (v:V) (u:Value) (Q:St->Hp->Prop),Inv X pins σ H s->RelV v u->t v σ H Q->
  wpAny (model X.prog X.w) X.A (assign target X.env u) (λ _ s'=>∃ σ' H',Inv X pins σ' H' s'/\Q σ' H') X.xe s
def tB (X:Cx) (ts:List Expr) (t:sf):Prop:=
 ∀ (pins:List (Addr×Obj)) (s:Shared) (σ:St) (H:Hp) (vs:List V) (us:List Value) (Q:St->Hp->Prop),Inv X pins σ H s->Vals vs us->t vs σ H Q->
  wpAny (model X.prog X.w) X.A (assignInOrder ((assignEach ts X.env).map (·.2)) us) (λ _ s'=>∃ σ' H',Inv X pins σ' H' s'/\Q σ' H') X.xe s
abbrev fw:=V->V->V->Hp->(Hp->Prop)->Prop
def Z6 (X:Cx) (t:fw):Prop:=
 ∀ (pins:List (Addr×Obj)) (s:Shared) (σ:St) (H:Hp) (o i v:V) (ov iv u:Value) (Q:Hp->Prop),Inv X pins σ H s->RelV o ov->RelV i iv->RelV v u->t o i v H Q->
  wpAny (model X.prog X.w) X.A (setItem ov iv u) (λ _ s'=>∃ H',Inv X pins σ H' s'/\Q H') X.xe s
section
variable {X:Cx}{pos:Pos}
noncomputable def pJ (i:Nat):TG:=λ v σ H Q=>Q (σ.set i (some v)) H
theorem WR {i:Nat}{x:Str}(hN:X.N.Nodup) (hi:X.N[i]?=some x) (hx:Loc X.env.scope x) (hf:X.fn x=true\/X.env.scope.names.lookup x=some .local:=by first | exact .inl rfl | exact .inr rfl | assumption):PG X (.Name x pos) (pJ i):=by
 intro pins s σ H v u Q I r h;exact wpAny_assign_Name (jj I hN hi hx r (λ s' I'=>⟨_,H,I',h⟩) hf)
noncomputable def Rq:sf:=λ vs σ H Q=>vs=[]/\Q σ H
noncomputable def Rr (t:TG) (u:sf):sf:=λ vs σ H Q=>∃ v r,vs=v::r/\t v σ H fun σ' H'=>u r σ' H' Q
theorem WM:tB X [] Rq:=by
 intro pins s σ H vs us Q I r h;obtain⟨e,h⟩:=h;subst e;cases r;exact assignInOrder_nil ⟨σ,H,I,h⟩
theorem WN {e:Expr}{es:List Expr}{t:TG}{u:sf}(h1:PG X e t) (h2:tB X es u)
  (hs:(assignEach (e::es) X.env).map (·.2)=assign e X.env::(assignEach es X.env).map (·.2):=by rfl):tB X (e::es) (Rr t u):=by
 intro pins s σ H vs us Q I r h;obtain⟨v,vr,e1,h⟩:=h;subst e1;cases r with
 | cons r rr=>
  rw[hs];refine assignInOrder_cons (zK (h1 pins s σ H _ _ _ I r h) λ _ s1 ⟨σ1,H1,I1,q1⟩=>?_);exact h2 pins s1 σ1 H1 _ _ Q I1 rr q1
noncomputable def bZ (K:PySem.W.Frag) (n:Nat) (t:sf):TG:=λ v σ H Q=>∃ a xs,v=.ref a/\zZ K H a xs/\xs.length=n/\t xs σ H Q
theorem WO {es:List Expr}{k:Nat}{t:sf}{n:Nat}(hc:X.calm=true) (h:tB X es t)
  (hn:(assignEach es X.env).length=n:=by rfl) (hst:(assignEach es X.env).findIdx? (·.1)=none:=by rfl):PG X (.Tuple es k pos) (bZ X.K n t):=by
 intro pins s σ H v u Q I r hw;obtain⟨a,xs,e1,hq,hl,hw⟩:=hw;subst e1;cases r;obtain⟨its,rv,ht,hz⟩:=I.tuple hq;refine assign_Tuple_tuple (I.ok.hd hc) ht (by simp[hn,<- hl,rv.length]) hst λ h' hx=>?_;have I1:Inv X pins σ H { s with heap:=h' }:=I.kept (t':=s.toks) λ b o e=>hx b o (Nat.ne_of_lt (Heap.lt_size e)) e;exact h pins _ σ H xs _ Q I1 (by simpa using rv) hw
noncomputable def Rp (to ti:TE) (t:fw):TG:=λ v σ H Q=>to σ H λ o H1=>ti σ H1 λ i H2=>t o i v H2 λ H3=>Q σ H3
theorem WQ {o i:Expr}{to ti:TE}{t:fw}(ho:PE X o to) (hi:PE X i ti) (hs:Z6 X t)
  (ha:∀ v,assign (.Subscript o i pos) X.env v=(do
   let ov <- holding [v] (eval o X.env)
   let iv <- holding [v,ov] (eval i X.env)
   standAt pos
   holding [v,ov,iv] (setItem ov iv v)
   release [v,ov,iv] []):=by intro _;rfl):PG X (.Subscript o i pos) (Rp to ti t):=by
 intro pins s σ H v u Q I r h;rw[ha];refine zWb (wpAny_holding (zK (ho pins s σ H _ I h) λ ov s1 ⟨x,H1,I1,r1,q1⟩=>?_));refine zWb (wpAny_holding (zK (hi pins s1 σ H1 _ I1 q1) λ iv s2 ⟨y,H2,I2,r2,q2⟩=>?_));refine zWb (wpAny_standAt (zWb (wpAny_holding (zK (hs pins s2 σ H2 x y v ov iv u _ I2 r1 r2 r q2) λ _ s3 ⟨H3,I3,q3⟩=>?_))));exact wpAny_release ⟨σ,H3,I3,q3⟩
def ox (te:TE) (g:TG):TS:=λ D σ H=>te σ H λ x H1=>g x σ H1 D.nx
theorem dX {tg e:Expr}{te:TE}{g:TG}(he:PE X e te) (hg:PG X tg g) (hs:swapsWithSole [tg] e pos.line X.env=pure false:=by rfl) (hw:swappedStores [tg] e X.env=pure none:=by rfl)
  (h1:(assignEach [tg] X.env).map (·.2)=[assign tg X.env]:=by rfl):PS X (.Assign [tg] e pos) (ox te g):=by
 intro pins s σ H D I h;refine wpAny_Assign_stores (zK (he pins s σ H _ I h) λ v s1 ⟨x,H1,I1,r1,q1⟩=>?_) hs hw;rw[h1];exact zK (hg pins s1 σ H1 x v _ I1 r1 q1) λ _ s2 q=>q
theorem W6 {i:Nat}{x:Str}{e:Expr}{te:TE}{pos':Pos}(hN:X.N.Nodup) (hi:X.N[i]?=some x) (hx:Loc X.env.scope x) (he:PE X e te) (hs:swapsWith e (some (.Name x pos')) pos.line X.env=pure false:=by rfl) (hf:X.fn x=true\/X.env.scope.names.lookup x=some .local:=by first | exact .inl rfl | exact .inr rfl | assumption):
  PS X (.Assign [.Name x pos'] e pos) (ox te (pJ i)):=by
 intro pins s σ H D I h;refine wpAny_Assign_Name (zK (he pins s σ H _ I h) λ v s1 ⟨y,H1,I1,r1,q1⟩=>?_) hs;exact jj I1 hN hi hx r1 (λ s2 I2=>⟨_,H1,I2,q1⟩) hf
end
section
variable {X:Cx}{pos:Pos}
def Xg (c:TT) (tb:TS):TS:=λ D σ H=>∃ W:Nat->St->Hp->Prop,(∃ m,W m σ H)/\∀ m σ H,W m σ H->
 c σ H λ b H1=>if b=true then ∃ N:St->Hp->Prop,(∀ σ' H',N σ' H'->∃ m',m'<m/\W m' σ' H')/\tb { D with nx:=N,ct:=N,bk:=D.nx } σ H1 else D.nx σ H1
theorem W4 {c:Expr}{body:List Stmt}{tc:TT}{tb:TS}(hp:PassesOwn (model X.prog X.w) X.A X.env X.xe) (hc:PT X c tc) (hb:xX X body tb):PS X (.While c body [] pos) (Xg tc tb):=by
 intro pins s σ H D I h;obtain⟨W,⟨m0,w0⟩,turn⟩:=h;refine wpAny_While (codeAny_whileLoop (λ n s'=>∃ σ' H',Inv X pins σ' H' s'/\W n σ' H') ?_ m0 ⟨σ,H,I,w0⟩);rintro n s1 ⟨σ1,H1,I1,w1⟩;refine wpAny_passesOwn hp (zK (hc pins s1 σ1 H1 _ I1 (turn n σ1 H1 w1)) λ b s2 ⟨H2,I2,q2⟩=>?_);cases b with
 | true=>
  obtain⟨N,hN,q2⟩:=q2;rw[if_pos rfl];refine wpAny_passesOwn hp (zK (hb pins s2 σ1 H2 _ I2 q2) λ f s3 q3=>?_);cases f with
  | next=>
   obtain⟨σ3,H3,I3,n3⟩:=q3;obtain⟨m',hm,w3⟩:=hN σ3 H3 n3;exact⟨m',hm,σ3,H3,I3,w3⟩
  | cont=>
   obtain⟨σ3,H3,I3,n3⟩:=q3;obtain⟨m',hm,w3⟩:=hN σ3 H3 n3;exact⟨m',hm,σ3,H3,I3,w3⟩
  | brk=>exact q3
  | ret v=>exact q3
 | false=>
  rw[if_neg Bool.false_ne_true];exact wpAny_execs_nil ⟨σ1,H2,I2,q2⟩
end
structure It where
 go:Nat->Hp->Prop
 qJ:Nat->Hp->V->Hp->Prop
 stop:Nat->Hp->Prop
def vR (X:Cx) (pins:List (Addr×Obj)) (H:Hp) (b:Addr):Prop:=
 H b=none/\b≠X.env.locals/\b∉X.fs/\(b∈X.ex\/X.s₀.heap.objs.size<=b)/\(∀ x c,X.env.cells.lookup x=some c->c≠b)/\∀ p∈X.pn++pins,p.1≠b
theorem Inv.ka {X:Cx}{pins:List (Addr×Obj)}{σ:St}{H H':Hp}{s:Shared}{b:Addr}(I:Inv X pins σ H s) (hb:s.heap.objs.size<=b) (hn:H' b=none):vR X pins H' b:=by
 refine⟨hn,Nat.ne_of_gt (Nat.lt_of_lt_of_le I.lt hb),I.cN hb,.inr (Nat.le_trans I.sz hb),λ x c e z=>?_,λ p hp z=>?_⟩
 .obtain⟨v,q⟩:=I.cell x c e;exact absurd (Nat.lt_of_lt_of_le q.lt (by rw[z];exact hb)) (Nat.lt_irrefl _)
 .exact absurd (Nat.lt_of_lt_of_le (Heap.lt_size (I.pin p hp).1) (by rw[z];exact hb)) (Nat.lt_irrefl _)
structure Turn (P:Program) (w:World) (K:PySem.W.Frag) (tg:Expr) (J:It) (fp:List Addr) (it:Addr) (tn:Nat->Heap->Prop):Prop where
 mem:it∈fp
 obj:∀ i h,tn i h->∀ b∈fp,∃ o,h.get? b=some o/\∀ v,o.data≠.cell v
 keep:∀ i h h',tn i h->(∀ b∈fp,∀ o,h.get? b=some o->h'.get? b=some o)->tn i h'
 item:∀ (X:Cx),X.prog=P->X.w=w->X.K=K->X.calm=true->∀ (i:Nat) (pins:List (Addr×Obj)) (s:Shared) (σ:St) (H:Hp) (E:Value->Shared->Prop),Inv X pins σ H s->(∀ b∈fp,vR X pins H b)->tn i s.heap->J.go i H->
  wpAny (model P w) X.A (pyNext (.ref it)) (λ r s1=>∃ u,r=some u/\
   wpAny (model P w) X.A (letOwnedTupleGo tg (.ref it) u) (λ _ s2=>∃ x H',Inv X pins σ H' s2/\RelV x u/\J.qJ i H x H'/\tn (i+1) s2.heap/\∀ b∈fp,H' b=none) E s1) E s
 done:∀ (X:Cx),X.prog=P->X.w=w->X.K=K->X.calm=true->∀ (i:Nat) (pins:List (Addr×Obj)) (s:Shared) (σ:St) (H:Hp) (E:Value->Shared->Prop),Inv X pins σ H s->(∀ b∈fp,vR X pins H b)->tn i s.heap->J.stop i H->
  wpAny (model P w) X.A (pyNext (.ref it)) (λ r s1=>r=none/\Inv X pins σ H s1) E s
 self:∀ (A:Around) (i:Nat) (s:Shared) (Q:Value->Shared->Prop) (E:Value->Shared->Prop),tn i s.heap->Q (.ref it) s->wpAny (model P w) A (pyIter (.ref it)) Q E s
abbrev TI:=St->Hp->(It->Hp->Prop)->Prop
def Z7 (X:Cx) (pins:List (Addr×Obj)) (σ:St) (tg:Expr) (R:It->Hp->Prop) (itv:Value) (s2:Shared):Prop:=
 ∃ (it:Addr) (fp:List Addr) (tn:Nat->Heap->Prop) (J:It) (H':Hp),itv=.ref it/\Inv X pins σ H' s2/\Turn X.prog X.w X.K tg J fp it tn/\tn 0 s2.heap/\(∀ b∈fp,vR X pins H' b)/\R J H'
def PI (X:Cx) (tg iter:Expr) (wi:TI):Prop:=
 ∀ (pins:List (Addr×Obj)) (s:Shared) (σ:St) (H:Hp) (R:It->Hp->Prop),Inv X pins σ H s->wi σ H R->
  wpAny (model X.prog X.w) X.A (eval iter X.env) (λ v s1=>wpAny (model X.prog X.w) X.A (pyIter v) (Z7 X pins σ tg R) X.xe s1) X.xe s
theorem gp {M:Model}{A:Around}{E:Value->Shared->Prop}{s:Shared}{tg:Expr}{it:Addr}{u:Value}{o:Obj}{n:String}{vs:Array Value}{Q:Unit->Shared->Prop}(ho:s.heap.get? it=some o) (hc:o.cls=.type n) (hd:o.data=.fields vs)
  (hn:["enumerate","zip","dict_itemiterator","dict_reverseitemiterator","odict_iterator","itertools.zip_longest","itertools.pairwise"].contains n=false) (hQ:Q () s):wpAny M A (letOwnedTupleGo tg (.ref it) u) Q E s:=by
 unfold letOwnedTupleGo;cases tg <;> first
  | exact wpAny_pure hQ
  | (cases u <;> first
    | exact wpAny_pure hQ
    | (refine zWb (wpAny_load ho ?_)
       rw[hc,hd];show wpAny M A (if (["enumerate","zip","dict_itemiterator","dict_reverseitemiterator","odict_iterator","itertools.zip_longest","itertools.pairwise"].contains n&&vs[0]? == some (rawInt _))=true then _ else _) Q E s;rw[if_neg (by intro h;rw[hn,Bool.false_and] at h;cases h)];exact wpAny_pure hQ))
def ZF (K:PySem.W.Frag) (a:Addr):It:=
 ⟨λ i H=>∃ xs x,zV K H a xs/\xs[i]?=some x,λ i H x H'=>H'=H/\∀ xs,zV K H a xs->xs[i]?=some x,λ i H=>∃ xs,zV K H a xs/\xs.length<=i⟩
def ZE (K:PySem.W.Frag) (a:Addr):It:=
 ⟨λ i H=>∃ xs x,zZ K H a xs/\xs[i]?=some x,λ i H x H'=>H'=H/\∀ xs,zZ K H a xs->xs[i]?=some x,λ i H=>∃ xs,zZ K H a xs/\xs.length<=i⟩
def kO (lo:Int) (n:Nat):It:=⟨λ i _=>i<n,λ i H x H'=>H'=H/\x=.int (lo+i),λ i _=>n<=i⟩
theorem Y_ {P:Program}{w:World}{K:PySem.W.Frag}{tg:Expr}(a it:Addr):Turn P w K tg (ZF K a) [it] it (λ i h=>h.IsListIter it a i) where
 mem:=by simp
 obj:=λ i h st b hb=>by
  have e:b=it:=by simpa using hb
  subst e;obtain⟨o,e,c,d⟩:=st;exact⟨o,e,λ v z=>by rw[d] at z;cases z⟩
 keep:=λ i h h' st k=>st.at λ o e=>k it (by simp) o e
 item:=by
  intro X hP hw hK hc i pins s σ H E I hf st hg;subst hP hw hK;obtain⟨xs,x,hq,hx⟩:=hg;obtain⟨its,rv,p,hz⟩:=I.list hq;obtain⟨u,hu,ru⟩:=rv.get hx;obtain⟨f0,f1,f2,f3,f4,f5⟩:=hf it (by simp);refine wpAny_pyNext_list_item st p.isList (x:=u) (by simpa using hu) λ h' st' sb=>?_;have I1:Inv X pins σ H { s with heap:=h' }:=I.turned (t':=s.toks) (λ b o hb e=>(sb.2 b hb).trans e) f0 f1 f3 f4 f5;obtain⟨o,e,c,d⟩:=id st';exact⟨u,rfl,gp (s:={ s with heap:=h' }) e c d (by decide) ⟨x,H,I1,ru,⟨rfl,λ ys hy=>by rw[I.iM hy hq];exact hx⟩,st',λ b hb=>(hf b hb).1⟩⟩
 done:=by
  intro X hP hw hK hc i pins s σ H E I hf st hg;subst hP hw hK;obtain⟨xs,hq,hx⟩:=hg;obtain⟨its,rv,p,hz⟩:=I.list hq;obtain⟨f0,f1,f2,f3,f4,f5⟩:=hf it (by simp);have hl:=rv.length;exact wpAny_pyNext_list_end (I.ok.hd hc) st p.isList (by simp;omega) λ h' eb=>⟨rfl,I.turned (t':=s.toks) (λ b o hb e=>eb b o hb e) f0 f1 f3 f4 f5⟩
 self:=λ _ _ _ _ _ st h=>wpAny_pyIter_listiter st h
theorem YY {P:Program}{w:World}{K:PySem.W.Frag}{tg:Expr}(a it:Addr):Turn P w K tg (ZE K a) [it] it (λ i h=>h.IsTupleIter it a i) where
 mem:=by simp
 obj:=λ i h st b hb=>by
  have e:b=it:=by simpa using hb
  subst e;obtain⟨o,e,c,d⟩:=st;exact⟨o,e,λ v z=>by rw[d] at z;cases z⟩
 keep:=λ i h h' st k=>st.at λ o e=>k it (by simp) o e
 item:=by
  intro X hP hw hK hc i pins s σ H E I hf st hg;subst hP hw hK;obtain⟨xs,x,hq,hx⟩:=hg;obtain⟨its,rv,p,hz⟩:=I.tuple hq;obtain⟨u,hu,ru⟩:=rv.get hx;obtain⟨f0,f1,f2,f3,f4,f5⟩:=hf it (by simp);refine wpAny_pyNext_tuple_item st (show s.heap.IsTuple a its.toArray from p) (x:=u) (by simpa using hu) λ h' st' sb=>?_;have I1:Inv X pins σ H { s with heap:=h' }:=I.turned (t':=s.toks) (λ b o hb e=>(sb.2 b hb).trans e) f0 f1 f3 f4 f5;obtain⟨o,e,c,d⟩:=id st';exact⟨u,rfl,gp (s:={ s with heap:=h' }) e c d (by decide) ⟨x,H,I1,ru,⟨rfl,λ ys hy=>by rw[I.jd hy hq];exact hx⟩,st',λ b hb=>(hf b hb).1⟩⟩
 done:=by
  intro X hP hw hK hc i pins s σ H E I hf st hg;subst hP hw hK;obtain⟨xs,hq,hx⟩:=hg;obtain⟨its,rv,p,hz⟩:=I.tuple hq;obtain⟨f0,f1,f2,f3,f4,f5⟩:=hf it (by simp);have hl:=rv.length;exact wpAny_pyNext_tuple_end (I.ok.hd hc) st (show s.heap.IsTuple a its.toArray from p) (by simp;omega) λ h' eb=>⟨rfl,I.turned (t':=s.toks) (λ b o hb e=>eb b o hb e) f0 f1 f3 f4 f5⟩
 self:=λ _ _ _ _ _ st h=>wpAny_pyIter_tupleiter st h
theorem YZ {P:Program}{w:World}{K:PySem.W.Frag}{tg:Expr}(it:Addr) (lo:Int) (n:Nat):Turn P w K tg (kO lo n) [it] it (λ i h=>IsRangeIter h it (lo+(i:Nat)*1) ((n:Int)-(i:Nat)) 1) where
 mem:=by simp
 obj:=λ i h st b hb=>by
  have e:b=it:=by simpa using hb
  subst e;exact⟨_,st,λ v z=>by
   have z':Data.fields _=Data.cell v:=z;cases z'⟩
 keep:=λ i h h' st k=>k it (by simp) _ st
 item:=by
  intro X hP hw hK hc i pins s σ H E I hf st hg;subst hP hw hK;obtain⟨f0,f1,f2,f3,f4,f5⟩:=hf it (by simp);have W:=Walks.range (prog:=X.prog) (w:=X.w) (I.ok.hd hc) it lo 1 n;refine W.item i s _ _ hg st λ v h' tk hv st' kk=>?_;obtain⟨t,rfl⟩:=hv;have I1:Inv X pins σ H { s with heap:=h',toks:=tk }:=I.turned (λ b o hb e=>kk b o (by simpa using hb) e) f0 f1 f3 f4 f5;refine⟨_,rfl,gp (s:={ s with heap:=h',toks:=tk }) (n:="range_iterator") st' rfl rfl (by decide) ⟨.int (lo+i),H,I1,⟨t,?_⟩,⟨rfl,rfl⟩,st',λ b hb=>(hf b hb).1⟩⟩;rw[Int.mul_one]
 done:=by
  intro X hP hw hK hc i pins s σ H E I hf st hg;subst hP hw hK;obtain⟨f0,f1,f2,f3,f4,f5⟩:=hf it (by simp);exact wpAny_pyNext_range_end (I.ok.hd hc) st (by have:n<=i:=hg;omega) λ h' eb=>⟨rfl,I.turned (t':=s.toks) (λ b o hb e=>eb b o hb e) f0 f1 f3 f4 f5⟩
 self:=λ _ _ _ _ _ st h=>wpAny_pyIter_rangeiter st h
end L2
namespace L2
open PySem PySem.Spec PyProof.Rows
section
variable {X:Cx}{tg:Expr}
theorem Wk {pins:List (Addr×Obj)}{σ:St}{H:Hp}{s:Shared}{R:It->Hp->Prop}{E:Value->Shared->Prop}{lo hi:Int}{t u v:Tok}{tk:Nat}(I:Inv X pins σ H s) (h1:-(2 ^ 62)<=lo) (h2:lo<2 ^ 62) (h3:-(2 ^ 62)<=hi) (h4:hi<2 ^ 62)
  (q:R (kO lo (hi-lo).toNat) H):wpAny (model X.prog X.w) X.A (pyIter (.ref s.heap.objs.size)) (Z7 X pins σ tg R) E { s with heap:=s.heap.push { cls:=.type "range",data:=.fields #[.int lo t,.int hi u,.int 1 v] },toks:=tk }:=by
 refine wpAny_pyIter_range (IsRange.new ..) (small_one h1 h2 h3 h4) ?_;have I1:Inv X pins σ H { s with heap:=s.heap.push { cls:=.type "range",data:=.fields #[.int lo t,.int hi u,.int 1 v] },toks:=tk }:=I.kept λ b o e=>zHp _ e;refine⟨(s.heap.push { cls:=.type "range",data:=.fields #[.int lo t,.int hi u,.int 1 v] }).objs.size,[(s.heap.push { cls:=.type "range",data:=.fields #[.int lo t,.int hi u,.int 1 v] }).objs.size],_,_,H,rfl,
  I1.kept (t':=tk) λ b o e=>zHp _ e,YZ _ lo (hi-lo).toNat,?_,λ b hb=>?_,q⟩
 .have e1:lo+((0:Nat):Int)*1=lo:=by simp
  have e2:(((hi-lo).toNat:Nat):Int)-((0:Nat):Int)=Builtin.Range.rangeSize lo hi 1:=by rw[rangeSize_one];split <;> omega
  show IsRangeIter _ _ (lo+((0:Nat):Int)*1) ((((hi-lo).toNat:Nat):Int)-((0:Nat):Int)) 1;rw[e1,e2];exact Heap.get?_push_size _ rfl
 .have e:b=(s.heap.push { cls:=.type "range",data:=.fields #[.int lo t,.int hi u,.int 1 v] }).objs.size:=by simpa using hb
  subst e;exact I1.ka (Nat.le_refl _) (I1.zB.fresh (Nat.le_refl _))
def bP (ta:TA):TI:=fun σ H R=>ta σ H λ vs H1=>∃ j:Int,vs=[.int j]/\-(2 ^ 62)<=j/\j<2 ^ 62/\R (kO 0 j.toNat) H1
theorem WK {a:Expr}{ta:TA}{p pos:Pos}(hg:Gl X "range") (hm:X.mg "range"=none) (ha:PA X [a] ta) (hs:starEach [a] X.env=[(false,eval a X.env)]:=by rfl):PI X tg (.Call (.Name "range" p) [a] [] pos) (bP ta):=by
 intro pins s σ H R I h;refine Call_ (p9 I hg hm boot_range (PyProof.Rows.callWith_type1 (zK (ha pos pins s σ H _ I h) λ us s1 ⟨vs,H1,I1,r1,q1⟩=>?_) hs rfl));obtain⟨j,e,q1,q2,q⟩:=q1;subst e;cases r1 with
 | cons r rr=>
  cases rr;obtain⟨t,rfl⟩:=r;exact call_range_1 (Wk I1 (by omega) (by omega) q1 q2 (by simpa using q))
def Xt (wi:TI) (g:TG) (tb:TS):TS:=λ D σ H=>wi σ H λ J H1=>∃ W:Nat->Nat->St->Hp->Prop,(∃ m,W 0 m σ H1)/\∀ i m σ H,W i m σ H->
 (J.stop i H/\D.nx σ H)\/(J.go i H/\∃ N:St->Hp->Prop,(∀ σ' H',N σ' H'->∃ m',m'<m/\W (i+1) m' σ' H')/\∀ x H',J.qJ i H x H'->g x σ H' fun σ2 H2=>tb { D with nx:=N,ct:=N,bk:=D.nx } σ2 H2)
noncomputable def o7 (fp:List Addr) (h:Heap):List (Addr×Obj):=fp.filterMap λ b=>(h.get? b).map λ o=>(b,o)
theorem lM {fp:List Addr}{h:Heap}{b:Addr}{o:Obj}(hb:b∈fp) (e:h.get? b=some o):(b,o)∈o7 fp h:=List.mem_filterMap.mpr ⟨b,hb,by rw[e];rfl⟩
theorem Ta {fp:List Addr}{h:Heap}{p:Addr×Obj}(hp:p∈o7 fp h):p.1∈fp/\h.get? p.1=some p.2:=by
 obtain⟨b,hb,e⟩:=List.mem_filterMap.mp hp;cases q:h.get? b with
 | none=>rw[q] at e;cases e
 | some o=>
  rw[q] at e;have e':(b,o)=p:=Option.some.inj e;subst e';exact⟨hb,q⟩
theorem Inv.pinned {pins:List (Addr×Obj)}{σ:St}{H:Hp}{s:Shared}{fp:List Addr}(I:Inv X pins σ H s) (hf:∀ b∈fp,vR X pins H b) (ho:∀ b∈fp,∃ o,s.heap.get? b=some o/\∀ v,o.data≠.cell v):Inv X (pins++o7 fp s.heap) σ H s:=
 I.jQ λ p hp=>(List.mem_append.mp hp).elim (λ z=>I.pin p (List.mem_append_right _ z)) λ z=>by
  obtain⟨hb,e⟩:=Ta z;obtain⟨f0,f1,f2,_⟩:=hf p.1 hb;obtain⟨o,e',d⟩:=ho p.1 hb;rw[e] at e';cases e';exact⟨e,f0,f1,f2,d⟩
theorem Inv.ot {pins pl:List (Addr×Obj)}{σ:St}{H:Hp}{s:Shared}(I:Inv X (pins++pl) σ H s):Inv X pins σ H s:=I.jQ λ p hp=>I.pin p (List.mem_append_right _ (List.mem_append_left _ hp))
theorem W9 {iter:Expr}{body:List Stmt}{wi:TI}{g:TG}{tb:TS}{pos:Pos}(hp:PassesOwn (model X.prog X.w) X.A X.env X.xe) (hc:X.calm=true) (hi:PI X tg iter wi) (hg:PG X tg g) (hb:xX X body tb)
  (hs:∀ x,foldedSetIterable iter X.env x=pure x:=by intro _;rfl):PS X (.For tg iter body [] pos) (Xt wi g tb):=by
 intro pins s σ H D I h;refine wpAny_For (zK (hi pins s σ H _ I h) λ v s1 h1=>zK h1 λ itv s2 h2=>?_) hs;obtain⟨it,fp,tn,J,H2,e,I2,T,st2,f2,W,⟨m0,w0⟩,turn⟩:=h2;subst e;have stat:∀ {H':Hp},(∀ b∈fp,H' b=none)->∀ b∈fp,vR X pins H' b:=λ hn b hb=>⟨hn b hb,(f2 b hb).2⟩;refine codeAny_forLoop_any (λ n s'=>∃ i σ' H',Inv X pins σ' H' s'/\tn i s'.heap/\(∀ b∈fp,H' b=none)/\W i n σ' H') ?_ m0 ⟨0,σ,H2,I2,st2,λ b hb=>(f2 b hb).1,w0⟩;rintro n s3 ⟨i,σ3,H3,I3,st3,fr3,w3⟩;rcases turn i n σ3 H3 w3 with ⟨stop,qn⟩ | ⟨go,N,hN,step⟩
 .refine wpAny_passesOwn hp (zK (T.done X rfl rfl rfl hc i pins s3 σ3 H3 X.xe I3 (stat fr3) st3 stop) λ r s4 ⟨hr,I4⟩=>?_);subst hr;exact wpAny_execs_nil ⟨σ3,H3,I4,qn⟩
 .refine wpAny_passesOwn hp (zK (T.item X rfl rfl rfl hc i pins s3 σ3 H3 X.xe I3 (stat fr3) st3 go) λ r s4 ⟨u,hr,h4⟩=>?_);subst hr;refine wpAny_passesOwn hp (zK h4 λ _ s5 ⟨x,H5,I5,r5,y5,st5,fr5⟩=>?_);have I5':=I5.pinned (stat fr5) (T.obj _ _ st5);refine wpAny_passesOwn hp (zK (hg _ s5 σ3 H5 x u _ I5' r5 (step x H5 y5)) λ _ s6 ⟨σ6,H6,I6,q6⟩=>?_);refine wpAny_passesOwn hp (zK (hb _ s6 σ6 H6 _ I6 q6) λ f s7 q7=>?_);have again:∀ {σ7:St}{H7:Hp},Inv X (pins++o7 fp s5.heap) σ7 H7 s7->N σ7 H7->∃ m,m<n/\∃ i σ' H',Inv X pins σ' H' s7/\tn i s7.heap/\(∀ b∈fp,H' b=none)/\W i m σ' H':=λ{σ7 H7} I7 n7=>by
   obtain⟨m',hm,w7⟩:=hN σ7 H7 n7;refine⟨m',hm,i+1,σ7,H7,I7.ot,T.keep _ _ _ st5 λ b hb o e=>(I7.pin (b,o) (List.mem_append_right _ (List.mem_append_right _ (lM hb e)))).1,λ b hb=>?_,w7⟩;obtain⟨o,e,d⟩:=T.obj _ _ st5 b hb;exact (I7.pin (b,o) (List.mem_append_right _ (List.mem_append_right _ (lM hb e)))).2.1
  cases f with
  | next=>obtain⟨σ7,H7,I7,n7⟩:=q7;exact again I7 n7
  | cont=>obtain⟨σ7,H7,I7,n7⟩:=q7;exact again I7 n7
  | brk=>obtain⟨σ7,H7,I7,q7⟩:=q7;exact⟨σ7,H7,I7.ot,q7⟩
  | ret v=>obtain⟨x7,σ7,H7,I7,r7,q7⟩:=q7;exact⟨x7,σ7,H7,I7.ot,r7,q7⟩
end
end L2
namespace L2
open PySem PySem.Spec PyProof.Rows
abbrev R2:=V->V->Hp->VK->Prop
def yq (X:Cx) (f:Value->Value->Sem Value) (r:R2):Prop:=
 ∀ (pins:List (Addr×Obj)) (s:Shared) (σ:St) (H:Hp) (x y:V) (v u:Value) (Q:VK),Inv X pins σ H s->RelV x v->RelV y u->r x y H Q->
  wpAny (model X.prog X.w) X.A (f v u) (EP X pins σ Q) X.xe s
def fq (X:Cx) (f:Value->Sem Value) (r:V->Hp->VK->Prop):Prop:=
 ∀ (pins:List (Addr×Obj)) (s:Shared) (σ:St) (H:Hp) (x:V) (v:Value) (Q:VK),Inv X pins σ H s->RelV x v->r x H Q->
  wpAny (model X.prog X.w) X.A (f v) (EP X pins σ Q) X.xe s
def xg (X:Cx) (f:Value) (r:List V->Hp->VK->Prop):Prop:=
 ∀ (pins:List (Addr×Obj)) (s:Shared) (σ:St) (H:Hp) (xs:List V) (us:List Value) (Q:VK),Inv X pins σ H s->Vals xs us->r xs H Q->
  wpAny (model X.prog X.w) X.A (call f us) (EP X pins σ Q) X.xe s
def Pe (X:Cx) (r:V->Hp->(Bool->Hp->Prop)->Prop):Prop:=
 ∀ (pins:List (Addr×Obj)) (s:Shared) (σ:St) (H:Hp) (x:V) (v:Value) (Q:Bool->Hp->Prop),Inv X pins σ H s->RelV x v->r x H Q->
  wpAny (model X.prog X.w) X.A (truthy v) (TP X pins σ Q) X.xe s
def ou (r:R2) (ta tb:TE):TE:=fun σ H Q=>ta σ H λ x H1=>tb σ H1 λ y H2=>r x y H2 Q
def Xh (r:V->Hp->VK->Prop) (ta:TE):TE:=fun σ H Q=>ta σ H λ x H1=>r x H1 Q
def rI (C:Int->Int->Prop) (g:Int->Int->V):R2:=λ x y H Q=>∃ i j,x=.int i/\y=.int j/\C i j/\Q (g i j) H
def w_ (g:Int->Int->V):R2:=λ x y H Q=>∃ i j,x=.int i/\y=.int j/\Q (g i j) H
def rU (g:Int->V):V->Hp->VK->Prop:=λ x H Q=>∃ i,x=.int i/\Q (g i) H
section
variable {X:Cx}{a b c:Expr}{ta tb tc:TE}{pos:Pos}
theorem gY (ha:PE X a ta) (hb:PE X b tb) {pins:List (Addr×Obj)}{s:Shared}{σ:St}{H:Hp}{R:V->V->Hp->Prop}(I:Inv X pins σ H s)
  (h:ta σ H λ x H1=>tb σ H1 λ y H2=>R x y H2) {Q:Value->Shared->Prop}{f:Value->Value->Sem Value}
  (hf:∀ v u s2 x y H2,Inv X pins σ H2 s2->RelV x v->RelV y u->R x y H2->wpAny (model X.prog X.w) X.A (f v u) Q X.xe s2):
  wpAny (model X.prog X.w) X.A (eval a X.env) (λ v s₁=>wpAny (model X.prog X.w) X.A (eval b X.env) (λ u s₂=>wpAny (model X.prog X.w) X.A (f v u) Q X.xe s₂) X.xe s₁) X.xe s:=by
 refine zK (ha pins s σ H _ I h) λ v s1 ⟨x,H1,I1,r1,q1⟩=>?_;refine zK (hb pins s1 σ H1 _ I1 q1) λ u s2 ⟨y,H2,I2,r2,q2⟩=>?_;exact hf v u s2 x y H2 I2 r1 r2 q2
theorem Vb {op:Operator}{r:R2}(ho:yq X (binaryOp op) r) (ha:PE X a ta) (hb:PE X b tb):PE X (.BinOp a op b pos) (ou r ta tb):=by
 intro pins s σ H Q I h;exact wpAny_BinOp (gY ha hb I h λ v u s2 x y H2 I2 rx ry q=>ho pins s2 σ H2 x y v u Q I2 rx ry q)
theorem WZ {op:UnaryOp}{r:V->Hp->VK->Prop}(ho:fq X (unaryOp op) r) (ha:PE X a ta):PE X (.UnaryOp op a pos) (Xh r ta):=by
 intro pins s σ H Q I h;exact UnaryOp_ (zK (ha pins s σ H _ I h) λ v s1 ⟨x,H1,I1,r1,q1⟩=>ho pins s1 σ H1 x v Q I1 r1 q1)
theorem lB {f:Value->Value->Sem Value}{C:Int->Int->Prop}{g:Int->Int->Int}
  (rule:∀ (i j:Int) (t u:Tok) (s:Shared) (Q:Value->Shared->Prop) (E:Value->Shared->Prop),C i j->Q (.int (g i j) s.toks) { s with toks:=s.toks+1 }->wpAny (model X.prog X.w) X.A (f (.int i t) (.int j u)) Q E s):
  yq X f (rI C λ i j=>.int (g i j)):=by
 intro pins s σ H x y v u Q I rx ry h;obtain⟨i,j,rfl,rfl,hc,q⟩:=h;obtain⟨t,rfl⟩:=rx;obtain⟨t',rfl⟩:=ry;exact rule i j t t' s _ _ hc ⟨.int (g i j),H,I.tok _,⟨_,rfl⟩,q⟩
theorem cD {f:Value->Value->Sem Value}{g:Int->Int->Int}
  (rule:∀ (i j:Int) (t u:Tok) (s:Shared) (Q:Value->Shared->Prop) (E:Value->Shared->Prop),Q (.int (g i j) s.toks) { s with toks:=s.toks+1 }->wpAny (model X.prog X.w) X.A (f (.int i t) (.int j u)) Q E s):
  yq X f (w_ λ i j=>.int (g i j)):=by
 intro pins s σ H x y v u Q I rx ry h;obtain⟨i,j,rfl,rfl,q⟩:=h;obtain⟨t,rfl⟩:=rx;obtain⟨t',rfl⟩:=ry;exact rule i j t t' s _ _ ⟨.int (g i j),H,I.tok _,⟨_,rfl⟩,q⟩
theorem lC {f:Value->Value->Sem Value}{g:Int->Int->Bool}
  (rule:∀ (i j:Int) (t u:Tok) (s:Shared) (Q:Value->Shared->Prop) (E:Value->Shared->Prop),Q (.bool (g i j)) s->wpAny (model X.prog X.w) X.A (f (.int i t) (.int j u)) Q E s):
  yq X f (w_ λ i j=>.bl (g i j)):=by
 intro pins s σ H x y v u Q I rx ry h;obtain⟨i,j,rfl,rfl,q⟩:=h;obtain⟨t,rfl⟩:=rx;obtain⟨t',rfl⟩:=ry;exact rule i j t t' s _ _ ⟨.bl (g i j),H,I,rfl,q⟩
def xR (i j:Int):Prop:=0<j/\j<1073741824
def qI (i j:Int):Prop:=0<=j/\j<=1000000/\i.natAbs<2 ^ 64
def uL (i j:Int):Prop:=(-(2 ^ 64)<i/\i<2 ^ 64)\/(-(2 ^ 64)<j/\j<2 ^ 64)
theorem uL.ok {i j:Int}(h:uL i j):IntMulOk i j:=by
 rcases h with ⟨h1,h2⟩ | ⟨h1,h2⟩
 .exact .of_left (intBits_le_64 h1 h2)
 .exact .of_right (intBits_le_64 h1 h2)
theorem Uo:yq X (binaryOp .Add) (w_ λ i j=>.int (i+j)):=cD λ _ _ _ _ _ _ _ q=>add_int q
theorem VT:yq X (binaryOp .Sub) (w_ λ i j=>.int (i-j)):=cD λ _ _ _ _ _ _ _ q=>sub_int q
theorem VY:yq X (binaryOp .Mult) (rI uL λ i j=>.int (i*j)):=lB λ _ _ _ _ _ _ _ hc q=>mul_int q hc.ok
theorem Ui:yq X (binaryOp .FloorDiv) (rI xR λ i j=>.int (i/j)):=lB λ i j _ _ _ _ _ hc q=>by
 have h1:(0:Int)<j:=hc.1;have h2:j<1073741824:=hc.2;exact floordiv_int (by omega) (by rw[Int.fdiv_eq_ediv_of_nonneg i (by omega)];exact q) (.inl (PyProof.noPylong_small (by omega)))
theorem VZ:yq X (binaryOp .Mod) (rI (λ _ j=>0<j) λ i j=>.int (i%j)):=lB λ i j _ _ _ _ _ hc q=>by
 have h1:(0:Int)<j:=hc;exact mod_int' (by omega) (by rw[Int.fmod_eq_emod_of_nonneg i (by omega)];exact q)
theorem VU:yq X (binaryOp .Pow) (rI qI λ i j=>.int (i ^ j.toNat)):=lB λ _ _ _ _ _ _ _ hc q=>pow_int_small hc.1 hc.2.1 hc.2.2 q
theorem YU {f:Value->Sem Value}{g:Int->Int}
  (rule:∀ (i:Int) (t:Tok) (s:Shared) (Q:Value->Shared->Prop) (E:Value->Shared->Prop),Q (.int (g i) s.toks) { s with toks:=s.toks+1 }->wpAny (model X.prog X.w) X.A (f (.int i t)) Q E s):
  fq X f (rU λ i=>.int (g i)):=by
 intro pins s σ H x v Q I rx h;obtain⟨i,rfl,q⟩:=h;obtain⟨t,rfl⟩:=rx;exact rule i t s _ _ ⟨.int (g i),H,I.tok _,⟨_,rfl⟩,q⟩
theorem YT:fq X (unaryOp .USub) (rU λ i=>.int (-i)):=YU λ _ _ _ _ _ q=>neg_int q
end
section
variable {X:Cx}{a b c:Expr}{ta tb tc:TE}{pos:Pos}
theorem R5 {pins:List (Addr×Obj)}{σ:St}{H:Hp}{s:Shared}{Q:VK}{k k':Bool}(I:Inv X pins σ H s) (q:Q (.bl k) H) (e:k=k'):EP X pins σ Q (.bool k') s:=by
 subst e;exact⟨.bl k,H,I,rfl,q⟩
theorem Ub:yq X (compareOp .Lt) (w_ λ i j=>.bl (decide (i<j))):=lC λ _ _ _ _ _ _ _ q=>lt_int q
theorem ip:yq X (compareOp .LtE) (w_ λ i j=>.bl (decide (i<=j))):=lC λ _ _ _ _ _ _ _ q=>le_int q
theorem Ug:yq X (compareOp .Gt) (w_ λ i j=>.bl (decide (j<i))):=lC λ _ _ _ _ _ _ _ q=>gt_int q
theorem Uh:yq X (compareOp .GtE) (w_ λ i j=>.bl (decide (j<=i))):=lC λ _ _ _ _ _ _ _ q=>ge_int q
theorem Uc:yq X (compareOp .Is) (λ x y H Q=>y=.zh/\Q (.bl (decide (x=.zh))) H):=by
 intro pins s σ H x y v u Q I rx ry h;obtain⟨rfl,q⟩:=h;cases ry;refine is_none_gen (R5 I q ?_);cases x <;> first
  | (cases rx;rfl)
  | (obtain⟨t,rfl⟩:=rx;rfl)
theorem yq.or {f:Value->Value->Sem Value}{r r':R2}(h:yq X f r) (h':yq X f r'):yq X f (λ x y H Q=>r x y H Q\/r' x y H Q):=by
 intro pins s σ H x y v u Q I rx ry q;rcases q with q | q
 .exact h pins s σ H x y v u Q I rx ry q
 .exact h' pins s σ H x y v u Q I rx ry q
theorem sQ (b:Expr) {op:CmpOp}(h:op≠.In:=by decide) (h2:op≠.NotIn:=by decide):behindInMarks op b=false:=by
 have e1:(op == CmpOp.In)=false:=by cases op <;> first | rfl | exact absurd rfl h
 have e2:(op == CmpOp.NotIn)=false:=by cases op <;> first | rfl | exact absurd rfl h2
 cases b <;> simp[behindInMarks,e1,e2]
theorem Vo {op:CmpOp}{r:R2}(ho:yq X (compareOp op) r) (ha:PE X a ta) (hb:PE X b tb) (hm:behindInMarks op b=false):PE X (.Compare a [op] [b] pos) (ou r ta tb):=by
 intro pins s σ H Q I h;exact wpAny_Compare1 (gY ha hb I h λ v u s2 x y H2 I2 rx ry q=>ho pins s2 σ H2 x y v u Q I2 rx ry q) hm
def Xj (t:TE):TT:=fun σ H Q=>t σ H λ x H'=>∃ k,x=.bl k/\Q k H'
theorem Wz {op:CmpOp}{r:R2}(ho:yq X (compareOp op) r) (ha:PE X a ta) (hb:PE X b tb) (hm:behindInMarks op b=false):PT X (.Compare a [op] [b] pos) (Xj (ou r ta tb)):=by
 intro pins s σ H Q I h;refine wpAny_isTrue_Compare1 (zK (ha pins s σ H _ I h) λ v s1 ⟨x,H1,I1,r1,q1⟩=>zK (hb pins s1 σ H1 _ I1 q1) λ u s2 ⟨y,H2,I2,r2,q2⟩=>
  zK (ho pins s2 σ H2 x y v u _ I2 r1 r2 q2) λ c s3 ⟨z,H3,I3,r3,k,e,q3⟩=>?_) hm
 subst e;cases r3;exact wpAny_truthy_bool ⟨H3,I3,q3⟩
def eQ (r r':R2) (ta tb tc:TE):TE:=fun σ H Q=>ta σ H λ x H1=>tb σ H1 λ y H2=>r x y H2 λ z H3=>∃ k,z=.bl k/\
 (if k=true then tc σ H3 λ w' H4=>r' y w' H4 Q else Q (.bl false) H3)
theorem Vp {op op':CmpOp}{r r':R2}(ho:yq X (compareOp op) r) (ho':yq X (compareOp op') r') (ha:PE X a ta) (hb:PE X b tb) (hc:PE X c tc)
  (hm:lastMarks [op,op'] [b,c]=false:=by with_unfolding_all rfl):PE X (.Compare a [op,op'] [b,c] pos) (eQ r r' ta tb tc):=by
 intro pins s σ H Q I h;refine Compare_chain (zK (ha pins s σ H _ I h) λ v s1 ⟨x,H1,I1,r1,q1⟩=>chain_link (zK (hb pins s1 σ H1 _ I1 q1) λ u s2 ⟨y,H2,I2,r2,q2⟩=>
  zK (ho pins s2 σ H2 x y v u _ I2 r1 r2 q2) λ d s3 ⟨z,H3,I3,r3,k,e,q3⟩=>?_)) hm
 subst e;cases r3;refine wpAny_truthy_bool ?_;cases k with
 | false=>exact ite_ff ⟨.bl false,H3,I3,rfl,q3⟩
 | true=>exact ite_tt (chain_last (zK (hc pins s3 σ H3 _ I3 q3) λ w' s4 ⟨z',H4,I4,r4,q4⟩=>ho' pins s4 σ H4 y z' u w' Q I4 r2 r4 q4))
def fu (K:PySem.W.Frag) (x:V) (H:Hp) (k:Bool):Prop:=
 match x with
 | .zh=>k=false
 | .bl b=>k=b
 | .int i=>k=(i != 0)
 | .str y=>y.length<=sizeLine/\k=((y.length:Int) != 0)
 | .pR y=>y.size<=sizeLine/\k=((y.size:Int) != 0)
 | .ref p=>(∃ xs,zV K H p xs/\k=!xs.isEmpty)\/(∃ xs,zZ K H p xs/\k=!xs.isEmpty)\/∃ kvs,H p=some (.dK kvs)/\k=!kvs.isEmpty
 | _=>False
theorem SK {κ:Type}{kvs:List (κ × V)}{vs:List (κ × Value)}(r:KV kvs vs):(!vs.isEmpty)=!kvs.isEmpty:=by
 cases r <;> rfl
theorem bB {xs:List V}{its:List Value}(r:Vals xs its):(!its.toArray.isEmpty)=!xs.isEmpty:=by
 cases r <;> simp
theorem qe:(sizeLine:Nat)<2 ^ 63:=by rw[sizeLine_eq];decide
theorem Xd:Pe X (λ x H Q=>∃ k,fu X.K x H k/\Q k H):=by
 intro pins s σ H x v Q I rx h;obtain⟨k,e,q⟩:=h;have hl:=qe;have hs:sizeLine=16777216:=sizeLine_eq;cases x with
 | zh=>
  cases rx;have e':k=false:=e;subst e';exact truthy_none ⟨H,I,q⟩
 | bl b=>
  cases rx;have e':k=b:=e;subst e';exact wpAny_truthy_bool ⟨H,I,q⟩
 | int i=>
  obtain⟨t,rfl⟩:=rx;have e':k=(i != 0):=e;subst e';exact PySem.P.truthy_int ⟨H,I,q⟩
 | str y=>
  obtain⟨t,rfl⟩:=rx;obtain⟨hy,e'⟩:y.length<=sizeLine/\k=((y.length:Int) != 0):=e;subst e';exact PySem.P.truthy_str (by omega) ⟨H,I.tok _,q⟩
 | pR y=>
  obtain⟨t,rfl⟩:=rx;obtain⟨hy,e'⟩:y.size<=sizeLine/\k=((y.size:Int) != 0):=e;subst e';exact PySem.W.truthy_bytes (by omega) ⟨H,I.tok _,q⟩
 | ref p=>
  cases rx;have e':(∃ xs,zV X.K H p xs/\k=!xs.isEmpty)\/(∃ xs,zZ X.K H p xs/\k=!xs.isEmpty)\/∃ kvs,H p=some (.dK kvs)/\k=!kvs.isEmpty:=e;rcases e' with ⟨xs,hx,e'⟩ | ⟨xs,hx,e'⟩ | ⟨kvs,hx,e'⟩
  .subst e';obtain⟨its,r,pl,hz⟩:=I.list hx;have hlen:=r.length;exact wpAny_truthy_list pl.isList (by simp only[List.size_toArray];omega) ⟨H,I.tok _,by rw[bB r];exact q⟩
  .subst e';obtain⟨its,r,pl,hz⟩:=I.tuple hx;have hlen:=r.length;exact truthy_tuple pl (by simp only[List.size_toArray];omega) ⟨H,I.tok _,by rw[bB r];exact q⟩
  .subst e';obtain⟨hz,hS,vs,r,m⟩:kvs.length<=sizeLine/\(p == sysModules)=false/\∃ vs,KV kvs vs/\s.heap.DictOf (wK X.prog X.w) p vs:=I.zB p _ hx;have hlen:kvs.length=vs.length:=Paired.length r;exact wpAny_truthy_dict hS m (by omega) ⟨H,I.tok _,by rw[SK r];exact q⟩
 | _=>exact (show False from e).elim
theorem Ww (ha:PE X a ta) (he:∀ whole,isTrue a X.env whole=(do let v <- whole;standAt a.pos;holding [v] (truthy v))):
  PT X a (fun σ H Q=>ta σ H λ x H'=>∃ k,fu X.K x H' k/\Q k H'):=by
 intro pins s σ H Q I h;exact isTrue_plain (zK (ha pins s σ H _ I h) λ v s1 ⟨x,H1,I1,r1,q1⟩=>Xd pins s1 σ H1 x v Q I1 r1 q1) (he _)
theorem Um:yq X (binaryOp .Add) (λ x y H Q=>∃ i j,x=.str i/\y=.str j/\i.length+j.length<=sizeLine/\Q (.str (i++j)) H):=by
 intro pins s σ H x y v u Q I rx ry h;obtain⟨i,j,rfl,rfl,hz,q⟩:=h;obtain⟨t,rfl⟩:=rx;obtain⟨t',rfl⟩:=ry;exact add_str (λ t' tk=>⟨.str (i++j),H,I.tok _,⟨_,rfl⟩,q⟩) hz
theorem vals1 {x:V}{us:List Value}(r:Vals [x] us):∃ u,us=[u]/\RelV x u:=by
 cases r with
 | cons r1 r2=>cases r2;exact⟨_,rfl,r1⟩
theorem vals2 {x y:V}{us:List Value}(r:Vals [x,y] us):∃ u w',us=[u,w']/\RelV x u/\RelV y w':=by
 cases r with
 | cons r1 r2=>
  cases r2 with
  | cons r3 r4=>cases r4;exact⟨_,_,rfl,r1,r3⟩
theorem Q7 (hc:X.calm=true):xg X (.builtin "max") (λ xs H Q=>∃ i j,xs=[.int i,.int j]/\Q (.int (if j>i then j else i)) H):=by
 intro pins s σ H xs us Q I r h;obtain⟨i,j,rfl,q⟩:=h;obtain⟨u,w',rfl,⟨t,rfl⟩,⟨t',rfl⟩⟩:=vals2 r;refine max_two_ints (I.ok.hd hc) λ h' tk k=>⟨_,H,I.kept k,?_,q⟩;by_cases hj:j>i
 .rw[if_pos hj,if_pos hj];exact⟨_,rfl⟩
 .rw[if_neg hj,if_neg hj];exact⟨_,rfl⟩
theorem Q6 (hc:X.calm=true):xg X (.builtin "min") (λ xs H Q=>∃ i j,xs=[.int i,.int j]/\Q (.int (if j<i then j else i)) H):=by
 intro pins s σ H xs us Q I r h;obtain⟨i,j,rfl,q⟩:=h;obtain⟨u,w',rfl,⟨t,rfl⟩,⟨t',rfl⟩⟩:=vals2 r;refine min_two_ints (I.ok.hd hc) λ h' tk k=>⟨_,H,I.kept k,?_,q⟩;by_cases hj:j<i
 .rw[if_pos hj,if_pos hj];exact⟨_,rfl⟩
 .rw[if_neg hj,if_neg hj];exact⟨_,rfl⟩
end
end L2
namespace L2
open PySem PySem.Spec PyProof.Rows
section
variable {prog:Program}{w:World}{A:Around}{E:Value->Shared->Prop}{s:Shared}{K:PySem.W.Frag}{x dx C f:Addr}{mA:Str->Option Value}{name:Str}{v:Value}
end
theorem um.some_of {v:V}{o:Option Value}(r:um (some v) o):∃ u,o=some u/\RelV v u:=by
 cases o with
 | none=>exact (show False from r).elim
 | some u=>exact⟨u,rfl,r⟩
section
variable {P:Program}{w:World}{H H':Hp}{h h':Heap}{a C dx:Addr}{fs fs':List (Str×V)}
end
section
variable {X:Cx}{pins:List (Addr×Obj)}{σ:St}{H:Hp}{s:Shared}{a C dx:Addr}{fs:List (Str×V)}{f:Str}{v:V}{A:Around}{E:Value->Shared->Prop}
end
section
variable {X:Cx}{o e value:Expr}{f:Str}{pos pos' tpos:Pos}{ta tv:TE}
end
section
variable {X:Cx}{pins:List (Addr×Obj)}{σ:St}{H:Hp}{s:Shared}{A:Around}{E:Value->Shared->Prop}{Q:Value->Shared->Prop}{c:Value}{b:Bool}
end
end L2
namespace L2
open PySem PySem.Spec PyProof.Rows
structure y8 (k:Nat) (A:Around):Prop where
 hd:A.handled=none
 dp:A.depth+3*k+5<recursionLimit
 un:A.units+16*k+200<cLine
theorem y8.mono {j k:Nat}{A:Around}(r:y8 k A) (h:j<=k):y8 j A:=⟨r.hd,by have:=r.dp;omega,by have:=r.un;omega⟩
theorem y8.deeper {k:Nat}{A:Around}(r:y8 (k+1) A) (env:Env):y8 k (A.deeper env):=
 ⟨r.hd,by have:=r.dp;show A.depth+1+3*k+5<_;omega,by have:=r.un;show A.units+3+16*k+200<_;omega⟩
theorem y8.depth {k:Nat}{A:Around}(r:y8 k A):A.depth<recursionLimit:=by have:=r.dp;omega
theorem y8.units {k:Nat}{A:Around}(r:y8 k A):A.units+64<cLine:=by have:=r.un;omega
def jf:TA:=λ _ H Q=>Q [] H
def jh (ta:TE) (tr:TA):TA:=fun σ H Q=>ta σ H λ x H1=>tr σ H1 λ xs H2=>Q (x::xs) H2
section
variable {X:Cx}{e:Expr}{es:List Expr}{te:TE}{t:TA}{pos:Pos}
theorem ph:PA X [] jf:=λ _ _ _ _ H Q I h=>Calls.spliced_nil ⟨[],H,I,.nil,h⟩
theorem qa (ha:PE X e te) (hr:PA X es t) (hs:starEach (e::es) X.env=(false,eval e X.env)::starEach es X.env:=by rfl):PA X (e::es) (jh te t):=by
 intro pos pins s σ H Q I h;rw[hs];show wpAny _ _ (spliced ((false,eval e X.env)::backTo pos (starEach es X.env))) _ _ s;refine Calls.spliced_cons (zK (ha pins s σ H _ I h) λ u s1 ⟨x,H1,I1,r1,q1⟩=>?_);exact zK (hr pos pins s1 σ H1 _ I1 q1) λ us s2 ⟨xs,H2,I2,r2,q2⟩=>⟨x::xs,H2,I2,.cons r1 r2,q2⟩
def Xi (t:TA):TE:=fun σ H Q=>t σ H λ xs H1=>xs.length<=sizeLine/\∀ p,H1 p=none->Q (.ref p) (upd H1 p (.tup xs))
def Xq (t:TA):TE:=fun σ H Q=>t σ H λ xs H1=>xs.length<=sizeLine/\∀ p,H1 p=none->Q (.ref p) (upd H1 p (.lst xs))
theorem W_ {x1} (h:PA X es t):PE X (.Tuple es x1 pos) (Xi t):=by
 intro pins s σ H Q I hq;refine wpAny_Tuple_spliced (zK (h pos pins s σ H _ I hq) λ us s1 ⟨xs,H1,I1,r,z,q⟩=>⟨by rw[<- r.length];exact z,?_⟩);have hf:H1 s1.heap.objs.size=none:=I1.zB.fresh (Nat.le_refl _);refine⟨.ref s1.heap.objs.size,upd H1 s1.heap.objs.size (.tup xs),I1.laid (t':=s1.toks) (λ b u e=>zHp _ e) (Nat.le_refl _) ?_,rfl,q _ hf⟩;exact⟨z,us,r,⟨_,Heap.get?_push_size _ rfl,rfl,_,rfl⟩⟩
theorem Vf (h:PA X es t):PE X (.List es pos) (Xq t):=by
 intro pins s σ H Q I hq;refine wpAny_List_spliced (zK (h pos pins s σ H _ I hq) λ us s1 ⟨xs,H1,I1,r,z,q⟩=>⟨by rw[<- r.length];exact z,?_⟩);have hf:H1 s1.heap.objs.size=none:=I1.zB.fresh (Nat.le_refl _);refine⟨.ref s1.heap.objs.size,upd H1 s1.heap.objs.size (.lst xs),I1.laid (t':=s1.toks) (λ b u e=>zHp _ e) (Nat.le_refl _) ?_,rfl,q _ hf⟩;exact⟨z,us,0,r,Heap.get?_push_size _ rfl⟩
end
abbrev Sp:=List V->Hp->VK->XK->Prop
abbrev uK:=List Env->Hp->Shared->XK->Value->Shared->Prop
structure kS (P:Program) (w:World) (K:PySem.W.Frag) (mg:Str->Option Value) (base:Heap) (A:Around) (outer:List Env) (s:Shared) (H:Hp):Prop where
 frames:A.frames=some outer
 mod:Mod K mg base
 bs:∀ b o,base.get? b=some o->s.heap.get? b=some o/\H b=none
 qv:base.objs.size<=s.heap.objs.size
 uC:s.heap.FunFrames base outer
 pK:∀ b∈vJ outer,H b=none
 zB:yX P w H s.heap
 bare:AllBare s.gens
def CE (outer:List Env) (P:Program) (w:World) (H:Hp) (s:Shared) (Q:VK) (u:Value) (s':Shared):Prop:=
 ∃ v H',s'.os=s.os/\AllBare s'.gens/\Un (vJ outer) [] H H' s.heap s'.heap/\yX P w H' s'.heap/\RelV v u/\Q v H'
def CR (CX:uK) (outer:List Env) (P:Program) (w:World) (H:Hp) (s:Shared) (Q:VK) (E:XK) (r:Result) (s':Shared):Prop:=
 match r with
 | .ok (.ret u)=>CE outer P w H s Q u s'
 | .ok _=>False
 | .error e=>CX outer H s E e s'
structure uv (P:Program) (w:World) (K:PySem.W.Frag) (mg:Str->Option Value) (base:Heap) (CX:uK) (k:Nat) (f:Addr) (fd:FuncData) (ps:List Str) (sp:Sp):Prop where
 len:∀ vs H Q E,sp vs H Q E->vs.length=ps.length
 run:∀ (A:Around) (outer:List Env) (s:Shared) (H:Hp) (args:Args) (us:List Value) (vs:List V) (Q:VK) (E:XK),y8 k A->kS P w K mg base A outer s H->BindsTo s fd args (ps.zip us)->Vals vs us->sp vs H Q E->
  codeAny (model P w) A (.call (.ref f) args) (CR CX outer P w H s Q E) s
section
variable {X:Cx}{pins:List (Addr×Obj)}{σ:St}{H:Hp}{s s':Shared}
theorem Inv.RF (I:Inv X pins σ H s):kS X.prog X.w X.K X.mg X.base X.A X.stack s H:=
 ⟨I.ok.frames,I.ok.mod,I.bs,Nat.le_trans I.ok.qv I.sz,I.stack,I.eT,I.zB,I.bare⟩
theorem Inv.after {Q:VK}{u:Value}(I:Inv X pins σ H s) (h:CE X.stack X.prog X.w H s Q u s'):EP X pins σ Q u s':=by
 obtain⟨v,H',os,bare,un,zB,r,q⟩:=h;obtain⟨hh,g,d,t,os'⟩:=s';obtain rfl:os'=s.os:=os;exact⟨v,H',I.call (h':=hh) (g':=g) (d':=d) (t':=t) (ch:=[]) un zB bare (λ b z=>absurd z (by simp)),r,q⟩
end
def eS (sp:Sp) (dvs:List V) (E:XK) (t:TA):TE:=fun σ H Q=>t σ H λ vs H1=>sp (vs++dvs) H1 Q E
def Binds (K:PySem.W.Frag) (fd:FuncData) (ps:List Str) (ds:List Value):Prop:=
 ∀ (s:Shared) (us:List Value),K.In s.heap->(us++ds).length=ps.length->BindsTo s fd ⟨us,[]⟩ (ps.zip (us++ds))
theorem Binds.all {K:PySem.W.Frag}{fd:FuncData}{ps:List Str}(h:∀ us:List Value,us.length=ps.length->bindArgs fd ⟨us,[]⟩=pure (ps.zip us)):Binds K fd ps []:=λ s us _ hl=>by
 rw[List.append_nil] at hl ⊢;exact .of_eq (h us hl)
def Passes (CX:uK) (X:Cx) (E:XK):Prop:=∀ (pins:List (Addr×Obj)) (σ:St) (H:Hp) (s:Shared) (e:Value) (s':Shared),Inv X pins σ H s->CX X.stack H s E e s'->X.xe e s'
section
variable {X:Cx}{CX:uK}{k:Nat}{f C:Addr}{fd:FuncData}{ps:List Str}{sp:Sp}{dvs:List V}{ds:List Value}{E:XK}{x m:Str}{p pos apos:Pos}{e o:Expr}{es:List Expr}{ta:TE}{t:TA}
theorem X_ {pins:List (Addr×Obj)}{σ:St}{H:Hp}{s:Shared}{Q:VK}{us:List Value}{vs:List V}(F:uv X.prog X.w X.K X.mg X.base CX k f fd ps sp) (hr:y8 k X.A) (hb:Binds X.K fd ps ds) (hd:Vals dvs ds) (hx:Passes CX X E)
  (I:Inv X pins σ H s) (r:Vals vs us) (h:sp (vs++dvs) H Q E):wpAny (model X.prog X.w) X.A (call (.ref f) us) (EP X pins σ Q) X.xe s:=by
 have r2:Vals (vs++dvs) (us++ds):=r.append hd;have hl:(us++ds).length=ps.length:=by rw[<- r2.length];exact F.len _ _ _ _ h
 refine wpAny_call (codeAny_mono (F.run X.A X.stack s H ⟨us,[]⟩ (us++ds) (vs++dvs) Q E hr I.RF (hb s us I.vF hl) r2 h) λ r s' hq=>?_);cases r with
 | error e=>exact hx pins σ H s e s' I hq
 | ok fl=>
  cases fl with
  | ret u=>exact I.after hq
  | next=>exact False.elim hq
  | brk=>exact False.elim hq
  | cont=>exact False.elim hq
theorem Vq (F:uv X.prog X.w X.K X.mg X.base CX k f fd ps sp) (hr:y8 k X.A) (hg:Gl X x) (hm:X.mg x=some (.ref f)) (hk:PySem.W.keepIn X.K (.ref f)=true) (hb:Binds X.K fd ps ds) (hd:Vals dvs ds) (hx:Passes CX X E)
  (ha:PA X (e::es) t) (hdb:(x == ("__debug__":Str))=false:=by decide) (he:starEach (e::es) X.env=(false,eval e X.env)::starEach es X.env:=by rfl) (hpl:(backTo pos (starEach es X.env)).any (·.1)=false:=by rfl):
  PE X (.Call (.Name x p) (e::es) [] pos) (eS sp dvs E t):=by
 intro pins s σ H Q I h;refine wpAny_Call_Name_kw (bw I hg hm ?_ hdb);refine PySem.W.callWith_K (h₀:=X.base) I.ok.mod.iR hk (zK (ha pos pins s σ H _ I h) λ us s1 ⟨vs,H1,I1,r,q⟩=>⟨I1.vF,?_⟩) he hpl;exact X_ F hr hb hd hx I1 r q
end
section
variable {X:Cx}{CX:uK}{k:Nat}{f C:Addr}{fd:FuncData}{ps ks:List Str}{sp:Sp}{E:XK}{x m:Str}{p pos apos kpos:Pos}{e o:Expr}{es:List Expr}{kws:List Keyword}{te ta:TE}{t tk:TA}{nm:Option Str}
variable {g:List Value->List Value->List Value}{gV:List V->List V->List V}
end
structure yz (N P:List Str) (sc:Scope):Prop where
 kind:sc.kind=.function
 co:sc.isCoroutine=false
 gen:sc.isGenerator=false
 nd:N.Nodup
 pre:N.take P.length=P
 par:∀ x∈P,sc.names.lookup x=some .local\/sc.names.lookup x=some .cell
 Tg:∀ y∈sc.names,y.2≠.free
theorem Zl {kindOf:Str->Option NameKind}{x:Str}:∀ {binds:List (Str×Value)}{m:Str->Option Value},(∀ v,(x,v)∉binds)->bindL kindOf binds m x=m x
 | [],_,_=>rfl
 | (n,v)::r,m,h=>by
  unfold bindL;rw[Zl λ w hw=>h w (zMo _ hw)];split
  .have:x≠n:=by rintro rfl;exact h v zMc
   simp[this]
  .rfl
theorem Zn {kindOf:Str->Option NameKind}{x:Str}:∀ {binds:List (Str×Value)}{m:Str->Option Value},(∀ v,(x,v)∉binds)->bindC kindOf binds m x=m x
 | [],_,_=>rfl
 | (n,v)::r,m,h=>by
  unfold bindC;rw[Zn λ w hw=>h w (zMo _ hw)];split
  .rfl
  .have:x≠n:=by rintro rfl;exact h v zMc
   simp[this]
theorem Zm {kindOf:Str->Option NameKind}{x:Str}{v:Value}:∀ {P:List Str}{vs:List Value}{i:Nat}{m:Str->Option Value},P.Nodup->P[i]?=some x->vs[i]?=some v->kindOf x=some .local->
  bindL kindOf (P.zip vs) m x=some v
 | [],_,_,_,_,h,_,_=>by simp at h
 | _::_,[],_,_,_,_,h,_=>by simp at h
 | p::P,w::vs,0,m,nd,h1,h2,hk=>by
  simp at h1 h2;subst h1;subst h2;show bindL kindOf ((p,w)::P.zip vs) m p=_;unfold bindL;rw[Zl λ v hv=>(List.nodup_cons.mp nd).1 (List.of_mem_zip hv).1,if_pos hk];simp
 | p::P,w::vs,i+1,m,nd,h1,h2,hk=>by
  show bindL kindOf ((p,w)::P.zip vs) m x=_;unfold bindL;exact Zm (i:=i) (List.nodup_cons.mp nd).2 (by simpa using h1) (by simpa using h2) hk
theorem Zo {kindOf:Str->Option NameKind}{x:Str}{v:Value}:∀ {P:List Str}{vs:List Value}{i:Nat}{m:Str->Option Value},P.Nodup->P[i]?=some x->vs[i]?=some v->kindOf x≠some .local->
  bindC kindOf (P.zip vs) m x=some v
 | [],_,_,_,_,h,_,_=>by simp at h
 | _::_,[],_,_,_,_,h,_=>by simp at h
 | p::P,w::vs,0,m,nd,h1,h2,hk=>by
  simp at h1 h2;subst h1;subst h2;show bindC kindOf ((p,w)::P.zip vs) m p=_;unfold bindC;rw[Zn λ v hv=>(List.nodup_cons.mp nd).1 (List.of_mem_zip hv).1,if_neg hk];simp
 | p::P,w::vs,i+1,m,nd,h1,h2,hk=>by
  show bindC kindOf ((p,w)::P.zip vs) m x=_;unfold bindC;exact Zo (i:=i) (List.nodup_cons.mp nd).2 (by simpa using h1) (by simpa using h2) hk
noncomputable def start (N:List Str) (vs:List V):St:=vs.map some++List.replicate (N.length-vs.length) none
noncomputable def tu (CX:uK) (P:Program) (w:World) (K:PySem.W.Frag) (mg:Str->Option Value) (base:Heap) (N:List Str) (qual:Str) (scope:Scope) (f:Addr) (cd:Value) (A:Around) (outer:List Env) (s:Shared) (H:Hp) (E:XK):Cx where
 prog:=P
 w:=w
 K:=K
 mg:=mg
 base:=base
 A:=A.deeper (envOfC qual scope s.heap.objs.size f cd)
 N:=N
 s₀:=s
 H₀:=H
 env:=envOfC qual scope s.heap.objs.size f cd
 outer:=outer
 stack:=envOfC qual scope s.heap.objs.size f cd::outer
 ex:=[]
 calm:=true
 fn:=λ _=>true
 pn:=[]
 xe:=λ e s'=>wpAny (model P w) (A.deeper (envOfC qual scope s.heap.objs.size f cd)) (leaving (envOfC qual scope s.heap.objs.size f cd) e) (λ _ s''=>CX outer H s E e s'') (λ e' s''=>CX outer H s E e' s'') s'
theorem Zb {sc:Scope}{n:Nat}{x:Str}(h:sc.names.lookup x=some .cell):∃ c,(cellsFrom n sc.names []).lookup x=some c:=by
 have q:=PySem.W.cellsFrom_some sc.names n [] (.inl h);exact Option.isSome_iff_exists.mp q
theorem SO {CX:uK}{P:Program}{w:World}{K:PySem.W.Frag}{mg:Str->Option Value}{base:Heap}{N ps:List Str}{qual:Str}{scope:Scope}{f:Addr}{cd:Value}{A:Around}{outer:List Env}{s s1:Shared}{H:Hp}{E:XK}{us:List Value}{vs:List V}
  (S:yz N ps scope) (hd:A.handled=none) (e0:kS P w K mg base A outer s H) (hl:vs.length=ps.length) (r:Vals vs us)
  (x:InCallC s s.heap.objs.size (bindL (envOfC qual scope s.heap.objs.size f cd).kindOf (ps.zip us) λ _=>none) (cellsFrom (s.heap.objs.size+1) scope.names []) (bindC (envOfC qual scope s.heap.objs.size f cd).kindOf (ps.zip us) λ _=>none) s1):
  Inv (tu CX P w K mg base N qual scope f cd A outer s H E) [] (start N vs) H s1:=by
 have hpl:ps.length<=N.length:=by have:=congrArg List.length S.pre;rw[List.length_take] at this;omega
 obtain⟨h1,tk,rfl,hk⟩:=x.done;have noA:∀ b:Addr,b∉(tu CX P w K mg base N qual scope f cd A outer s H E).ex:=λ b z=>absurd (show b∈([]:List Addr) from z) (by simp);refine⟨⟨e0.mod,S.kind,rfl,rfl,Nat.le_refl _,λ y z c h1 h2=>?_,λ y hy=>?_,λ y c _ h=>?_,λ _=>hd,Around.frames_deeper e0.frames,.inr ⟨rfl,rfl⟩,λ b z=>absurd z (noA b),e0.bs,e0.qv,λ b _ _=>noA b,λ b z=>absurd z (noA b),e0.uC,e0.pK⟩,
  rfl,e0.bare,Un.kept hk,⟨_,x.toInCall.ns,λ i y v h1 h2 h3=>?_⟩,λ y c h=>⟨_,x.cell y c h⟩,e0.zB.fresh (Nat.le_refl _),λ y c h=>?_,λ p hp=>absurd (show p∈([]:List (Addr×Obj)) from hp) (by simp),e0.zB.kept hk,?_⟩
 .exact name_of_addr x.apart (PySem.mem_of_lookup h1) (PySem.mem_of_lookup h2)
 .have hy:scope.names.lookup y=some .cell\/scope.names.lookup y=some .free:=hy;rcases hy with hy | hy
  .exact Zb hy
  .exact absurd rfl (S.Tg _ (PySem.mem_of_lookup hy))
 .exact Nat.le_of_lt (x.above y c (PySem.mem_of_lookup h))
 .have hi:i<vs.length:=by
   unfold start at h2;by_cases hi:i<vs.length
   .exact hi
   .rw[List.getElem?_append_right (by simpa using hi)] at h2;rw[List.getElem?_replicate] at h2;split at h2 <;> cases h2
  have ha:vs[i]?=some v:=by
   unfold start at h2;rw[List.getElem?_append_left (by simpa using hi),List.getElem?_map] at h2;cases e:vs[i]? with
   | none=>rw[e] at h2;cases h2
   | some a=>rw[e] at h2;cases h2;rfl
  obtain⟨u,hu,rv⟩:=r.get ha;have hp:ps[i]?=some y:=by
   rw[<- S.pre,List.getElem?_take_of_lt (by omega)];exact h1
  have ndP:ps.Nodup:=by rw[<- S.pre];exact S.nd.sublist (List.take_sublist _ _)
  refine⟨u,rv,?_⟩;rcases S.par y (List.mem_of_getElem? hp) with k | k
  .exact .inl ⟨k,Zm ndP hp hu k⟩
  .obtain⟨c,e⟩:=Zb (n:=s.heap.objs.size+1) k;refine .inr ⟨.inl k,c,e,?_⟩;have q:=x.cell y c e;rw[Zo ndP hp hu (by show scope.names.lookup y≠_;rw[k];decide)] at q;exact q
 .exact e0.zB.fresh (Nat.le_of_lt (x.above y c (PySem.mem_of_lookup h)))
 .unfold start;show _=N.length;rw[List.length_append,List.length_map,List.length_replicate];omega
theorem Ry {CX:uK}{P:Program}{w:World}{K:PySem.W.Frag}{mg:Str->Option Value}{base:Heap}{k:Nat}{f:Addr}{name qual:Str}{params:Arguments}{body:List Stmt}{scope:Scope}{dV kV doc pm cdv ct oc:Value}{an od:Option Addr}
  {osl:Array (Option Value)}{N ps:List Str}{sp:Sp}(lk:K.lookup f=some ⟨oc,od,.func (PySem.W.fnOf name qual params body scope dV kV doc pm an cdv ct),osl⟩) (hcd:PySem.W.codeIn K cdv qual=true) (S:yz N ps scope)
  (len:∀ vs H Q E,sp vs H Q E->vs.length=ps.length)
  (hbody:∀ (A:Around) (outer:List Env) (s:Shared) (H:Hp) (vs:List V) (Q:VK) (E:XK),y8 k (A.deeper (envOfC qual scope s.heap.objs.size f cdv))->sp vs H Q E->
   ∃ t,xX (tu CX P w K mg base N qual scope f cdv A outer s H E) body t/\t { nx:=λ _ H'=>Q .zh H',rt:=Q } (start N vs) H):
  uv P w K mg base CX (k+1) f (PySem.W.fnOf name qual params body scope dV kV doc pm an cdv ct) ps sp:=by
 refine⟨len,λ A outer s H args us vs Q E hr e0 hb r hsp=>?_⟩;have hl:=len _ _ _ _ hsp;have KX:K.In s.heap:=e0.mod.iR.keeps λ b o e=>(e0.bs b o e).1;have lim:s.heap.NoLimit:=e0.mod.nolimit.keeps λ b o e=>(e0.bs b o e).1;have hkind:∀ y∈ps.zip us,scope.names.lookup y.1=some .local\/(scope.names.lookup y.1=some .cell/\((cellsFrom (s.heap.objs.size+1) scope.names []).lookup y.1).isSome=true):=λ⟨n,v⟩ hy=>by
  rcases S.par n (List.of_mem_zip hy).1 with q | q
  .exact .inl q
  .exact .inr ⟨q,PySem.W.cellsFrom_some _ _ _ (.inl q)⟩
 refine codeAny_call_function hr.depth (KX _ _ lk) rfl S.co S.gen rfl (PySem.W.codeRec_of KX hcd) (hb _ _ _ _ ?_);refine wpAny_newFunctionEnv_cells S.kind hkind λ env he s1 x=>?_;subst he;refine⟨lim.keeps x.toInCall.keep,codeAny_func ?_⟩;obtain⟨t,ht,hq⟩:=hbody A outer s H vs Q E (hr.deeper _) hsp;have I:Inv (tu CX P w K mg base N qual scope f cdv A outer s H E) [] (start N vs) H s1:=SO S hr.hd e0 hl r x;refine wpAny_mono (ht [] s1 (start N vs) H _ I hq) (λ fl s' hs=>?_) λ e s' hs=>hs;have fin:∀ {σ':St}{H':Hp}{v:V}{u:Value},Inv (tu CX P w K mg base N qual scope f cdv A outer s H E) [] σ' H' s'->RelV v u->Q v H'->CE outer P w H s Q u s':=
  λ{σ' H' v u} J rv q=>⟨v,H',J.os,J.bare,J.base,J.zB,rv,q⟩
 cases fl with
 | ret u=>
  obtain⟨v,σ',H',J,rv,q⟩:=hs;exact fin J rv q
 | next=>
  obtain⟨σ',H',J,q⟩:=hs;exact fin (v:=V.zh) (u:=Value.none) J rfl q
 | brk=>
  obtain⟨_,_,_,q⟩:=hs;exact False.elim q
 | cont=>
  obtain⟨_,_,_,q⟩:=hs;exact False.elim q
end L2
namespace L2
open PySem PySem.Spec PyProof.Rows
section
variable {X:Cx}{x:Str}{p pos:Pos}{e:Expr}{es:List Expr}{t:TA}{id T:String}{r:List V->Hp->VK->Prop}
def mK (r:List V->Hp->VK->Prop) (t:TA):TE:=fun σ H Q=>t σ H λ vs H1=>r vs H1 Q
theorem tN (hc:xg X (.builtin id) r) (hg:Gl X x) (hm:X.mg x=none) (hv:bootBuiltins x=some (.builtin id)) (ha:PA X (e::es) t) (hn:x≠"__name__":=by decide) (hdb:(x == ("__debug__":Str))=false:=by decide)
  (he:starEach (e::es) X.env=(false,eval e X.env)::starEach es X.env:=by rfl) (hpl:(backTo pos (starEach es X.env)).any (·.1)=false:=by rfl):PE X (.Call (.Name x p) (e::es) [] pos) (mK r t):=by
 intro pins s σ H Q I h;refine wpAny_Call_Name_kw (p9 I hg hm hv ?_ hn hdb);exact PyProof.Rows.callWith_builtin1 (zK (ha pos pins s σ H _ I h) λ us s1 ⟨vs,H1,I1,r1,q1⟩=>hc pins s1 σ H1 vs us Q I1 r1 q1) he hpl
theorem o9 (hc:xg X (.type T) r) (hg:Gl X x) (hm:X.mg x=none) (hv:bootBuiltins x=some (.type T)) (ha:PA X (e::es) t) (hn:x≠"__name__":=by decide) (hdb:(x == ("__debug__":Str))=false:=by decide)
  (he:starEach (e::es) X.env=(false,eval e X.env)::starEach es X.env:=by rfl) (hpl:(backTo pos (starEach es X.env)).any (·.1)=false:=by rfl):PE X (.Call (.Name x p) (e::es) [] pos) (mK r t):=by
 intro pins s σ H Q I h;refine wpAny_Call_Name_kw (p9 I hg hm hv ?_ hn hdb);exact PyProof.Rows.callWith_type1 (zK (ha pos pins s σ H _ I h) λ us s1 ⟨vs,H1,I1,r1,q1⟩=>hc pins s1 σ H1 vs us Q I1 r1 q1) he hpl
end
end L2
namespace HT
open PySem PyProof.Rows
noncomputable def lexLt:List Int->List Int->Bool
 | [],[]=>false
 | [],_::_=>true
 | _::_,[]=>false
 | x::xs,y::ys=>if x=y then lexLt xs ys else decide (x<y)
theorem sY (x y:Int) (xs ys:List Int):lexLt (x::xs) (y::ys)=if x=y then lexLt xs ys else decide (x<y):=rfl
theorem TR:lexLt [] []=false:=rfl
theorem TU (y:Int) (ys:List Int):lexLt [] (y::ys)=true:=rfl
theorem TV (x:Int) (xs:List Int):lexLt (x::xs) []=false:=rfl
theorem RE (A:Around) (s:Shared) (a:Int) (t:Tok) (c:Int) (u:Tok):∃ e,SeqAt.EqAt A s (.int a t) (.int c u) e/\(e=true↔a=c):=
 ⟨(a == c),SeqAt.EqAt.int_int a t c u,by simp⟩
theorem Wi (A:Around) (s:Shared) (a:Int) (t:Tok) (c:Int) (u:Tok) (prog:Program) (w:World) (E:Value->Shared->Prop) (Q:Value->Shared->Prop) (h:Q (.bool (decide (a<c))) s):
  wpAny (model prog w) A (richCompare .Lt (.int a t) (.int c u)) Q E s:=
 (PyProof.Rows.lt_int h:wpAny (model prog w) A (compareOp .Lt (.int a t) (.int c u)) Q E s)
section
open PySem.SeqAt
open PySem.AutoSeq1 (wpAny_loadPart')
open PySem.MeetsSeq PySem.MeetsSeq2 PySem.MeetsSeq3
theorem Xb (l b:Addr) (items items2:Array Value) (n n2:Nat) (dd dd2:Option Addr) (sl sl2:Array (Option Value)) (ns ms:List Int) (hi:IntsAre items.toList ns) (hj:IntsAre items2.toList ms):
  Meets (Builtin.«tuple.__lt__» ⟨[.ref l,.ref b],[]⟩)
   (λ _ R s=>s.heap.get? l=some { cls:=.type "tuple",dict:=dd,data:=.seq items n,slots:=sl }/\s.heap.get? b=some { cls:=.type "tuple",dict:=dd2,data:=.seq items2 n2,slots:=sl2 }/\
    R (.ok (.ret (.bool (lexLt ns ms)))) s):=
 .of_wp λ prog w A R s h=>by
  obtain⟨hp,g,d,tk,os⟩:=s;obtain⟨hl,hb,h⟩:=h;have f2:=AutoSeq1.sub_tuple_tuple;have z1:items.size=ns.length:=by rw[<- hi.length];simp
  have z2:items2.size=ms.length:=by rw[<- hj.length];simp
  wp_walk using wpAny_loadPart' hl,wpAny_loadPart' hb,wpAny_forIn_list _ (λ rest b s'=>b.1=none/\s'=⟨hp,g,d,tk,os⟩/\∃ (vs ws:List Value) (ns' ms':List Int),rest=vs.zip ws/\
   IntsAre vs ns'/\IntsAre ws ms'/\ns'.length+items2.size=ms'.length+items.size/\R (.ok (.ret (.bool (lexLt ns' ms')))) ⟨hp,g,d,tk,os⟩) _
  case turn=>
   rintro⟨y,x⟩ rest b s' ⟨hb',rfl,vs,ws,ns',ms',hz,hvi,hwi,hlen,hR⟩;cases hvi with
   | nil=>rw[List.zip_nil_left] at hz;cases hz
   | cons a t hvi'=>
    cases hwi with
    | nil=>rw[List.zip_nil_right] at hz;cases hz
    | cons c u hwi'=>
     rw[List.zip_cons_cons] at hz
     injection hz with hyx hrest
     injection hyx with hy hx
     subst hy hx;rw[sY] at hR;simp only[List.length_cons] at hlen;obtain⟨e,he,hiff⟩:=RE A.in1 ⟨hp,g,d,tk,os⟩ a t c u;refine zWb (he prog w _ _ ?_);cases e with
     | true=>
      rw[if_pos (hiff.mp rfl)] at hR
      wp_walk
      exact⟨rfl,rfl,_,_,_,_,hrest,hvi',hwi',by omega,hR⟩
     | false=>
      rw[if_neg (λ q=>absurd (hiff.mpr q) Bool.false_ne_true)] at hR;have hri:=Wi A.in1 ⟨hp,g,d,tk,os⟩ a t c u prog w
      wp_walk using hri
      exact⟨_,rfl,by simpa using hR⟩
  case fin=>
   rintro⟨b1,b2⟩ s' ⟨hb',rfl,vs,ws,ns',ms',hz,hvi,hwi,hlen,hR⟩;simp only at hb';subst hb';have hv:lexLt ns' ms'=decide (items.size<items2.size):=by
    cases hvi with
    | nil=>
     cases hwi with
     | nil=>
      simp only[List.length_nil] at hlen;rw[TR];exact (decide_eq_false (by omega)).symm
     | cons c u hw=>
      simp only[List.length_nil,List.length_cons] at hlen;rw[TU];exact (decide_eq_true (by omega)).symm
    | cons a t hv=>
     cases hwi with
     | nil=>
      simp only[List.length_nil,List.length_cons] at hlen;rw[TV];exact (decide_eq_false (by omega)).symm
     | cons c u hw=>
      rw[List.zip_cons_cons] at hz;cases hz
   rw[hv] at hR
   wp_walk
   exact⟨_,rfl,by simpa [Builtin.Tuple.tupleCompareSizes] using hR⟩
  case h=>
   exact⟨rfl,rfl,items.toList,items2.toList,ns,ms,rfl,hi,hj,by omega,h⟩
end
section
variable {prog:Program}{w:World}{A:Around}{E:Value->Shared->Prop}{s:Shared}
theorem TH {l b:Addr}{items items2:Array Value}{ns ms:List Int}{Q:Value->Shared->Prop}(hl:IsTup s.heap l items) (hb:IsTup s.heap b items2) (hi:IntsAre items.toList ns) (hj:IntsAre items2.toList ms)
  (hu:A.units<cLine) (h:Q (.bool (lexLt ns ms)) s):wpAny (model prog w) A (compareOp .Lt (.ref l) (.ref b)) Q E s:=by
 obtain⟨⟨cls,dd,data,sl⟩,ho,hc,n,hd⟩:=id hl;obtain⟨⟨cls2,dd2,data2,sl2⟩,ho2,hc2,n2,hd2⟩:=id hb;simp only at hc hd hc2 hd2;subst hc hd hc2 hd2;exact richCompare_meets_room (op:=.Lt) ⟨_,ho,rfl⟩ ⟨_,ho2,rfl⟩ PySem.F.slot_tuple_lt PySem.F.entry_tuple_lt (PySem.F.args_tuple_lt_2 _ _) (Xb l b items items2 n n2 dd dd2 sl sl2 ns ms hi hj)
  ⟨ho,ho2,show Value.bool (lexLt ns ms)≠Value.notImplemented/\Q (.bool (lexLt ns ms)) s from ⟨(λ x=>nomatch x),h⟩⟩ hu
theorem Qy {t b:Addr}{vs ws:List Value}{Q:Value->Shared->Prop}(ht:IsTup s.heap t vs.toArray) (hb:IsTup s.heap b ws.toArray) (hv:vs≠[])
  (h1:ws=[]->Q (.ref t) s) (h2:ws≠[]->Q (.ref s.heap.objs.size) { s with heap:=s.heap.push { cls:=.type "tuple",data:=.seq (vs++ws).toArray } })
  (hsz:vs.length+ws.length<=sizeLine):wpAny (model prog w) A (binaryOp .Add (.ref t) (.ref b)) Q E s:=by
 obtain⟨⟨cls,dd,data,sl⟩,ho,hc,n,hd⟩:=id ht;obtain⟨⟨cls2,dd2,data2,sl2⟩,ho2,hc2,n2,hd2⟩:=id hb;simp only at hc hd hc2 hd2;subst hc hd hc2 hd2;have e:vs.toArray++ws.toArray=(vs++ws).toArray:=by simp
 by_cases hw:ws=[]
 .exact concat_meets ⟨_,ho,rfl⟩ ⟨_,ho2,rfl⟩ noFill_tuple_add seq_tuple_add PySem.F.slot_tuple_add PySem.F.entry_tuple_add (PySem.F.args_tuple_add_2 _ _)
   (tuple_addW1 t b vs.toArray ws.toArray n n2 dd dd2 sl sl2 (by simpa using hv) (by simp[hw])) ⟨ho,ho2,h1 hw⟩
 .refine concat_meets ⟨_,ho,rfl⟩ ⟨_,ho2,rfl⟩ noFill_tuple_add seq_tuple_add PySem.F.slot_tuple_add PySem.F.entry_tuple_add (PySem.F.args_tuple_add_2 _ _)
   (tuple_addW2 t b vs.toArray ws.toArray n n2 dd dd2 sl sl2 (by simpa using hv) (by simpa using hw) (by rw[List.size_toArray,List.size_toArray];exact hsz)) ⟨ho,ho2,?_⟩
  rw[e];exact h2 hw
end
end HT
namespace L2
open PySem PySem.Spec PyProof.Rows
theorem intsAre_of {ns:List Int}:∀ {us:List Value},Vals (ns.map V.int) us->IntsAre us ns:=by
 induction ns with
 | nil=>intro us r;rw[List.map_nil] at r;cases r;exact .nil
 | cons n ns ih=>
  intro us r;rw[List.map_cons] at r;cases r with
  | cons r1 r2=>
   obtain⟨t,e⟩:=r1;subst e;exact .cons n t (ih r2)
section
variable {X:Cx}{e:Expr}{te:TE}{lo hi:Option Expr}{tl th:TO}{pos p2:Pos}
def jO (K:PySem.W.Frag):R2:=λ x y H Q=>∃ a b ns ms,x=.ref a/\y=.ref b/\zZ K H a (ns.map V.int)/\zZ K H b (ms.map V.int)/\Q (.bl (HT.lexLt ns ms)) H
theorem Ua (hu:X.A.units<cLine):yq X (compareOp .Lt) (jO X.K):=by
 intro pins s σ H x y v u Q I rx ry h;obtain⟨a,b,ns,ms,rfl,rfl,ha,hb,q⟩:=h;cases rx;cases ry;obtain⟨its,r1,p1,_⟩:=I.tuple ha;obtain⟨its2,r2,p2,_⟩:=I.tuple hb;have i1:IntsAre its.toArray.toList ns:=intsAre_of r1;have i2:IntsAre its2.toArray.toList ms:=intsAre_of r2;exact HT.TH p1 p2 i1 i2 hu ⟨.bl (HT.lexLt ns ms),H,I,rfl,q⟩
def dP (K:PySem.W.Frag):R2:=λ x y H Q=>∃ a b xs ys,x=.ref a/\y=.ref b/\zZ K H a xs/\zZ K H b ys/\xs≠[]/\xs.length+ys.length<=sizeLine/\
 (ys=[]->Q (.ref a) H)/\(ys≠[]->∀ p,H p=none->Q (.ref p) (upd H p (.tup (xs++ys))))
theorem Vals.oI {xs:List V}{us:List Value}(r:Vals xs us):us=[]↔xs=[]:=by
 cases r with
 | nil=>simp
 | cons _ _=>simp
theorem Uk:yq X (binaryOp .Add) (dP X.K):=by
 intro pins s σ H x y v u Q I rx ry h;obtain⟨a,b,xs,ys,rfl,rfl,ha,hb,hx,hz,q1,q2⟩:=h;cases rx;cases ry;obtain⟨its,r1,p1,_⟩:=I.tuple ha;obtain⟨its2,r2,p2,_⟩:=I.tuple hb;refine HT.Qy p1 p2 (λ z=>hx (r1.oI.mp z)) (λ z=>⟨.ref a,H,I,rfl,q1 (r2.oI.mp z)⟩) (λ z=>?_) (by rw[<- r1.length,<- r2.length];exact hz);refine⟨.ref s.heap.objs.size,_,I.laid (t':=s.toks) (o:=.tup (xs++ys)) (λ b ob q=>zHp _ q) (Nat.le_refl _) ?_,rfl,q2 (λ w=>z (r2.oI.mpr w)) _ (I.zB.fresh (Nat.le_refl _))⟩;exact⟨by rw[List.length_append];exact hz,_,r1.append r2,IsTup.new _ _⟩
end
end L2
namespace L2
open PySem PySem.Spec PyProof.Rows
noncomputable def xm (n:Nat) (i:Int):Option Nat:=if 0<=i then (if i<n then some i.toNat else none) else if -(n:Int)<=i then some (i+n).toNat else none
noncomputable def yp {α:Type}(xs:List α) (i:Int):Option α:=(xm xs.length i).bind λ j=>xs[j]?
theorem b8 {n:Nat}{i:Int}{j:Nat}(h:xm n i=some j):seqIndex? i n=some j/\j<n/\-(n:Int)<=i/\i<n:=by
 unfold xm at h;by_cases h0:0<=i
 .rw[if_pos h0] at h;by_cases h1:i<n
  .rw[if_pos h1] at h;have e:i.toNat=j:=Option.some.inj h;exact⟨by rw[seqIndex_of h0 h1,e],by omega,by omega,h1⟩
  .rw[if_neg h1] at h;cases h
 .rw[if_neg h0] at h;by_cases h1:-(n:Int)<=i
  .rw[if_pos h1] at h;have e:(i+n).toNat=j:=Option.some.inj h;exact⟨by rw[seqIndex_neg (by omega) h1,e],by omega,h1,by omega⟩
  .rw[if_neg h1] at h;cases h
theorem g_ {α:Type}{xs:List α}{i:Int}{v:α}(h:yp xs i=some v):∃ j,seqIndex? i xs.length=some j/\xs[j]?=some v/\j<xs.length/\-(xs.length:Int)<=i/\i<xs.length:=by
 unfold yp at h;cases e:xm xs.length i with
 | none=>rw[e] at h;cases h
 | some j=>
  rw[e] at h;obtain⟨h1,h2,h3,h4⟩:=b8 e;exact⟨j,h1,h,h2,h3,h4⟩
theorem Zp {α:Type}(xs:List α) (v:α):yp (xs++[v]) (-1)=some v:=by
 have hl:(xs++[v]).length=xs.length+1:=by simp
 have e:xm (xs++[v]).length (-1)=some xs.length:=by
  unfold xm;rw[hl,if_neg (by decide),if_pos (by omega)];congr 1;omega
 unfold yp;rw[e];show (xs++[v])[xs.length]?=some v;simp
def Z5 (b:Expr):Prop:=∀ o i,subscripted b false o i=operate [o,i] (getItem o i)
def sk (X:Cx) (r:R2):Prop:=
 ∀ (value slice:Expr) (pins:List (Addr×Obj)) (s:Shared) (σ:St) (H:Hp) (x y:V) (v u:Value) (Q:VK),Inv X pins σ H s->RelV x v->RelV y u->r x y H Q->
  subscripted slice false v u=operate [v,u] (getItem v u)->wpAny (model X.prog X.w) X.A (subscriptTail value slice v u) (EP X pins σ Q) X.xe s
def Ph (X:Cx) (id:String) (r:V->List V->Hp->VK->Prop):Prop:=
 ∀ (pins:List (Addr×Obj)) (s:Shared) (σ:St) (H:Hp) (x:V) (xs:List V) (v:Value) (us:List Value) (Q:VK),Inv X pins σ H s->RelV x v->Vals xs us->r x xs H Q->
  wpAny (model X.prog X.w) X.A (call (.builtin id) (v::us)) (EP X pins σ Q) X.xe s
section
variable {X:Cx}{a b:Expr}{ta tb:TE}{pos:Pos}
theorem sk.or {r r':R2}(h:sk X r) (h':sk X r'):sk X (λ x y H Q=>r x y H Q\/r' x y H Q):=by
 intro value slice pins s σ H x y v u Q I rx ry q hs;rcases q with q | q
 .exact h value slice pins s σ H x y v u Q I rx ry q hs
 .exact h' value slice pins s σ H x y v u Q I rx ry q hs
theorem Vh {r:R2}(hr:sk X r) (ha:PE X a ta) (hb:PE X b tb) (hs:Z5 b):PE X (.Subscript a b pos) (ou r ta tb):=by
 intro pins s σ H Q I h;exact Subscript_ (gY ha hb I h λ v u s2 x y H2 I2 rx ry q=>hr a b pins s2 σ H2 x y v u Q I2 rx ry q (hs _ _))
def dH (K:PySem.W.Frag):R2:=λ x y H Q=>∃ p xs i v,x=.ref p/\y=.int i/\zV K H p xs/\yp xs i=some v/\Q v H
def dF (K:PySem.W.Frag):R2:=λ x y H Q=>∃ p xs i v,x=.ref p/\y=.int i/\zZ K H p xs/\yp xs i=some v/\Q v H
def dG:R2:=λ x y H Q=>∃ z i c,x=.str z/\y=.int i/\z.length<=sizeLine/\yp z.cps.toList i=some c/\Q (.str ⟨#[c]⟩) H
theorem S9:sk X (dH X.K):=by
 intro value slice pins s σ H x y v u Q I rx ry h hs;obtain⟨p,xs,i,z,rfl,rfl,hq,he,q⟩:=h;cases rx;obtain⟨t,rfl⟩:=ry;obtain⟨its,r,pl,hz⟩:=I.list hq;obtain⟨j,h1,h2,h3,h4,h5⟩:=g_ he;obtain⟨w,ew,rw'⟩:=r.get h2;have hl:=r.length;have hn:=qe;have fin:EP X pins σ Q w s:=⟨z,H,I,rw',q⟩
 by_cases h0:0<=i
 .have hj:i.toNat=j:=by
   rw[seqIndex_of h0 h5] at h1;exact Option.some.inj h1
  exact item_listR pl.isList h0 (by omega) (by rw[hj];simpa using ew) fin hs
 .have hj:(i+(its.toArray.size:Int)).toNat=j:=by
   rw[seqIndex_neg (by omega) h4] at h1;rw[List.size_toArray,<- hl];exact Option.some.inj h1
  exact subscriptTail_builtinR (x:=w) pl.isList.typeIs slot_list_getitem.lookup
   (wpAny_getItem_list_neg (Q:=λ r s'=>r=w/\EP X pins σ Q r s') pl.isList (by omega) (by rw[List.size_toArray] <;> omega) (by omega) (by rw[hj];simpa using ew) ⟨rfl,fin⟩) hs
theorem Sz:sk X (dF X.K):=by
 intro value slice pins s σ H x y v u Q I rx ry h hs;obtain⟨p,xs,i,z,rfl,rfl,hq,he,q⟩:=h;cases rx;obtain⟨t,rfl⟩:=ry;obtain⟨its,r,pl,hz⟩:=I.tuple hq;obtain⟨j,h1,h2,h3,h4,h5⟩:=g_ he;obtain⟨w,ew,rw'⟩:=r.get h2;have hl:=r.length;have hn:=qe;have fin:EP X pins σ Q w s:=⟨z,H,I,rw',q⟩
 exact subscriptTail_builtinR (x:=w) pl.typeIs slot_tuple_getitem.lookup
  (getItem_tuple (j:=j) (Q:=λ r s'=>r=w/\EP X pins σ Q r s') pl (by omega) (by omega) (by rw[List.size_toArray,<- hl];exact h1) (by simpa using ew) ⟨rfl,fin⟩) hs
theorem S7:sk X dG:=by
 intro value slice pins s σ H x y v u Q I rx ry h hs;obtain⟨z,i,c,rfl,rfl,hz,he,q⟩:=h;obtain⟨t,rfl⟩:=rx;obtain⟨t',rfl⟩:=ry;obtain⟨j,h1,h2,h3,h4,h5⟩:=g_ he;have hl:z.cps.toList.length=z.length:=by simp[Str.length]
 rw[hl] at h1 h4 h5;have hn:=qe;exact tail_any (typeIs_str s z t) slot_str_getitem.lookup (getItem_str (c:=c) (by
  have e1:decide (i < -(2 ^ 63:Int))=false:=decide_eq_false (by omega);have e2:decide (i≥2 ^ 63)=false:=decide_eq_false (by omega);rw[e1,e2,Bool.or_false]) (by rw[h1];simpa using h2) ⟨.str ⟨#[c]⟩,H,I.tok _,⟨_,rfl⟩,q⟩) hs
def dI (K:PySem.W.Frag):R2:=λ x y H Q=>dH K x y H Q\/dF K x y H Q\/dG x y H Q
theorem S8:sk X (dI X.K):=S9.or (Sz.or S7)
theorem TB (its:List Value) (n j:Nat) (u:Value):Obj.mapSeq (·.setIfInBounds j u) { cls:=.type "list",data:=.seq its.toArray n }={ cls:=.type "list",data:=.seq (its.set j u).toArray n }:=by
 simp[Obj.mapSeq]
theorem Inv.lst {pins:List (Addr×Obj)}{σ:St}{H:Hp}{s:Shared}{p:Addr}{xs:List V}(I:Inv X pins σ H s) (h:H p=some (.lst xs)):
  ∃ (its:List Value) (n:Nat),Vals xs its/\s.heap.get? p=some { cls:=.type "list",data:=.seq its.toArray n }/\xs.length<=sizeLine:=by
 obtain⟨z,its,n,r,e⟩:=I.zB p _ h;exact⟨its,n,r,e,z⟩
theorem Inv.TJ {pins:List (Addr×Obj)}{σ:St}{H:Hp}{s:Shared}{p:Addr}{xs ys:List V}{its its':List Value}{n n':Nat}{f:Obj->Obj}(I:Inv X pins σ H s) (h:H p=some (.lst xs))
  (ho:s.heap.get? p=some { cls:=.type "list",data:=.seq its.toArray n }) (hf:f { cls:=.type "list",data:=.seq its.toArray n }={ cls:=.type "list",data:=.seq its'.toArray n' }) (r:Vals ys its') (hz:ys.length<=sizeLine) (t:Nat):
  Inv X pins σ (upd H p (.lst ys)) { s with heap:=s.heap.update p f,toks:=t }:=by
 have e:(s.heap.update p f).get? p=some { cls:=.type "list",data:=.seq its'.toArray n' }:=by
  rw[Heap.get?_update_self f ho (by rw[hf] <;> rfl),hf]
 refine I.write (x:=p) (e:=p) (by rw[h];trivial) (.inl rfl) (λ b u hb q=>(Heap.get?_update_other _ _ (Ne.symm hb)).trans q) ⟨_,e⟩ ?_;exact⟨hz,its',n',r,e⟩
def Wn:V->V->V->Hp->(Hp->Prop)->Prop:=λ o i v H Q=>∃ p xs k j,o=.ref p/\i=.int k/\H p=some (.lst xs)/\xm xs.length k=some j/\Q (upd H p (.lst (xs.set j v)))
theorem set_list:Z6 X Wn:=by
 intro pins s σ H o i v ov iv u Q I ro ri rv h;obtain⟨p,xs,k,j,rfl,rfl,hp,hj,q⟩:=h;cases ro;obtain⟨t,rfl⟩:=ri;obtain⟨its,n,r,ho,hz⟩:=I.lst hp;obtain⟨h1,h2,h3,h4⟩:=b8 hj;have hl:=r.length;have hn:=qe;have I':Inv X pins σ (upd H p (.lst (xs.set j v))) { s with heap:=s.heap.update p (Obj.mapSeq (·.setIfInBounds j u)) }:=
  I.TJ hp ho (TB its n j u) (r.set rv j) (by rw[List.length_set];exact hz) s.toks
 by_cases h0:0<=k
 .have hk:k.toNat=j:=by
   rw[seqIndex_of h0 h4] at h1;exact Option.some.inj h1
  exact PySem.W.ki_setAt ho h0 (by omega) (by rw[List.size_toArray,<- hl];exact h4) (by rw[hk];exact⟨_,I',q⟩)
 .have hk:(k+(its.toArray.size:Int)).toNat=j:=by
   rw[seqIndex_neg (by omega) h3] at h1;rw[List.size_toArray,<- hl];exact Option.some.inj h1
  exact PySem.W.ki_setBack ho (by omega) (by rw[List.size_toArray,<- hl];exact h3) (by omega) (by rw[hk];exact⟨_,I',q⟩)
theorem QB:xg X (.builtin "len") (λ xs H Q=>∃ p ys,xs=[.ref p]/\(zV X.K H p ys\/zZ X.K H p ys)/\Q (.int ys.length) H):=by
 intro pins s σ H xs us Q I r h;obtain⟨p,ys,rfl,hq,q⟩:=h;obtain⟨u,rfl,rx⟩:=vals1 r;cases rx;have hn:=qe;rcases hq with hq | hq
 .obtain⟨its,r',pl,hz⟩:=I.list hq;have hlen:=r'.length;exact Calls.call_len_list pl.isList (by simp only[List.size_toArray] <;> omega) ⟨.int ys.length,H,I.tok _,⟨s.toks+1,by rw[List.size_toArray,hlen]⟩,q⟩
 .obtain⟨its,r',pl,hz⟩:=I.tuple hq;have hlen:=r'.length;exact len_tuple pl (by simp only[List.size_toArray] <;> omega) ⟨.int ys.length,H,I.tok _,⟨s.toks+1,by rw[List.size_toArray,hlen]⟩,q⟩
theorem QA:xg X (.builtin "len") (λ xs H Q=>∃ z,xs=[.str z]/\z.length<=sizeLine/\Q (.int z.length) H):=by
 intro pins s σ H xs us Q I r h;obtain⟨z,rfl,hz,q⟩:=h;obtain⟨u,rfl,t,rfl⟩:=vals1 r;have hn:=qe;exact len_str (by omega) ⟨.int z.length,H,I.tok _,⟨_,rfl⟩,q⟩
theorem xg.or {f:Value}{r r':List V->Hp->VK->Prop}(h:xg X f r) (h':xg X f r'):xg X f (λ xs H Q=>r xs H Q\/r' xs H Q):=by
 intro pins s σ H xs us Q I rs q;rcases q with q | q
 .exact h pins s σ H xs us Q I rs q
 .exact h' pins s σ H xs us Q I rs q
theorem Q8:xg X (.type "list") (λ xs H Q=>∃ p ys,xs=[.ref p]/\(zV X.K H p ys\/zZ X.K H p ys)/\∀ l,H l=none->Q (.ref l) (upd H l (.lst ys))):=by
 intro pins s σ H xs us Q I r h;obtain⟨p,ys,rfl,hq,q⟩:=h;obtain⟨u,rfl,rx⟩:=vals1 r;cases rx;have fin:∀ (its:List Value),Vals ys its->ys.length<=sizeLine->∀ (h':Heap) (c':Nat),(∀ b o',s.heap.get? b=some o'->h'.get? b=some o')->
   h'.get? s.heap.objs.size=some { cls:=.type "list",dict:=none,data:=.seq its.toArray c',slots:=#[] }->EP X pins σ Q (.ref s.heap.objs.size) { s with heap:=h' }:=λ its r' hz h' c' kp e=>
  ⟨.ref s.heap.objs.size,_,I.laid (t':=s.toks) kp (Nat.le_refl _) (show xn X.prog X.w _ h' _ (.lst ys) from ⟨hz,its,c',r',e⟩),rfl,q _ (I.zB.fresh (Nat.le_refl _))⟩
 rcases hq with hq | hq
 .obtain⟨its,r',pl,hz⟩:=I.list hq;have hlen:=r'.length;obtain⟨o,ho,hc,n,hd⟩:=pl.isList;exact call_list_seq p (.inl rfl) ho hc hd (λ h' c' kp e=>fin its r' hz h' c' kp e) (by simp only[List.size_toArray] <;> omega)
 .obtain⟨its,r',pl,hz⟩:=I.tuple hq;have hlen:=r'.length;obtain⟨o,ho,hc,n,hd⟩:=pl;exact call_list_seq p (.inr rfl) ho hc hd (λ h' c' kp e=>fin its r' hz h' c' kp e) (by simp only[List.size_toArray] <;> omega)
theorem Qz:xg X (.type "tuple") (λ xs H Q=>∃ p ys,xs=[.ref p]/\((zV X.K H p ys/\∀ l,H l=none->Q (.ref l) (upd H l (.tup ys)))\/(zZ X.K H p ys/\Q (.ref p) H))):=by
 intro pins s σ H xs us Q I r h;obtain⟨p,ys,rfl,h⟩:=h;obtain⟨u,rfl,rx⟩:=vals1 r;cases rx;rcases h with ⟨hq,q⟩ | ⟨hq,q⟩
 .obtain⟨its,r',pl,hz⟩:=I.list hq;have hlen:=r'.length;refine call_tuple_list pl.isList (λ h' kp=>?_) (by simp only[List.size_toArray] <;> omega);have I1:Inv X pins σ H { s with heap:=h' }:=I.kept (t':=s.toks) kp;have I2:Inv X pins σ (upd H h'.objs.size (.tup ys)) { s with heap:=h'.push { cls:=.type "tuple",data:=.seq its.toArray } }:=
   I1.laid (t':=s.toks) (λ b o e=>zHp _ e) (Nat.le_refl _) (show xn X.prog X.w _ _ _ (.tup ys) from ⟨hz,its,r',IsTup.new _ _⟩)
  exact⟨.ref h'.objs.size,_,I2,rfl,q _ (I1.zB.fresh (Nat.le_refl _))⟩
 .obtain⟨its,r',pl,hz⟩:=I.tuple hq;exact call_tuple_same pl ⟨.ref p,H,I,rfl,q⟩
def eM (K:PySem.W.Frag) (T:String) (x:V) (H:Hp):Prop:=match x with
 | .str _=>T="str"
 | .int _=>T="int"
 | .ref p=>(T="list"/\∃ xs,zV K H p xs)\/(T="tuple"/\∃ o,K.lookup p=some o/\o.cls=.type "tuple"/\o.dict=none)\/
   (T="dict"/\((∃ kvs,H p=some (.dK kvs))\/∃ kvs,H p=some (.dT kvs)))\/(T="set"/\∃ S n,H p=some (.set S n))
 | _=>False
theorem YV {pins:List (Addr×Obj)}{σ:St}{H:Hp}{s:Shared}{T:String}{x:V}{v:Value}(I:Inv X pins σ H s) (r:RelV x v) (ty:eM X.K T x H):
  s.TypeIs v T/\∀ a,v=.ref a->∃ ob,s.heap.get? a=some ob/\ob.dict=none:=by
 cases x with
 | str z=>
  obtain⟨t,rfl⟩:=r;cases (show T="str" from ty);exact⟨typeIs_str s z t,λ _ e=>nomatch e⟩
 | int i=>
  obtain⟨t,rfl⟩:=r;cases (show T="int" from ty);exact⟨typeIs_int s i t,λ _ e=>nomatch e⟩
 | ref p=>
  cases r;rcases ty with ⟨rfl,xs,hq⟩ | ⟨rfl,o,hk,hc,hd⟩ | ⟨rfl,hk⟩ | ⟨rfl,S,n,hk⟩
  .obtain⟨its,_,pl,_⟩:=I.list hq;refine⟨pl.isList.typeIs,λ a e=>?_⟩;cases e;obtain⟨o,n,e,c,hd,_⟩:=pl;exact⟨o,e,hd⟩
  .refine⟨⟨o,I.vF p o hk,hc⟩,λ a e=>?_⟩;cases e;exact⟨o,I.vF _ o hk,hd⟩
  .have z:∃ o,s.heap.get? p=some o/\o.ExactDict:=by
    rcases hk with ⟨kvs,hk⟩ | ⟨kvs,hk⟩
    .obtain⟨_,_,_,_,o,_,_,e,ex,_⟩:=I.zB p _ hk;exact⟨o,e,ex⟩
    .obtain⟨_,_,_,_,o,_,_,e,ex,_⟩:=I.zB p _ hk;exact⟨o,e,ex⟩
   obtain⟨o,e,ex⟩:=z;refine⟨⟨o,e,ex.1⟩,λ a e2=>?_⟩;cases e2;exact⟨o,e,ex.2.1⟩
  .obtain⟨o,_,_,_,e,ex,_⟩:=I.zB p _ hk;refine⟨⟨o,e,ex.1⟩,λ a e2=>?_⟩;cases e2;exact⟨o,e,ex.2.1⟩
 | _=>exact False.elim ty
def ji (K:PySem.W.Frag) (T:String) (r:V->List V->Hp->VK->Prop) (to:TE) (t:TA):TE:=fun σ H Q=>to σ H λ x H1=>eM K T x H1/\t σ H1 λ xs H2=>r x xs H2 Q
variable {o e:Expr}{es:List Expr}{to:TE}{t:TA}{name:Str}{apos cpos:Pos}{T id:String}{r:V->List V->Hp->VK->Prop}
theorem cn (pa:PlainAttrs T) (slot:Slot T name id) (hty:typeOf (.builtin id)=pure (.type "method_descriptor")) (hm:Ph X id r) (ho:PE X o to) (ha:PA X (e::es) t)
  (hbase:attributeBase o name X.env (eval o X.env)=eval o X.env:=by rfl)
  (hfew:((backTo cpos (starEach (e::es) X.env)).all (λ x=>!x.1)&&(backToKw cpos (keywordEach [] X.env)).all (λ x=>x.1.isSome)
   && decide ((e::es).length+([]:List Keyword).length+(if ([]:List Keyword).isEmpty then 0 else 1)<30))=true:=by rfl)
  (hline:(apos.endLine == cpos.line)=true:=by rfl) (hs:starEach (e::es) X.env=(false,eval e X.env)::starEach es X.env:=by rfl) (hplain:(backTo cpos (starEach es X.env)).any (·.1)=false:=by rfl):
  PE X (.Call (.Attribute o name apos) (e::es) [] cpos) (ji X.K T r to t):=by
 intro pins s σ H Q I h;refine wpAny_Call_method_late hbase hfew hline rfl (zK (ho pins s σ H _ I h) λ v s1 ⟨x,H1,I1,r1,ty,q1⟩=>?_);obtain⟨h1,h2⟩:=YV I1 r1 ty;refine⟨T,id,pa,slot,hty,h1,h2,?_⟩;have hA:=ha cpos pins s1 σ H1 _ I1 q1;rw[hs] at hA ⊢;refine Calls.callWith_builtin (by show (false||(backTo cpos (starEach es X.env)).any (·.1))=false;rw[hplain] <;> rfl) (Calls.evalArgs_plain ?_);exact zK hA λ us s2 ⟨vs,H2,I2,r2,q2⟩=>hm pins s2 σ H2 x vs v us Q I2 r1 r2 q2
end
end L2
namespace L2
open PySem PySem.Spec PyProof.Rows
def ZA (X:Cx) (id:String) (r:V->List V->Hp->VK->Prop):Prop:=
 ∀ (pins:List (Addr×Obj)) (s:Shared) (σ:St) (H:Hp) (x:V) (xs:List V) (v:Value) (us:List Value) (Q:VK),Inv X pins σ H s->RelV x v->Vals xs us->r x xs H Q->
  wpAny (model X.prog X.w) X.A (call (.builtin id) (v::us)) (EP X pins σ Q) X.xe s
theorem Vals.one:∀ {x:V}{us:List Value},Vals [x] us->∃ u,us=[u]/\RelV x u
 | _,_,.cons r .nil=>⟨_,rfl,r⟩
theorem Vals.rep {xs:List V}{us:List Value}(h:Vals xs us):∀ k:Nat,Vals (List.replicate k xs).flatten (List.replicate k us).flatten
 | 0=>.nil
 | k+1=>by
  rw[List.replicate_succ,List.replicate_succ,List.flatten_cons,List.flatten_cons];exact Vals.append h (Vals.rep h k)
section
variable {X:Cx}{pins:List (Addr×Obj)}{σ:St}{H:Hp}{s:Shared}{l b:Addr}{xs ys zs:List V}
theorem Inv.cX {its its':List Value}{n:Nat}{f:Array Value->Array Value}{t':Nat}(I:Inv X pins σ H s) (hH:H l=some (.lst xs))
  (e:s.heap.get? l=some { cls:=.type "list",data:=.seq its.toArray n }) (hf:f its.toArray=its'.toArray) (hv:Vals ys its') (hz:ys.length<=sizeLine):
  Inv X pins σ (upd H l (.lst ys)) { s with heap:=s.heap.update l (Obj.mapSeq f),toks:=t' }:=by
 have q:=PySem.IsL.update e f;rw[hf] at q;refine I.write (x:=l) (e:=l) (by rw[hH];exact trivial) (.inl rfl) (λ b' u hb hu=>(Heap.get?_update_other s.heap (Obj.mapSeq f) (Ne.symm hb)).trans hu) ⟨_,q⟩ ?_;exact⟨hz,its',_,hv,q⟩
theorem Inv.TL {its:List Value}{t':Nat}(I:Inv X pins σ H s) (hv:Vals ys its) (hz:ys.length<=sizeLine):
  Inv X pins σ (upd H s.heap.objs.size (.lst ys)) { s with heap:=s.heap.push { cls:=.type "list",data:=.seq its.toArray },toks:=t' }:=
 I.laid (λ _ _ q=>zHp _ q) (Nat.le_refl _) ⟨hz,its,0,hv,Heap.get?_push_size _ rfl⟩
theorem Inv.fresh (I:Inv X pins σ H s):H s.heap.objs.size=none:=I.zB.fresh (Nat.le_refl _)
theorem Inv.iH (I:Inv X pins σ H s) (hH:H l=some (.lst xs)):xs.length<=sizeLine/\∃ (its:List Value) (n:Nat),Vals xs its/\xs.length=its.length/\s.heap.get? l=some { cls:=.type "list",data:=.seq its.toArray n }:=by
 obtain⟨z,its,n,r,e⟩:=I.zB l _ hH;exact⟨z,its,n,r,r.length,e⟩
theorem Te {n:Nat}(h:n<=sizeLine):Builtin.List.listTooLong n=false:=by
 unfold Builtin.List.listTooLong;exact decide_eq_false (by omega)
end
section
variable {X:Cx}
def dR:V->List V->Hp->VK->Prop:=λ x vs H Q=>∃ l xs y,x=.ref l/\vs=[y]/\H l=some (.lst xs)/\xs.length<sizeLine/\Q .zh (upd H l (.lst (xs++[y])))
theorem cV:ZA X "list.append" dR:=by
 intro pins s σ H x vs v us Q I rx rv h;obtain⟨l,xs,y,rfl,rfl,hH,hz,q⟩:=h;cases rx;obtain⟨u,rfl,ru⟩:=rv.one;obtain⟨z,its,n,r,hl,e⟩:=I.iH hH;refine call_meets F.slot_list_append ⟨_,e,rfl⟩ F.entry_list_append (F.args_list_append_2 _ _) (PySem.list_append l its.toArray n u (by rw[List.size_toArray];omega)) ⟨e,?_⟩;refine⟨.zh,_,I.cX (its':=its++[u]) hH e (by simp) (r.append (.cons ru .nil)) ?_,rfl,q⟩;rw[List.length_append,List.length_singleton];omega
def dM:V->List V->Hp->VK->Prop:=λ x vs H Q=>∃ l b xs zs,x=.ref l/\vs=[.ref b]/\H l=some (.lst xs)/\H b=some (.lst zs)/\xs.length+zs.length<=sizeLine/\Q .zh (upd H l (.lst (xs++zs)))
theorem Tz:ZA X "list.extend" dM:=by
 intro pins s σ H x vs v us Q I rx rv h;obtain⟨l,b,xs,zs,rfl,rfl,hH,hB,hz,q⟩:=h;cases rx;obtain⟨u,rfl,ru⟩:=rv.one;cases ru;obtain⟨z,its,n,r,hl,e⟩:=I.iH hH;obtain⟨z2,its2,n2,r2,hl2,e2⟩:=I.iH hB;have hsz:its.toArray.size+its2.toArray.size<=sizeLine:=by rw[List.size_toArray,List.size_toArray];omega
 have hlong:¬ (!its.toArray.isEmpty&&Builtin.List.listTooLong (its.toArray.size+its2.toArray.size))=true:=by
  rw[Te hsz,Bool.and_false];exact Bool.false_ne_true
 refine call_meets F.slot_list_extend ⟨_,e,rfl⟩ F.entry_list_extend (F.args_list_extend_2 _ _)
  (AutoSeq1.list_extend_list_list_0 l its.toArray n b its2.toArray n2 hlong (by rw[List.size_toArray];omega) (by omega)) ⟨e,e2,?_⟩
 refine⟨.zh,_,I.cX (its':=its++its2) hH e (by simp) (r.append r2) ?_,rfl,q⟩;rw[List.length_append];omega
end
section
variable {prog:Program}{w:World}{A:Around}{E:Value->Shared->Prop}{s:Shared}
end
section
variable {X:Cx}
end
end L2
namespace Y7
open PySem PySem.W PySem.Calls PyProof.Rows
theorem SU {P:Params}{h:Heap}:∀ (ns:List Int) (vs:List Value),WellAll P h vs (ns.map WData.int)->IntsAre vs ns:=by
 intro ns
 induction ns with
 | nil=>
  intro vs w;rw[List.map_nil] at w;cases w;exact .nil
 | cons n ns ih=>
  intro vs w;rw[List.map_cons] at w;cases w with
  | cons a b=>
   cases a;exact .cons _ _ (ih _ b)
theorem XG {l:OpenLaw}{n:Nat}(hn:l.most=some n) {P:Params}{h:Heap}{args:List WData}{vals:List Value}
  (hpre:l.row.toRowW.claim.pre args=true) (hwl:WellAll P h vals args):
  ∃ a vs ns,vals=[Value.ref a]/\args=[WData.list (ns.map WData.int)]/\h.get? a=some { cls:=.type "list",data:=.seq vs.toArray }/\IntsAre vs ns/\ns.length<=n:=by
 have hsh:WShape.hasAll [] args [.list .int]=true:=(pre_splitW hpre).1;have hc:l.pre.holds [] { args:=args }=true:=(pre_splitW hpre).2;obtain⟨d,r,rfl,h1,h2⟩:=hasAllW_cons hsh;obtain rfl:=hasAllW_nil h2;obtain⟨xs,rfl,h3⟩:=hasW_list h1;obtain⟨ns,rfl⟩:=items_int h3;have hlen:ns.length<=n:=by
  unfold OpenLaw.pre at hc;have h4:(WTm.not (.lt (.lit (.int (n:Int))) (.len (.arg 0)))).holds [] { args:=[.list (ns.map .int)] }=true:=by
   have h4:=(holds_andW hc).1;rw[hn] at h4;exact h4
  have h5:=condW_of h4 (w_not (w_lt w_lit (w_len_list (w_arg rfl))));rw[List.length_map] at h5;refine Nat.le_of_not_lt λ q=>?_;have q':(n:Int)<((ns.length:Nat):Int):=by omega
  first
   | (rw[decide_eq_true q'] at h5;exact absurd h5 (by decide))
   | (simp at h5;omega)
 cases hwl with
 | cons w1 w2=>
  cases w2;cases w1 with
  | list ho hall=>exact⟨_,_,ns,rfl,rfl,ho,SU ns _ hall,hlen⟩
theorem WD (l:OpenLaw) (args:List WData):l.row.toRowW.claim.post args (.bool true) args=true:=
 postW_of (r:=l.row.toRowW) (X:=(true == true))
  (show WShape.has [] (.bool true) .bool=true by first | rfl | decide | simp[WShape.has,WShape.arms,WShape.armsAll])
  (show (WTm.eq .res (.lit (.bool true))).value [] { args:=args,res:=some (.bool true),after:=args }=some (.bool (true == true)) from w_eq_bool (w_res rfl) w_lit) rfl
theorem QR {l:OpenLaw}{n:Nat}{q:Program}{loose:List Str}{XP:(Str->Option Value)->Heap->Prop}{YP:World->Heap->Prop}{d:DefRec}
  (hn:l.most=some n) (hdf:d.params.defaults=[])
  (call:∀ (w:World) (s₀ s₁:Shared) (mg mb:Str->Option Value) (fa:Addr) (o:Obj) (pm cd doc:Value) (a:Addr) (vs:List Value) (ns:List Int),
   Ground q loose [] XP w s₀ mg mb s₁.heap->YP w s₁.heap->
   s₁.heap.get? fa=some o->o.data=.func (docDef d.name d.params d.body d.scope pm cd doc)->s₁.heap.CodeRec cd d.name->mg d.name=some (.ref fa)->
   s₁.heap.get? a=some { cls:=.type "list",data:=.seq vs.toArray }->IntsAre vs ns->ns.length<=n->s₁.gens=#[]->
   codeAny (model l.prog w) callerA (.call (.ref fa) ⟨[.ref a],[]⟩) (λ r s'=>r=.ok (.ret (.bool true))/\OldK s₁.heap s'.heap/\s'.os=s₁.os/\AllBare s'.gens) s₁):
  WalkO q loose XP YP l.row.toRowW d [] (λ f vs=>PySem.call f vs):=by
 intro w s₀ s₁ mg mb G Y fa o pm cd doc dV kV ho hd hcd hD hmg hg args vals as hpre hlay hrd hwl hlo;obtain rfl:dV=.none:=Dflts.none hD hdf;obtain rfl:kV=.none:=Dflts.noKw hD;obtain⟨a,vs,ns,rfl,rfl,hobj,hints,hlen⟩:=XG hn hpre hwl;refine enter_call (codeAny_mono (call w s₀ s₁ mg mb fa o pm cd doc a vs ns G Y ho (fd_plain hd) hcd hmg hobj hints hlen hg) λ r s' hq=>?_);obtain⟨rfl,h2,h3,h4⟩:=hq;exact⟨.inl ⟨.bool true,.bool true,[],rfl,λ _=>rfl,.bool true,WD l _,λ _=>⟨List.Pairwise.nil,λ _ hm=>(nomatch hm)⟩⟩,h2,h3,h4⟩
section
variable {prog:Program}{w:World}{A:Around}{E:Value->Shared->Prop}{s:Shared}{K:Frag}
end
end Y7
namespace L2
open PySem PySem.Spec PyProof.Rows
theorem eC:∀ {vs:List Value}{ns:List Int},IntsAre vs ns->Vals (ns.map V.int) vs
 | _,_,.nil=>.nil
 | _,_,.cons n t h=>.cons ⟨t,rfl⟩ (eC h)
def kJ (H:Hp):Prop:=∀ b,H b=none\/∃ o xs,H b=some (.wo o (.lst xs))
theorem Sg {P:Program}{w:World}{K:PySem.W.Frag}{mg mb:Str->Option Value}{CX:uK}{k:Nat}{fa a:Addr}{fd:FuncData}{x:Str}{sp:Sp}{s₁:Shared}{vs:List Value}{ns:List Int}
  (KX:K.In s₁.heap) (hns:s₁.heap.Ns mainGlobals mg) (hb:s₁.heap.Ns builtinsNs mb) (hbb:∀ x:Str,x≠"__name__"->mb x=bootBuiltins x) (hlim:s₁.heap.NoLimit) (hg:s₁.gens=#[])
  (ha:s₁.heap.get? a=some { cls:=.type "list",data:=.seq vs.toArray }) (hi:IntsAre vs ns) (hl:ns.length<=sizeLine) (hr:y8 k callerA)
  (F:∀ base:Heap,K.In base->base.Ns mainGlobals mg->uv P w K mg base CX k fa fd [x] sp) (hbind:∀ (s:Shared) (u:Value),BindsTo s fd ⟨[u],[]⟩ [(x,u)])
  (hsp:∀ H:Hp,kJ H->zV K H a (ns.map V.int)->sp [.ref a] H (λ v _=>v=.bl true) λ _ _ _=>False)
  (hCX:∀ H e s',CX [] H s₁ (λ _ _ _=>False) e s'->False):
  codeAny (model P w) callerA (.call (.ref fa) ⟨[.ref a],[]⟩) (λ r s'=>r=.ok (.ret (.bool true))/\OldK s₁.heap s'.heap/\s'.os=s₁.os/\AllBare s'.gens) s₁:=by
 have rv:=eC hi;have lenV:=hi.length;have core:∀ H:Hp,kJ H->zV K H a (ns.map V.int)->yX P w H s₁.heap->(∀ b,H b≠none->b=a)->(H a≠none->K.lookup a=none)->
   codeAny (model P w) callerA (.call (.ref fa) ⟨[.ref a],[]⟩) (λ r s'=>r=.ok (.ret (.bool true))/\OldK s₁.heap s'.heap/\s'.os=s₁.os/\AllBare s'.gens) s₁:=by
  intro H hO hS zB hA hK;have base_of:∀ {b:Addr}{o:Obj},s₁.heap.get? b=some o->H b=none->(tT s₁.heap H).get? b=some o:=λ e n=>Rf e n;have noA:∀ {b:Addr}{o:Obj}{es:Array DictEntry}{ep:Nat},s₁.heap.get? b=some o->o.data=.dict es ep->H b=none:=λ{b o es ep} e d=>by
   cases q:H b with
   | none=>rfl
   | some u=>
    have e':b=a:=hA b (by rw[q];simp);subst e';rw[ha] at e;cases e;have d':Data.seq vs.toArray _=Data.dict es ep:=d;cases d'
  have nsK:∀ {b:Addr}{m:Str->Option Value},s₁.heap.Ns b m->(tT s₁.heap H).Ns b m:=λ{b m} ⟨o,es,ep,e,d,r⟩=>⟨o,es,ep,base_of e (noA e d),d,r⟩;have hKb:K.In (tT s₁.heap H):=λ b o e=>base_of (KX b o e) (by
   cases q:H b with
   | none=>rfl
   | some u=>
    have e':b=a:=hA b (by rw[q];simp);subst e';rw[hK (by rw[q];simp)] at e;cases e)
  have hM:Mod K mg (tT s₁.heap H):=⟨hKb,nsK hns,⟨mb,nsK hb,hbb⟩,let ⟨mc,h1,h2⟩:=hlim;⟨mc,nsK h1,h2⟩⟩
  have e0:kS P w K mg (tT s₁.heap H) callerA [] s₁ H:=⟨rfl,hM,λ b o e=>Tb e,Nat.le_of_eq (Rc _ _),trivial,λ b hb=>absurd (show b∈([]:List Addr) from hb) (by simp),zB,.of_eq hg⟩
  refine codeAny_mono ((F _ hKb (nsK hns)).run callerA [] s₁ H ⟨[.ref a],[]⟩ [.ref a] [.ref a] _ _ hr e0 (hbind s₁ (.ref a)) (.cons rfl .nil) (hsp H hO hS)) λ r s' h=>?_;cases r with
  | error e=>exact (hCX H e s' h).elim
  | ok fl=>
   cases fl with
   | next=>exact False.elim h
   | brk=>exact False.elim h
   | cont=>exact False.elim h
   | ret u=>
    obtain⟨v,H',os,bare,un,hok',r',q⟩:=h;have q':v=.bl true:=q;subst q';obtain rfl:u=Value.bool true:=r';refine⟨rfl,OldK.of_keep λ b o e=>?_,os,bare⟩;cases q:H b with
    | none=>exact un.keep b o e q (by intro z;exact absurd (show b∈([]:List Addr) from z) (by simp)) (by simp)
    | some u=>
     rcases hO b with z | ⟨ob,xs,z⟩
     .rw[q] at z;cases z
     .have z2:=un.tV b ob _ z;obtain⟨e1,_⟩:=zB b _ z;obtain⟨e2,_⟩:=hok' b _ z2;rw[e] at e1;cases e1;exact e2
 cases hk:K.lookup a with
 | some o=>
  have e:=KX a o hk;rw[ha] at e;cases e;refine core (λ _=>none) (λ _=>.inl rfl) (.inr ⟨_,vs.toArray,_,hk,rfl,rfl,rfl,by rw[List.size_toArray,lenV];exact hl,by simpa using rv⟩) (λ b u z=>by have z':(none:Option HO)=some u:=z;cases z') (λ b z=>absurd rfl z) λ z=>absurd rfl z
 | none=>
  refine core (λ b=>if b=a then some (.wo { cls:=.type "list",data:=.seq vs.toArray } (.lst (ns.map V.int))) else none) (λ b=>?_) (.inl (.inr ⟨{ cls:=.type "list",data:=.seq vs.toArray },if_pos rfl⟩)) (λ b u z=>?_) (λ b z=>?_) λ _=>hk
  .by_cases hb:b=a
   .exact .inr ⟨_,_,if_pos hb⟩
   .exact .inl (if_neg hb)
  .by_cases hb:b=a
   .have z':=(if_pos hb).symm.trans z;cases z';subst hb;exact⟨ha,by rw[List.length_map];exact hl,vs,_,rv,ha⟩
   .have z':=(if_neg hb).symm.trans z;cases z'
  .by_cases hb:b=a
   .exact hb
   .exact absurd (if_neg hb) z
end L2
namespace L2
open PySem PySem.Spec PyProof.Rows
theorem YK {l:PySem.W.OpenLaw}{n k:Nat}{q:Program}{loose:List Str}{XP:(Str->Option Value)->Heap->Prop}{YP:World->Heap->Prop}{d:DefRec}{K:Params->PySem.W.Frag}{CX:World->uK}{sp:World->Sp}{x:Str}
  (hn:l.most=some n) (hn2:n<=sizeLine) (hdf:d.params.defaults=[]) (hr:y8 k callerA)
  (hY:∀ (w:World) (h:Heap),YP w h->(K w.params).In h)
  (F:∀ (w:World) (mg:Str->Option Value) (fa:Addr) (h:Heap),(K w.params).In h->h.Ns mainGlobals mg->mg d.name=some (.ref fa)->
   ∃ fd:FuncData,(∀ (s:Shared) (u:Value),BindsTo s fd ⟨[u],[]⟩ [(x,u)])/\
    ∀ base:Heap,(K w.params).In base->base.Ns mainGlobals mg->uv l.prog w (K w.params) mg base (CX w) k fa fd [x] (sp w))
  (hsp:∀ (w:World) (H:Hp) (a:Addr) (ns:List Int),ns.length<=n->kJ H->zV (K w.params) H a (ns.map V.int)->sp w [.ref a] H (λ v _=>v=.bl true) λ _ _ _=>False)
  (hCX:∀ (w:World) (H:Hp) (s:Shared) (e:Value) (s':Shared),CX w [] H s (λ _ _ _=>False) e s'->False):
  PySem.W.WalkO q loose XP YP l.row.toRowW d [] (λ f vs=>PySem.call f vs):=by
 refine Y7.QR hn hdf λ w s₀ s₁ mg mb fa o pm cd doc a vs ns G Y ho hd hcd hmg hobj hints hlen hg=>?_;have KX:=hY w _ Y;obtain⟨fd,hb,hF⟩:=F w mg fa _ KX G.T.g hmg;exact Sg KX G.T.g G.T.b G.T.builtins G.T.nolimit hg hobj hints (Nat.le_trans hlen hn2) hr hF hb (λ H hO hS=>hsp w H a ns hlen hO hS) λ H e s'=>hCX w H s₁ e s'
end L2
namespace L2
open PySem PySem.Spec PyProof.Rows
noncomputable def tZ (s:Stmt):Arguments:=match s with
 | .FunctionDef _ a _ _ _ _ _ _ _ _=>a
 | _=>{ posonlyargs:=[],args:=[],vararg:=none,kwonlyargs:=[],kw_defaults:=[],kwarg:=none,defaults:=[] }
noncomputable def vt (s:Stmt):List Stmt:=match s with
 | .FunctionDef _ _ b _ _ _ _ _ _ _=>b
 | _=>[]
noncomputable def zO (s:Stmt):Scope:=match s with
 | .FunctionDef _ _ _ _ _ _ sc _ _ _=>sc
 | _=>{ kind:=.function,names:=[],isGenerator:=false,isCoroutine:=false }
abbrev vz:uK:=λ _ _ _ _ _ _=>False
abbrev E0:XK:=λ _ _ _=>False
theorem VP {X:Cx}:Passes vz X E0:=λ _ _ _ _ _ _ _ h=>h.elim
structure uI (K:PySem.W.Frag) (x qual:Str) (st:Stmt) (f:Addr) (fd:FuncData):Prop where
 ex:∃ (oc:Value) (od:Option Addr) (kV doc pm:Value) (an:Option Addr) (cdv ct:Value) (osl:Array (Option Value)),
  fd=PySem.W.fnOf x qual (tZ st) (vt st) (zO st) .none kV doc pm an cdv ct/\K.lookup f=some ⟨oc,od,.func fd,osl⟩/\PySem.W.codeIn K cdv qual=true
 kp:PySem.W.keepIn K (.ref f)=true
section
variable {P:Program}{w:World}{K:PySem.W.Frag}{mg:Str->Option Value}{base:Heap}
theorem uI.ok {x qual:Str}{st:Stmt}{f:Addr}{fd:FuncData}{N ps:List Str}{k:Nat}{sp:Sp}(F:uI K x qual st f fd) (S:yz N ps (zO st)) (len:∀ vs H Q E,sp vs H Q E->vs.length=ps.length)
  (hbody:∀ (cdv:Value) (A:Around) (outer:List Env) (s:Shared) (H:Hp) (vs:List V) (Q:VK) (E:XK),y8 k (A.deeper (envOfC qual (zO st) s.heap.objs.size f cdv))->sp vs H Q E->
   ∃ t,xX (tu vz P w K mg base N qual (zO st) f cdv A outer s H E).sP (vt st) t/\t { nx:=λ _ H'=>Q .zh H',rt:=Q } (start N vs) H):uv P w K mg base vz (k+1) f fd ps sp:=by
 obtain⟨oc,od,kV,doc,pm,an,cdv,ct,osl,rfl,lk,hcd⟩:=F.ex;refine Ry lk hcd S len λ A outer s H vs Q E hr hsp=>?_;obtain⟨t,h,q⟩:=hbody cdv A outer s H vs Q E hr hsp;exact⟨t,h.sP,q⟩
theorem uI.binds {x qual:Str}{st:Stmt}{f:Addr}{fd:FuncData}{ps:List Str}(F:uI K x qual st f fd)
  (h:∀ (kV doc pm:Value) (an:Option Addr) (cdv ct:Value) (us:List Value),us.length=ps.length->bindArgs (PySem.W.fnOf x qual (tZ st) (vt st) (zO st) .none kV doc pm an cdv ct) ⟨us,[]⟩=pure (ps.zip us)):Binds K fd ps []:=by
 obtain⟨oc,od,kV,doc,pm,an,cdv,ct,osl,rfl,lk,hcd⟩:=F.ex;exact .all (h kV doc pm an cdv ct)
theorem b_ {x qual:Str}{st:Stmt}{f:Addr}{oc:Value}{od an:Option Addr}{osl:Array (Option Value)}{kV doc pm cdv ct:Value}(l:K.lookup f=some ⟨oc,od,.func (PySem.W.fnOf x qual (tZ st) (vt st) (zO st) .none kV doc pm an cdv ct),osl⟩)
  (c:PySem.W.codeIn K cdv qual=true) (k:PySem.W.keepIn K (.ref f)=true):uI K x qual st f (PySem.W.fnOf x qual (tZ st) (vt st) (zO st) .none kV doc pm an cdv ct):=⟨⟨oc,od,kV,doc,pm,an,cdv,ct,osl,rfl,l,c⟩,k⟩
end
theorem iZ {A:Around}{k:Nat}(hr:y8 k A):A.units+1<cLine:=Nat.lt_of_le_of_lt (Nat.add_le_add_left (by decide:1<=64) _) hr.units
section
variable {X:Cx}
theorem pv (i:Nat) {x:Str}{pos:Pos}(hN:X.N[i]?=some x:=by rfl) (hv:fm X.env.scope x:=by first | exact Or.inl rfl | exact Or.inr (Or.inl rfl) | exact Or.inr (Or.inr rfl)) (hd:(x == ("__debug__":Str))=false:=by decide)
  (hcd:(x == ("__classdict__":Str))=false:=by decide):PE X (.Name x pos) (je i):=WY hN hv hd hcd
end
end L2
namespace PySem
theorem gS {env:Env}:∀ (l:List (Str×NameKind)) (acc:List (Str×Addr)),(∀ y∈l,y.2=.free->∃ c,env.cells.lookup y.1=some c)->
  ∃ cl,(forIn l acc (λ(x:Str×NameKind) r=>if (x.2 == NameKind.free)=true then do let a <- cellOf env x.1;pure (ForInStep.yield ((x.1,a)::r)) else pure (ForInStep.yield r)):Sem (List (Str×Addr)))=pure cl/\
   (∀ x c,cl.lookup x=some c->acc.lookup x=some c\/((x,NameKind.free)∈l/\env.cells.lookup x=some c))/\(∀ x,(x,NameKind.free)∈l\/(acc.lookup x).isSome->(cl.lookup x).isSome)
 | [],acc,_=>⟨acc,rfl,λ x c h=>.inl h,λ x h=>by simpa using h⟩
 | (n,k)::l,acc,h=>by
  by_cases hk:k=.free
  .subst hk;obtain⟨c,hc⟩:=h (n,.free) zMc rfl;obtain⟨cl,e1,e2,e3⟩:=gS l ((n,c)::acc) λ y hy=>h y (zMo _ hy);refine⟨cl,?_,λ x d hx=>?_,λ x hx=>?_⟩
   .rw[List.forIn_cons];simp only[beq_self_eq_true,if_true,cellOf,hc];exact e1
   .rcases e2 x d hx with q | ⟨q1,q2⟩
    .rw[List.lookup_cons] at q;cases hxn:x == n with
     | true=>
      rw[hxn] at q;have:x=n:=by simpa using hxn
      subst this;refine .inr ⟨zMc,?_⟩;rw[hc];exact q
     | false=>rw[hxn] at q;exact .inl q
    .exact .inr ⟨zMo _ q1,q2⟩
   .refine e3 x ?_;rcases hx with hx | hx
    .rcases List.mem_cons.mp hx with q | q
     .have:x=n:=congrArg Prod.fst q;subst this;exact .inr (by simp[List.lookup_cons])
     .exact .inl q
    .refine .inr ?_;rw[List.lookup_cons];cases x == n <;> simp[hx]
  .have hb:(k == NameKind.free)=false:=by simpa using hk
   obtain⟨cl,e1,e2,e3⟩:=gS l acc λ y hy=>h y (zMo _ hy);refine⟨cl,?_,λ x d hx=>?_,λ x hx=>?_⟩
   .rw[List.forIn_cons];simp only[hb,Bool.false_eq_true,if_false];exact e1
   .rcases e2 x d hx with q | ⟨q1,q2⟩
    .exact .inl q
    .exact .inr ⟨zMo _ q1,q2⟩
   .refine e3 x ?_;rcases hx with hx | hx
    .rcases List.mem_cons.mp hx with q | q
     .exact absurd (congrArg Prod.snd q).symm hk
     .exact .inl q
    .exact .inr hx
theorem aX {scope:Scope}{env:Env}(h:∀ y∈scope.names,y.2=.free->∃ c,env.cells.lookup y.1=some c):
  ∃ cl,closureFor scope env=pure cl/\(∀ x c,cl.lookup x=some c->(x,NameKind.free)∈scope.names/\env.cells.lookup x=some c)/\∀ x,(x,NameKind.free)∈scope.names->(cl.lookup x).isSome:=by
 obtain⟨cl,e1,e2,e3⟩:=gS (env:=env) scope.names [] h;refine⟨cl,?_,λ x c hx=>?_,λ x hx=>e3 x (.inl hx)⟩
 .simp only[closureFor];rw[e1];rfl
 .rcases e2 x c hx with q | q
  .simp at q
  .exact q
theorem c_ {env:Env}:∀ {names:List (Str×NameKind)}{x:Str},names.lookup x=some .free->
  (names.map λ(n,k)=>if (k == NameKind.free&&env.scope.kind == .function&&env.kindOf n == some .cell) then (n,NameKind.cell) else (n,k)).lookup x=some .cell\/
  (names.map λ(n,k)=>if (k == NameKind.free&&env.scope.kind == .function&&env.kindOf n == some .cell) then (n,NameKind.cell) else (n,k)).lookup x=some .free
 | [],_,h=>by simp at h
 | (n,k)::r,x,h=>by
  have ih:=@c_ env r x;show List.lookup x ((if (k == NameKind.free&&env.scope.kind == .function&&env.kindOf n == some .cell)=true then (n,NameKind.cell) else (n,k))::_)=_\/List.lookup x ((if (k == NameKind.free&&env.scope.kind == .function&&env.kindOf n == some .cell)=true then (n,NameKind.cell) else (n,k))::_)=_;cases hx:x == n with
  | true=>
   simp only[List.lookup_cons,hx] at h;cases h;by_cases hc:(NameKind.free == NameKind.free&&env.scope.kind == .function&&env.kindOf n == some .cell)=true
   .rw[if_pos hc];simp[List.lookup_cons,hx]
   .rw[if_neg hc];simp[List.lookup_cons,hx]
  | false=>
   simp only[List.lookup_cons,hx] at h;by_cases hc:(k == NameKind.free&&env.scope.kind == .function&&env.kindOf n == some .cell)=true
   .rw[if_pos hc];simp only[List.lookup_cons,hx];exact ih h
   .rw[if_neg hc];simp only[List.lookup_cons,hx];exact ih h
theorem d9 {env:Env}:∀ {names:List (Str×NameKind)}{x:Str},(∀ y∈names,y.2≠.cell)->
  ((names.map λ(n,k)=>if (k == NameKind.free&&env.scope.kind == .function&&env.kindOf n == some .cell) then (n,NameKind.cell) else (n,k)).lookup x=some .cell\/
  (names.map λ(n,k)=>if (k == NameKind.free&&env.scope.kind == .function&&env.kindOf n == some .cell) then (n,NameKind.cell) else (n,k)).lookup x=some .free)->(x,NameKind.free)∈names
 | [],_,_,h=>by simp at h
 | (n,k)::r,x,hn,h=>by
  have ih:=@d9 env r x λ y hy=>hn y (zMo _ hy);have h':List.lookup x ((if (k == NameKind.free&&env.scope.kind == .function&&env.kindOf n == some .cell)=true then (n,NameKind.cell) else (n,k))::_)=some .cell\/List.lookup x ((if (k == NameKind.free&&env.scope.kind == .function&&env.kindOf n == some .cell)=true then (n,NameKind.cell) else (n,k))::_)=some .free:=h;have hf:∀ k',((if (k == NameKind.free&&env.scope.kind == .function&&env.kindOf n == some .cell)=true then (n,NameKind.cell) else (n,k)):Str×NameKind)=(n,k')->(k'=.cell\/k'=.free)->k=.free:=by
   intro k' e hk';by_cases hc:(k == NameKind.free&&env.scope.kind == .function&&env.kindOf n == some .cell)=true
   .simp only[Bool.and_eq_true] at hc;simpa using hc.1.1
   .rw[if_neg hc] at e;have:k=k':=congrArg Prod.snd e;subst this;rcases hk' with q | q
    .exact absurd q (hn (n,k) zMc)
    .exact q
  cases hx:x == n with
  | true=>
   have hxn:x=n:=by simpa using hx
   subst hxn;by_cases hc:(k == NameKind.free&&env.scope.kind == .function&&env.kindOf x == some .cell)=true
   .simp only[Bool.and_eq_true] at hc;have:k=.free:=by simpa using hc.1.1
    subst this;exact zMc
   .rw[if_neg hc] at h';simp only[List.lookup_cons,beq_self_eq_true] at h';rcases h' with q | q
    .exact absurd (Option.some.inj q) (hn (x,k) zMc)
    .have:=Option.some.inj q;subst this;exact zMc
  | false=>
   refine zMo _ (ih ?_);by_cases hc:(k == NameKind.free&&env.scope.kind == .function&&env.kindOf n == some .cell)=true
   .rw[if_pos hc] at h';simp only[List.lookup_cons,hx] at h';exact h'
   .rw[if_neg hc] at h';simp only[List.lookup_cons,hx] at h';exact h'
end PySem
namespace L2
open PySem PySem.Spec PyProof.Rows
noncomputable def vV (pick:List (Option Nat)) (σ:St):St:=pick.map λ o=>o.bind λ i=>(σ[i]?).join
noncomputable def yT (X:Cx) (N':List Str) (scope:Scope) (cl:List (Str×Addr)) (C:Addr) (s:Shared) (H:Hp) (ex:List Addr):Cx:=
 { X with N:=N',s₀:=s,H₀:=H,env:=compEnvC scope cl C X.env,outer:=X.stack,stack:=X.stack,ex:=ex,fn:=λ _=>false,pn:=[],xe:=λ _ _=>False }
noncomputable def qY (N N':List Str) (pick:List (Option Nat)) (scope:Scope):Bool:=(N'.zip pick).all λ p=>match p.2 with
 | none=>true
 | some j=>decide (N[j]?=some p.1)&&decide (scope.names.lookup p.1=some .free)
structure qH (X:Cx) (N':List Str) (pick:List (Option Nat)) (scope:Scope):Prop where
 kind:scope.kind=.function
 cQ:∀ y∈scope.names,y.2≠.cell
 names:∀ y∈scope.names,y.2=.local->scope.names.lookup y.1=some .local
 free:∀ y∈scope.names,y.2=.free->X.env.scope.names.lookup y.1=some .cell\/X.env.scope.names.lookup y.1=some .free
 len:pick.length=N'.length
 ok:qY X.N N' pick scope=true
theorem qY.get {N N':List Str}{pick:List (Option Nat)}{scope:Scope}(h:qY N N' pick scope=true) {i j:Nat}{x:Str}(h1:N'[i]?=some x) (h2:pick[i]?=some (some j)):N[j]?=some x/\scope.names.lookup x=some .free:=by
 unfold qY at h;have hm:(x,some j)∈N'.zip pick:=by
  refine List.mem_of_getElem? (i:=i) ?_;rw[List.getElem?_zip_eq_some];exact⟨h1,h2⟩
 have q:=List.all_eq_true.mp h _ hm;simp only[Bool.and_eq_true,decide_eq_true_eq] at q;exact q
theorem vV.get {pick:List (Option Nat)}{σ:St}{i:Nat}{v:V}(h:(vV pick σ)[i]?=some (some v)):∃ j,pick[i]?=some (some j)/\σ[j]?=some (some v):=by
 unfold vV at h;rw[List.getElem?_map] at h;cases e:pick[i]? with
 | none=>rw[e] at h;cases h
 | some o=>
  rw[e] at h;cases o with
  | none=>simp at h
  | some j=>
   refine⟨j,rfl,?_⟩;simp only[Option.map_some,Option.some.injEq,Option.bind_some] at h;cases q:σ[j]? with
   | none=>rw[q] at h;simp at h
   | some w=>rw[q] at h;simp at h;rw[h]
def PF (X:Cx) (ifs:List Expr) (t:TT):Prop:=∀ (pins:List (Addr×Obj)) (s:Shared) (σ:St) (H:Hp) (Q:Bool->Hp->Prop),Inv X pins σ H s->t σ H Q->
 wpAny (model X.prog X.w) X.A (forIn ifs true λ c r=>if r=true then do let ok <- isTrue c X.env (eval c X.env);pure (ForInStep.yield ok) else pure (ForInStep.yield r)) (TP X pins σ Q) X.xe s
theorem WU {X:Cx}:PF X [] (λ _ H Q=>Q true H):=λ _ _ _ H _ I h=>wpAny_tests_nil ⟨H,I,h⟩
theorem WT {X:Cx}{c:Expr}{t:TT}(h:PT X c t):PF X [c] t:=λ pins s σ H Q I q=>wpAny_tests_one (h pins s σ H Q I q)
def jg (pick:List (Option Nat)) (wi:TI) (g:TG) (tc:TT) (te:TE):TE:=fun σ H Q=>wi σ H λ J H1=>∀ D,H1 D=none->∃ W:Nat->Nat->St->Hp->Prop,(∃ m,W 0 m (vV pick σ) (upd H1 D (.lst [])))/\
 ∀ i m σ H,W i m σ H->(J.stop i H/\Q (.ref D) H)\/(J.go i H/\∀ x H',J.qJ i H x H'->g x σ H' fun σ2 H2=>tc σ2 H2 λ b H3=>
  if b=true then te σ2 H3 λ y H4=>∃ ys m',H4 D=some (.lst ys)/\ys.length<sizeLine/\m'<m/\W (i+1) m' σ2 (upd H4 D (.lst (ys++[y]))) else ∃ m',m'<m/\W (i+1) m' σ2 H3)
section
variable {X:Cx}{pins:List (Addr×Obj)}{σ:St}{H:Hp}{s:Shared}{N':List Str}{pick:List (Option Nat)}{scope:Scope}{cl:List (Str×Addr)}{C:Addr}{fp:List Addr}
theorem SR (S:qH X N' pick scope) (I:Inv X pins σ H s) (hfp:∀ b∈fp,vR X pins H b) (hlt:∀ b∈fp,b<s.heap.objs.size)
  (c1:∀ x c,cl.lookup x=some c->(x,NameKind.free)∈scope.names/\X.env.cells.lookup x=some c) (c2:∀ x,(x,NameKind.free)∈scope.names->(cl.lookup x).isSome)
  {h1:Heap}{m1:Str->Option Value}{t':Nat}(hC:s.heap.objs.size<C) (old:∀ b o,s.heap.get? b=some o->h1.get? b=some o) (hns:h1.Ns C m1)
  (hD:h1.get? s.heap.objs.size=some { cls:=.type "list",data:=.seq #[] 0 }):
  Inv (yT X N' scope cl C s H fp) [] (vV pick σ) (upd H s.heap.objs.size (.lst [])) { s with heap:=h1,toks:=t' }:=by
 have hDn:H s.heap.objs.size=none:=I.zB.fresh (Nat.le_refl _);have hCn:H C=none:=I.zB.fresh (Nat.le_of_lt hC);have clt:∀ x c,cl.lookup x=some c->c<s.heap.objs.size:=λ x c e=>by
  obtain⟨v,q⟩:=I.cell x c (c1 x c e).2;exact q.lt
 refine⟨⟨I.ok.mod,S.kind,I.ok.glob,I.ok.blt,Nat.le_of_lt hC,λ x y c e1 e2=>I.ok.inj x y c (c1 x c e1).2 (c1 y c e2).2,λ x hx=>?_,λ x c hf _=>absurd (show false=true from hf) Bool.false_ne_true,I.ok.hd,I.ok.frames,.inl rfl,
  λ b hb=>⟨Nat.ne_of_lt (Nat.lt_trans (hlt b hb) hC),λ x c e=>(hfp b hb).2.2.2.2.1 x c (c1 x c e).2⟩,I.bs,Nat.le_trans I.ok.qv I.sz,λ b o e hb=>?_,λ b hb z=>?_,I.stack,I.eT⟩,
  rfl,I.bare,Un.laid old (Nat.le_refl _) hDn,⟨m1,hns,λ i x v e1 e2 e3=>?_⟩,λ x c e=>?_,?_,λ x c e=>?_,λ p hp=>absurd (show p∈([]:List (Addr×Obj)) from hp) (by simp),I.zB.laid old (Nat.le_refl _) ?_,?_⟩
 .exact Option.isSome_iff_exists.mp (c2 x (d9 S.cQ hx))
 .rcases (hfp b hb).2.2.2.1 with z | z
  .exact I.ok.oH b o e z
  .exact absurd (Nat.lt_of_lt_of_le (Heap.lt_size (I.ok.bs b o e).1) z) (Nat.lt_irrefl _)
 .rcases List.mem_cons.mp (I.jk b z) with q | q
  .exact (hfp b hb).2.1 q
  .exact (hfp b hb).2.2.1 q
 .obtain⟨j,p1,p2⟩:=vV.get e2;obtain⟨q1,q2⟩:=qY.get S.ok e1 p1;obtain⟨m0,n0,l0⟩:=I.loc;have hm:(x,NameKind.free)∈scope.names:=PySem.mem_of_lookup q2;have hk:X.env.scope.names.lookup x=some .cell\/X.env.scope.names.lookup x=some .free:=S.free _ hm rfl;obtain⟨u,r,l⟩:=l0 j x v q1 p2 (.inr hk);refine⟨u,r,.inr ⟨c_ q2,?_⟩⟩;rcases l with ⟨k,_⟩ | ⟨_,c,e,z⟩
  .have k':X.env.scope.names.lookup x=some .local:=k;rcases hk with hk | hk <;> (rw[k'] at hk;cases hk)
  .obtain⟨c',e'⟩:=Option.isSome_iff_exists.mp (c2 x hm);have e'':=(c1 x c' e').2;rw[e] at e'';cases e'';obtain⟨o,z1,z2⟩:=z;exact⟨c,e',o,old _ _ z1,z2⟩
 .obtain⟨v,o,z1,z2⟩:=I.cell x c (c1 x c e).2;exact⟨v,o,old _ _ z1,z2⟩
 .show upd H s.heap.objs.size (.lst []) C=none;rw[yI (Nat.ne_of_gt hC)];exact hCn
 .show upd H s.heap.objs.size (.lst []) c=none;rw[yI (Nat.ne_of_lt (clt x c e))];exact I.u_ x c (c1 x c e).2
 .exact⟨Nat.zero_le _,[],0,.nil,hD⟩
 .show (vV pick σ).length=N'.length;unfold vV;rw[List.length_map];exact S.len
theorem SN {σ':St}{H':Hp}{s':Shared}{oC:Obj}(I:Inv X pins σ H s) (hfp:∀ b∈fp,vR X pins H b) (hC:s.heap.objs.size<C)
  (I':Inv (yT X N' scope cl C s H fp) [] σ' H' s') (hoC:s'.heap.get? C=some oC):Inv X (pins++[(C,oC)]) σ H' s':=by
 have J:Inv X pins σ H' s':=I.QG (ch:=fp) I'.os I'.base I'.zB I'.bare λ b hb=>⟨(hfp b hb).2.2.2.1,(hfp b hb).2.1,(hfp b hb).2.2.2.2.1,(hfp b hb).2.2.2.2.2⟩;refine J.jQ λ p hp=>(List.mem_append.mp hp).elim (λ z=>J.pin p (List.mem_append_right _ z)) λ z=>?_;obtain rfl:p=(C,oC):=List.mem_singleton.mp z;refine⟨hoC,I'.free,Nat.ne_of_gt (Nat.lt_trans I.lt hC),I.cN (Nat.le_of_lt hC),λ v hv=>?_⟩;obtain⟨m,⟨o,es,ep,ho,hd,_⟩,_⟩:=I'.loc;have ho':s'.heap.get? C=some o:=ho;rw[hoC] at ho';cases ho';rw[hd] at hv;cases hv
theorem bG {σ':St}{H':Hp}{s':Shared}{oC:Obj}{h':Heap}(I:Inv X pins σ H s) (hC:s.heap.objs.size<C) (J:Inv X (pins++[(C,oC)]) σ' H' s') (hs:Heap.SameBut C s'.heap h'):Inv X pins σ' H' { s' with heap:=h' }:=by
 have J':=J.ot;have hp:=J.pin (C,oC) (List.mem_append_right _ (List.mem_append_right _ (List.mem_singleton.mpr rfl)));have lt:∀ c,c<s.heap.objs.size->c≠C:=λ c h=>Nat.ne_of_lt (Nat.lt_trans h hC);refine J'.turned (t':=s'.toks) (it:=C) (λ b o hb e=>hs.extBut b o hb e) hp.2.1 hp.2.2.1 (.inr (Nat.le_trans I.sz (Nat.le_of_lt hC))) (λ x c e z=>?_) (λ p hq z=>?_)
 .obtain⟨v,q⟩:=I.cell x c e;exact lt c q.lt z
 .exact lt p.1 (Heap.lt_size (I.pin p hq).1) z
end
section
variable {X:Cx}{N':List Str}{pick:List (Option Nat)}{scope:Scope}{elt iter tg:Expr}{ifs:List Expr}{pos:Pos}{wi:TI}{g:TG}{tc:TT}{te:TE}
theorem Sb {pins:List (Addr×Obj)}{σ:St}{H:Hp}{s:Shared}{it C:Addr}{fp:List Addr}{tn:Nat->Heap->Prop}{J:It}{cl:List (Str×Addr)}{W:Nat->Nat->St->Hp->Prop}{Q:V->Hp->Prop}{R:Result->Shared->Prop}{D:Addr}
  (hc:X.calm=true) (hg:PG (yT X N' scope cl C s H fp) tg g) (hf:PF (yT X N' scope cl C s H fp) ifs tc) (he:PE (yT X N' scope cl C s H fp) elt te)
  (T:Turn X.prog X.w X.K tg J fp it tn) (hfp:∀ b∈fp,vR X pins H b) (hstat:∀ b∈fp,b≠C/\b∉vJ X.stack/\∀ x c,cl.lookup x=some c->c≠b)
  (turn:∀ i m σ H,W i m σ H->(J.stop i H/\Q (.ref D) H)\/(J.go i H/\∀ x H',J.qJ i H x H'->g x σ H' fun σ2 H2=>tc σ2 H2 λ b H3=>
   if b=true then te σ2 H3 λ y H4=>∃ ys m',H4 D=some (.lst ys)/\ys.length<sizeLine/\m'<m/\W (i+1) m' σ2 (upd H4 D (.lst (ys++[y]))) else ∃ m',m'<m/\W (i+1) m' σ2 H3))
  (fin:∀ σ' H' s',Inv (yT X N' scope cl C s H fp) [] σ' H' s'->Q (.ref D) H'->R (.ok .next) s')
  {m0:Nat}{σ0:St}{H0:Hp}{s0:Shared}(I0:Inv (yT X N' scope cl C s H fp) [] σ0 H0 s0) (t0:tn 0 s0.heap) (f0:∀ b∈fp,H0 b=none) (w0:W 0 m0 σ0 H0):
  codeAny (model X.prog X.w) X.A (.compLoop (.ListComp elt [⟨tg,iter,ifs,0⟩] scope pos) 0 (.ref it) (.ref D) (compEnvC scope cl C X.env)) R s0:=by
 have stat:∀ {H':Hp},(∀ b∈fp,H' b=none)->∀ b∈fp,vR (yT X N' scope cl C s H fp) [] H' b:=λ hn b hb=>⟨hn b hb,(hstat b hb).1,(hstat b hb).2.1,.inl hb,(hstat b hb).2.2,λ p hp=>absurd (show p∈([]:List (Addr×Obj)) from hp) (by simp)⟩;refine codeAny_loop rfl (λ n s'=>∃ i σ' H',Inv (yT X N' scope cl C s H fp) [] σ' H' s'/\tn i s'.heap/\(∀ b∈fp,H' b=none)/\W i n σ' H') (λ n s3 hI=>?_) m0 ⟨0,σ0,H0,I0,t0,f0,w0⟩;obtain⟨i,σ3,H3,I3,st3,fr3,w3⟩:=hI;show wpAny _ X.A ((compTurn (.ListComp elt [⟨tg,iter,ifs,0⟩] scope pos) 0 (.ref it) (.ref D) (compEnvC scope cl C X.env)).onRaise (λ x=>do noteFrame x (compEnvC scope cl C X.env);theTreesLotGoes x)) _ _ s3;refine wpAny_noted ?_;rw[compTurn_list];refine zWb (wpAny_standAt (zWb ?_));rcases turn i n σ3 H3 w3 with ⟨stop,qn⟩ | ⟨go,step⟩
 .refine zK (T.done (yT X N' scope cl C s H fp) rfl rfl rfl hc i [] s3 σ3 H3 _ I3 (stat fr3) st3 stop) λ r s4 ⟨hr,I4⟩=>?_;subst hr;exact wpAny_pure (fin σ3 H3 s4 I4 qn)
 .refine zK (T.item (yT X N' scope cl C s H fp) rfl rfl rfl hc i [] s3 σ3 H3 _ I3 (stat fr3) st3 go) λ r s4 ⟨u,hr,h4⟩=>?_;subst hr;refine zWb (zK h4 λ _ s5 ⟨x,H5,I5,r5,y5,st5,fr5⟩=>?_);have I5':=I5.pinned (stat fr5) (T.obj _ _ st5);refine zWb (wpAny_mono (hg _ s5 σ3 H5 x u _ I5' r5 (step x H5 y5)) (λ _ s6 ⟨σ6,H6,I6,q6⟩=>?_) λ _ _ z=>False.elim z);refine zWb (wpAny_mono (hf _ s6 σ6 H6 _ I6 q6) (λ ok s7 ⟨H7,I7,q7⟩=>?_) λ _ _ z=>False.elim z);have back:∀ {H8:Hp}{s8:Shared},Inv (yT X N' scope cl C s H fp) ([]++o7 fp s5.heap) σ6 H8 s8->(∃ m',m'<n/\W (i+1) m' σ6 H8)->∃ m,m<n/\∃ i σ' H',Inv (yT X N' scope cl C s H fp) [] σ' H' s8/\tn i s8.heap/\(∀ b∈fp,H' b=none)/\W i m σ' H':=λ{H8 s8} I8 ⟨m',hm,w8⟩=>by
   refine⟨m',hm,i+1,σ6,H8,I8.ot,T.keep _ _ _ st5 λ b hb o e=>(I8.pin (b,o) (List.mem_append_right _ (List.mem_append_right _ (lM hb e)))).1,λ b hb=>?_,w8⟩;obtain⟨o,e,d⟩:=T.obj _ _ st5 b hb;exact (I8.pin (b,o) (List.mem_append_right _ (List.mem_append_right _ (lM hb e)))).2.1
  cases ok with
  | false=>
   rw[if_neg Bool.false_ne_true] at q7;exact wpAny_pure ⟨rfl,back I7 q7⟩
  | true=>
   rw[if_pos rfl] at q7;refine zWb (zWb (wpAny_mono (he _ s7 σ6 H7 _ I7 q7) (λ uy s8 ⟨y,H8,I8,r8,ys,m',e8,z8,hm,w8⟩=>?_) λ _ _ z=>False.elim z));refine zWb (wpAny_mono (cV (X:=yT X N' scope cl C s H fp) _ s8 σ6 H8 (.ref D) [y] (.ref D) [uy] (λ _ H9=>W (i+1) m' σ6 H9) I8 rfl (.cons r8 .nil) ⟨D,ys,y,rfl,rfl,e8,z8,w8⟩) (λ _ s9 ⟨_,H9,I9,_,q9⟩=>?_) λ _ _ z=>False.elim z);exact wpAny_pure (wpAny_pure ⟨rfl,back I9 ⟨m',hm,q9⟩⟩)
theorem bx {pins:List (Addr×Obj)}{σ:St}{H:Hp}{s:Shared}{it:Addr}{fp:List Addr}{tn:Nat->Heap->Prop}{J:It}{cl:List (Str×Addr)}{Q:V->Hp->Prop}{E:Value->Shared->Prop}{RR:Value->Addr->Result->Shared->Prop}
  (S:qH X N' pick scope) (hc:X.calm=true) (hg:∀ cl C s H fp,PG (yT X N' scope cl C s H fp) tg g) (hf:∀ cl C s H fp,PF (yT X N' scope cl C s H fp) ifs tc) (he:∀ cl C s H fp,PE (yT X N' scope cl C s H fp) elt te)
  (c1:∀ x c,cl.lookup x=some c->(x,NameKind.free)∈scope.names/\X.env.cells.lookup x=some c) (c2:∀ x,(x,NameKind.free)∈scope.names->(cl.lookup x).isSome)
  (I:Inv X pins σ H s) (T:Turn X.prog X.w X.K tg J fp it tn) (t0:tn 0 s.heap) (hfp:∀ b∈fp,vR X pins H b)
  (rd:∀ D,H D=none->∃ W:Nat->Nat->St->Hp->Prop,(∃ m,W 0 m (vV pick σ) (upd H D (.lst [])))/\
   ∀ i m σ H,W i m σ H->(J.stop i H/\Q (.ref D) H)\/(J.go i H/\∀ x H',J.qJ i H x H'->g x σ H' fun σ2 H2=>tc σ2 H2 λ b H3=>
    if b=true then te σ2 H3 λ y H4=>∃ ys m',H4 D=some (.lst ys)/\ys.length<sizeLine/\m'<m/\W (i+1) m' σ2 (upd H4 D (.lst (ys++[y]))) else ∃ m',m'<m/\W (i+1) m' σ2 H3))
  (fin:∀ C D oC H' s',s.heap.objs.size<C->Inv X (pins++[(C,oC)]) σ H' s'->s'.heap.get? C=some oC->(∃ m,s'.heap.Ns C m)->Q (.ref D) H'->RR (.ref D) C (.ok .next) s'):
  wpAny (model X.prog X.w) X.A (newList []) (λ acc s₃=>wpAny (model X.prog X.w) X.A (newFunctionEnv scope X.env.globals cl [] X.env.qual none .none (some X.env)) (λ cenv s₄=>
   codeAny (model X.prog X.w) X.A (.compStart (.ListComp elt [⟨tg,iter,ifs,0⟩] scope pos) 0 (.ref it) acc { cenv with scope:=relabel scope X.env }) (RR acc cenv.locals) s₄) E s₃) E s:=by
 refine wpAny_newObj_type (wpAny_newFunctionEnv S.cQ (by intro y hy;simp at hy) (λ h₁ hns₁ hsb₁=>?_) S.kind);dsimp only at hns₁ hsb₁ ⊢;generalize hH2:s.heap.push { cls:=.type "list",dict:=none,data:=.seq ([]:List Value).toArray }=H2 at hns₁ hsb₁ ⊢;have hC:H2.objs.size=s.heap.objs.size+1:=by rw[<- hH2,Heap.size_push]
 have hlt:s.heap.objs.size<H2.objs.size:=by rw[hC];exact Nat.lt_succ_self _
 have old:∀ b o,s.heap.get? b=some o->h₁.get? b=some o:=λ b o e=>hsb₁.extBut b o (Nat.ne_of_lt (Nat.lt_trans (Heap.lt_size e) hlt)) (zHp _ (hH2▸zHp _ e));have hacc:h₁.get? s.heap.objs.size=some { cls:=.type "list",data:=.seq #[] 0 }:=hsb₁.extBut _ _ (Nat.ne_of_lt hlt) (zHp _ (hH2▸Heap.get?_push_size _ rfl));have hflt:∀ b∈fp,b<s.heap.objs.size:=λ b hb=>by
  obtain⟨o,e,_⟩:=T.obj _ _ t0 b hb;exact Heap.lt_size e
 have hDn:H s.heap.objs.size=none:=I.zB.fresh (Nat.le_refl _);obtain⟨W,⟨m0,w0⟩,turn⟩:=rd s.heap.objs.size hDn;have I0:=SR (t':=s.toks+([]:List (Str×Value)).length) S I hfp hflt c1 c2 hlt old hns₁ hacc;have t1:tn 0 h₁:=T.keep _ _ _ t0 λ b _ o e=>old b o e;have hst:∀ b∈fp,b≠H2.objs.size/\b∉vJ X.stack/\∀ x c,cl.lookup x=some c->c≠b:=λ b hb=>I0.ok.gF b hb |> λ q=>⟨q.1,I0.ok.nc b hb,q.2⟩
 have loop:codeAny (model X.prog X.w) X.A (.compLoop (.ListComp elt [⟨tg,iter,ifs,0⟩] scope pos) 0 (.ref it) (.ref s.heap.objs.size) (compEnvC scope cl H2.objs.size X.env)) (RR (.ref s.heap.objs.size) H2.objs.size) { s with heap:=h₁,toks:=s.toks+([]:List (Str×Value)).length }:=by
  refine Sb (σ:=σ) hc (hg _ _ _ _ _) (hf _ _ _ _ _) (he _ _ _ _ _) T hfp hst turn (fun σ' H' s' I' q=>?_) I0 t1 (λ b hb=>?_) w0
  .obtain⟨m,hn,_⟩:=I'.loc;have hn':s'.heap.Ns H2.objs.size m:=hn;obtain⟨oC,es,ep,ho,hr⟩:=id hn';exact fin _ _ oC H' s' hlt (SN I hfp hlt I' ho) ho ⟨m,hn'⟩ q
  .show upd H s.heap.objs.size (.lst []) b=none;rw[yI (Nat.ne_of_lt (hflt b hb))];exact (hfp b hb).1
 exact codeAny_compStart_list loop (T.self _ 0 _ _ _ t1 loop)
theorem Vg (S:qH X N' pick scope) (hc:X.calm=true) (hi:PI X tg iter wi) (hg:∀ cl C s H fp,PG (yT X N' scope cl C s H fp) tg g) (hf:∀ cl C s H fp,PF (yT X N' scope cl C s H fp) ifs tc) (he:∀ cl C s H fp,PE (yT X N' scope cl C s H fp) elt te)
  (hs:∀ x,foldedSetIterable iter X.env x=pure x:=by intro _;rfl):PE X (.ListComp elt [⟨tg,iter,ifs,0⟩] scope pos) (jg pick wi g tc te):=by
 intro pins s σ H Q I h;obtain⟨cl,hclos,c1,c2⟩:=aX (scope:=scope) (env:=X.env) λ y hy hk=>I.ok.has y.1 (S.free y hy hk);rw[eval_ListComp];refine wpAny_comprehension_free (use:=none) rfl hs hclos S.kind S.names (zK (hi pins s σ H _ I h) λ v s1 h1=>zK h1 λ itv s2 h2=>?_);obtain⟨it,fp,tn,J,H2,e,I2,T,st2,f2,rd⟩:=h2;subst e;refine bx (RR:=λ acc C=>compPost (model X.prog X.w) X.A X.xe none (EP X pins σ Q) acc C) S hc hg hf he c1 c2 I2 T st2 f2 rd λ C D oC H' s' hC J' ho hn q=>?_;obtain⟨m,hn⟩:=hn;exact⟨m,hn,λ h' hs'=>⟨.ref D,H',bG I2 hC J' hs',rfl,q⟩⟩
theorem W5 {i:Nat}{y:Str}{py spos:Pos}(S:qH X N' pick scope) (hc:X.calm=true) (hi:PI X tg iter wi) (hg:∀ cl C s H fp,PG (yT X N' scope cl C s H fp) tg g) (hf:∀ cl C s H fp,PF (yT X N' scope cl C s H fp) ifs tc) (he:∀ cl C s H fp,PE (yT X N' scope cl C s H fp) elt te)
  (hN:X.N.Nodup) (hy:X.N[i]?=some y) (hx:Loc X.env.scope y)
  (hsw:swapsWith (.ListComp elt [⟨tg,iter,ifs,0⟩] scope pos) (some (.Name y py)) spos.line X.env=pure true:=by rfl)
  (hfn:X.fn y=true\/X.env.scope.names.lookup y=some .local:=by first | exact .inl rfl | exact .inr rfl | assumption)
  (hs:∀ x,foldedSetIterable iter X.env x=pure x:=by intro _;rfl):PS X (.Assign [.Name y py] (.ListComp elt [⟨tg,iter,ifs,0⟩] scope pos) spos) (ox (jg pick wi g tc te) (pJ i)):=by
 intro pins s σ H Q I h;obtain⟨cl,hclos,c1,c2⟩:=aX (scope:=scope) (env:=X.env) λ y hy hk=>I.ok.has y.1 (S.free y hy hk);rw[exec_Assign_Name_used _ _ _ _ hsw];refine zWb (wpAny_standAt (zWb ?_));show wpAny _ X.A (do let _ <- comprehension (.ListComp elt [⟨tg,iter,ifs,0⟩] scope pos) scope X.env _ (newList []) false (eval iter X.env) (some (assign (.Name y py) X.env))) _ _ s;refine zWb (wpAny_mono (wpAny_comprehension_free (use:=some (assign (.Name y py) X.env)) (Q:=λ _ s'=>SP X pins Q .next s') rfl hs hclos S.kind S.names
  (zK (hi pins s σ H _ I h) λ v s1 h1=>zK h1 λ itv s2 h2=>?_)) (λ _ s' hq=>wpAny_pure (wpAny_pure hq)) λ _ _ e=>e)
 obtain⟨it,fp,tn,J,H2,e,I2,T,st2,f2,rd⟩:=h2;subst e;refine bx (Q:=λ x H1=>pJ i x σ H1 Q.nx) (RR:=λ acc C=>compPost (model X.prog X.w) X.A X.xe (some (assign (.Name y py) X.env)) (λ _ s'=>SP X pins Q .next s') acc C) S hc hg hf he c1 c2 I2 T st2 f2 rd λ C D oC H' s' hC J' ho hn q=>?_;show wpAny _ X.A (assign (.Name y py) X.env (.ref D)) _ _ _;refine wpAny_assign_Name (jj J' hN hy hx (v:=.ref D) rfl (λ s3 J3=>?_) hfn);have hp:=(J3.pin (C,oC) (List.mem_append_right _ (List.mem_append_right _ (List.mem_singleton.mpr rfl)))).1;obtain⟨m,o,es,ep,ho',hr⟩:=hn;have:o=oC:=Option.some.inj (ho'.symm.trans ho);subst this;exact⟨m,⟨o,es,ep,hp,hr⟩,λ h' hs'=>⟨_,H',bG I2 hC J3 hs',q⟩⟩
end
end L2
namespace L3
open PySem PySem.Spec L2
open PyProof.Rows hiding St
inductive D where
 | zh | bl (b:Bool) | int (i:Int) | str (x:Str) | tup (ds:List D) | yK (ds:List D) | ref (a:Addr)
def pV (K:PySem.W.Frag) (H:Hp) (a:Addr) (xs:List V):Prop:=
 (∃ o,H a=some (.wo o (.lst xs)))\/
  ∃ (o:Obj) (its:Array Value) (n:Nat),K.lookup a=some o/\o.cls=.type "list"/\o.dict=none/\o.data=.seq its n/\its.size<=sizeLine/\Vals xs its.toList
theorem pV.sq {K:PySem.W.Frag}{H:Hp}{a:Addr}{xs:List V}(h:pV K H a xs):zV K H a xs:=by
 rcases h with h | h
 .exact .inl (.inr h)
 .exact .inr h
mutual
noncomputable def ze (K:PySem.W.Frag) (H:Hp):D->V->Prop
 | .zh,v=>v=.zh
 | .bl b,v=>v=.bl b
 | .int i,v=>v=.int i
 | .str x,v=>v=.str x
 | .tup ds,v=>∃ a xs,v=.ref a/\zZ K H a xs/\zq K H ds xs
 | .yK ds,v=>∃ a xs,v=.ref a/\pV K H a xs/\zq K H ds xs
 | .ref a,v=>v=.ref a
noncomputable def zq (K:PySem.W.Frag) (H:Hp):List D->List V->Prop
 | [],xs=>xs=[]
 | d::ds,xs=>∃ x r,xs=x::r/\ze K H d x/\zq K H ds r
end
structure Ext (H H':Hp):Prop where
 tup:∀ b xs,H b=some (.tup xs)->H' b=some (.tup xs)
 wo:∀ b o u,H b=some (.wo o u)->H' b=some (.wo o u)
theorem Ext.refl (H:Hp):Ext H H:=⟨λ _ _ h=>h,λ _ _ _ h=>h⟩
theorem Ext.trans {H H1 H2:Hp}(a:Ext H H1) (b:Ext H1 H2):Ext H H2:=⟨λ c xs h=>b.tup c xs (a.tup c xs h),λ c o u h=>b.wo c o u (a.wo c o u h)⟩
theorem Ext.new {H:Hp}{p:Addr}(h:H p=none) (o:HO):Ext H (upd H p o):=
 ⟨λ b xs q=>by rw[yI (sS q h)];exact q,λ b ob u q=>by rw[yI (sS q h)];exact q⟩
theorem Ext.lst {H:Hp}{p:Addr}{xs:List V}(h:H p=some (.lst xs)) (o:HO):Ext H (upd H p o):=
 ⟨λ b ys q=>by rw[yI (oJ q h (by intro z;cases z))];exact q,λ b ob u q=>by rw[yI (oJ q h (by intro z;cases z))];exact q⟩
theorem Ext.mN {K:PySem.W.Frag}{H H':Hp}{a:Addr}{xs:List V}(e:Ext H H') (h:zZ K H a xs):zZ K H' a xs:=by
 rcases h with (h | ⟨o,h⟩) | h
 .exact .inl (.inl (e.tup _ _ h))
 .exact .inl (.inr ⟨o,e.wo _ _ _ h⟩)
 .exact .inr h
theorem Ext.mO {K:PySem.W.Frag}{H H':Hp}{a:Addr}{xs:List V}(e:Ext H H') (h:pV K H a xs):pV K H' a xs:=by
 rcases h with ⟨o,h⟩ | h
 .exact .inl ⟨o,e.wo _ _ _ h⟩
 .exact .inr h
section
variable {K:PySem.W.Frag}{H H':Hp}
mutual
theorem ze.ext (e:Ext H H'):∀ (d:D) {v:V},ze K H d v->ze K H' d v
 | .zh,v,h=>by simpa only [ze] using h
 | .bl b,v,h=>by simpa only [ze] using h
 | .int i,v,h=>by simpa only [ze] using h
 | .str x,v,h=>by simpa only [ze] using h
 | .ref a,v,h=>by simpa only [ze] using h
 | .tup ds,v,h=>by
  simp only[ze] at h ⊢;obtain⟨a,xs,h1,h2,h3⟩:=h;exact⟨a,xs,h1,e.mN h2,zq.ext e ds h3⟩
 | .yK ds,v,h=>by
  simp only[ze] at h ⊢;obtain⟨a,xs,h1,h2,h3⟩:=h;exact⟨a,xs,h1,e.mO h2,zq.ext e ds h3⟩
theorem zq.ext (e:Ext H H'):∀ (ds:List D) {xs:List V},zq K H ds xs->zq K H' ds xs
 | [],xs,h=>by simpa only [zq] using h
 | d::ds,xs,h=>by
  simp only[zq] at h ⊢;obtain⟨x,r,h1,h2,h3⟩:=h;exact⟨x,r,h1,ze.ext e d h2,zq.ext e ds h3⟩
end
theorem zq.length:∀ {ds:List D}{xs:List V},zq K H ds xs->ds.length=xs.length
 | [],xs,h=>by simp only[zq] at h;subst h;rfl
 | d::ds,xs,h=>by
  simp only[zq] at h;obtain⟨x,r,h1,_,h3⟩:=h;subst h1;simp[zq.length h3]
theorem zq.get:∀ {ds:List D}{xs:List V}{i:Nat}{d:D},zq K H ds xs->ds[i]?=some d->∃ x,xs[i]?=some x/\ze K H d x
 | [],_,i,d,_,e=>by simp at e
 | c::ds,xs,i,d,h,e=>by
  simp only[zq] at h;obtain⟨x,r,h1,h2,h3⟩:=h;subst h1;cases i with
  | zero=>simp at e;subst e;exact⟨x,rfl,h2⟩
  | succ i=>
   obtain⟨y,e1,e2⟩:=zq.get (i:=i) h3 (by simpa using e);exact⟨y,by simpa using e1,e2⟩
theorem zq.append:∀ {ds es:List D}{xs ys:List V},zq K H ds xs->zq K H es ys->zq K H (ds++es) (xs++ys)
 | [],es,xs,ys,h,h'=>by simp only[zq] at h;subst h;simpa using h'
 | d::ds,es,xs,ys,h,h'=>by
  simp only[zq] at h;obtain⟨x,r,h1,h2,h3⟩:=h;subst h1;show zq K H (d::(ds++es)) (x::(r++ys));simp only[zq];exact⟨x,r++ys,rfl,h2,zq.append h3 h'⟩
theorem zq.nil:zq K H [] []:=by simp only[zq]
theorem zq.cons {d:D}{ds:List D}{x:V}{xs:List V}(h:ze K H d x) (h':zq K H ds xs):zq K H (d::ds) (x::xs):=by
 simp only[zq];exact⟨x,xs,rfl,h,h'⟩
theorem zq.snoc {d:D}{ds:List D}{x:V}{xs:List V}(h':zq K H ds xs) (h:ze K H d x):zq K H (ds++[d]) (xs++[x]):=h'.append (.cons h .nil)
theorem zq.ints:∀ {ns:List Int}{xs:List V},zq K H (ns.map D.int) xs->xs=ns.map V.int
 | [],xs,h=>by simpa only [List.map_nil,zq] using h
 | n::ns,xs,h=>by
  rw[List.map_cons] at h;simp only[zq,ze] at h;obtain⟨x,r,h1,h2,h3⟩:=h;subst h1 h2;rw[List.map_cons,zq.ints h3]
theorem zq.i4:∀ (ns:List Int),zq K H (ns.map D.int) (ns.map V.int)
 | []=>.nil
 | n::ns=>.cons (by simp only[ze]) (zq.i4 ns)
theorem zq.bools:∀ {ns:List Bool}{xs:List V},zq K H (ns.map D.bl) xs->xs=ns.map V.bl
 | [],xs,h=>by simpa only [List.map_nil,zq] using h
 | n::ns,xs,h=>by
  rw[List.map_cons] at h;simp only[zq,ze] at h;obtain⟨x,r,h1,h2,h3⟩:=h;subst h1 h2;rw[List.map_cons,zq.bools h3]
end
inductive O where
 | lst (ds:List D)
 | ye (kvs:List (Key×D))
abbrev SS:=Addr->Option O
def xc (K:PySem.W.Frag) (H:Hp):List (Key×D)->List (Key×V)->Prop:=Paired λ p q=>p.1=q.1/\ze K H p.2 q.2
noncomputable def qA (K:PySem.W.Frag) (H:Hp) (a:Addr):O->Prop
 | .lst ds=>∃ xs,H a=some (.lst xs)/\zq K H ds xs
 | .ye kvs=>∃ vs,H a=some (.dK vs)/\xc K H kvs vs
def zR (K:PySem.W.Frag) (H:Hp) (S:SS):Prop:=∀ a o,S a=some o->qA K H a o
noncomputable def ups (S:SS) (a:Addr) (o:O):SS:=λ b=>if b=a then some o else S b
theorem sy {S:SS}{a:Addr}{o:O}:ups S a o a=some o:=by unfold ups;rw[if_pos rfl]
theorem tF {S:SS}{a b:Addr}{o:O}(h:b≠a):ups S a o b=S b:=by unfold ups;rw[if_neg h]
def Sx (S S':SS):Prop:=∀ b o,S b=some o->S' b=some o
theorem Sx.refl (S:SS):Sx S S:=λ _ _ h=>h
theorem Sx.trans {S S1 S2:SS}(a:Sx S S1) (b:Sx S1 S2):Sx S S2:=λ c o h=>b c o (a c o h)
theorem Sx.new {S:SS}{p:Addr}(h:S p=none) (o:O):Sx S (ups S p o):=λ b u q=>by
 rw[tF (by intro z;subst z;rw[h] at q;cases q)];exact q
theorem Sx.none {S S':SS}(e:Sx S S') {p:Addr}(h:S' p=Option.none):S p=Option.none:=by
 cases q:S p with
 | none=>rfl
 | some o=>rw[e p o q] at h;cases h
section
variable {K:PySem.W.Frag}{H H':Hp}{S:SS}
theorem qA.has {a:Addr}{o:O}(h:qA K H a o):H a≠none:=by
 cases o with
 | lst ds=>obtain⟨xs,h,_⟩:=h;rw[h];simp
 | ye kvs=>obtain⟨xs,h,_⟩:=h;rw[h];simp
theorem zR.none (r:zR K H S) {p:Addr}(h:H p=Option.none):S p=Option.none:=by
 cases q:S p with
 | none=>rfl
 | some o=>exact absurd h (r p o q).has
theorem xc.ext (e:Ext H H') {kvs:List (Key×D)}{vs:List (Key×V)}(h:xc K H kvs vs):xc K H' kvs vs:=
 Paired.lO h λ p q z=>⟨z.1,ze.ext e p.2 z.2⟩
theorem qA.keep {a:Addr}{o:O}(e:Ext H H') (k:∀ u,H a=some u->H' a=some u) (h:qA K H a o):qA K H' a o:=by
 cases o with
 | lst ds=>obtain⟨xs,h1,h2⟩:=h;exact⟨xs,k _ h1,zq.ext e ds h2⟩
 | ye kvs=>obtain⟨xs,h1,h2⟩:=h;exact⟨xs,k _ h1,h2.ext e⟩
theorem zR.keep (e:Ext H H') (k:∀ a u o,S a=some o->H a=some u->H' a=some u) (r:zR K H S):zR K H' S:=λ a o h=>(r a o h).keep e λ u q=>k a u o h q
theorem zR.new {p:Addr}{u:HO}(hp:H p=Option.none) (r:zR K H S):zR K (upd H p u) S:=
 r.keep (Ext.new hp u) λ a v o _ q=>by rw[yI (sS q hp)];exact q
theorem zR.ups {p:Addr}{u:HO}{o:O}(e:Ext H (upd H p u)) (hn:qA K (upd H p u) p o) (r:zR K H S):zR K (upd H p u) (ups S p o):=λ a o' h=>by
 by_cases ha:a=p
 .subst ha;rw[sy] at h;cases h;exact hn
 .rw[tF ha] at h;exact (r a o' h).keep e λ v q=>by rw[yI ha];exact q
end
abbrev yk:=List (Option D)
def yV (K:PySem.W.Frag) (H:Hp) (δ:yk) (σ:St):Prop:=δ.length=σ.length/\∀ (i:Nat) (d:D),δ[i]?=some (some d)->∃ v,σ[i]?=some (some v)/\ze K H d v
theorem yV.ext {K:PySem.W.Frag}{H H':Hp}{δ:yk}{σ:St}(e:Ext H H') (r:yV K H δ σ):yV K H' δ σ:=⟨r.1,λ i d h=>by
 obtain⟨v,h1,h2⟩:=r.2 i d h;exact⟨v,h1,ze.ext e d h2⟩⟩
theorem yV.set {K:PySem.W.Frag}{H:Hp}{δ:yk}{σ:St}(i:Nat) {d:D}{v:V}(r:yV K H δ σ) (h:ze K H d v):yV K H (δ.set i (some d)) (σ.set i (some v)):=by
 refine⟨by rw[List.length_set,List.length_set];exact r.1,λ j c hc=>?_⟩;rw[List.getElem?_set] at hc ⊢;by_cases hj:i=j
 .subst hj;rw[if_pos rfl] at hc ⊢;by_cases hl:i < δ.length
  .rw[if_pos hl] at hc;rw[if_pos (by rw[<- r.1];exact hl)];cases hc;exact⟨v,rfl,h⟩
  .rw[if_neg hl] at hc;cases hc
 .rw[if_neg hj] at hc ⊢;exact r.2 j c hc
abbrev DK:=D->SS->Prop
abbrev zy:=yk->SS->DK->Prop
abbrev yD:=yk->SS->(Bool->SS->Prop)->Prop
abbrev yt:=yk->SS->(List D->SS->Prop)->Prop
def ym (t:zy):Prop:=∀ δ S (Q Q':DK),(∀ d S',Q d S'->Q' d S')->t δ S Q->t δ S Q'
def wX (t:yD):Prop:=∀ δ S (Q Q':Bool->SS->Prop),(∀ d S',Q d S'->Q' d S')->t δ S Q->t δ S Q'
def sj (t:yt):Prop:=∀ δ S (Q Q':List D->SS->Prop),(∀ d S',Q d S'->Q' d S')->t δ S Q->t δ S Q'
noncomputable def wO (K:PySem.W.Frag) (H:Hp) (Q:VK):DK:=λ d S'=>∀ v H',ze K H' d v->Ext H H'->zR K H' S'->Q v H'
def nB (K:PySem.W.Frag) (H:Hp) (Q:Bool->Hp->Prop):Bool->SS->Prop:=λ b S'=>∀ H',Ext H H'->zR K H' S'->Q b H'
def RW (K:PySem.W.Frag) (H:Hp) (Q:List V->Hp->Prop):List D->SS->Prop:=λ ds S'=>∀ vs H',zq K H' ds vs->Ext H H'->zR K H' S'->Q vs H'
def vh (K:PySem.W.Frag) (H:Hp) (Q:St->Hp->Prop):yk->SS->Prop:=fun δ S'=>∀ σ H',yV K H' δ σ->Ext H H'->zR K H' S'->Q σ H'
theorem wO.ext {K:PySem.W.Frag}{H H':Hp}{Q:VK}(e:Ext H H') {d:D}{S:SS}(h:wO K H Q d S):wO K H' Q d S:=λ v H2 r x q=>h v H2 r (e.trans x) q
theorem nB.ext {K:PySem.W.Frag}{H H':Hp}{Q:Bool->Hp->Prop}(e:Ext H H') {d:Bool}{S:SS}(h:nB K H Q d S):nB K H' Q d S:=λ H2 x q=>h H2 (e.trans x) q
theorem vh.ext {K:PySem.W.Frag}{H H':Hp}{Q:St->Hp->Prop}(e:Ext H H') {d:yk}{S:SS}(h:vh K H Q d S):vh K H' Q d S:=λ v H2 r x q=>h v H2 r (e.trans x) q
def zS (K:PySem.W.Frag) (t:zy):TE:=fun σ H Q=>∃ δ S,yV K H δ σ/\zR K H S/\t δ S (wO K H Q)
def w9 (K:PySem.W.Frag) (t:yD):TT:=fun σ H Q=>∃ δ S,yV K H δ σ/\zR K H S/\t δ S (nB K H Q)
def wD (K:PySem.W.Frag) (t:yt):TA:=fun σ H Q=>∃ δ S,yV K H δ σ/\zR K H S/\t δ S (RW K H Q)
structure PD (X:Cx) (e:Expr) (t:zy):Prop where
 mo:ym t
 pe:PE X e (zS X.K t)
structure xP (X:Cx) (e:Expr) (t:yD):Prop where
 mo:wX t
 pt:PT X e (w9 X.K t)
structure xQ (X:Cx) (es:List Expr) (t:yt):Prop where
 mo:sj t
 pa:PA X es (wD X.K t)
theorem PE.imp {X:Cx}{e:Expr}{t t':TE}(h:PE X e t) (hi:∀ σ H Q,t' σ H Q->t σ H Q):PE X e t':=λ pins s σ H Q I q=>h pins s σ H Q I (hi σ H Q q)
theorem PT.imp {X:Cx}{e:Expr}{t t':TT}(h:PT X e t) (hi:∀ σ H Q,t' σ H Q->t σ H Q):PT X e t':=λ pins s σ H Q I q=>h pins s σ H Q I (hi σ H Q q)
theorem PA.imp {X:Cx}{e:List Expr}{t t':TA}(h:PA X e t) (hi:∀ σ H Q,t' σ H Q->t σ H Q):PA X e t':=λ pos pins s σ H Q I q=>h pos pins s σ H Q I (hi σ H Q q)
theorem PS.imp {X:Cx}{e:Stmt}{t t':TS}(h:PS X e t) (hi:∀ D σ H,t' D σ H->t D σ H):PS X e t':=λ pins s σ H Q I q=>h pins s σ H Q I (hi Q σ H q)
theorem xX.imp {X:Cx}{e:List Stmt}{t t':TS}(h:xX X e t) (hi:∀ D σ H,t' D σ H->t D σ H):xX X e t':=λ pins s σ H Q I q=>h pins s σ H Q I (hi Q σ H q)
section
variable {X:Cx}{K:PySem.W.Frag}
theorem zS.go {t:zy}{σ:St}{H:Hp}{Q:VK}{δ:yk}{S:SS}{R:DK}(mo:ym t) (r1:yV K H δ σ) (r2:zR K H S) (h:t δ S R) (k:∀ d S' v H',R d S'->ze K H' d v->Ext H H'->zR K H' S'->Q v H'):zS K t σ H Q:=
 ⟨δ,S,r1,r2,mo δ S _ _ (λ d S' q v H' a b c=>k d S' v H' q a b c) h⟩
theorem w9.go {t:yD}{σ:St}{H:Hp}{Q:Bool->Hp->Prop}{δ:yk}{S:SS}{R:Bool->SS->Prop}(mo:wX t) (r1:yV K H δ σ) (r2:zR K H S) (h:t δ S R) (k:∀ d S' H',R d S'->Ext H H'->zR K H' S'->Q d H'):w9 K t σ H Q:=
 ⟨δ,S,r1,r2,mo δ S _ _ (λ d S' q H' b c=>k d S' H' q b c) h⟩
theorem wD.go {t:yt}{σ:St}{H:Hp}{Q:List V->Hp->Prop}{δ:yk}{S:SS}{R:List D->SS->Prop}(mo:sj t) (r1:yV K H δ σ) (r2:zR K H S) (h:t δ S R) (k:∀ d S' v H',R d S'->zq K H' d v->Ext H H'->zR K H' S'->Q v H'):wD K t σ H Q:=
 ⟨δ,S,r1,r2,mo δ S _ _ (λ d S' q v H' a b c=>k d S' v H' q a b c) h⟩
def yC (i:Nat):zy:=fun δ S Q=>match δ[i]? with
 | some (some d)=>Q d S
 | _=>False
def dC (d:D):zy:=λ _ S Q=>Q d S
theorem za (i:Nat) {x:Str}{pos:Pos}(h:PE X (.Name x pos) (je i)):PD X (.Name x pos) (yC i):=by
 refine⟨fun δ S Q Q' hq h=>?_,PE.imp h fun σ H Q hu=>?_⟩
 .unfold yC at h ⊢;split at h
  .exact hq _ _ h
  .exact h
 .obtain⟨δ,S,r1,r2,h⟩:=hu;unfold yC at h;split at h
  .rename_i d e;obtain⟨v,h1,h2⟩:=r1.2 i d e;exact⟨v,h1,h v H h2 (Ext.refl H) r2⟩
  .exact h.elim
theorem dC.mo (d:D):ym (dC d):=λ _ _ _ _ hq h=>hq _ _ h
theorem oB {e:Expr}{d:D}{v:V}(h:PE X e (tC v)) (r:∀ H,ze X.K H d v):PD X e (dC d):=
 ⟨dC.mo d,PE.imp h λ _ H _ ⟨_,_,_,r2,h⟩=>h v H (r H) (Ext.refl H) r2⟩
theorem zo {i j pos}:PD X (.Constant (.int i) j pos) (dC (.int i)):=oB Vi λ _=>by simp only[ze]
theorem ij {i j pos}:PD X (.Constant (.bool i) j pos) (dC (.bl i)):=oB Vs λ _=>by simp only[ze]
theorem j_ {j pos}:PD X (.Constant .none j pos) (dC .zh):=oB Ve λ _=>by simp only[ze]
theorem jY {x j pos}:PD X (.Constant (.str x) j pos) (dC (.str x)):=oB Va λ _=>by simp only[ze]
abbrev yP:=D->D->SS->DK->Prop
def xI (f:yP):Prop:=∀ x y S (Q Q':DK),(∀ d S',Q d S'->Q' d S')->f x y S Q->f x y S Q'
def xC (K:PySem.W.Frag) (f:yP) (r:R2):Prop:=∀ x y d e H S Q,ze K H d x->ze K H e y->zR K H S->f d e S (wO K H Q)->r x y H Q
def yx (f:yP) (ta tb:zy):zy:=fun δ S Q=>ta δ S λ x S1=>tb δ S1 λ y S2=>f x y S2 Q
theorem yx.mo {f:yP}{ta tb:zy}(hf:xI f) (ha:ym ta) (hb:ym tb):ym (yx f ta tb):=fun δ S Q Q' hq h=>
 ha δ S _ _ (λ x S1 h=>hb δ S1 _ _ (λ y S2 h=>hf x y S2 _ _ hq h) h) h
theorem mF {f:yP}{r:R2}{ta tb:zy}(hr:xC K f r) (hf:xI f) (ha:ym ta) (hb:ym tb) {σ:St}{H:Hp}{Q:VK}(h:zS K (yx f ta tb) σ H Q):ou r (zS K ta) (zS K tb) σ H Q:=by
 obtain⟨δ,S,r1,r2,h⟩:=h;refine zS.go ha r1 r2 h λ x S1 v H1 h1 q1 e1 p1=>?_;refine zS.go hb (r1.ext e1) p1 h1 λ y S2 w H2 h2 q2 e2 p2=>?_;exact hr v w x y H2 S2 Q (ze.ext e2 x q1) q2 p2 (hf x y S2 _ _ (λ d S' z=>z.ext (e1.trans e2)) h2)
theorem q_ {a b:Expr}{op:Operator}{pos:Pos}{f:yP}{r:R2}{ta tb:zy}(ho:yq X (binaryOp op) r) (hr:xC X.K f r) (hf:xI f) (ha:PD X a ta) (hb:PD X b tb):PD X (.BinOp a op b pos) (yx f ta tb):=
 ⟨yx.mo hf ha.mo hb.mo,PE.imp (Vb ho ha.pe hb.pe) λ _ _ _ h=>mF hr hf ha.mo hb.mo h⟩
theorem c9 {a b:Expr}{op:CmpOp}{pos:Pos}{f:yP}{r:R2}{ta tb:zy}(ho:yq X (compareOp op) r) (hr:xC X.K f r) (hf:xI f) (ha:PD X a ta) (hb:PD X b tb) (hm:behindInMarks op b=false):PD X (.Compare a [op] [b] pos) (yx f ta tb):=
 ⟨yx.mo hf ha.mo hb.mo,PE.imp (Vo ho ha.pe hb.pe hm) λ _ _ _ h=>mF hr hf ha.mo hb.mo h⟩
def uh (t:zy):yD:=fun δ S Q=>t δ S λ x S1=>match x with
 | .bl b=>Q b S1
 | _=>False
theorem uh.mo {t:zy}(h:ym t):wX (uh t):=fun δ S Q Q' hq q=>h δ S _ _ (λ d S' z=>by
 cases d <;> first
  | exact hq _ _ z
  | exact z) q
theorem rV {a b:Expr}{op:CmpOp}{pos:Pos}{f:yP}{r:R2}{ta tb:zy}(ho:yq X (compareOp op) r) (hr:xC X.K f r) (hf:xI f) (ha:PD X a ta) (hb:PD X b tb) (hm:behindInMarks op b=false):xP X (.Compare a [op] [b] pos) (uh (yx f ta tb)):=by
 refine⟨uh.mo (yx.mo hf ha.mo hb.mo),PT.imp (Wz ho ha.pe hb.pe hm) fun σ H Q h=>?_⟩;obtain⟨δ,S,r1,r2,h⟩:=h;refine mF hr hf ha.mo hb.mo ⟨δ,S,r1,r2,yx.mo hf ha.mo hb.mo δ S _ _ (λ d S' z v H' a b c=>?_) h⟩;cases d with
 | bl k=>simp only[ze] at a;exact⟨k,a,z H' b c⟩
 | zh=>exact z.elim
 | int _=>exact z.elim
 | str _=>exact z.elim
 | tup _=>exact z.elim
 | yK _=>exact z.elim
 | ref _=>exact z.elim
def fI (C:Int->Int->Prop) (g:Int->Int->D):yP:=λ x y S Q=>match x,y with
 | .int i,.int j=>C i j/\Q (g i j) S
 | _,_=>False
theorem fI.mo {C:Int->Int->Prop}{g:Int->Int->D}:xI (fI C g):=λ x y S Q Q' hq h=>by
 unfold fI at h ⊢;split at h
 .exact⟨h.1,hq _ _ h.2⟩
 .exact h.elim
def xB (g:Int->Int->D):yP:=λ x y S Q=>match x,y with
 | .int i,.int j=>Q (g i j) S
 | _,_=>False
theorem xB.mo {g:Int->Int->D}:xI (xB g):=λ x y S Q Q' hq h=>by
 unfold xB at h ⊢;split at h
 .exact hq _ _ h
 .exact h.elim
theorem fI.fits {C:Int->Int->Prop}{g:Int->Int->D}{g':Int->Int->V}(hg:∀ i j H,ze K H (g i j) (g' i j)):xC K (fI C g) (rI C g'):=λ x y d e H S Q h1 h2 h3 h=>by
 unfold fI at h;split at h
 .simp only[ze] at h1 h2;exact⟨_,_,h1,h2,h.1,h.2 _ H (hg _ _ H) (Ext.refl H) h3⟩
 .exact h.elim
theorem xB.fits {g:Int->Int->D}{g':Int->Int->V}(hg:∀ i j H,ze K H (g i j) (g' i j)):xC K (xB g) (w_ g'):=λ x y d e H S Q h1 h2 h3 h=>by
 unfold xB at h;split at h
 .simp only[ze] at h1 h2;exact⟨_,_,h1,h2,h _ H (hg _ _ H) (Ext.refl H) h3⟩
 .exact h.elim
variable {a b c:Expr}{ta tb tc:zy}{pos:Pos}
theorem wH (ha:PD X a ta) (hb:PD X b tb):PD X (.BinOp a .Sub b pos) (yx (xB λ i j=>.int (i-j)) ta tb):=q_ VT (xB.fits λ _ _ _=>by simp only[ze]) xB.mo ha hb
theorem va (ha:PD X a ta) (hb:PD X b tb):PD X (.BinOp a .Mod b pos) (yx (fI (λ _ j=>0<j) λ i j=>.int (i%j)) ta tb):=q_ VZ (fI.fits λ _ _ _=>by simp only[ze]) fI.mo ha hb
theorem sL (ha:PD X a ta) (hb:PD X b tb):PD X (.BinOp a .FloorDiv b pos) (yx (fI xR λ i j=>.int (i/j)) ta tb):=q_ Ui (fI.fits λ _ _ _=>by simp only[ze]) fI.mo ha hb
theorem V7 (ha:PD X a ta) (hb:PD X b tb):PD X (.BinOp a .Pow b pos) (yx (fI qI λ i j=>.int (i ^ j.toNat)) ta tb):=q_ VU (fI.fits λ _ _ _=>by simp only[ze]) fI.mo ha hb
abbrev kf:yP:=xB λ i j=>.bl (decide (i<=j))
abbrev gC:yP:=xB λ i j=>.bl (decide (j<i))
abbrev gD:yP:=xB λ i j=>.bl (decide (j<=i))
theorem fit_le:xC K kf (w_ λ i j=>.bl (decide (i<=j))):=xB.fits λ _ _ _=>by simp only[ze]
theorem R1:xC K gC (w_ λ i j=>.bl (decide (j<i))):=xB.fits λ _ _ _=>by simp only[ze]
theorem R3:xC K gD (w_ λ i j=>.bl (decide (j<=i))):=xB.fits λ _ _ _=>by simp only[ze]
theorem c7 (ha:PD X a ta) (hb:PD X b tb):PD X (.Compare a [.GtE] [b] pos) (yx gD ta tb):=c9 Uh R3 xB.mo ha hb (sQ _)
theorem Vv (ha:PD X a ta) (hb:PD X b tb):xP X (.Compare a [.LtE] [b] pos) (uh (yx kf ta tb)):=rV ip fit_le xB.mo ha hb (sQ _)
theorem jW (ha:PD X a ta) (hb:PD X b tb):xP X (.Compare a [.Gt] [b] pos) (uh (yx gC ta tb)):=rV Ug R1 xB.mo ha hb (sQ _)
end
end L3
namespace L3
open PySem PySem.Spec L2
open PyProof.Rows hiding St
section
variable {X:Cx}{K:PySem.W.Frag}{a b c:Expr}{ta tb tc:zy}{pos:Pos}
def nI (ta tb:zy):zy:=fun δ S Q=>ta δ S λ x S1=>match x with
 | .bl k=>if k=true then tb δ S1 Q else Q (.bl false) S1
 | _=>False
def nE (ta:zy):zy:=fun δ S Q=>ta δ S λ x S1=>match x with
 | .bl k=>Q (.bl (!k)) S1
 | _=>False
theorem vf {c:Prop} [Decidable c] {A B A' B':Prop}(h1:A->A') (h2:B->B') (h:if c then A else B):if c then A' else B':=by
 by_cases q:c
 .rw[if_pos q] at h ⊢;exact h1 h
 .rw[if_neg q] at h ⊢;exact h2 h
theorem nI.mo (ha:ym ta) (hb:ym tb):ym (nI ta tb):=fun δ S Q Q' hq h=>ha δ S _ _ (λ x S1 z=>by
 cases x <;> first
  | exact vf (hb δ S1 _ _ hq) (hq _ _) z
  | exact z) h
theorem nE.mo (ha:ym ta):ym (nE ta):=fun δ S Q Q' hq h=>ha δ S _ _ (λ x S1 z=>by
 cases x <;> first
  | exact hq _ _ z
  | exact z) h
theorem jZ {op} {t:zy}(h:PD X a t):PD X (.BoolOp op [a] pos) t:=⟨h.mo,Vc h.pe⟩
variable {rest:List Expr}
theorem ik (ha:PD X a ta) (hb:PD X (.BoolOp .And (b::rest) pos) tb):PD X (.BoolOp .And (a::b::rest) pos) (nI ta tb):=by
 refine⟨nI.mo ha.mo hb.mo,PE.imp (Vt ha.pe hb.pe) fun σ H Q hu=>?_⟩;obtain⟨δ,S,r1,r2,h⟩:=hu;refine zS.go ha.mo r1 r2 h λ x S1 v H1 h1 q1 e1 p1=>?_;cases x with
 | bl k=>
  simp only[ze] at q1;refine⟨k,q1,vf (λ z=>?_) (λ z=>?_) h1⟩
  .exact zS.go hb.mo (r1.ext e1) p1 z λ y S2 w H2 h2 q2 e2 p2=>h2 w H2 q2 (e1.trans e2) p2
  .exact z _ H1 (by simp only[ze]) e1 p1
 | zh=>exact h1.elim
 | int _=>exact h1.elim
 | str _=>exact h1.elim
 | tup _=>exact h1.elim
 | yK _=>exact h1.elim
 | ref _=>exact h1.elim
theorem V8 (ha:PD X a ta):PD X (.UnaryOp .Not a pos) (nE ta):=by
 refine⟨nE.mo ha.mo,PE.imp (Vd ha.pe) fun σ H Q hu=>?_⟩;obtain⟨δ,S,r1,r2,h⟩:=hu;refine zS.go ha.mo r1 r2 h λ x S1 v H1 h1 q1 e1 p1=>?_;cases x with
 | bl k=>
  simp only[ze] at q1;exact⟨k,q1,h1 _ H1 (by simp only[ze]) e1 p1⟩
 | zh=>exact h1.elim
 | int _=>exact h1.elim
 | str _=>exact h1.elim
 | tup _=>exact h1.elim
 | yK _=>exact h1.elim
 | ref _=>exact h1.elim
def nk (t u:yD):yD:=fun δ S Q=>t δ S λ k S1=>if k=true then u δ S1 Q else Q false S1
def ni (t u:yD):yD:=fun δ S Q=>t δ S λ k S1=>if k=true then Q true S1 else u δ S1 Q
def nj (t:yD):yD:=fun δ S Q=>t δ S λ k S1=>Q (!k) S1
variable {t u:yD}
theorem nk.mo (h:wX t) (h':wX u):wX (nk t u):=fun δ S _ _ hq z=>h δ S _ _ (λ k S1 z=>vf (h' δ S1 _ _ hq) (hq _ _) z) z
theorem ni.mo (h:wX t) (h':wX u):wX (ni t u):=fun δ S _ _ hq z=>h δ S _ _ (λ k S1 z=>vf (hq _ _) (h' δ S1 _ _ hq) z) z
theorem nj.mo (h:wX t):wX (nj t):=fun δ S _ _ hq z=>h δ S _ _ (λ k S1 z=>hq _ _ z) z
structure uq (X:Cx) (e:Expr) (t:yD):Prop where
 mo:wX t
 pw:PW X e (w9 X.K t)
theorem PW.imp {e:Expr}{t t':TT}(h:PW X e t) (hi:∀ σ H Q,t' σ H Q->t σ H Q):PW X e t':=λ whole pins s σ H Q I q=>h whole pins s σ H Q I (hi σ H Q q)
theorem uq.pt {e:Expr}{t:yD}(h:uq X e t):xP X e t:=⟨h.mo,PW.pt h.pw⟩
theorem Vu (h:xP X a t):uq X (.BoolOp .And [a] pos) t:=⟨h.mo,Ws h.pt⟩
theorem jT (h:xP X a t):uq X (.BoolOp .Or [a] pos) t:=⟨h.mo,Wq h.pt⟩
theorem cp (ha:xP X a t) (hb:uq X (.BoolOp .And (b::rest) pos) u):uq X (.BoolOp .And (a::b::rest) pos) (nk t u):=by
 refine⟨nk.mo ha.mo hb.mo,PW.imp (Wt ha.pt hb.pw) fun σ H Q hu=>?_⟩;obtain⟨δ,S,r1,r2,h⟩:=hu;refine w9.go ha.mo r1 r2 h λ k S1 H1 h1 e1 p1=>vf (λ z=>?_) (λ z=>z H1 e1 p1) h1;exact w9.go hb.mo (r1.ext e1) p1 z λ y S2 H2 h2 e2 p2=>h2 H2 (e1.trans e2) p2
theorem jU (ha:xP X a t) (hb:uq X (.BoolOp .Or (b::rest) pos) u):uq X (.BoolOp .Or (a::b::rest) pos) (ni t u):=by
 refine⟨ni.mo ha.mo hb.mo,PW.imp (Wr ha.pt hb.pw) fun σ H Q hu=>?_⟩;obtain⟨δ,S,r1,r2,h⟩:=hu;refine w9.go ha.mo r1 r2 h λ k S1 H1 h1 e1 p1=>vf (λ z=>z H1 e1 p1) (λ z=>?_) h1;exact w9.go hb.mo (r1.ext e1) p1 z λ y S2 H2 h2 e2 p2=>h2 H2 (e1.trans e2) p2
theorem qZ (ha:xP X a t):xP X (.UnaryOp .Not a pos) (nj t):=by
 refine⟨nj.mo ha.mo,PT.imp (Wx ha.pt) fun σ H Q hu=>?_⟩;obtain⟨δ,S,r1,r2,h⟩:=hu;exact w9.go ha.mo r1 r2 h λ k S1 H1 h1 e1 p1=>h1 H1 e1 p1
def nG (t:yD) (ta tb:zy):zy:=fun δ S Q=>t δ S λ k S1=>if k=true then ta δ S1 Q else tb δ S1 Q
theorem nG.mo (h:wX t) (ha:ym ta) (hb:ym tb):ym (nG t ta tb):=fun δ S _ _ hq z=>h δ S _ _ (λ k S1 z=>vf (ha δ S1 _ _ hq) (hb δ S1 _ _ hq) z) z
theorem VC (hc:xP X c t) (ha:PD X a ta) (hb:PD X b tb):PD X (.IfExp c a b pos) (nG t ta tb):=by
 refine⟨nG.mo hc.mo ha.mo hb.mo,PE.imp (Vj hc.pt ha.pe hb.pe) fun σ H Q hu=>?_⟩;obtain⟨δ,S,r1,r2,h⟩:=hu;refine w9.go hc.mo r1 r2 h λ k S1 H1 h1 e1 p1=>vf (λ z=>?_) (λ z=>?_) h1
 .exact zS.go ha.mo (r1.ext e1) p1 z λ y S2 w H2 h2 q2 e2 p2=>h2 w H2 q2 (e1.trans e2) p2
 .exact zS.go hb.mo (r1.ext e1) p1 z λ y S2 w H2 h2 q2 e2 p2=>h2 w H2 q2 (e1.trans e2) p2
def v9 (d:D) (S:SS) (Q:Bool->SS->Prop):Prop:=match d with
 | .zh=>Q false S
 | .bl k=>Q k S
 | .int i=>Q (i != 0) S
 | .str x=>x.length<=sizeLine/\Q ((x.length:Int) != 0) S
 | .tup ds=>Q (!ds.isEmpty) S
 | .yK ds=>Q (!ds.isEmpty) S
 | .ref p=>match S p with
  | some (.lst ds)=>Q (!ds.isEmpty) S
  | some (.ye kvs)=>Q (!kvs.isEmpty) S
  | none=>False
def a9 (ta:zy):yD:=fun δ S Q=>ta δ S λ x S1=>v9 x S1 Q
theorem v9.mo {d:D}{S:SS}{Q Q':Bool->SS->Prop}(hq:∀ k S',Q k S'->Q' k S') (h:v9 d S Q):v9 d S Q':=by
 cases d with
 | str x=>exact⟨h.1,hq _ _ h.2⟩
 | ref p=>
  unfold v9 at h ⊢;dsimp only at h ⊢;split at h
  .exact hq _ _ h
  .exact hq _ _ h
  .exact h
 | _=>exact hq _ _ h
theorem zq.isEmpty {H:Hp}{ds:List D}{xs:List V}(h:zq K H ds xs):ds.isEmpty=xs.isEmpty:=by
 have:=h.length;cases ds <;> cases xs <;> simp_all
theorem Pg {α β:Type}{F:α->β->Prop}{xs:List α}{ys:List β}(h:Paired F xs ys):xs.isEmpty=ys.isEmpty:=by cases h <;> rfl
theorem v9.fits {H:Hp}{d:D}{v:V}{S:SS}{Q:Bool->Hp->Prop}(r:ze K H d v) (p:zR K H S) (h:v9 d S (nB K H Q)):∃ k,fu K v H k/\Q k H:=by
 cases d with
 | zh=>simp only[ze] at r;subst r;exact⟨false,rfl,h H (.refl H) p⟩
 | bl k=>simp only[ze] at r;subst r;exact⟨k,rfl,h H (.refl H) p⟩
 | int i=>simp only[ze] at r;subst r;exact⟨_,rfl,h H (.refl H) p⟩
 | str x=>simp only[ze] at r;subst r;exact⟨_,⟨h.1,rfl⟩,h.2 H (.refl H) p⟩
 | tup ds=>
  simp only[ze] at r;obtain⟨a,xs,rfl,r1,r2⟩:=r;exact⟨_,.inr (.inl ⟨xs,r1,by rw[r2.isEmpty]⟩),h H (.refl H) p⟩
 | yK ds=>
  simp only[ze] at r;obtain⟨a,xs,rfl,r1,r2⟩:=r;exact⟨_,.inl ⟨xs,r1.sq,by rw[r2.isEmpty]⟩,h H (.refl H) p⟩
 | ref a=>
  simp only[ze] at r;subst r;unfold v9 at h;dsimp only at h;split at h
  .rename_i ds e;obtain⟨xs,e1,r2⟩:=p a _ e;exact⟨_,.inl ⟨xs,zV.of e1,by rw[r2.isEmpty]⟩,h H (.refl H) p⟩
  .rename_i kvs e;obtain⟨xs,e1,r2⟩:=p a _ e;exact⟨_,.inr (.inr ⟨xs,e1,by rw[Pg r2]⟩),h H (.refl H) p⟩
  .exact h.elim
theorem u0 (ha:PD X a ta) (he:∀ whole,isTrue a X.env whole=(do let v <- whole;standAt a.pos;holding [v] (truthy v)):=by intro _;rfl):xP X a (a9 ta):=by
 refine⟨fun δ S Q Q' hq h=>ha.mo δ S _ _ (λ x S1 z=>v9.mo hq z) h,PT.imp (Ww ha.pe he) fun σ H Q hu=>?_⟩;obtain⟨δ,S,r1,r2,h⟩:=hu;refine zS.go ha.mo r1 r2 h λ x S1 v H1 h1 q1 e1 p1=>?_;exact v9.fits q1 p1 (v9.mo (λ k S' z=>z.ext e1) h1)
def km:yt:=λ _ S Q=>Q [] S
def qp (te:zy) (tr:yt):yt:=fun δ S Q=>te δ S λ x S1=>tr δ S1 λ xs S2=>Q (x::xs) S2
variable {e:Expr}{es:List Expr}{te:zy}{tA:yt}
theorem qp.mo (h:ym te) (h':sj tA):sj (qp te tA):=fun δ S _ _ hq z=>h δ S _ _ (λ x S1 z=>h' δ S1 _ _ (λ xs S2 z=>hq _ _ z) z) z
theorem zv:xQ X [] km:=⟨λ _ _ _ _ hq h=>hq _ _ h,PA.imp ph fun σ H Q ⟨_,_,_,r2,h⟩=>h [] H .nil (.refl H) r2⟩
theorem zf (ha:PD X e te) (hr:xQ X es tA) (hs:starEach (e::es) X.env=(false,eval e X.env)::starEach es X.env:=by rfl):xQ X (e::es) (qp te tA):=by
 refine⟨qp.mo ha.mo hr.mo,PA.imp (qa ha.pe hr.pa hs) fun σ H Q hu=>?_⟩;obtain⟨δ,S,r1,r2,h⟩:=hu;refine zS.go ha.mo r1 r2 h λ x S1 v H1 h1 q1 e1 p1=>?_;refine wD.go hr.mo (r1.ext e1) p1 h1 λ xs S2 w H2 h2 q2 e2 p2=>?_;exact h2 (v::w) H2 (.cons (ze.ext e2 x q1) q2) (e1.trans e2) p2
def aG (t:yt):zy:=fun δ S Q=>t δ S λ ds S1=>ds.length<=sizeLine/\Q (.tup ds) S1
def aK (t:yt):zy:=fun δ S Q=>t δ S λ ds S1=>ds.length<=sizeLine/\∀ p,S1 p=none->Q (.ref p) (ups S1 p (.lst ds))
theorem xE {k} (h:xQ X es tA):PD X (.Tuple es k pos) (aG tA):=by
 refine⟨fun δ S _ _ hq z=>h.mo δ S _ _ (λ ds S1 z=>⟨z.1,hq _ _ z.2⟩) z,PE.imp (W_ h.pa) fun σ H Q hu=>?_⟩;obtain⟨δ,S,r1,r2,h'⟩:=hu;refine wD.go h.mo r1 r2 h' λ ds S1 xs H1 h1 q1 e1 p1=>⟨by rw[<- q1.length];exact h1.1,λ p hp=>?_⟩;refine h1.2 _ _ ?_ (e1.trans (.new hp _)) (p1.new hp);simp only[ze];exact⟨p,xs,rfl,zZ.of yZ,zq.ext (.new hp _) ds q1⟩
theorem vm (h:xQ X es tA):PD X (.List es pos) (aK tA):=by
 refine⟨fun δ S _ _ hq z=>h.mo δ S _ _ (λ ds S1 z=>⟨z.1,λ p hp=>hq _ _ (z.2 p hp)⟩) z,PE.imp (Vf h.pa) fun σ H Q hu=>?_⟩;obtain⟨δ,S,r1,r2,h'⟩:=hu;refine wD.go h.mo r1 r2 h' λ ds S1 xs H1 h1 q1 e1 p1=>⟨by rw[<- q1.length];exact h1.1,λ p hp=>?_⟩;refine h1.2 p (p1.none hp) _ _ (by simp only[ze]) (e1.trans (.new hp _)) ?_;exact p1.ups (.new hp _) ⟨xs,yZ,zq.ext (.new hp _) ds q1⟩
def wB:yP:=λ x y S Q=>match x,y with
 | .tup ds,.int i=>match yp ds i with
  | some d=>Q d S
  | none=>False
 | .yK ds,.int i=>match yp ds i with
  | some d=>Q d S
  | none=>False
 | .ref p,.int i=>match S p with
  | some (.lst ds)=>match yp ds i with
   | some d=>Q d S
   | none=>False
  | _=>False
 | _,_=>False
theorem wB.mo:xI wB:=λ x y S Q Q' hq h=>by
 unfold wB at h ⊢;split at h
 .skip
  split at h
  .exact hq _ _ h
  .exact h
 .skip
  split at h
  .exact hq _ _ h
  .exact h
 .skip
  split at h
  .skip
   split at h
   .exact hq _ _ h
   .exact h
  .exact h.elim
 .exact h.elim
theorem zq.yp {H:Hp}{ds:List D}{xs:List V}{i:Int}{d:D}(h:zq K H ds xs) (e:L2.yp ds i=some d):∃ x,L2.yp xs i=some x/\ze K H d x:=by
 unfold L2.yp at e ⊢;rw[h.length] at e;cases q:xm xs.length i with
 | none=>rw[q] at e;cases e
 | some j=>
  rw[q] at e;exact h.get e
theorem wB.fits:xC K wB (dI K):=λ x y d e H S Q h1 h2 h3 h=>by
 unfold wB at h;split at h
 .split at h
  .rename_i q;simp only[ze] at h1 h2;obtain⟨a,xs,rfl,r1,r2⟩:=h1;obtain⟨x',e1,e2⟩:=r2.yp q;exact .inr (.inl ⟨a,xs,_,x',rfl,h2,r1,e1,h x' H e2 (.refl H) h3⟩)
  .exact h.elim
 .split at h
  .rename_i q;simp only[ze] at h1 h2;obtain⟨a,xs,rfl,r1,r2⟩:=h1;obtain⟨x',e1,e2⟩:=r2.yp q;exact .inl ⟨a,xs,_,x',rfl,h2,r1.sq,e1,h x' H e2 (.refl H) h3⟩
  .exact h.elim
 .split at h
  .rename_i q0;split at h
   .rename_i q;simp only[ze] at h1 h2;subst h1;obtain⟨xs,r1,r2⟩:=h3 _ _ q0;obtain⟨x',e1,e2⟩:=r2.yp q;exact .inl ⟨_,xs,_,x',rfl,h2,zV.of r1,e1,h x' H e2 (.refl H) h3⟩
   .exact h.elim
  .exact h.elim
 .exact h.elim
theorem zH (ha:PD X a ta) (hb:PD X b tb) (hs:Z5 b:=by exact λ _ _=>rfl):PD X (.Subscript a b pos) (yx wB ta tb):=
 ⟨yx.mo wB.mo ha.mo hb.mo,PE.imp (Vh S8 ha.pe hb.pe hs) λ _ _ _ h=>mF wB.fits wB.mo ha.mo hb.mo h⟩
abbrev xW:=List D->SS->DK->Prop
def uG (f:xW):Prop:=∀ ds S (Q Q':DK),(∀ d S',Q d S'->Q' d S')->f ds S Q->f ds S Q'
def sr (K:PySem.W.Frag) (f:xW) (r:List V->Hp->VK->Prop):Prop:=∀ xs ds H S Q,zq K H ds xs->zR K H S->f ds S (wO K H Q)->r xs H Q
def xM (f:xW) (t:yt):zy:=fun δ S Q=>t δ S λ ds S1=>f ds S1 Q
theorem xM.mo {f:xW}(hf:uG f) (h:sj tA):ym (xM f tA):=fun δ S _ _ hq z=>h δ S _ _ (λ ds S1 z=>hf ds S1 _ _ hq z) z
theorem eK {f:xW}{r:List V->Hp->VK->Prop}(hf:uG f) (hr:sr K f r) (h:sj tA) {σ:St}{H:Hp}{Q:VK}(hu:zS K (xM f tA) σ H Q):mK r (wD K tA) σ H Q:=by
 obtain⟨δ,S,r1,r2,h'⟩:=hu;refine wD.go h r1 r2 h' λ ds S1 xs H1 h1 q1 e1 p1=>?_;exact hr xs ds H1 S1 Q q1 p1 (hf ds S1 _ _ (λ d S' z=>z.ext e1) h1)
theorem tP {f:xW}{r:List V->Hp->VK->Prop}{e:Expr}(h:PE X e (mK r (wD X.K tA))) (hf:uG f) (hr:sr X.K f r) (ha:sj tA):PD X e (xM f tA):=
 ⟨xM.mo hf ha,PE.imp h λ _ _ _ hu=>eK hf hr ha hu⟩
noncomputable def zT (d:D) (S:SS):Option (List D):=match d with
 | .tup ds=>some ds
 | .yK ds=>some ds
 | .ref p=>match S p with
  | some (.lst ds)=>some ds
  | _=>none
 | _=>none
theorem zT.sq {H:Hp}{S:SS}{d:D}{v:V}{ds:List D}(r:ze K H d v) (p:zR K H S) (e:zT d S=some ds):∃ a xs,v=.ref a/\(zV K H a xs\/zZ K H a xs)/\zq K H ds xs:=by
 unfold zT at e;split at e
 .cases e;simp only[ze] at r;obtain⟨a,xs,h1,h2,h3⟩:=r;exact⟨a,xs,h1,.inr h2,h3⟩
 .cases e;simp only[ze] at r;obtain⟨a,xs,h1,h2,h3⟩:=r;exact⟨a,xs,h1,.inl h2.sq,h3⟩
 .split at e
  .rename_i q;cases e;simp only[ze] at r;subst r;obtain⟨xs,h1,h2⟩:=p _ _ q;exact⟨_,xs,rfl,.inl (zV.of h1),h2⟩
  .cases e
 .cases e
theorem zq.one {H:Hp}{d:D}{xs:List V}(h:zq K H [d] xs):∃ x,xs=[x]/\ze K H d x:=by
 simp only[zq] at h;obtain⟨x,r,rfl,h2,rfl⟩:=h;exact⟨x,rfl,h2⟩
theorem zq.two {H:Hp}{d d':D}{xs:List V}(h:zq K H [d,d'] xs):∃ x y,xs=[x,y]/\ze K H d x/\ze K H d' y:=by
 simp only[zq] at h;obtain⟨x,r,rfl,h2,y,r',rfl,h3,rfl⟩:=h;exact⟨x,y,rfl,h2,h3⟩
def ue:xW:=λ ds S Q=>match ds with
 | [d]=>match zT d S with
  | some ds=>Q (.int ds.length) S
  | none=>match d with
   | .str z=>z.length<=sizeLine/\Q (.int z.length) S
   | _=>False
 | _=>False
theorem ue.mo:uG ue:=λ ds S Q Q' hq h=>by
 unfold ue at h ⊢;split at h
 .skip
  split at h
  .exact hq _ _ h
  .split at h
   .exact⟨h.1,hq _ _ h.2⟩
   .exact h.elim
 .exact h.elim
abbrev Wo (K:PySem.W.Frag):List V->Hp->VK->Prop:=λ xs H Q=>(∃ p ys,xs=[.ref p]/\(zV K H p ys\/zZ K H p ys)/\Q (.int ys.length) H)\/(∃ z,xs=[.str z]/\z.length<=sizeLine/\Q (.int z.length) H)
theorem ue.fits:sr K ue (Wo K):=λ xs ds H S Q h0 h2 h=>by
 unfold ue at h;split at h
 .obtain⟨x,hx,h1⟩:=h0.one;subst hx;split at h
  .rename_i e;obtain⟨a,ys,rfl,q,r⟩:=zT.sq h1 h2 e;refine .inl ⟨a,ys,rfl,q,?_⟩;rw[<- r.length];exact h _ H (by simp only[ze]) (.refl H) h2
  .split at h
   .simp only[ze] at h1;subst h1;exact .inr ⟨_,rfl,h.1,h.2 _ H (by simp only[ze]) (.refl H) h2⟩
   .exact h.elim
 .exact h.elim
def ud:xW:=λ ds S Q=>match ds with
 | [d]=>match zT d S with
  | some ds=>∀ p,S p=none->Q (.ref p) (ups S p (.lst ds))
  | none=>False
 | _=>False
theorem ud.mo:uG ud:=λ ds S Q Q' hq h=>by
 unfold ud at h ⊢;split at h
 .skip
  split at h
  .exact λ p hp=>hq _ _ (h p hp)
  .exact h.elim
 .exact h.elim
theorem ud.fits:sr K ud (λ xs H Q=>∃ p ys,xs=[.ref p]/\(zV K H p ys\/zZ K H p ys)/\∀ l,H l=none->Q (.ref l) (upd H l (.lst ys))):=λ xs ds H S Q h0 h2 h=>by
 unfold ud at h;split at h
 .obtain⟨x,hx,h1⟩:=h0.one;subst hx;split at h
  .rename_i e;obtain⟨a,ys,rfl,q,r⟩:=zT.sq h1 h2 e;refine⟨a,ys,rfl,q,λ l hl=>?_⟩;exact h l (h2.none hl) _ _ (by simp only[ze]) (.new hl _) (h2.ups (.new hl _) ⟨ys,yZ,zq.ext (.new hl _) _ r⟩)
  .exact h.elim
 .exact h.elim
def uc:xW:=λ ds S Q=>match ds with
 | [.tup ds]=>Q (.tup ds) S
 | [.yK ds]=>Q (.tup ds) S
 | [.ref p]=>match S p with
  | some (.lst ds)=>Q (.tup ds) S
  | _=>False
 | _=>False
theorem uc.mo:uG uc:=λ ds S Q Q' hq h=>by
 unfold uc at h ⊢;split at h
 .exact hq _ _ h
 .exact hq _ _ h
 .skip
  split at h
  .exact hq _ _ h
  .exact h.elim
 .exact h.elim
theorem uc.fits:sr K uc (λ xs H Q=>∃ p ys,xs=[.ref p]/\((zV K H p ys/\∀ l,H l=none->Q (.ref l) (upd H l (.tup ys)))\/(zZ K H p ys/\Q (.ref p) H))):=λ xs ds H S Q h0 h2 h=>by
 unfold uc at h;split at h
 .obtain⟨x,hx,h1⟩:=h0.one;subst hx;have h1':=h1;simp only[ze] at h1;obtain⟨a,xs,rfl,r1,r2⟩:=h1;exact⟨a,xs,rfl,.inr ⟨r1,h _ H h1' (.refl H) h2⟩⟩
 .obtain⟨x,hx,h1⟩:=h0.one;subst hx;simp only[ze] at h1;obtain⟨a,xs,rfl,r1,r2⟩:=h1;refine⟨a,xs,rfl,.inl ⟨r1.sq,λ l hl=>h _ _ ?_ (.new hl _) (h2.new hl)⟩⟩;simp only[ze];exact⟨l,xs,rfl,zZ.of yZ,zq.ext (.new hl _) _ r2⟩
 .obtain⟨x,hx,h1⟩:=h0.one;subst hx;split at h
  .rename_i e;simp only[ze] at h1;subst h1;obtain⟨xs,r1,r2⟩:=h2 _ _ e;refine⟨_,xs,rfl,.inl ⟨zV.of r1,λ l hl=>h _ _ ?_ (.new hl _) (h2.new hl)⟩⟩;simp only[ze];exact⟨l,xs,rfl,zZ.of yZ,zq.ext (.new hl _) _ r2⟩
  .exact h.elim
 .exact h.elim
def vL (g:Int->Int->D):xW:=λ ds S Q=>match ds with
 | [.int i,.int j]=>Q (g i j) S
 | _=>False
theorem vL.mo {g:Int->Int->D}:uG (vL g):=λ ds S Q Q' hq h=>by
 unfold vL at h ⊢;split at h
 .exact hq _ _ h
 .exact h.elim
theorem vL.fits {g:Int->Int->D}{g':Int->Int->V}(hg:∀ i j H,ze K H (g i j) (g' i j)):sr K (vL g) (λ xs H Q=>∃ i j,xs=[.int i,.int j]/\Q (g' i j) H):=λ xs ds H S Q h0 h2 h=>by
 unfold vL at h;split at h
 .obtain⟨x,y,hx,h1,h3⟩:=h0.two;subst hx;simp only[ze] at h1 h3;subst h1 h3;exact⟨_,_,rfl,h _ H (hg _ _ H) (.refl H) h2⟩
 .exact h.elim
def zad:yP:=λ x y S Q=>match x,y with
 | .ref p,.ref q=>match S p,S q with
  | some (.lst ds),some (.lst es)=>ds.length+es.length<=sizeLine/\∀ r,S r=none->Q (.ref r) (ups S r (.lst (ds++es)))
  | _,_=>False
 | _,_=>False
def rn (to te:zy):zy:=fun δ S Q=>to δ S λ x S1=>match x with
 | .ref p=>(∃ ds,S1 p=some (.lst ds))/\te δ S1 λ y S2=>match S2 p with
  | some (.lst ds)=>ds.length<sizeLine/\Q .zh (ups S2 p (.lst (ds++[y])))
  | _=>False
 | _=>False
theorem rn.mo {to te:zy}(h:ym to) (h':ym te):ym (rn to te):=fun δ S Q Q' hq z=>h δ S _ _ (λ x S1 z=>by
 cases x with
 | ref p=>
  refine⟨z.1,h' δ S1 _ _ (λ y S2 w=>?_) z.2⟩;split at w
  .exact⟨w.1,hq _ _ w.2⟩
  .exact w.elim
 | _=>exact z) z
theorem VM {o e:Expr}{to te:zy}{e0:Expr}(hpe:PE X e0 (ji X.K "list" dR (zS X.K to) (jh (zS X.K te) jf))) (h:ym to) (h':ym te):PD X e0 (rn to te):=by
 refine⟨rn.mo h h',PE.imp hpe fun σ H Q hu=>?_⟩;obtain⟨δ,S,r1,r2,z⟩:=hu;refine zS.go h r1 r2 z λ x S1 v H1 h1 q1 e1 p1=>?_;cases x with
 | ref p=>
  obtain⟨⟨ds,hd⟩,h1⟩:=h1;simp only[ze] at q1;subst q1;obtain⟨xs,g1,g2⟩:=p1 _ _ hd;refine⟨.inl ⟨rfl,xs,zV.of g1⟩,?_⟩;refine zS.go h' (r1.ext e1) p1 h1 λ y S2 w H2 h2 q2 e2 p2=>?_;split at h2
  .rename_i ds' e3;obtain⟨xs',g3,g4⟩:=p2 _ _ e3;refine⟨p,xs',w,rfl,rfl,g3,by rw[<- g4.length];exact h2.1,?_⟩;have e4:Ext H2 (upd H2 p (.lst (xs'++[w]))):=.lst g3 _;exact h2.2 _ _ (by simp only[ze]) ((e1.trans e2).trans e4) (p2.ups e4 ⟨_,yZ,zq.ext e4 _ (g4.snoc q2)⟩)
  .exact h2.elim
 | zh=>exact h1.elim
 | bl _=>exact h1.elim
 | int _=>exact h1.elim
 | str _=>exact h1.elim
 | tup _=>exact h1.elim
 | yK _=>exact h1.elim
end
structure rK where
 nx:yk->SS->Prop
 rt:DK
 bk:yk->SS->Prop:=λ _ _=>False
 ct:yk->SS->Prop:=λ _ _=>False
abbrev yU:=rK->yk->SS->Prop
structure rK.Le (E E':rK):Prop where
 nx:∀ δ S,E.nx δ S->E'.nx δ S
 rt:∀ d S,E.rt d S->E'.rt d S
 bk:∀ δ S,E.bk δ S->E'.bk δ S
 ct:∀ δ S,E.ct δ S->E'.ct δ S
def tD (t:yU):Prop:=∀ E E' δ S,rK.Le E E'->t E δ S->t E' δ S
noncomputable def tq (K:PySem.W.Frag) (H:Hp) (D:Ends):rK:=⟨vh K H D.nx,wO K H D.rt,vh K H D.bk,vh K H D.ct⟩
theorem tq.ext {K:PySem.W.Frag}{H H':Hp}{D:Ends}(e:Ext H H'):(tq K H D).Le (tq K H' D):=⟨λ _ _ h=>vh.ext e h,λ _ _ h=>wO.ext e h,λ _ _ h=>vh.ext e h,λ _ _ h=>vh.ext e h⟩
def ja (K:PySem.W.Frag) (t:yU):TS:=λ D σ H=>∃ δ S,yV K H δ σ/\zR K H S/\t (tq K H D) δ S
structure vw (X:Cx) (st:Stmt) (t:yU):Prop where
 mo:tD t
 ps:PS X st (ja X.K t)
structure ur (X:Cx) (st:List Stmt) (t:yU):Prop where
 mo:tD t
 ps:xX X st (ja X.K t)
section
variable {X:Cx}{K:PySem.W.Frag}{st:Stmt}{rest:List Stmt}{t u:yU}{pos:Pos}{e:Expr}{te:zy}
def aH:yU:=λ E δ S=>E.nx δ S
def nD (t u:yU):yU:=λ E δ S=>t { E with nx:=u E } δ S
theorem nD.mo (h:tD t) (h':tD u):tD (nD t u):=λ E E' δ S hE z=>h { E with nx:=u E } { E' with nx:=u E' } δ S ⟨fun δ S q=>h' E E' δ S hE q,hE.rt,hE.bk,hE.ct⟩ z
theorem wb:ur X [] aH:=⟨λ _ _ _ _ hE h=>hE.nx _ _ h,xX.imp W2 λ D σ H ⟨δ,S,r1,r2,h⟩=>h σ H r1 (.refl H) r2⟩
theorem zP (h:vw X st t):ur X [st] t:=⟨h.mo,W0 h.ps⟩
theorem zE (h:vw X st t) (h':ur X rest u):ur X (st::rest) (nD t u):=by
 refine⟨nD.mo h.mo h'.mo,xX.imp (W3 h.ps h'.ps) λ D σ H hu=>?_⟩;obtain⟨δ,S,r1,r2,z⟩:=hu;refine⟨δ,S,r1,r2,h.mo { tq X.K H D with nx:=u (tq X.K H D) } _ δ S ⟨fun δ' S' q σ' H' q1 q2 q3=>?_,λ _ _ q=>q,λ _ _ q=>q,λ _ _ q=>q⟩ z⟩;exact⟨δ',S',q1,q3,h'.mo _ _ δ' S' (tq.ext q2) q⟩
def ko (te:zy):yU:=λ E δ S=>te δ S λ _ S1=>E.nx δ S1
theorem u4 (he:PD X e te) (hs:swapsWith e none pos.line X.env=pure false:=by rfl):vw X (.Expr e pos) (ko te):=by
 refine⟨λ E E' δ S hE z=>he.mo δ S _ _ (λ _ _ q=>hE.nx _ _ q) z,PS.imp (WA he.pe hs) λ D σ H hu=>?_⟩;obtain⟨δ,S,r1,r2,z⟩:=hu;exact zS.go he.mo r1 r2 z λ x S1 v H1 h1 q1 e1 p1=>h1 σ H1 (r1.ext e1) e1 p1
def gQ (te:zy):yU:=λ E δ S=>te δ S E.rt
theorem y7 (he:PD X e te):vw X (.Return (some e) pos) (gQ te):=by
 refine⟨λ E E' δ S hE z=>he.mo δ S _ _ (λ _ _ q=>hE.rt _ _ q) z,PS.imp (W7 he.pe) λ D σ H hu=>?_⟩;obtain⟨δ,S,r1,r2,z⟩:=hu;exact zS.go he.mo r1 r2 z λ x S1 v H1 h1 q1 e1 p1=>h1 v H1 q1 e1 p1
def aM (c:yD) (t u:yU):yU:=λ E δ S=>c δ S λ k S1=>if k=true then t E δ S1 else u E δ S1
theorem wc {c:Expr}{p q:List Stmt}{tc:yD}(hc:xP X c tc) (h:ur X p t) (h':ur X q u):vw X (.If c p q pos) (aM tc t u):=by
 refine⟨λ E E' δ S hE z=>hc.mo δ S _ _ (λ k S1 z=>vf (h.mo _ _ δ S1 hE) (h'.mo _ _ δ S1 hE) z) z,PS.imp (W8 hc.pt h.ps h'.ps) λ D σ H hu=>?_⟩;obtain⟨δ,S,r1,r2,z⟩:=hu;refine w9.go hc.mo r1 r2 z λ k S1 H1 h1 e1 p1=>vf (λ z=>?_) (λ z=>?_) h1
 .exact⟨δ,S1,r1.ext e1,p1,h.mo _ _ δ S1 (tq.ext e1) z⟩
 .exact⟨δ,S1,r1.ext e1,p1,h'.mo _ _ δ S1 (tq.ext e1) z⟩
abbrev xt:=D->yk->SS->(yk->SS->Prop)->Prop
abbrev wR:=List D->yk->SS->(yk->SS->Prop)->Prop
def nX (t:xt):Prop:=∀ d δ S (Q Q':yk->SS->Prop),(∀ δ S,Q δ S->Q' δ S)->t d δ S Q->t d δ S Q'
def ZC (t:wR):Prop:=∀ d δ S (Q Q':yk->SS->Prop),(∀ δ S,Q δ S->Q' δ S)->t d δ S Q->t d δ S Q'
noncomputable def oq (K:PySem.W.Frag) (t:xt):TG:=λ v σ H Q=>∃ d δ S,ze K H d v/\yV K H δ σ/\zR K H S/\t d δ S (vh K H Q)
noncomputable def eJ (K:PySem.W.Frag) (t:wR):sf:=λ v σ H Q=>∃ d δ S,zq K H d v/\yV K H δ σ/\zR K H S/\t d δ S (vh K H Q)
structure sg (X:Cx) (e:Expr) (t:xt):Prop where
 mo:nX t
 pg:PG X e (oq X.K t)
structure kH (X:Cx) (es:List Expr) (t:wR):Prop where
 mo:ZC t
 pg:tB X es (eJ X.K t)
theorem PG.imp {e:Expr}{t t':TG}(h:PG X e t) (hi:∀ v σ H Q,t' v σ H Q->t v σ H Q):PG X e t':=λ pins s σ H v w Q I r q=>h pins s σ H v w Q I r (hi v σ H Q q)
theorem tB.imp {e:List Expr}{t t':sf}(h:tB X e t) (hi:∀ v σ H Q,t' v σ H Q->t v σ H Q):tB X e t':=λ pins s σ H v w Q I r q=>h pins s σ H v w Q I r (hi v σ H Q q)
def hName (i:Nat):xt:=λ d δ S Q=>Q (δ.set i (some d)) S
theorem V5 {e:Expr}{i:Nat}(h:PG X e (pJ i)):sg X e (hName i):=
 ⟨λ _ _ _ _ _ hq z=>hq _ _ z,PG.imp h λ v σ H Q ⟨d,δ,S,r1,r2,r3,z⟩=>z _ H (r2.set i r1) (.refl H) r3⟩
def hJ:wR:=λ ds δ S Q=>ds=[]/\Q δ S
def hV (t:xt) (u:wR):wR:=λ ds δ S Q=>match ds with
 | d::r=>t d δ S fun δ' S'=>u r δ' S' Q
 | []=>False
theorem rX:kH X [] hJ:=by
 refine⟨λ _ _ _ _ _ hq z=>⟨z.1,hq _ _ z.2⟩,tB.imp WM λ v σ H Q hu=>?_⟩;obtain⟨d,δ,S,r1,r2,r3,z1,z2⟩:=hu;subst z1;simp only[zq] at r1;exact⟨r1,z2 σ H r2 (.refl H) r3⟩
theorem we {e:Expr}{es:List Expr}{t:xt}{u:wR}(h:sg X e t) (h':kH X es u) (hs:(assignEach (e::es) X.env).map (·.2)=assign e X.env::(assignEach es X.env).map (·.2):=by rfl):kH X (e::es) (hV t u):=by
 refine⟨λ ds δ S Q Q' hq z=>?_,tB.imp (WN h.pg h'.pg hs) λ v σ H Q hu=>?_⟩
 .cases ds with
  | nil=>exact z
  | cons d r=>exact h.mo d δ S _ _ (fun δ' S' z=>h'.mo r δ' S' _ _ hq z) z
 .obtain⟨ds,δ,S,r1,r2,r3,z⟩:=hu;cases ds with
  | nil=>exact z.elim
  | cons d r=>
   simp only[zq] at r1;obtain⟨x,xs,rfl,q1,q2⟩:=r1;refine⟨x,xs,rfl,d,δ,S,q1,r2,r3,h.mo d δ S _ _ (fun δ' S' z σ' H' g1 g2 g3=>?_) z⟩;exact⟨r,δ',S',zq.ext g2 r q2,g1,g3,h'.mo r δ' S' _ _ (fun δ2 S2 z2=>vh.ext g2 z2) z⟩
def lV (n:Nat) (t:wR):xt:=λ d δ S Q=>match d with
 | .tup ds=>ds.length=n/\t ds δ S Q
 | _=>False
theorem V4 {e:Expr}{n:Nat}{t:wR}(h:PG X e (bZ X.K n (eJ X.K t))) (hm:ZC t):sg X e (lV n t):=by
 refine⟨λ d δ S Q Q' hq z=>?_,PG.imp h λ v σ H Q hu=>?_⟩
 .cases d with
  | tup ds=>exact⟨z.1,hm ds δ S _ _ hq z.2⟩
  | _=>exact z
 .obtain⟨d,δ,S,r1,r2,r3,z⟩:=hu;cases d with
  | tup ds=>
   simp only[ze] at r1;obtain⟨a,xs,rfl,q1,q2⟩:=r1;exact⟨a,xs,rfl,q1,by rw[<- q2.length];exact z.1,ds,δ,S,q2,r2,r3,z.2⟩
  | zh=>exact z.elim
  | bl _=>exact z.elim
  | int _=>exact z.elim
  | str _=>exact z.elim
  | yK _=>exact z.elim
  | ref _=>exact z.elim
def vu (te:zy) (g:xt):yU:=λ E δ S=>te δ S λ x S1=>g x δ S1 E.nx
theorem vu.mo {g:xt}(h:ym te) (h':nX g):tD (vu te g):=λ E E' δ S hE z=>h δ S _ _ (λ x S1 q=>h' x δ S1 _ _ (fun δ S q=>hE.nx _ _ q) q) z
theorem YS {g:xt}(h:ym te) (h':nX g) {D:Ends}{σ:St}{H:Hp}(hu:ja K (vu te g) D σ H):ox (zS K te) (oq K g) D σ H:=by
 obtain⟨δ,S,r1,r2,z⟩:=hu;refine zS.go h r1 r2 z λ x S1 v H1 h1 q1 e1 p1=>?_;exact⟨x,δ,S1,q1,r1.ext e1,p1,h' x δ S1 _ _ (fun δ S q=>vh.ext e1 q) h1⟩
theorem V1 {tg e:Expr}{g:xt}(he:PD X e te) (hg:sg X tg g) (hs:swapsWithSole [tg] e pos.line X.env=pure false:=by rfl) (hw:swappedStores [tg] e X.env=pure none:=by rfl)
  (h1:(assignEach [tg] X.env).map (·.2)=[assign tg X.env]:=by rfl):vw X (.Assign [tg] e pos) (vu te g):=
 ⟨vu.mo he.mo hg.mo,PS.imp (dX he.pe hg.pg hs hw h1) λ _ _ _ hu=>YS he.mo hg.mo hu⟩
theorem Vz {e0:Stmt}{i:Nat}(h:PS X e0 (ox (zS X.K te) (pJ i))) (hm:ym te):vw X e0 (vu te (hName i)):=by
 refine⟨vu.mo hm λ _ _ _ _ _ hq z=>hq _ _ z,PS.imp h λ D σ H hu=>?_⟩;obtain⟨δ,S,r1,r2,z⟩:=hu;refine zS.go hm r1 r2 z λ x S1 v H1 h1 q1 e1 p1=>?_;exact h1 _ H1 ((r1.ext e1).set i q1) e1 p1
end
end L3
namespace L3
open PySem PySem.Spec L2
open PyProof.Rows hiding St
structure m9 where
 items:List D
 keep:SS->Prop
abbrev wQ:=yk->SS->(m9->SS->Prop)->Prop
def kN (t:wQ):Prop:=∀ δ S (Q Q':m9->SS->Prop),(∀ I S',Q I S'->Q' I S')->t δ S Q->t δ S Q'
def f6 (K:PySem.W.Frag) (H1:Hp) (J:It) (I:m9):Prop:=∀ (i:Nat) (H:Hp) (S:SS),Ext H1 H->zR K H S->I.keep S->
 (∀ d,I.items[i]?=some d->J.go i H/\∀ x H',J.qJ i H x H'->Ext H H'/\zR K H' S/\ze K H' d x)/\(I.items.length<=i->J.stop i H)
def RX (K:PySem.W.Frag) (H:Hp) (R:It->Hp->Prop):m9->SS->Prop:=λ I S1=>∀ J H1,Ext H H1->zR K H1 S1->f6 K H1 J I->R J H1
def wY (K:PySem.W.Frag) (t:wQ):TI:=fun σ H R=>∃ δ S,yV K H δ σ/\zR K H S/\t δ S (RX K H R)
structure rF (X:Cx) (tg iter:Expr) (t:wQ):Prop where
 mo:kN t
 pi:PI X tg iter (wY X.K t)
theorem PI.imp {X:Cx}{tg e:Expr}{t t':TI}(h:PI X tg e t) (hi:∀ σ H Q,t' σ H Q->t σ H Q):PI X tg e t':=λ pins s σ H Q I q=>h pins s σ H Q I (hi σ H Q q)
section
variable {X:Cx}{K:PySem.W.Frag}{tg e:Expr}{te:zy}{pos:Pos}
theorem zq.at {H:Hp}{ds:List D}{xs:List V}{i:Nat}{d:D}{x:V}(r:zq K H ds xs) (h1:ds[i]?=some d) (h2:xs[i]?=some x):ze K H d x:=by
 obtain⟨y,e1,e2⟩:=r.get h1;rw[h2] at e1;cases e1;exact e2
noncomputable def vD (lo:Int) (n:Nat):List D:=(List.range n).map λ(k:Nat)=>D.int (lo+(k:Int))
theorem Wm {lo:Int}{n i:Nat}{d:D}(h:(vD lo n)[i]?=some d):i<n/\d=.int (lo+(i:Int)):=by
 unfold vD at h;rw[List.getElem?_map] at h;cases q:(List.range n)[i]? with
 | none=>rw[q] at h;cases h
 | some j=>
  rw[q] at h;obtain⟨h1,h2⟩:=List.getElem?_eq_some_iff.mp q;rw[List.length_range] at h1;rw[List.getElem_range] at h2;subst h2;cases h;exact⟨h1,rfl⟩
theorem Wl (lo:Int) (n:Nat):(vD lo n).length=n:=by unfold vD;rw[List.length_map,List.length_range]
theorem f6.range {H1:Hp}{lo:Int}{n:Nat}:f6 K H1 (kO lo n) ⟨vD lo n,λ _=>True⟩:=λ i H S _ x2 _=>by
 refine⟨λ d hd=>?_,λ hl=>by rw[show (m9.mk (vD lo n) λ _=>True).items=vD lo n from rfl,Wl] at hl;exact hl⟩;obtain⟨h1,rfl⟩:=Wm hd;refine⟨h1,λ x H' q=>?_⟩;obtain⟨rfl,rfl⟩:=q;exact⟨.refl _,x2,by simp only[ze]⟩
def iU (t:yt):wQ:=fun δ S R=>t δ S λ ds S1=>match ds with
 | [.int j]=>(-(2 ^ 62)<=j/\j<2 ^ 62)/\R ⟨vD 0 j.toNat,λ _=>True⟩ S1
 | _=>False
variable {tA:yt}
theorem V3 (h:PI X tg e (bP (wD X.K tA))) (hm:sj tA):rF X tg e (iU tA):=by
 refine⟨fun δ S Q Q' hq z=>hm δ S _ _ (λ ds S1 z=>?_) z,PI.imp h fun σ H R hu=>?_⟩
 .split at z
  .exact⟨z.1,hq _ _ z.2⟩
  .exact z.elim
 .obtain⟨δ,S,r1,r2,z⟩:=hu;refine wD.go hm r1 r2 z λ ds S1 xs H1 h1 q1 e1 p1=>?_;split at h1
  .obtain⟨x,rfl,q⟩:=q1.one;simp only[ze] at q;subst q;exact⟨_,rfl,h1.1.1,h1.1.2,h1.2 _ H1 e1 p1 .range⟩
  .exact h1.elim
def nH (ti:wQ) (g:xt) (tb:yU):yU:=λ E δ S=>ti δ S λ I S1=>∃ W:Nat->yk->SS->Prop,W 0 δ S1/\(∀ i δ S,W i δ S->I.keep S)/\
 (∀ i d δ S,I.items[i]?=some d->W i δ S->g d δ S fun δ2 S2=>tb { E with nx:=W (i+1),ct:=W (i+1),bk:=E.nx } δ2 S2)/\∀ δ S,W I.items.length δ S->E.nx δ S
theorem nH.mo {ti:wQ}{g:xt}{tb:yU}(hi:kN ti) (hg:nX g) (hb:tD tb):tD (nH ti g tb):=λ E E' δ S hE z=>hi δ S _ _ (λ I S1 ⟨W,w0,wk,ws,wd⟩=>by
 refine⟨W,w0,wk,λ i d δ S hd hw=>hg d δ S _ _ (fun δ2 S2 z=>hb { E with nx:=W (i+1),ct:=W (i+1),bk:=E.nx } { E' with nx:=W (i+1),ct:=W (i+1),bk:=E'.nx } δ2 S2 ⟨λ _ _ q=>q,hE.rt,hE.nx,λ _ _ q=>q⟩ z) (ws i d δ S hd hw),fun δ S q=>hE.nx _ _ (wd δ S q)⟩) z
theorem u3 {iter:Expr}{body:List Stmt}{ti:wQ}{g:xt}{tb:yU}(hp:PassesOwn (model X.prog X.w) X.A X.env X.xe) (hc:X.calm=true) (hi:rF X tg iter ti) (hg:sg X tg g) (hb:ur X body tb)
  (hs:∀ x,foldedSetIterable iter X.env x=pure x:=by intro _;rfl):vw X (.For tg iter body [] pos) (nH ti g tb):=by
 refine⟨nH.mo hi.mo hg.mo hb.mo,PS.imp (W9 hp hc hi.pi hg.pg hb.ps hs) λ D σ H hu=>?_⟩;obtain⟨δ,S,r1,r2,z⟩:=hu;refine⟨δ,S,r1,r2,hi.mo δ S _ _ (λ I S1 hW J H1 e1 p1 rep=>?_) z⟩;obtain⟨W,w0,wk,ws,wd⟩:=hW;refine⟨λ i m σ H2=>m=I.items.length-i/\i<=I.items.length/\Ext H1 H2/\∃ δ S,yV X.K H2 δ σ/\zR X.K H2 S/\W i δ S,⟨_,rfl,Nat.zero_le _,.refl _,δ,S1,r1.ext e1,p1,w0⟩,?_⟩;rintro i m σ2 H2 ⟨rfl,hi',x2,δ2,S2,q1,q2,w2⟩;obtain⟨g1,g2⟩:=rep i H2 S2 x2 q2 (wk i δ2 S2 w2);by_cases hl:i<I.items.length
 .have hd:I.items[i]?=some I.items[i]:=by simp[hl]
  obtain⟨go,yl⟩:=g1 _ hd;refine .inr ⟨go,fun σ' H'=>Ext H1 H'/\∃ δ S,yV X.K H' δ σ'/\zR X.K H' S/\W (i+1) δ S,fun σ' H' q=>⟨_,by omega,rfl,hl,q⟩,λ x H3 hy=>?_⟩;obtain⟨x3,p3,d3⟩:=yl x H3 hy;refine⟨_,δ2,S2,d3,q1.ext x3,p3,hg.mo _ δ2 S2 _ _ (fun δ4 S4 z4 σ4 H4 a1 a2 a3=>?_) (ws i _ δ2 S2 hd w2)⟩;refine⟨δ4,S4,a1,a3,hb.mo _ _ δ4 S4 ⟨fun δ5 S5 w5 σ5 H5 b1 b2 b3=>⟨((x2.trans x3).trans a2).trans b2,δ5,S5,b1,b3,w5⟩,λ _ _ q=>wO.ext (((e1.trans x2).trans x3).trans a2) q,λ _ _ q=>vh.ext (((e1.trans x2).trans x3).trans a2) q,fun δ5 S5 w5 σ5 H5 b1 b2 b3=>⟨((x2.trans x3).trans a2).trans b2,δ5,S5,b1,b3,w5⟩⟩ z4⟩
 .have e:i=I.items.length:=by omega
  subst e;exact .inl ⟨g2 (Nat.le_refl _),wd δ2 S2 w2 σ2 H2 q1 (e1.trans x2) q2⟩
abbrev rE:=List D->SS->DK->Prop
def fy (sp:rE):Prop:=∀ ds S (Q Q':DK),(∀ d S',Q d S'->Q' d S')->sp ds S Q->sp ds S Q'
noncomputable def tG (K:PySem.W.Frag) (sp:rE):Sp:=λ vs H Q _=>∃ ds S,zq K H ds vs/\zR K H S/\sp ds S (wO K H Q)
def kq (sp:rE) (t:yt):zy:=fun δ S Q=>t δ S λ ds S1=>sp ds S1 Q
theorem VL {sp:rE}{E:XK}{e:Expr}(h:PE X e (eS (tG X.K sp) [] E (wD X.K tA))) (hs:fy sp) (hm:sj tA):PD X e (kq sp tA):=by
 refine⟨fun δ S Q Q' hq z=>hm δ S _ _ (λ ds S1 z=>hs ds S1 _ _ hq z) z,PE.imp h fun σ H Q hu=>?_⟩;obtain⟨δ,S,r1,r2,z⟩:=hu;refine wD.go hm r1 r2 z λ ds S1 xs H1 h1 q1 e1 p1=>?_;rw[List.append_nil];exact⟨ds,S1,q1,p1,hs ds S1 _ _ (λ d S' q=>wO.ext e1 q) h1⟩
noncomputable def tI (N:List Str) (ds:List D):yk:=ds.map some++List.replicate (N.length-ds.length) none
theorem yV.init {H:Hp}{N:List Str}{ds:List D}{vs:List V}(r:zq K H ds vs):yV K H (tI N ds) (start N vs):=by
 have hl:=r.length;refine⟨by unfold tI L2.start;simp[hl],λ i d h=>?_⟩;unfold tI at h;have hi:i<ds.length:=by
  rcases Nat.lt_or_ge i ds.length with q | q
  .exact q
  .rw[List.getElem?_append_right (by simpa using q),List.getElem?_replicate] at h;split at h <;> cases h
 rw[List.getElem?_append_left (by simpa using hi),List.getElem?_map] at h;cases q:ds[i]? with
 | none=>rw[q] at h;cases h
 | some d'=>
  rw[q] at h;cases h;obtain⟨x,e1,e2⟩:=r.get q;refine⟨x,?_,e2⟩;unfold L2.start;rw[List.getElem?_append_left (by simpa using by omega),List.getElem?_map,e1];rfl
theorem Rt {P:Program}{w:World}{K:PySem.W.Frag}{mg:Str->Option Value}{base:Heap}{x qual:Str}{st:Stmt}{f:Addr}{fd:FuncData}{N ps:List Str}{k:Nat}{sp:rE}(F:uI K x qual st f fd) (Sc:yz N ps (zO st))
  (len:∀ ds S Q,sp ds S Q->ds.length=ps.length)
  (hbody:∀ (cdv:Value) (A:Around) (outer:List Env) (s:Shared) (H:Hp) (E:XK),y8 k (A.deeper (envOfC qual (zO st) s.heap.objs.size f cdv))->
   ∃ t,ur (tu vz P w K mg base N qual (zO st) f cdv A outer s H E).sP (vt st) t/\∀ ds S Q,sp ds S Q->t { nx:=λ _ S'=>Q .zh S',rt:=Q } (tI N ds) S):uv P w K mg base vz (k+1) f fd ps (tG K sp):=by
 refine F.ok Sc (λ vs H Q E h=>?_) λ cdv A outer s H vs Q E hr h=>?_
 .obtain⟨ds,S,r1,_,z⟩:=h;rw[<- r1.length];exact len _ _ _ z
 .obtain⟨ds,S,r1,r2,z⟩:=h;obtain⟨t,ht,hq⟩:=hbody cdv A outer s H E hr;refine⟨_,ht.ps,tI N ds,S,.init r1,r2,ht.mo { nx:=λ _ S'=>wO K H Q .zh S',rt:=wO K H Q } _ _ _ ⟨fun δ S' q σ' H' _ b c=>q .zh H' (by simp only[ze]) b c,λ _ _ q=>q,λ _ _ q=>False.elim q,λ _ _ q=>False.elim q⟩ (hq ds S _ z)⟩
noncomputable def vW (pick:List (Option Nat)) (δ:yk):yk:=pick.map λ o=>o.bind λ i=>(δ[i]?).join
theorem yV.pick {H:Hp}{δ:yk}{σ:St}(r:yV K H δ σ) (pick:List (Option Nat)):yV K H (vW pick δ) (vV pick σ):=by
 refine⟨by unfold vW vV;simp,λ i d h=>?_⟩;unfold vW at h;rw[List.getElem?_map] at h;cases q:pick[i]? with
 | none=>rw[q] at h;cases h
 | some o=>
  rw[q] at h;cases o with
  | none=>simp at h
  | some j=>
   simp only[Option.map_some,Option.bind_some,Option.some.injEq] at h;have hj:δ[j]?=some (some d):=by
    cases q2:δ[j]? with
    | none=>rw[q2] at h;cases h
    | some o2=>rw[q2] at h;simp only[Option.join_some] at h;rw[h]
   obtain⟨v,e1,e2⟩:=r.2 j d hj;refine⟨v,?_,e2⟩;unfold vV;rw[List.getElem?_map,q];simp[e1]
def qz (δ δ':yk):Prop:=δ.length=δ'.length/\∀ (i:Nat) d,δ[i]?=some (some d)->δ'[i]?=some (some d)
theorem qz.rep {H:Hp}{δ δ':yk}{σ:St}(h:qz δ δ') (r:yV K H δ' σ):yV K H δ σ:=⟨h.1.trans r.1,λ i d q=>r.2 i d (h.2 i d q)⟩
structure kI (X:Cx) (ifs:List Expr) (t:yD):Prop where
 mo:wX t
 pf:PF X ifs (w9 X.K t)
theorem PF.imp {ifs:List Expr}{t t':TT}(h:PF X ifs t) (hi:∀ σ H Q,t' σ H Q->t σ H Q):PF X ifs t':=λ pins s σ H Q I q=>h pins s σ H Q I (hi σ H Q q)
def az:yD:=λ _ S Q=>Q true S
theorem rZ:kI X [] az:=⟨λ _ _ _ _ hq z=>hq _ _ z,PF.imp WU λ _ H _ ⟨_,_,_,r2,z⟩=>z H (.refl H) r2⟩
theorem l6 {c:Expr}{t:yD}(h:xP X c t):kI X [c] t:=⟨h.mo,WT h.pt⟩
section
variable {N':List Str}{pick:List (Option Nat)}{scope:Scope}{elt iter:Expr}{ifs:List Expr}{ti:wQ}{g:xt}{tc:yD}
end
end
end L3
namespace L2
open PySem PySem.Spec PyProof.Rows
def S_ (K:PySem.W.Frag) (tl:TE):TI:=fun σ H R=>tl σ H λ x H1=>∃ a,x=.ref a/\(((∃ xs,zV K H1 a xs)/\R (ZF K a) H1)\/((∃ xs,zZ K H1 a xs)/\R (ZE K a) H1))
theorem WJ {X:Cx}{tg l:Expr}{tl:TE}(hl:PE X l tl):PI X tg l (S_ X.K tl):=by
 intro pins s σ H R I h;refine zK (hl pins s σ H _ I h) λ v s1 ⟨x,H1,I1,r1,a,hx,q1⟩=>?_;subst hx;cases r1;have new:∀ b∈[s1.heap.objs.size],vR X pins H1 b:=λ b hb=>by
  obtain rfl:b=s1.heap.objs.size:=List.mem_singleton.mp hb;exact I1.ka (Nat.le_refl _) (I1.zB.fresh (Nat.le_refl _))
 rcases q1 with ⟨⟨xs,hq⟩,q⟩ | ⟨⟨xs,hq⟩,q⟩
 .obtain⟨its,_,pl,_⟩:=I1.list hq;exact wpAny_pyIter_list pl.isList ⟨_,_,_,_,H1,rfl,I1.kept (t':=s1.toks) λ b o eo=>zHp _ eo,Y_ a _,⟨_,Heap.get?_push_size _ rfl,rfl,rfl⟩,new,q⟩
 .obtain⟨its,_,pt,_⟩:=I1.tuple hq;exact wpAny_pyIter_tuple (show s1.heap.IsTuple a its.toArray from pt) ⟨_,_,_,_,H1,rfl,I1.kept (t':=s1.toks) λ b o eo=>zHp _ eo,YY a _,⟨_,Heap.get?_push_size _ rfl,rfl,rfl⟩,new,q⟩
theorem range_all (bs:List Bool):(List.range bs.length).all (λ i=>bs.getD i true)=bs.all id:=by
 rw[Bool.eq_iff_iff,List.all_eq_true,List.all_eq_true];constructor
 .intro h b hb;obtain⟨i,hi,rfl⟩:=List.mem_iff_getElem.mp hb;have:=h i (List.mem_range.mpr hi);simpa [hi] using this
 .intro h i hi;have hi':=List.mem_range.mp hi;have:=h bs[i] (List.getElem_mem hi');simpa [hi'] using this
theorem range_any (bs:List Bool):(List.range bs.length).any (λ i=>bs.getD i true)=bs.any id:=by
 rw[Bool.eq_iff_iff,List.any_eq_true,List.any_eq_true];constructor
 .rintro⟨i,hi,h⟩;have hi':=List.mem_range.mp hi;exact⟨bs[i],List.getElem_mem hi',by simpa [hi'] using h⟩
 .rintro⟨b,hb,h⟩;obtain⟨i,hi,rfl⟩:=List.mem_iff_getElem.mp hb;exact⟨i,List.mem_range.mpr hi,by simpa [hi] using h⟩
theorem Zi {bs:List Bool}{its:List Value}(r:Vals (bs.map V.bl) its) {i:Nat}{v:Value}(h:its.toArray[i]?=some v):v=.bool (bs.getD i true):=by
 have hl:=r.length;rw[List.length_map] at hl;have h':its[i]?=some v:=by simpa using h
 have hi:i<bs.length:=by
  rw[hl];rcases Nat.lt_or_ge i its.length with q | q
  .exact q
  .rw[List.getElem?_eq_none q] at h';cases h'
 obtain⟨u,e1,e2⟩:=r.get (i:=i) (x:=.bl bs[i]) (by simp[hi]);rw[h'] at e1;cases e1;have:v=.bool bs[i]:=e2;rw[this];simp[hi]
section
variable {X:Cx}
theorem QF (hc:X.calm=true):xg X (.builtin "all") (λ xs H Q=>∃ p,∃ bs:List Bool,xs=[.ref p]/\zV X.K H p (bs.map V.bl)/\Q (.bl (bs.all id)) H):=by
 intro pins s σ H xs us Q I r h;obtain⟨p,bs,rfl,hq,q⟩:=h;obtain⟨u,rfl,ru⟩:=vals1 r;cases ru;obtain⟨its,rv,pl,hz⟩:=I.list hq;have hl:=rv.length;rw[List.length_map] at hl;have hlt:p<s.heap.objs.size:=by obtain⟨o,n,e,_⟩:=pl;exact Heap.lt_size e
 refine call_all_walk (wpAny_pyIter_list pl.isList ?_);refine⟨s.heap.objs.size,_,_,_,_,_,λ i=>bs.getD i true,rfl,Walks.list (A:=X.A.in1) (I.ok.hd hc) s.heap.objs.size p (Nat.ne_of_lt hlt) its.toArray,⟨⟨_,Heap.get?_push_size _ rfl,rfl,rfl⟩,pl.isList.push _⟩,λ i v s' Q' E' hv hq'=>?_,λ h' tk hk=>?_⟩
 .rw[Zi rv hv];exact wpAny_truthy_bool hq'
 .have e:(List.range its.toArray.size).all (λ i=>bs.getD i true)=bs.all id:=by rw[List.size_toArray,<- hl,range_all]
  rw[e];exact⟨.bl _,H,I.kept (t':=tk) λ b o eo=>hk b o (by simpa using Nat.ne_of_lt (Heap.lt_size eo)) (zHp _ eo),rfl,q⟩
theorem QE (hc:X.calm=true):xg X (.builtin "any") (λ xs H Q=>∃ p,∃ bs:List Bool,xs=[.ref p]/\zV X.K H p (bs.map V.bl)/\Q (.bl (bs.any id)) H):=by
 intro pins s σ H xs us Q I r h;obtain⟨p,bs,rfl,hq,q⟩:=h;obtain⟨u,rfl,ru⟩:=vals1 r;cases ru;obtain⟨its,rv,pl,hz⟩:=I.list hq;have hl:=rv.length;rw[List.length_map] at hl;have hlt:p<s.heap.objs.size:=by obtain⟨o,n,e,_⟩:=pl;exact Heap.lt_size e
 refine call_any_walk (wpAny_pyIter_list pl.isList ?_);refine⟨s.heap.objs.size,_,_,_,_,_,λ i=>bs.getD i true,rfl,Walks.list (A:=X.A.in1) (I.ok.hd hc) s.heap.objs.size p (Nat.ne_of_lt hlt) its.toArray,⟨⟨_,Heap.get?_push_size _ rfl,rfl,rfl⟩,pl.isList.push _⟩,λ i v s' Q' E' hv hq'=>?_,λ h' tk hk=>?_⟩
 .rw[Zi rv hv];exact wpAny_truthy_bool hq'
 .have e:(List.range its.toArray.size).any (λ i=>bs.getD i true)=bs.any id:=by rw[List.size_toArray,<- hl,range_any]
  rw[e];exact⟨.bl _,H,I.kept (t':=tk) λ b o eo=>hk b o (by simpa using Nat.ne_of_lt (Heap.lt_size eo)) (zHp _ eo),rfl,q⟩
end
end L2
namespace L3
open PySem PySem.Spec L2
open PyProof.Rows hiding St
structure Bt (mg:Str->Option Value):Prop where
 len:mg "len"=none
 range:mg "range"=none
 any:mg "any"=none
 all:mg "all"=none
 sorted:mg "sorted"=none
 isinstance:mg "isinstance"=none
 bool:mg "bool"=none
 int:mg "int"=none
 str:mg "str"=none
 list:mg "list"=none
 tuple:mg "tuple"=none
 max:mg "max"=none
 min:mg "min"=none
section
variable {X:Cx}{K:PySem.W.Frag}{a b c e:Expr}{es:List Expr}{ta tb tc te:zy}{tA:yt}{pos p:Pos}
theorem uE {N':List Str}{pick:List (Option Nat)}{scope esc:Scope}{N:List Str}(hE:X.env.scope=esc:=by rfl) (hN:X.N=N:=by rfl) (h1:scope.kind=.function:=by rfl) (h2:scope.names.all (λ y=>decide (y.2≠.cell))=true:=by decide +kernel)
  (h3:scope.names.all (λ y=>!decide (y.2=.local)||decide (scope.names.lookup y.1=some .local))=true:=by decide +kernel)
  (h4:scope.names.all (λ y=>!decide (y.2=.free)||(decide (esc.names.lookup y.1=some .cell)||decide (esc.names.lookup y.1=some .free)))=true:=by decide +kernel)
  (h5:pick.length=N'.length:=by rfl) (h6:qY N N' pick scope=true:=by decide +kernel):qH X N' pick scope:=by
 refine⟨h1,λ y hy=>?_,λ y hy hl=>?_,λ y hy hf=>?_,h5,by rw[hN];exact h6⟩
 .exact of_decide_eq_true (List.all_eq_true.mp h2 y hy)
 .have:=List.all_eq_true.mp h3 y hy;rw[decide_eq_true hl] at this;simpa using this
 .have:=List.all_eq_true.mp h4 y hy;rw[decide_eq_true hf] at this;rw[hE];simpa using this
theorem y4 (i:Nat) {x:Str}(hN:X.N.Nodup) (hi:X.N[i]?=some x:=by rfl) (hx:Loc X.env.scope x:=by first | exact Or.inl rfl | exact Or.inr rfl) (hf:X.fn x=true\/X.env.scope.names.lookup x=some .local:=by first | exact .inl rfl | exact .inr rfl):sg X (.Name x pos) (hName i):=
 V5 (WR hN hi hx hf)
theorem rY {k:Nat}{t:wR}{n:Nat}(h:kH X es t) (hc:X.calm=true:=by rfl) (hn:(assignEach es X.env).length=n:=by rfl) (hst:(assignEach es X.env).findIdx? (·.1)=none:=by rfl):sg X (.Tuple es k pos) (lV n t):=
 V4 (WO hc h.pg hn hst) h.mo
theorem ya (i:Nat) {x:Str}{pos':Pos}(hN:X.N.Nodup) (he:PD X e te) (hi:X.N[i]?=some x:=by rfl) (hx:Loc X.env.scope x:=by first | exact Or.inl rfl | exact Or.inr rfl) (hs:swapsWith e (some (.Name x pos')) pos.line X.env=pure false:=by rfl)
  (hf:X.fn x=true\/X.env.scope.names.lookup x=some .local:=by first | exact .inl rfl | exact .inr rfl):vw X (.Assign [.Name x pos'] e pos) (vu te (hName i)):=
 Vz (W6 hN hi hx he.pe hs hf) he.mo
def iT (te:zy):wQ:=fun δ S R=>te δ S λ x S1=>match x with
 | .tup ds=>R ⟨ds,λ _=>True⟩ S1
 | .yK ds=>R ⟨ds,λ _=>True⟩ S1
 | .ref p=>match S1 p with
  | some (.lst ds)=>R ⟨ds,λ S=>S p=some (.lst ds)⟩ S1
  | _=>False
 | _=>False
theorem wG {tg:Expr}(h:PD X e te):rF X tg e (iT te):=by
 refine⟨fun δ S Q Q' hq z=>h.mo δ S _ _ (λ x S1 z=>?_) z,?_⟩
 .cases x with
  | ref p=>
   dsimp only at z ⊢;split at z
   .exact hq _ _ z
   .exact z.elim
  | yK ds=>exact hq _ _ z
  | tup ds=>exact hq _ _ z
  | _=>exact z
 .refine PI.imp (WJ h.pe) fun σ H R hu=>?_
  obtain⟨δ,S,r1,r2,z⟩:=hu;refine zS.go h.mo r1 r2 z λ x S1 v H1 h1 q1 e1 p1=>?_;cases x with
  | tup ds=>
   simp only[ze] at q1;obtain⟨a,xs,rfl,g1,g2⟩:=q1;refine⟨a,rfl,.inr ⟨⟨xs,g1⟩,h1 _ H1 e1 p1 λ i H2 S2 x1 x2 _=>⟨λ d hd=>?_,λ hl=>⟨xs,x1.mN g1,by rw[<- g2.length];exact hl⟩⟩⟩⟩;obtain⟨y,hy,_⟩:=g2.get hd;refine⟨⟨xs,y,x1.mN g1,hy⟩,λ x H' q=>?_⟩;obtain⟨rfl,q⟩:=q;exact⟨.refl _,x2,(zq.ext x1 ds g2).at hd (q xs (x1.mN g1))⟩
  | ref p=>
   dsimp only at h1;split at h1
   .rename_i ds e2;simp only[ze] at q1;subst q1;obtain⟨xs0,g1,_⟩:=p1 _ _ e2;refine⟨p,rfl,.inl ⟨⟨xs0,zV.of g1⟩,h1 _ H1 e1 p1 λ i H2 S2 x1 x2 hk=>?_⟩⟩;obtain⟨xs,g3,g4⟩:=x2 _ _ hk;refine⟨λ d hd=>?_,λ hl=>⟨xs,zV.of g3,by rw[<- g4.length];exact hl⟩⟩;obtain⟨y,hy,_⟩:=g4.get hd;refine⟨⟨xs,y,zV.of g3,hy⟩,λ x H' q=>?_⟩;obtain⟨rfl,q⟩:=q;exact⟨.refl _,x2,g4.at hd (q xs (zV.of g3))⟩
   .exact h1.elim
  | yK ds=>
   simp only[ze] at q1;obtain⟨a,xs,rfl,g1,g2⟩:=q1;refine⟨a,rfl,.inl ⟨⟨xs,g1.sq⟩,h1 _ H1 e1 p1 λ i H2 S2 x1 x2 _=>⟨λ d hd=>?_,λ hl=>⟨xs,(x1.mO g1).sq,by rw[<- g2.length];exact hl⟩⟩⟩⟩;obtain⟨y,hy,_⟩:=g2.get hd;refine⟨⟨xs,y,(x1.mO g1).sq,hy⟩,λ x H' q=>?_⟩;obtain⟨rfl,q⟩:=q;exact⟨.refl _,x2,(zq.ext x1 ds g2).at hd (q xs (x1.mO g1).sq)⟩
  | zh=>exact h1.elim
  | bl _=>exact h1.elim
  | int _=>exact h1.elim
  | str _=>exact h1.elim
end
end L3
namespace TS
open PySem PyProof.Rows
abbrev iG:Keyed->Keyed->StateT SortSt Sem (Option Bool):=sortPriv% PySem.Builtin.lt
abbrev gJ:Array Keyed->Nat->StateT SortSt Sem Keyed:=sortPriv% PySem.Builtin.elem
abbrev gy:Bool->Keyed->Array Keyed->Nat->Nat->Nat->StateT SortSt Sem (Option Nat):=sortPriv% PySem.Builtin.gallop
abbrev T5:Nat->StateT SortSt Sem Unit:=sortPriv% PySem.Builtin.setMinGallop
abbrev ba:Array Keyed->Array Keyed->StateT SortSt Sem (Array Keyed):=sortPriv% PySem.Builtin.mergeLo
abbrev bQ:Array Keyed->Array Keyed->StateT SortSt Sem (Array Keyed):=sortPriv% PySem.Builtin.mergeHi
structure Asks (prog:Program) (w:World) (A:Around) (E:Value->Shared->Prop) (s:Shared) (κ:SortKind) (D:Keyed->Prop) (lb:Keyed->Keyed->Bool):Prop where
 ask:∀ {x y:Keyed}{st:SortSt}{Q:Option Bool->SortSt->Prop},D x->D y->kindOf st=κ->Q (some (lb x y)) st->wpS (model prog w) A E s (iG x y) Q st
 tr:∀ {a b c:Keyed},lb b a=false->lb c b=false->lb c a=false
 as:∀ {a b:Keyed},lb a b=true->lb b a=false
section
variable {prog:Program}{w:World}{A:Around}{E:Value->Shared->Prop}{s:Shared}{κ:SortKind}{D:Keyed->Prop}{lb:Keyed->Keyed->Bool}
theorem Asks.refl (G:Asks prog w A E s κ D lb) (a:Keyed):lb a a=false:=by
 cases h:lb a a with
 | false=>rfl
 | true=>rw[G.as h] at h;cases h
theorem xD {arr:Array Keyed}{i:Nat}{x:Keyed}{st:SortSt}{Q:Keyed->SortSt->Prop}(hx:arr[i]?=some x) (h:Q x st):wpS (model prog w) A E s (gJ arr i) Q st:=by
 have e:gJ arr i=elem' arr i:=rfl;rw[e,elem'_eq,hx];exact wpS_pure h
noncomputable def yj (lb:Keyed->Keyed->Bool) (left:Bool) (key x:Keyed):Bool:=if left=true then lb x key else !lb key x
theorem oo (G:Asks prog w A E s κ D lb) {left:Bool}{key x:Keyed}{arr:Array Keyed}{i:Nat}{st:SortSt}{Q:Option Bool->SortSt->Prop}(hx:arr[i]?=some x) (dx:D x) (dk:D key)
  (hk:kindOf st=κ) (h:Q (some (yj lb left key x)) st):
  wpS (model prog w) A E s (do let x <- gJ arr i;if left=true then iG x key else do let r <- iG key x;pure (r.map (λ x=>!x))) Q st:=by
 refine wpS_bind (xD hx ?_);unfold yj at h;cases left with
 | true=>exact G.ask dx dk hk h
 | false=>exact wpS_bind (G.ask dk dx hk (wpS_pure h))
def Cut (P:Nat->Bool) (n lo hi:Nat):Prop:=lo<=hi/\hi<=n/\(∀ i,i<lo->P i=true)/\∀ i,hi<=i->i<n->P i=false
theorem YF (G:Asks prog w A E s κ D lb) {left:Bool}{key:Keyed}{arr:Array Keyed}{base n hint:Nat}{st:SortSt}{Q:Option Nat->SortSt->Prop}{e:Nat->Keyed}
  (he:∀ i,i<n->arr[base+i]?=some (e i)) (hd:∀ i,i<n->D (e i)) (dk:D key) (hk:kindOf st=κ) (hh:hint<n)
  (mono:∀ i j,i<=j->j<n->yj lb left key (e j)=true->yj lb left key (e i)=true)
  (h:∀ k,k<=n->(∀ i,i<k->yj lb left key (e i)=true)->(∀ i,k<=i->i<n->yj lb left key (e i)=false)->Q (some k) st):
  wpS (model prog w) A E s (gy left key arr base n hint) Q st:=by
 have mono':∀ i j,i<=j->j<n->yj lb left key (e i)=false->yj lb left key (e j)=false:=λ i j hij hj hi=>by
  cases c:yj lb left key (e j) with
  | false=>rfl
  | true=>rw[mono i j hij hj c] at hi;cases hi
 unfold gy;refine wpS_bind (oo G (he hint hh) (hd _ hh) dk hk ?_);dsimp only;cases hP:yj lb left key (e hint) with
 | true=>
  simp only[if_true];refine wpS_bind (wpS_mono (wpS_forRange (I:=λ k c st'=>st'=st/\c.1=none/\k<c.2.2/\c.2.1<c.2.2/\hint+c.2.1<n/\yj lb left key (e (hint+c.2.1))=true)
   (Q:=λ c st'=>st'=st/\c.1=none/\Cut (λ i=>yj lb left key (e i)) n (hint+c.2.1+1) (hint+min c.2.2 (n-hint))) ?step ?fin ⟨rfl,rfl,by simp,by simp,by simpa using hh,by simpa using hP⟩) ?post)
  case step=>
   rintro k ⟨r,l,o⟩ st' _ hkn ⟨rfl,rfl,h1,h2,h3,h4⟩;dsimp only at h1 h2 h3 h4 ⊢;have cut:∀ m,l<m->(n-hint<=m\/yj lb left key (e (hint+m))=false)->Cut (λ i=>yj lb left key (e i)) n (hint+l+1) (hint+min m (n-hint)):=λ m hm hc=>
    ⟨by omega,by omega,λ i hi=>mono i (hint+l) (by omega) h3 h4,λ i hi hin=>by
     rcases hc with hc | hc
     .omega
     .exact mono' (hint+m) i (by omega) hin hc⟩
   split
   .exact wpS_pure ⟨rfl,rfl,cut _ h2 (.inl ‹_›)⟩
   .rename_i hno;refine wpS_bind (oo G (he (hint+o) (by omega)) (hd _ (by omega)) dk hk ?_);dsimp only;cases c:yj lb left key (e (hint+o)) with
    | false=>exact wpS_pure ⟨rfl,rfl,cut _ h2 (.inr c)⟩
    | true=>exact wpS_pure ⟨rfl,rfl,by show k+1<2*o+1;omega,by show o<2*o+1;omega,by show hint+o<n;omega,c⟩
  case fin=>
   rintro⟨r,l,o⟩ st' ⟨rfl,rfl,h1,h2,h3,h4⟩;dsimp only at h1 h2 h3 h4 ⊢;exact⟨rfl,rfl,by omega,by omega,λ i hi=>mono i (hint+l) (by omega) h3 h4,λ i hi hin=>by omega⟩
  case post=>
   rintro⟨r,l,o⟩ st' ⟨rfl,rfl,hc⟩;dsimp only at hc ⊢;refine wpS_bind (wpS_mono (wpS_forRange (I:=λ k c st''=>st''=st'/\c.1=none/\c.2.2-c.2.1<=n-k/\Cut (λ i=>yj lb left key (e i)) n c.2.1 c.2.2)
    (Q:=λ c st''=>st''=st'/\c.1=none/\c.2.2<=c.2.1/\Cut (λ i=>yj lb left key (e i)) n c.2.1 c.2.2) ?step ?fin ⟨rfl,rfl,by have:=hc.2.1;dsimp only;omega,hc⟩) ?post)
   case step=>
    rintro k ⟨r,l,o⟩ st'' _ hkn ⟨rfl,rfl,h1,h2⟩;dsimp only at h1 h2 ⊢;obtain⟨g1,g2,g3,g4⟩:=h2;split
    .exact wpS_pure ⟨rfl,rfl,‹_›,g1,g2,g3,g4⟩
    .have q:l+(o-l)/2<n:=by omega
     refine wpS_bind (oo G (he _ q) (hd _ q) dk hk ?_);dsimp only;cases c:yj lb left key (e (l+(o-l)/2)) with
     | true=>exact wpS_pure ⟨rfl,rfl,by dsimp only;omega,by dsimp only;omega,g2,λ i hi=>mono i _ (by dsimp only at hi;omega) q c,g4⟩
     | false=>exact wpS_pure ⟨rfl,rfl,by dsimp only;omega,by dsimp only;omega,by dsimp only;omega,g3,λ i hi hin=>mono' _ i hi hin c⟩
   case fin=>
    rintro⟨r,l,o⟩ st'' ⟨rfl,rfl,h1,h2⟩;dsimp only at h1 h2 ⊢;exact⟨rfl,rfl,by omega,h2⟩
   case post=>
    rintro⟨r,l,o⟩ st'' ⟨rfl,rfl,h1,g1,g2,g3,g4⟩;dsimp only at h1 g1 g2 g3 g4 ⊢;exact wpS_pure (h o g2 (λ i hi=>g3 i (by omega)) g4)
 | false=>
  simp only[Bool.false_eq_true,if_false];refine wpS_bind (wpS_mono (wpS_forRange (I:=λ k c st'=>st'=st/\c.1=none/\k<c.2.2/\c.2.1<c.2.2/\c.2.1<=hint/\yj lb left key (e (hint-c.2.1))=false)
   (Q:=λ c st'=>st'=st/\c.1=none/\Cut (λ i=>yj lb left key (e i)) n (hint+1-min c.2.2 (hint+1)) (hint-c.2.1)) ?step ?fin ⟨rfl,rfl,by simp,by simp,by simp,by simpa using hP⟩) ?post)
  case step=>
   rintro k ⟨r,l,o⟩ st' _ hkn ⟨rfl,rfl,h1,h2,h3,h4⟩;dsimp only at h1 h2 h3 h4 ⊢;have cut:∀ m,l<m->(hint+1<=m\/yj lb left key (e (hint-m))=true)->Cut (λ i=>yj lb left key (e i)) n (hint+1-min m (hint+1)) (hint-l):=λ m hm hc=>
    ⟨by omega,by omega,λ i hi=>by
     rcases hc with hc | hc
     .omega
     .exact mono i (hint-m) (by omega) (by omega) hc,λ i hi hin=>mono' (hint-l) i (by omega) hin h4⟩
   split
   .exact wpS_pure ⟨rfl,rfl,cut _ h2 (.inl ‹_›)⟩
   .rename_i hno;refine wpS_bind (oo G (he (hint-o) (by omega)) (hd _ (by omega)) dk hk ?_);dsimp only;cases c:yj lb left key (e (hint-o)) with
    | true=>exact wpS_pure ⟨rfl,rfl,cut _ h2 (.inr c)⟩
    | false=>exact wpS_pure ⟨rfl,rfl,by show k+1<2*o+1;omega,by show o<2*o+1;omega,by show o<=hint;omega,c⟩
  case fin=>
   rintro⟨r,l,o⟩ st' ⟨rfl,rfl,h1,h2,h3,h4⟩;dsimp only at h1 h2 h3 h4 ⊢;exact⟨rfl,rfl,by omega,by omega,λ i hi=>by omega,λ i hi hin=>mono' (hint-l) i (by omega) hin h4⟩
  case post=>
   rintro⟨r,l,o⟩ st' ⟨rfl,rfl,hc⟩;dsimp only at hc ⊢;refine wpS_bind (wpS_mono (wpS_forRange (I:=λ k c st''=>st''=st'/\c.1=none/\c.2.2-c.2.1<=n-k/\Cut (λ i=>yj lb left key (e i)) n c.2.1 c.2.2)
    (Q:=λ c st''=>st''=st'/\c.1=none/\c.2.2<=c.2.1/\Cut (λ i=>yj lb left key (e i)) n c.2.1 c.2.2) ?step ?fin ⟨rfl,rfl,by have:=hc.2.1;dsimp only;omega,hc⟩) ?post)
   case step=>
    rintro k ⟨r,l,o⟩ st'' _ hkn ⟨rfl,rfl,h1,h2⟩;dsimp only at h1 h2 ⊢;obtain⟨g1,g2,g3,g4⟩:=h2;split
    .exact wpS_pure ⟨rfl,rfl,‹_›,g1,g2,g3,g4⟩
    .have q:l+(o-l)/2<n:=by omega
     refine wpS_bind (oo G (he _ q) (hd _ q) dk hk ?_);dsimp only;cases c:yj lb left key (e (l+(o-l)/2)) with
     | true=>exact wpS_pure ⟨rfl,rfl,by dsimp only;omega,by dsimp only;omega,g2,λ i hi=>mono i _ (by dsimp only at hi;omega) q c,g4⟩
     | false=>exact wpS_pure ⟨rfl,rfl,by dsimp only;omega,by dsimp only;omega,by dsimp only;omega,g3,λ i hi hin=>mono' _ i hi hin c⟩
   case fin=>
    rintro⟨r,l,o⟩ st'' ⟨rfl,rfl,h1,h2⟩;dsimp only at h1 h2 ⊢;exact⟨rfl,rfl,by omega,h2⟩
   case post=>
    rintro⟨r,l,o⟩ st'' ⟨rfl,rfl,h1,g1,g2,g3,g4⟩;dsimp only at h1 g1 g2 g3 g4 ⊢;exact wpS_pure (h o g2 (λ i hi=>g3 i (by omega)) g4)
end
end TS
namespace TS
open PySem PyProof.Rows
section
variable {σ α X Y:Type}{M:Model}{A:Around}{E:Value->Shared->Prop}{s:Shared}{Q:α->σ->Prop}{st:σ}
theorem kX (jp:Unit->StateT σ Sem α) {m:StateT σ Sem α}(P:σ->Prop) (hv:∀ st,P st->wpS M A E s (jp ()) Q st) (hb:(∀ st,P st->wpS M A E s (jp ()) Q st)->wpS M A E s m Q st):wpS M A E s m Q st:=hb hv
theorem YD (jp:Unit->X->StateT σ Sem α) {m:StateT σ Sem α}(P:X->σ->Prop) (hv:∀ x st,P x st->wpS M A E s (jp () x) Q st) (hb:(∀ x st,P x st->wpS M A E s (jp () x) Q st)->wpS M A E s m Q st):wpS M A E s m Q st:=hb hv
theorem eg (jp:Unit->X->StateT σ Sem α) {m:StateT σ Sem α}(P:X->Prop) (hv:∀ x,P x->wpS M A E s (jp () x) Q st) (hb:(∀ x,P x->wpS M A E s (jp () x) Q st)->wpS M A E s m Q st):wpS M A E s m Q st:=hb hv
theorem mD (jp:Unit->X->Y->StateT σ Sem α) {m:StateT σ Sem α}(P:X->Y->Prop) (hv:∀ x y,P x y->wpS M A E s (jp () x y) Q st) (hb:(∀ x y,P x y->wpS M A E s (jp () x y) Q st)->wpS M A E s m Q st):wpS M A E s m Q st:=hb hv
end
theorem kh (a:Array Keyed) (i:Nat):(a.extract i a.size).toList=a.toList.drop i:=by
 rw[Array.toList_extract,List.extract_eq_drop_take,List.take_of_length_le (by simp)]
theorem pN (a:Array Keyed) (i k:Nat):(a.extract i (i+k)).toList=(a.toList.drop i).take k:=by
 rw[Array.toList_extract,List.extract_eq_drop_take,Nat.add_sub_cancel_left]
theorem kg (a:Array Keyed) (n:Nat):(a.extract 0 n).toList=a.toList.take n:=by
 rw[Array.toList_extract,List.extract_eq_drop_take];simp
abbrev Up (lb:Keyed->Keyed->Bool) (l:List Keyed):Prop:=l.Pairwise λ x y=>lb y x=false
def Res (lb:Keyed->Keyed->Bool) (a b:List Keyed) (out:List Keyed):Prop:=out.Perm (a++b)/\Up lb out
def Mg (lb:Keyed->Keyed->Bool) (a b:List Keyed) (out A B:List Keyed):Prop:=(out++(A++B)).Perm (a++b)/\Up lb (out++A)/\Up lb (out++B)
section
variable {lb:Keyed->Keyed->Bool}{a b out A B A1 A2 B1 B2:List Keyed}
theorem Up.app {l r:List Keyed}:Up lb (l++r)↔Up lb l/\Up lb r/\∀ x∈l,∀ y∈r,lb y x=false:=List.pairwise_append
theorem Mg.sU (h:Mg lb a b out (A1++A2) B) (hl:∀ x∈A1,∀ y∈B,lb y x=false):Mg lb a b (out++A1) A2 B:=by
 obtain⟨h1,h2,h3⟩:=h;refine⟨by simpa using h1,by simpa using h2,?_⟩;rw[Up.app] at h3 ⊢;rw[<- List.append_assoc] at h2;refine⟨(Up.app.mp h2).1,h3.2.1,λ x hx y hy=>?_⟩;rcases List.mem_append.mp hx with hx | hx
 .exact h3.2.2 x hx y hy
 .exact hl x hx y hy
theorem Mg.sT (h:Mg lb a b out A (B1++B2)) (hl:∀ x∈B1,∀ y∈A,lb y x=false):Mg lb a b (out++B1) A B2:=by
 obtain⟨h1,h2,h3⟩:=h;refine⟨List.Perm.trans ?_ h1,?_,by simpa using h3⟩
 .rw[List.append_assoc];refine List.Perm.append_left _ ?_;rw[<- List.append_assoc,<- List.append_assoc];exact List.Perm.append_right _ List.perm_append_comm
 .rw[Up.app] at h2 ⊢;rw[<- List.append_assoc] at h3;refine⟨(Up.app.mp h3).1,h2.2.1,λ x hx y hy=>?_⟩;rcases List.mem_append.mp hx with hx | hx
  .exact h2.2.2 x hx y hy
  .exact hl x hx y hy
theorem Mg.done (h:Mg lb a b out A B) (he:A=[]\/B=[]):Res lb a b (out++A++B):=by
 obtain⟨h1,h2,h3⟩:=h;refine⟨by simpa using h1,?_⟩;rcases he with rfl | rfl
 .simpa using h3
 .simpa using h2
theorem Mg.last (h:Mg lb a b out A B) (hl:∀ x∈B,∀ y∈A,lb y x=false):Res lb a b (out++B++A):=by
 have:=(Mg.sT (B1:=B) (B2:=[]) (by simpa using h) hl).done (.inr rfl);simpa using this
theorem drop_cons {a:Array Keyed}{i:Nat}{x:Keyed}(h:a[i]?=some x):a.toList.drop i=[x]++a.toList.drop (i+1):=by
 have hi:i<a.toList.length:=by
  rcases Nat.lt_or_ge i a.size with h' | h'
  .simpa using h'
  .rw[Array.getElem?_eq_none h'] at h;cases h
 rw[List.drop_eq_getElem_cons hi];have:a.toList[i]=x:=by
  rw[Array.getElem?_eq_getElem (by simpa using hi)] at h;simpa using h
 rw[this];rfl
theorem t5 {a:Array Keyed}{i:Nat}(h:i<a.size):∃ x,a[i]?=some x/\x∈a.toList:=⟨a[i],by simp[h],by simp⟩
end
section
variable {prog:Program}{w:World}{A:Around}{E:Value->Shared->Prop}{s:Shared}{κ:SortKind}{D:Keyed->Prop}{lb:Keyed->Keyed->Bool}
theorem qM (G:Asks prog w A E s κ D lb) {left:Bool}{key:Keyed}{arr:Array Keyed}{base n hint:Nat}{st:SortSt}{Q:Option Nat->SortSt->Prop}(seg:List Keyed) (hs:base+n<=arr.size)
  (hseg:(arr.toList.drop base).take n=seg) (hD:∀ x∈seg,D x) (dk:D key) (hk:kindOf st=κ) (hh:hint<n) (srt:Up lb seg)
  (h:∀ L R,seg=L++R->(∀ x∈L,yj lb left key x=true)->(∀ x∈R,yj lb left key x=false)->Q (some L.length) st):
  wpS (model prog w) A E s (gy left key arr base n hint) Q st:=by
 have hlen:seg.length=n:=by rw[<- hseg];simp;omega
 have ev:∀ i (hi:i<n),seg.getD i (Value.none,Value.none)=seg[i]'(by omega):=λ i hi=>by simp[hlen,hi]
 have srt':=List.pairwise_iff_getElem.mp srt;refine YF G (e:=λ i=>seg.getD i (Value.none,Value.none)) (λ i hi=>?_) (λ i hi=>?_) dk hk hh (λ i j hij hj hb=>?_) λ k hkn h1 h2=>?_
 .rw[ev i hi];subst hseg;have:base+i<arr.size:=by omega
  simp[this]
 .rw[ev i hi];exact hD _ (List.getElem_mem _)
 .rcases Nat.lt_or_eq_of_le hij with hlt | rfl
  .have q:=srt' i j (by omega) (by omega) hlt;rw[ev j hj] at hb;rw[ev i (by omega)];unfold yj at hb ⊢;cases left with
   | false=>
    simp only[Bool.false_eq_true,if_false,Bool.not_eq_true'] at hb ⊢;exact G.tr q hb
   | true=>
    simp only[if_true] at hb ⊢;cases c:lb seg[i] key with
    | true=>rfl
    | false=>rw[G.tr c q] at hb;cases hb
  .exact hb
 .have:=h (seg.take k) (seg.drop k) (List.take_append_drop k seg).symm (λ x hx=>?_) λ x hx=>?_
  .rwa [List.length_take,hlen,Nat.min_eq_left hkn] at this
  .obtain⟨i,hi,rfl⟩:=List.mem_iff_getElem.mp hx;have hi':i<k:=by rw[List.length_take] at hi;omega
   have:=h1 i hi';rw[ev i (by omega)] at this;simpa using this
  .obtain⟨i,hi,rfl⟩:=List.mem_iff_getElem.mp hx;have hi':k+i<n:=by rw[List.length_drop] at hi;omega
   have:=h2 (k+i) (by omega) hi';rw[ev _ hi'] at this;simpa using this
theorem z_ {σ α:Type}{M:Model}{c:Prop}{dc:Decidable c}{m1 m2:StateT σ Sem α}{Q:α->σ->Prop}{st:σ}(h1:c->wpS M A E s m1 Q st) (h2:¬ c->wpS M A E s m2 Q st):wpS M A E s (if c then m1 else m2) Q st:=by
 by_cases h:c
 .rw[if_pos h];exact h1 h
 .rw[if_neg h];exact h2 h
abbrev setG (st:SortSt) (g:Nat):SortSt:=SortSt.mk' (kindOf st) (arrOf st) (pendingOf st) g (failedOf st)
theorem mC {g:Nat}{st:SortSt}{Q:Unit->SortSt->Prop}(h:Q () (setG st g)):wpS (model prog w) A E s (T5 g) Q st:=by
 exact wpS_modify h
theorem qK {r:String}{st:SortSt}{Q:Unit->SortSt->Prop}(h:Q () st):wpS (model prog w) A E s (liftM (rule r):StateT SortSt Sem Unit) Q st:=wpS_lift (wpAny_rule ⟨rfl,h⟩)
end
end TS
namespace TS
open PySem PyProof.Rows
section
variable {prog:Program}{w:World}{A:Around}{E:Value->Shared->Prop}{s:Shared}{κ:SortKind}{D:Keyed->Prop}{lb:Keyed->Keyed->Bool}
theorem YC (G:Asks prog w A E s κ D lb) {a b:Array Keyed}{st:SortSt}{Q:Array Keyed->SortSt->Prop}(hDa:∀ x∈a.toList,D x) (hDb:∀ x∈b.toList,D x) (sa:Up lb a.toList) (sb:Up lb b.toList)
  (na:0<a.size) (nb:0<b.size) (hfirst:∀ y,b[0]?=some y->∀ x∈a.toList,lb x y=false) (hlast:∀ x∈a.toList.drop (a.size-1),∀ y∈b.toList,lb x y=false) (hk:kindOf st=κ)
  (h:∀ out g,Res lb a.toList b.toList out.toList->Q out (setG st g)):wpS (model prog w) A E s (ba a b) Q st:=by
 have inA:∀ i,∀ x∈a.toList.drop i,x∈a.toList:=λ i x hx=>List.mem_of_mem_drop hx;have x9:∀ i,∀ x∈b.toList.drop i,x∈b.toList:=λ i x hx=>List.mem_of_mem_drop hx;have fdone:∀ {out:Array Keyed}{ia ib:Nat},Mg lb a.toList b.toList out.toList (a.toList.drop ia) (b.toList.drop ib)->a.size<=ia\/b.size<=ib->
   Res lb a.toList b.toList (out++a.extract ia a.size++b.extract ib b.size).toList:=λ m he=>by
  rw[Array.toList_append,Array.toList_append,kh,kh];refine m.done (he.imp (λ q=>?_) λ q=>?_)
  .exact List.drop_of_length_le (by simpa using q)
  .exact List.drop_of_length_le (by simpa using q)
 have flast:∀ {out:Array Keyed}{ia ib:Nat},Mg lb a.toList b.toList out.toList (a.toList.drop ia) (b.toList.drop ib)->ia+1=a.size->
   Res lb a.toList b.toList (out++b.extract ib b.size++a.extract ia a.size).toList:=λ{out ia ib} m he=>by
  rw[Array.toList_append,Array.toList_append,kh,kh];refine m.last λ x hx y hy=>hlast y ?_ x (x9 _ x hx);rw[<- he];exact hy
 obtain⟨b0,e0,m0⟩:=t5 nb;unfold ba;refine wpS_bind (qK ?_)
 extract_lets -underBinder
 dsimp -zeta -zetaHave +zetaDelta only;refine wpS_bind (xD e0 ?_)
 extract_lets -underBinder
 dsimp -zeta -zetaHave +zetaDelta only;have hst:st=setG st (gallopOf st):=rfl;have mg0:Mg lb a.toList b.toList (#[b0]:Array Keyed).toList (a.toList.drop 0) (b.toList.drop 1):=by
  have e1:b.toList=[b0]++b.toList.drop 1:=by
   have:=drop_cons e0;rwa [List.drop_zero] at this
  refine⟨?_,?_,?_⟩
  .rw[List.drop_zero];show ([b0]++(a.toList++b.toList.drop 1)).Perm _
   conv=>rhs;rw[e1]
   rw[<- List.append_assoc,<- List.append_assoc];exact List.Perm.append_right _ List.perm_append_comm
  .rw[List.drop_zero];exact List.pairwise_cons.mpr ⟨λ x hx=>hfirst b0 e0 x hx,sa⟩
  .rw[e1] at sb;exact sb
 refine z_ (λ hz=>?_) λ hz=>?_
 .have hz:1=b.size:=by simpa using hz
  rw[hst];exact wpS_pure (h _ _ (fdone mg0 (.inr (by omega))))
 have hz:1≠b.size:=by simpa using hz
 refine z_ (λ hy=>?_) λ hy=>?_
 .have hy:0+1=a.size:=by simpa using hy
  rw[hst];exact wpS_pure (h _ _ (flast mg0 hy))
 have hy:1≠a.size:=by simpa using hy
 refine wpS_bind (wpS_get ?_)
 extract_lets -underBinder
 dsimp -zeta -zetaHave +zetaDelta only
 let Inv (out:Array Keyed) (ia ib:Nat):Prop:=Mg lb a.toList b.toList out.toList (a.toList.drop ia) (b.toList.drop ib)/\ia+1<a.size/\ib<b.size
 let Fin (r:Option (Array Keyed)):Prop:=∃ out,r=some out/\Res lb a.toList b.toList out.toList
 let Gs (st':SortSt):Prop:=∃ g,st'=setG st g
 have gk:∀ {st'},Gs st'->kindOf st'=κ:=λ hg=>by obtain⟨g,rfl⟩:=hg;exact hk
 refine wpS_bind (wpS_mono (wpS_forRange (I:=λ k c st'=>Gs st'/\c.1=none/\Inv c.2.1 c.2.2.1 c.2.2.2.1/\(a.size-c.2.2.1)+(b.size-c.2.2.2.1)+k+1<=a.size+b.size)
  (Q:=λ c st'=>Gs st'/\Fin c.1) ?step ?fin ⟨⟨_,hst⟩,rfl,⟨mg0,by dsimp only;omega,by dsimp only;omega⟩,by dsimp only;omega⟩) ?post)
 case post=>
  rintro⟨r,c⟩ st' ⟨⟨g,rfl⟩,out,rfl,hr⟩;exact wpS_pure (h _ _ hr)
 case fin=>
  rintro⟨r,out,ia,ib,mg⟩ st' ⟨_,_,⟨_,h1,h2⟩,h3⟩;dsimp only at h1 h2 h3;omega
 case step=>
  rintro k ⟨r,out,ia,ib,mg⟩ st' _ hkn ⟨hg,rfl,hI,hrem⟩;dsimp only at hI hrem
  extract_lets -underBinder
  dsimp -zeta -zetaHave +zetaDelta only;refine wpS_bind (wpS_mono (wpS_forRange (I:=λ k c st'=>Gs st'/\c.1=none/\Inv c.2.1 c.2.2.1 c.2.2.2.1/\(a.size-c.2.2.1)+(b.size-c.2.2.2.1)+min k 1<=(a.size-ia)+(b.size-ib))
   (Q:=λ c st'=>Gs st'/\(Fin c.1\/c.1=none/\Inv c.2.1 c.2.2.1 c.2.2.2.1/\(a.size-c.2.2.1)+(b.size-c.2.2.2.1)+1<=(a.size-ia)+(b.size-ib))) ?step ?fin ⟨hg,rfl,hI,by dsimp only;omega⟩) ?post)
  case fin=>
   rintro⟨r,out,ia',ib',ac,bc⟩ st' ⟨g1,g2,g3,g4⟩;dsimp only at g2 g3 g4;exact⟨g1,.inr ⟨g2,g3,by dsimp only;omega⟩⟩
  case step=>
   rintro k ⟨r,out,ia',ib',ac,bc⟩ st' _ hkn ⟨g1,rfl,⟨g3,g4,g5⟩,g6⟩;dsimp only at g3 g4 g5 g6
   extract_lets -underBinder
   dsimp -zeta -zetaHave +zetaDelta only;obtain⟨x,ex,mx⟩:=t5 (a:=a) (i:=ia') (by omega);obtain⟨y,ey,my⟩:=t5 g5;refine wpS_bind (xD ey (wpS_bind (xD ex (wpS_bind (G.ask (hDb y my) (hDa x mx) (gk g1) ?_)))));dsimp only;have sA:Up lb (a.toList.drop ia'):=(Up.app.mp g3.2.1).2.1;have sB:Up lb (b.toList.drop ib'):=(Up.app.mp g3.2.2).2.1;rw[drop_cons ex] at sA;rw[drop_cons ey] at sB;cases c:lb y x with
   | true=>
    simp only[if_true];refine wpS_bind (xD ey ?_);have m':Mg lb a.toList b.toList (out.push y).toList (a.toList.drop ia') (b.toList.drop (ib' + 1)):=by
     rw[Array.toList_push];rw[drop_cons ey] at g3;refine g3.sT λ p hp q hq=>?_;rw[List.mem_singleton] at hp;subst hp;rw[drop_cons ex] at hq;rcases List.mem_append.mp hq with hq | hq
     .rw[List.mem_singleton] at hq;subst hq;exact G.as c
     .exact G.tr (G.as c) ((Up.app.mp sA).2.2 x zMc q hq)
    refine z_ (λ hz'=>?_) λ hz'=>?_
    .have hz':ib' + 1=b.size:=by simpa using hz'
     exact wpS_pure ⟨g1,.inl ⟨_,rfl,fdone m' (.inr (by omega))⟩⟩
    .have hz':ib' + 1≠b.size:=by simpa using hz'
     refine z_ (λ _=>?_) λ _=>?_
     .exact wpS_pure ⟨g1,.inr ⟨rfl,⟨m',g4,by dsimp only;omega⟩,by dsimp only;omega⟩⟩
     .exact wpS_pure ⟨g1,rfl,⟨m',g4,by dsimp only;omega⟩,by dsimp only;omega⟩
   | false=>
    simp only[Bool.false_eq_true,if_false];refine wpS_bind (xD ex ?_);have m':Mg lb a.toList b.toList (out.push x).toList (a.toList.drop (ia' + 1)) (b.toList.drop ib'):=by
     rw[Array.toList_push];rw[drop_cons ex] at g3;refine g3.sU λ p hp q hq=>?_;rw[List.mem_singleton] at hp;subst hp;rw[drop_cons ey] at hq;rcases List.mem_append.mp hq with hq | hq
     .rw[List.mem_singleton] at hq;subst hq;exact c
     .exact G.tr c ((Up.app.mp sB).2.2 y zMc q hq)
    refine z_ (λ hz'=>?_) λ hz'=>?_
    .have hz':ia' + 1+1=a.size:=by simpa using hz'
     exact wpS_pure ⟨g1,.inl ⟨_,rfl,flast m' hz'⟩⟩
    .have hz':ia' + 1+1≠a.size:=by simpa using hz'
     refine z_ (λ _=>?_) λ _=>?_
     .exact wpS_pure ⟨g1,.inr ⟨rfl,⟨m',by dsimp only;omega,g5⟩,by dsimp only;omega⟩⟩
     .exact wpS_pure ⟨g1,rfl,⟨m',by dsimp only;omega,g5⟩,by dsimp only;omega⟩
  case post=>
   rintro⟨r,out,ia',ib',ac,bc⟩ st' ⟨g1,g2⟩;dsimp only at g2
   extract_lets -underBinder
   dsimp -zeta -zetaHave +zetaDelta only;rcases g2 with ⟨o,rfl,ho⟩ | ⟨rfl,g3,g4⟩
   .exact wpS_pure ⟨g1,_,rfl,ho⟩
   try dsimp -zeta -zetaHave only
   refine wpS_bind (qK ?_);refine wpS_bind (wpS_mono (wpS_forRange (I:=λ k c st'=>Gs st'/\c.1=none/\Inv c.2.1 c.2.2.1 c.2.2.2.1/\(a.size-c.2.2.1)+(b.size-c.2.2.2.1)+1<=(a.size-ia)+(b.size-ib))
    (Q:=λ c st'=>Gs st'/\(Fin c.1\/c.1=none/\Inv c.2.1 c.2.2.1 c.2.2.2.1/\(a.size-c.2.2.1)+(b.size-c.2.2.2.1)+1<=(a.size-ia)+(b.size-ib))) ?step ?fin ⟨g1,rfl,g3,g4⟩) ?post)
   case fin=>
    rintro⟨r,out,ia',ib',ac,bc⟩ st' ⟨g1,g2,g3,g4⟩;exact⟨g1,.inr ⟨g2,g3,g4⟩⟩
   case post=>
    rintro⟨r,out,ia',ib',mg',ac,bc⟩ st' ⟨g1,g2⟩;dsimp only at g2;dsimp only;rcases g2 with ⟨o,rfl,ho⟩ | ⟨rfl,g3,g4⟩
    .exact wpS_pure ⟨g1,_,rfl,ho⟩
    .refine wpS_bind (mC (wpS_pure ⟨?_,rfl,g3,by dsimp only;omega⟩));obtain⟨g,rfl⟩:=g1;exact⟨_,rfl⟩
   case step=>
    rintro k ⟨r,out,ia',ib',mg',ac,bc⟩ st' _ hkn ⟨g1,rfl,⟨g3,g4,g5⟩,g6⟩;dsimp only at g3 g4 g5 g6
    extract_lets -underBinder +onlyGivenNames z1 z2 z3 z4 z5 z6 z7 z8 z9 z10 z11
    dsimp -zeta -zetaHave +zetaDelta only;obtain⟨y,ey,my⟩:=t5 g5;have sB:Up lb (b.toList.drop ib'):=(Up.app.mp g3.2.2).2.1;have sA:Up lb (a.toList.drop ia'):=(Up.app.mp g3.2.1).2.1;rw[drop_cons ey] at sB
    extract_lets -underBinder +onlyGivenNames jp1
    refine eg jp1 (λ _=>True) (λ g _=>?hv1) λ hjp=>?hb1
    case hb1=>
     clear_value jp1
     exact z_ (λ _=>hjp _ trivial) λ _=>hjp _ trivial
    dsimp -zeta -zetaHave only [jp1];refine wpS_bind (mC ?_);have g1':Gs (setG st' g):=by obtain⟨g0,rfl⟩:=g1;exact⟨_,rfl⟩
    refine wpS_bind (xD ey ?_);refine wpS_bind (qM G (a.toList.drop ia') (by omega) (by rw[List.take_of_length_le (by simp)]) (λ x hx=>hDa x (inA _ x hx)) (hDb y my) (gk g1') (by omega) sA λ L R hLR hL hR=>?_);have hlb:∀ x∈L,∀ z∈b.toList.drop ib',lb z x=false:=λ x hx z hz=>by
     have q:lb y x=false:=by have:=hL x hx;simpa [yj] using this
     rw[drop_cons ey] at hz;rcases List.mem_append.mp hz with hz | hz
     .rw[List.mem_singleton] at hz;subst hz;exact q
     .exact G.tr q ((Up.app.mp sB).2.2 y zMc z hz)
    have hra:∀ x∈R,lb x y=false:=λ x hx=>G.as (by have:=hR x hx;simpa [yj] using this);have eR:a.toList.drop (ia' + L.length)=R:=by rw[<- List.drop_drop,hLR,List.drop_left]
    have eL:(a.toList.drop ia').take L.length=L:=by rw[hLR,List.take_left]
    have m1:Mg lb a.toList b.toList (out++a.extract ia' (ia' + L.length)).toList (a.toList.drop (ia' + L.length)) (b.toList.drop ib'):=by
     rw[Array.toList_append,pN,eL,eR];rw[hLR] at g3;exact g3.sU hlb
    have lL:L.length<=a.size-ia':=by
     have:=congrArg List.length hLR;simp at this;omega
    dsimp -zeta -zetaHave only
    extract_lets -underBinder +onlyGivenNames y1
    dsimp -zeta -zetaHave only [y1]
    extract_lets -underBinder +onlyGivenNames jp2
    refine mD jp2 (λ out ia2=>Mg lb a.toList b.toList (Array.toList out) (a.toList.drop ia2) (b.toList.drop ib')/\a.toList.drop ia2=R/\ia2+1<a.size/\ia'<=ia2) (λ out ia2 ⟨m2,e2,l2,s_⟩=>?hv2) λ hjp=>?hb2
    case hb2=>
     clear_value jp2
     dsimp only;refine z_ (λ hk0=>z_ (λ he=>?_) λ he=>z_ (λ hf=>?_) λ hf=>?_) λ hk0=>?_
     .exact wpS_pure ⟨g1',.inl ⟨_,rfl,flast m1 (by simpa using he)⟩⟩
     .have hf:ia' + L.length=a.size:=by simpa using hf
      exact wpS_pure ⟨g1',.inl ⟨_,rfl,fdone m1 (.inl (by omega))⟩⟩
     .have hf:ia' + L.length≠a.size:=by simpa using hf
      have he:ia' + L.length+1≠a.size:=by simpa using he
      exact hjp _ _ ⟨m1,eR,by omega,by omega⟩
     .have h0:L.length=0:=by omega
      rw[h0] at eR;exact hjp _ _ ⟨g3,eR,g4,by omega⟩
    .dsimp -zeta -zetaHave only [jp2];refine wpS_bind (xD ey ?_)
     extract_lets -underBinder
     dsimp -zeta -zetaHave +zetaDelta only;have m3:Mg lb a.toList b.toList (out.push y).toList (a.toList.drop ia2) (b.toList.drop (ib' + 1)):=by
      rw[Array.toList_push];rw[drop_cons ey] at m2;refine m2.sT λ p hp q hq=>?_;rw[List.mem_singleton] at hp;subst hp;rw[e2] at hq;exact hra q hq
     refine z_ (λ hz'=>?_) λ hz'=>?_
     .have hz':ib' + 1=b.size:=by simpa using hz'
      exact wpS_pure ⟨g1',.inl ⟨_,rfl,fdone m3 (.inr (by omega))⟩⟩
     have hz':ib' + 1≠b.size:=by simpa using hz'
     obtain⟨x,ex,mx⟩:=t5 (a:=a) (i:=ia2) (by omega);have sA2:Up lb (a.toList.drop ia2):=(Up.app.mp m2.2.1).2.1;rw[drop_cons ex] at sA2;refine wpS_bind (xD ex ?_);refine wpS_bind (qM G (b.toList.drop (ib' + 1)) (by omega) (by rw[List.take_of_length_le (by simp)]) (λ x hx=>hDb x (x9 _ x hx)) (hDa x mx) (gk g1') (by omega) (Up.app.mp m3.2.2).2.1 λ L' R' hLR' hL' hR'=>?_);have hla:∀ z∈L',∀ q∈a.toList.drop ia2,lb q z=false:=λ z hz q hq=>by
      have c:lb z x=true:=by have:=hL' z hz;simpa [yj] using this
      rw[drop_cons ex] at hq;rcases List.mem_append.mp hq with hq | hq
      .rw[List.mem_singleton] at hq;subst hq;exact G.as c
      .exact G.tr (G.as c) ((Up.app.mp sA2).2.2 x zMc q hq)
     have hrb:∀ z∈R',lb z x=false:=λ z hz=>by have:=hR' z hz;simpa [yj] using this
     have eR':b.toList.drop (ib' + 1+L'.length)=R':=by rw[<- List.drop_drop,hLR',List.drop_left]
     have eL':(b.toList.drop (ib' + 1)).take L'.length=L':=by rw[hLR',List.take_left]
     have m4:Mg lb a.toList b.toList (out.push y++b.extract (ib' + 1) (ib' + 1+L'.length)).toList (a.toList.drop ia2) (b.toList.drop (ib' + 1+L'.length)):=by
      rw[Array.toList_append,pN,eL',eR'];rw[hLR'] at m3;exact m3.sT hla
     have lL':L'.length<=b.size-(ib' + 1):=by
      have:=congrArg List.length hLR';simp at this;omega
     dsimp -zeta -zetaHave only
     extract_lets -underBinder +onlyGivenNames y2
     dsimp -zeta -zetaHave only [y2]
     extract_lets -underBinder +onlyGivenNames jp3
     refine mD jp3 (λ out ib2=>Mg lb a.toList b.toList (Array.toList out) (a.toList.drop ia2) (b.toList.drop ib2)/\b.toList.drop ib2=R'/\ib2<b.size/\ib' + 1<=ib2) (λ out ib2 ⟨m5,e5,l5,le5⟩=>?hv3) λ hjp=>?hb3
     case hb3=>
      clear_value jp3
      dsimp only;refine z_ (λ hk1=>z_ (λ he=>?_) λ he=>?_) λ hk1=>?_
      .have he:ib' + 1+L'.length=b.size:=by simpa using he
       exact wpS_pure ⟨g1',.inl ⟨_,rfl,fdone m4 (.inr (by omega))⟩⟩
      .have he:ib' + 1+L'.length≠b.size:=by simpa using he
       exact hjp _ _ ⟨m4,eR',by omega,by omega⟩
      .have h0:L'.length=0:=by omega
       rw[h0] at eR';exact hjp _ _ ⟨m3,eR',by omega,by omega⟩
     .dsimp only[jp3];refine wpS_bind (xD ex ?_);have m6:Mg lb a.toList b.toList (out.push x).toList (a.toList.drop (ia2+1)) (b.toList.drop ib2):=by
       rw[Array.toList_push];rw[drop_cons ex] at m5;refine m5.sU λ p hp q hq=>?_;rw[List.mem_singleton] at hp;subst hp;rw[e5] at hq;exact hrb q hq
      refine z_ (λ hz=>wpS_pure ⟨g1',.inl ⟨_,rfl,flast m6 (by simpa using hz)⟩⟩) λ hz=>?_;have hz:ia2+1+1≠a.size:=by simpa using hz
      exact z_ (λ _=>wpS_pure ⟨g1',.inr ⟨rfl,⟨m6,by dsimp only;omega,l5⟩,by dsimp only;omega⟩⟩) λ _=>wpS_pure ⟨g1',rfl,⟨m6,by dsimp only;omega,l5⟩,by dsimp only;omega⟩
end
end TS
namespace TS
open PySem PyProof.Rows
def Mh (lb:Keyed->Keyed->Bool) (a b:List Keyed) (out A B:List Keyed):Prop:=(A++B++out).Perm (a++b)/\Up lb (A++out)/\Up lb (B++out)
section
variable {lb:Keyed->Keyed->Bool}{a b out A B A1 A2 B1 B2:List Keyed}
theorem Mh.sU (h:Mh lb a b out (A1++A2) B) (hl:∀ x∈B,∀ y∈A2,lb y x=false):Mh lb a b (A2++out) A1 B:=by
 obtain⟨h1,h2,h3⟩:=h;refine⟨List.Perm.trans ?_ h1,by simpa using h2,?_⟩
 .rw[<- List.append_assoc];refine List.Perm.append_right _ ?_;rw[List.append_assoc,List.append_assoc];exact List.Perm.append_left _ List.perm_append_comm
 .rw[Up.app] at h3 ⊢;rw[List.append_assoc] at h2;refine⟨h3.1,(Up.app.mp h2).2.1,λ x hx y hy=>?_⟩;rcases List.mem_append.mp hy with hy | hy
  .exact hl x hx y hy
  .exact h3.2.2 x hx y hy
theorem Mh.sT (h:Mh lb a b out A (B1++B2)) (hl:∀ x∈A,∀ y∈B2,lb y x=false):Mh lb a b (B2++out) A B1:=by
 obtain⟨h1,h2,h3⟩:=h;refine⟨by simpa using h1,?_,by simpa using h3⟩;rw[Up.app] at h2 ⊢;rw[List.append_assoc] at h3;refine⟨h2.1,(Up.app.mp h3).2.1,λ x hx y hy=>?_⟩;rcases List.mem_append.mp hy with hy | hy
 .exact hl x hx y hy
 .exact h2.2.2 x hx y hy
theorem Mh.done (h:Mh lb a b out A B) (he:A=[]\/B=[]):Res lb a b (A++B++out):=by
 obtain⟨h1,h2,h3⟩:=h;refine⟨h1,?_⟩;rcases he with rfl | rfl
 .simpa using h3
 .simpa using h2
theorem Mh.first (h:Mh lb a b out A B) (hl:∀ x∈B,∀ y∈A,lb y x=false):Res lb a b (B++A++out):=by
 have:=(Mh.sU (A1:=[]) (A2:=A) (by simpa using h) hl).done (.inl rfl);simpa using this
theorem take_snoc {a:Array Keyed}{i:Nat}{x:Keyed}(h:a[i]?=some x):a.toList.take (i+1)=a.toList.take i++[x]:=by
 rw[List.take_add_one];have:a.toList[i]?=some x:=by simpa using h
 rw[this];rfl
end
section
variable {prog:Program}{w:World}{A:Around}{E:Value->Shared->Prop}{s:Shared}{κ:SortKind}{D:Keyed->Prop}{lb:Keyed->Keyed->Bool}
theorem YE (G:Asks prog w A E s κ D lb) {a b:Array Keyed}{st:SortSt}{Q:Array Keyed->SortSt->Prop}(hDa:∀ x∈a.toList,D x) (hDb:∀ x∈b.toList,D x) (sa:Up lb a.toList) (sb:Up lb b.toList)
  (na:0<a.size) (nb:0<b.size) (hfirst:∀ y∈b.toList.take 1,∀ x∈a.toList,lb x y=false) (hlast:∀ x,a[a.size-1]?=some x->∀ y∈b.toList,lb x y=false) (hk:kindOf st=κ)
  (h:∀ out g,Res lb a.toList b.toList out.toList->Q out (setG st g)):wpS (model prog w) A E s (bQ a b) Q st:=by
 have inA:∀ i,∀ x∈a.toList.take i,x∈a.toList:=λ i x hx=>List.mem_of_mem_take hx;have x9:∀ i,∀ x∈b.toList.take i,x∈b.toList:=λ i x hx=>List.mem_of_mem_take hx;have fdone:∀ {out:Array Keyed}{ia ib:Nat},Mh lb a.toList b.toList out.toList.reverse (a.toList.take ia) (b.toList.take ib)->ia=0\/ib=0->
   Res lb a.toList b.toList (a.extract 0 ia++b.extract 0 ib++out.reverse).toList:=λ m he=>by
  rw[Array.toList_append,Array.toList_append,kg,kg,Array.toList_reverse];refine m.done (he.imp (λ q=>?_) λ q=>?_) <;> rw[q,List.take_zero]
 have ffirst:∀ {out:Array Keyed}{ia ib:Nat},Mh lb a.toList b.toList out.toList.reverse (a.toList.take ia) (b.toList.take ib)->ib=1->
   Res lb a.toList b.toList (b.extract 0 ib++a.extract 0 ia++out.reverse).toList:=λ{out ia ib} m he=>by
  rw[Array.toList_append,Array.toList_append,kg,kg,Array.toList_reverse];subst he;exact m.first λ x hx y hy=>hfirst x hx y (inA _ y hy)
 obtain⟨a0,e0,m0⟩:=t5 (a:=a) (i:=a.size-1) (by omega);unfold bQ;refine wpS_bind (qK ?_)
 extract_lets -underBinder
 dsimp -zeta -zetaHave +zetaDelta only;refine wpS_bind (xD e0 ?_)
 extract_lets -underBinder
 dsimp -zeta -zetaHave +zetaDelta only;have hst:st=setG st (gallopOf st):=rfl;have mg0:Mh lb a.toList b.toList (#[a0]:Array Keyed).toList.reverse (a.toList.take (a.size-1)) (b.toList.take b.size):=by
  have e1:a.toList=a.toList.take (a.size-1)++[a0]:=by
   have:=take_snoc e0;rw[show a.size-1+1=a.size by omega,List.take_of_length_le (by simp)] at this;exact this
  have e2:b.toList.take b.size=b.toList:=List.take_of_length_le (by simp);rw[e2];refine⟨?_,?_,?_⟩
  .show ((a.toList.take (a.size-1)++b.toList)++[a0]).Perm _
   conv=>rhs;rw[e1]
   rw[List.append_assoc,List.append_assoc];exact List.Perm.append_left _ List.perm_append_comm
  .show Up lb (a.toList.take (a.size-1)++[a0]);rw[<- e1];exact sa
  .show Up lb (b.toList++[a0]);rw[Up.app];refine⟨sb,List.pairwise_singleton _ _,λ x hx y hy=>?_⟩;rw[List.mem_singleton] at hy;subst hy;exact hlast _ e0 x hx
 refine z_ (λ hz=>?_) λ hz=>?_
 .have hz:a.size-1=0:=by simpa using hz
  rw[hst];exact wpS_pure (h _ _ (fdone mg0 (.inl hz)))
 have hz:a.size-1≠0:=by simpa using hz
 refine z_ (λ hy=>?_) λ hy=>?_
 .have hy:b.size=1:=by simpa using hy
  rw[hst];exact wpS_pure (h _ _ (ffirst mg0 hy))
 have hy:b.size≠1:=by simpa using hy
 refine wpS_bind (wpS_get ?_)
 extract_lets -underBinder
 dsimp -zeta -zetaHave +zetaDelta only
 let Inv (ia ib:Nat) (out:Array Keyed):Prop:=Mh lb a.toList b.toList out.toList.reverse (a.toList.take ia) (b.toList.take ib)/\1<=ia/\ia<=a.size/\2<=ib/\ib<=b.size
 let Fin (r:Option (Array Keyed)):Prop:=∃ out,r=some out/\Res lb a.toList b.toList out.toList
 let Gs (st':SortSt):Prop:=∃ g,st'=setG st g
 have gk:∀ {st'},Gs st'->kindOf st'=κ:=λ hg=>by obtain⟨g,rfl⟩:=hg;exact hk
 refine wpS_bind (wpS_mono (wpS_forRange (I:=λ k c st'=>Gs st'/\c.1=none/\Inv c.2.1 c.2.2.1 c.2.2.2.1/\c.2.1+c.2.2.1+k+1<=a.size+b.size)
  (Q:=λ c st'=>Gs st'/\Fin c.1) ?step ?fin ⟨⟨_,hst⟩,rfl,⟨mg0,by dsimp only;omega,by dsimp only;omega,by dsimp only;omega,by dsimp only;omega⟩,by dsimp only;omega⟩) ?post)
 case post=>
  rintro⟨r,c⟩ st' ⟨⟨g,rfl⟩,out,rfl,hr⟩;exact wpS_pure (h _ _ hr)
 case fin=>
  rintro⟨r,ia,ib,out,mg⟩ st' ⟨_,_,⟨_,h1,h2,h4,h5⟩,h3⟩;dsimp only at h1 h2 h3 h4;omega
 case step=>
  rintro k ⟨r,ia,ib,out,mg⟩ st' _ hkn ⟨hg,rfl,hI,hrem⟩;dsimp only at hI hrem
  extract_lets -underBinder
  dsimp -zeta -zetaHave +zetaDelta only;refine wpS_bind (wpS_mono (wpS_forRange (I:=λ k c st'=>Gs st'/\c.1=none/\Inv c.2.1 c.2.2.1 c.2.2.2.1/\c.2.1+c.2.2.1+min k 1<=ia+ib)
   (Q:=λ c st'=>Gs st'/\(Fin c.1\/c.1=none/\Inv c.2.1 c.2.2.1 c.2.2.2.1/\c.2.1+c.2.2.1+1<=ia+ib)) ?step ?fin ⟨hg,rfl,hI,by dsimp only;omega⟩) ?post)
  case fin=>
   rintro⟨r,ia',ib',out,ac,bc⟩ st' ⟨g1,g2,g3,g4⟩;dsimp only at g2 g3 g4;exact⟨g1,.inr ⟨g2,g3,by dsimp only;omega⟩⟩
  case step=>
   rintro k ⟨r,ia',ib',out,ac,bc⟩ st' _ hkn ⟨g1,rfl,⟨g3,g4,g4',g5,g5'⟩,g6⟩;dsimp only at g3 g4 g4' g5 g5' g6
   extract_lets -underBinder
   dsimp -zeta -zetaHave +zetaDelta only;obtain⟨x,ex,mx⟩:=t5 (a:=a) (i:=ia'-1) (by omega);obtain⟨y,ey,my⟩:=t5 (a:=b) (i:=ib'-1) (by omega);have tx:=take_snoc ex;have ty:=take_snoc ey;rw[show ia'-1+1=ia' by omega] at tx;rw[show ib'-1+1=ib' by omega] at ty;refine wpS_bind (xD ey (wpS_bind (xD ex (wpS_bind (G.ask (hDb y my) (hDa x mx) (gk g1) ?_)))));dsimp only;have sA:Up lb (a.toList.take ia'):=(Up.app.mp g3.2.1).1;have sB:Up lb (b.toList.take ib'):=(Up.app.mp g3.2.2).1;rw[tx] at sA;rw[ty] at sB;cases c:lb y x with
   | true=>
    simp only[if_true];refine wpS_bind (xD ex ?_);have m':Mh lb a.toList b.toList (out.push x).toList.reverse (a.toList.take (ia'-1)) (b.toList.take ib'):=by
     rw[Array.toList_push,List.reverse_append];rw[tx] at g3;refine g3.sU λ p hp q hq=>?_;rw[List.mem_singleton] at hq;subst hq;rw[ty] at hp;rcases List.mem_append.mp hp with hp | hp
     .exact G.tr ((Up.app.mp sB).2.2 p hp y zMc) (G.as c)
     .rw[List.mem_singleton] at hp;subst hp;exact G.as c
    refine z_ (λ hz'=>?_) λ hz'=>?_
    .have hz':ia'-1=0:=by simpa using hz'
     exact wpS_pure ⟨g1,.inl ⟨_,rfl,fdone m' (.inl hz')⟩⟩
    .have hz':ia'-1≠0:=by simpa using hz'
     refine z_ (λ _=>?_) λ _=>?_
     .exact wpS_pure ⟨g1,.inr ⟨rfl,⟨m',by dsimp only;omega,by dsimp only;omega,g5,g5'⟩,by dsimp only;omega⟩⟩
     .exact wpS_pure ⟨g1,rfl,⟨m',by dsimp only;omega,by dsimp only;omega,g5,g5'⟩,by dsimp only;omega⟩
   | false=>
    simp only[Bool.false_eq_true,if_false];refine wpS_bind (xD ey ?_);have m':Mh lb a.toList b.toList (out.push y).toList.reverse (a.toList.take ia') (b.toList.take (ib'-1)):=by
     rw[Array.toList_push,List.reverse_append];rw[ty] at g3;refine g3.sT λ p hp q hq=>?_;rw[List.mem_singleton] at hq;subst hq;rw[tx] at hp;rcases List.mem_append.mp hp with hp | hp
     .exact G.tr ((Up.app.mp sA).2.2 p hp x zMc) c
     .rw[List.mem_singleton] at hp;subst hp;exact c
    refine z_ (λ hz'=>?_) λ hz'=>?_
    .have hz':ib'-1=1:=by simpa using hz'
     exact wpS_pure ⟨g1,.inl ⟨_,rfl,ffirst m' hz'⟩⟩
    .have hz':ib'-1≠1:=by simpa using hz'
     refine z_ (λ _=>?_) λ _=>?_
     .exact wpS_pure ⟨g1,.inr ⟨rfl,⟨m',g4,g4',by dsimp only;omega,by dsimp only;omega⟩,by dsimp only;omega⟩⟩
     .exact wpS_pure ⟨g1,rfl,⟨m',g4,g4',by dsimp only;omega,by dsimp only;omega⟩,by dsimp only;omega⟩
  case post=>
   rintro⟨r,ia',ib',out,ac,bc⟩ st' ⟨g1,g2⟩;dsimp only at g2
   extract_lets -underBinder
   dsimp -zeta -zetaHave +zetaDelta only;rcases g2 with ⟨o,rfl,ho⟩ | ⟨rfl,g3,g4⟩
   .exact wpS_pure ⟨g1,_,rfl,ho⟩
   try dsimp -zeta -zetaHave only
   refine wpS_bind (qK ?_);refine wpS_bind (wpS_mono (wpS_forRange (I:=λ k c st'=>Gs st'/\c.1=none/\Inv c.2.1 c.2.2.1 c.2.2.2.1/\c.2.1+c.2.2.1+1<=ia+ib)
    (Q:=λ c st'=>Gs st'/\(Fin c.1\/c.1=none/\Inv c.2.1 c.2.2.1 c.2.2.2.1/\c.2.1+c.2.2.1+1<=ia+ib)) ?step ?fin ⟨g1,rfl,g3,g4⟩) ?post)
   case fin=>
    rintro⟨r,ia',ib',out,mg',ac,bc⟩ st' ⟨g1,g2,g3,g4⟩;exact⟨g1,.inr ⟨g2,g3,g4⟩⟩
   case post=>
    rintro⟨r,ia',ib',out,mg',ac,bc⟩ st' ⟨g1,g2⟩;dsimp only at g2;dsimp only;rcases g2 with ⟨o,rfl,ho⟩ | ⟨rfl,g3,g4⟩
    .exact wpS_pure ⟨g1,_,rfl,ho⟩
    .refine wpS_bind (mC (wpS_pure ⟨?_,rfl,g3,by dsimp only;omega⟩));obtain⟨g,rfl⟩:=g1;exact⟨_,rfl⟩
   case step=>
    rintro k ⟨r,ia',ib',out,mg',ac,bc⟩ st' _ hkn ⟨g1,rfl,⟨g3,g4,g4',g5,g5'⟩,g6⟩;dsimp only at g3 g4 g4' g5 g5' g6
    extract_lets -underBinder +onlyGivenNames z1 z2 z3 z4 z5 z6 z7 z8 z9 z10 z11
    dsimp -zeta -zetaHave +zetaDelta only;obtain⟨y,ey,my⟩:=t5 (a:=b) (i:=ib'-1) (by omega);have ty:=take_snoc ey;rw[show ib'-1+1=ib' by omega] at ty;have sB:Up lb (b.toList.take ib'):=(Up.app.mp g3.2.2).1;have sA:Up lb (a.toList.take ia'):=(Up.app.mp g3.2.1).1;rw[ty] at sB
    extract_lets -underBinder +onlyGivenNames jp1
    refine eg jp1 (λ _=>True) (λ g _=>?hv1) λ hjp=>?hb1
    case hb1=>
     clear_value jp1
     exact z_ (λ _=>hjp _ trivial) λ _=>hjp _ trivial
    dsimp -zeta -zetaHave only [jp1];refine wpS_bind (mC ?_);have g1':Gs (setG st' g):=by obtain⟨g0,rfl⟩:=g1;exact⟨_,rfl⟩
    refine wpS_bind (xD ey ?_);refine wpS_bind (qM G (a.toList.take ia') (by omega) (by rw[List.drop_zero]) (λ x hx=>hDa x (inA _ x hx)) (hDb y my) (gk g1') (by omega) sA λ L R hLR hL hR=>?_);have hlb:∀ z∈b.toList.take ib',∀ x∈R,lb x z=false:=λ z hz x hx=>by
     have q:lb x y=false:=G.as (by have:=hR x hx;simpa [yj] using this);rw[ty] at hz;rcases List.mem_append.mp hz with hz | hz
     .exact G.tr ((Up.app.mp sB).2.2 z hz y zMc) q
     .rw[List.mem_singleton] at hz;subst hz;exact q
    have hra:∀ x∈L,lb y x=false:=λ x hx=>by have:=hL x hx;simpa [yj] using this
    have lL:L.length+R.length=ia':=by
     have:=congrArg List.length hLR;simp at this;omega
    have eL:a.toList.take L.length=L:=by
     have:=congrArg (List.take L.length) hLR;rw[List.take_left,List.take_take,Nat.min_eq_left (by omega)] at this;exact this
    have eR:(a.extract L.length ia').toList=R:=by
     rw[show ia'=L.length+(ia'-L.length) by omega,pN];have:=congrArg (List.drop L.length) hLR;rw[List.drop_left,List.drop_take] at this;exact this
    have m1:Mh lb a.toList b.toList (out++(a.extract L.length ia').reverse).toList.reverse (a.toList.take L.length) (b.toList.take ib'):=by
     rw[Array.toList_append,List.reverse_append,Array.toList_reverse,List.reverse_reverse,eR,eL];rw[hLR] at g3;exact g3.sU hlb
    dsimp -zeta -zetaHave only
    extract_lets -underBinder +onlyGivenNames y1 y1b
    dsimp -zeta -zetaHave only [y1,y1b]
    extract_lets -underBinder +onlyGivenNames jp2
    refine mD jp2 (λ ia2 out=>Mh lb a.toList b.toList (Array.toList out).reverse (a.toList.take ia2) (b.toList.take ib')/\a.toList.take ia2=L/\1<=ia2/\ia2<=ia') (λ ia2 out ⟨m2,e2,l2,s_⟩=>?hv2) λ hjp=>?hb2
    case hb2=>
     clear_value jp2
     dsimp only;refine z_ (λ hk0=>z_ (λ he=>?_) λ he=>?_) λ hk0=>?_
     .exact wpS_pure ⟨g1',.inl ⟨_,rfl,fdone m1 (.inl (by simpa using he))⟩⟩
     .have he:L.length≠0:=by simpa using he
      exact hjp _ _ ⟨m1,eL,by omega,by omega⟩
     .have h0:L.length=ia':=by omega
      exact hjp _ _ ⟨g3,by rw[<- h0];exact eL,g4,by omega⟩
    .dsimp -zeta -zetaHave only [jp2]
     extract_lets -underBinder
     dsimp -zeta -zetaHave +zetaDelta only;refine wpS_bind (xD ey ?_)
     extract_lets -underBinder
     dsimp -zeta -zetaHave +zetaDelta only;have m3:Mh lb a.toList b.toList (out.push y).toList.reverse (a.toList.take ia2) (b.toList.take (ib'-1)):=by
      rw[Array.toList_push,List.reverse_append];rw[ty] at m2;refine m2.sT λ p hp q hq=>?_;rw[List.mem_singleton] at hq;subst hq;rw[e2] at hp;exact hra p hp
     refine z_ (λ hz'=>?_) λ hz'=>?_
     .have hz':ib'-1=1:=by simpa using hz'
      exact wpS_pure ⟨g1',.inl ⟨_,rfl,ffirst m3 hz'⟩⟩
     have hz':ib'-1≠1:=by simpa using hz'
     obtain⟨x,ex,mx⟩:=t5 (a:=a) (i:=ia2-1) (by omega);have tx:=take_snoc ex;rw[show ia2-1+1=ia2 by omega] at tx;have sA2:Up lb (a.toList.take ia2):=(Up.app.mp m2.2.1).1;rw[tx] at sA2;refine wpS_bind (xD ex ?_);refine wpS_bind (qM G (b.toList.take (ib'-1)) (by omega) (by rw[List.drop_zero]) (λ x hx=>hDb x (x9 _ x hx)) (hDa x mx) (gk g1') (by omega) (Up.app.mp m3.2.2).1 λ L' R' hLR' hL' hR'=>?_);have hla:∀ q∈a.toList.take ia2,∀ z∈R',lb z q=false:=λ q hq z hz=>by
      have c:lb z x=false:=by have:=hR' z hz;simpa [yj] using this
      rw[tx] at hq;rcases List.mem_append.mp hq with hq | hq
      .exact G.tr ((Up.app.mp sA2).2.2 q hq x zMc) c
      .rw[List.mem_singleton] at hq;subst hq;exact c
     have hrb:∀ z∈L',lb x z=false:=λ z hz=>G.as (by have:=hL' z hz;simpa [yj] using this);have lL':L'.length+R'.length=ib'-1:=by
      have:=congrArg List.length hLR';simp at this;omega
     have eL':b.toList.take L'.length=L':=by
      have:=congrArg (List.take L'.length) hLR';rw[List.take_left,List.take_take,Nat.min_eq_left (by omega)] at this;exact this
     have eR':(b.extract L'.length (ib'-1)).toList=R':=by
      rw[show ib'-1=L'.length+(ib'-1-L'.length) by omega,pN];have:=congrArg (List.drop L'.length) hLR';rw[List.drop_left,List.drop_take] at this;exact this
     have m4:Mh lb a.toList b.toList (out.push y++(b.extract L'.length (ib'-1)).reverse).toList.reverse (a.toList.take ia2) (b.toList.take L'.length):=by
      rw[Array.toList_append,List.reverse_append,Array.toList_reverse,List.reverse_reverse,eR',eL'];rw[hLR'] at m3;exact m3.sT hla
     dsimp -zeta -zetaHave only
     extract_lets -underBinder +onlyGivenNames y2 y2b
     dsimp -zeta -zetaHave only [y2,y2b]
     extract_lets -underBinder +onlyGivenNames jp3
     refine mD jp3 (λ ib2 out=>Mh lb a.toList b.toList (Array.toList out).reverse (a.toList.take ia2) (b.toList.take ib2)/\b.toList.take ib2=L'/\2<=ib2/\ib2+1<=ib') (λ ib2 out ⟨m5,e5,l5,le5⟩=>?hv3) λ hjp=>?hb3
     case hb3=>
      clear_value jp3
      dsimp only;refine z_ (λ hk1=>z_ (λ he=>?_) λ he=>z_ (λ hf=>?_) λ hf=>?_) λ hk1=>?_
      .exact wpS_pure ⟨g1',.inl ⟨_,rfl,ffirst m4 (by simpa using he)⟩⟩
      .exact wpS_pure ⟨g1',.inl ⟨_,rfl,fdone m4 (.inr (by simpa using hf))⟩⟩
      .have he:L'.length≠1:=by simpa using he
       have hf:L'.length≠0:=by simpa using hf
       exact hjp _ _ ⟨m4,eL',by omega,by omega⟩
      .have h0:L'.length=ib'-1:=by omega
       exact hjp _ _ ⟨m3,by rw[<- h0];exact eL',by omega,by omega⟩
     .dsimp only[jp3];refine wpS_bind (xD ex ?_);have m6:Mh lb a.toList b.toList (out.push x).toList.reverse (a.toList.take (ia2-1)) (b.toList.take ib2):=by
       rw[Array.toList_push,List.reverse_append];rw[tx] at m5;refine m5.sU λ p hp q hq=>?_;rw[List.mem_singleton] at hq;subst hq;rw[e5] at hp;exact hrb p hp
      refine z_ (λ hz=>wpS_pure ⟨g1',.inl ⟨_,rfl,fdone m6 (.inl (by simpa using hz))⟩⟩) λ hz=>?_;have hz:ia2-1≠0:=by simpa using hz
      exact z_ (λ _=>wpS_pure ⟨g1',.inr ⟨rfl,⟨m6,by dsimp only;omega,by dsimp only;omega,l5,by dsimp only;omega⟩,by dsimp only;omega⟩⟩)
       λ _=>wpS_pure ⟨g1',rfl,⟨m6,by dsimp only;omega,by dsimp only;omega,l5,by dsimp only;omega⟩,by dsimp only;omega⟩
end
end TS
namespace TS
open PySem PyProof.Rows
theorem dU (o:Nat):∀ (l:List Keyed) (k:Nat) (arr:Array Keyed),o+k+l.length<=arr.size->
  ((l.zipIdx k).foldl (λ a x=>a.setIfInBounds (o+x.2) x.1) arr).toList=arr.toList.take (o+k)++l++arr.toList.drop (o+k+l.length)
 | [],k,arr,h=>by simp
 | p::l,k,arr,h=>by
  simp only[List.length_cons] at h;rw[List.zipIdx_cons,List.foldl_cons,dU o l (k+1) _ (by rw[Array.size_setIfInBounds];omega)];rw[Array.toList_setIfInBounds];have hl:o+k<arr.toList.length:=by rw[Array.length_toList];omega
  have e1:(arr.toList.set (o+k) p).take (o+(k+1))=arr.toList.take (o+k)++[p]:=by
   rw[show o+(k+1)=o+k+1 by omega,List.take_add_one,List.take_set_of_le (Nat.le_refl _)];simp only[Array.length_toList] at hl;simp[hl]
  have e2:(arr.toList.set (o+k) p).drop (o+(k+1)+l.length)=arr.toList.drop (o+k+(l.length+1)):=by
   rw[List.drop_set_of_lt (by omega)];congr 1;omega
  rw[e1,e2,List.length_cons];simp
section
variable {prog:Program}{w:World}{A:Around}{E:Value->Shared->Prop}{s:Shared}{κ:SortKind}{D:Keyed->Prop}{lb:Keyed->Keyed->Bool}
theorem Y8 {σ:Type}{M:Model}{st st':σ}{Q:PUnit->σ->Prop}(h:Q ⟨⟩ st'):wpS M A E s (set st':StateT σ Sem PUnit) Q st:=by
 unfold wpS;rw[StateT.run_set];exact wpAny_pure ⟨rfl,h⟩
theorem YB (G:Asks prog w A E s κ D lb) {i:Nat}{st:SortSt}{Q:Bool->SortSt->Prop}{P X Y S:List Keyed}{pa pb:Nat}(hX:X≠[]) (hY:Y≠[])
  (e1:(pendingOf st)[i]?=some (P.length,X.length,pa)) (e2:(pendingOf st)[i+1]?=some (P.length+X.length,Y.length,pb)) (ha:(arrOf st).toList=P++(X++(Y++S)))
  (hD:∀ x∈(arrOf st).toList,D x) (hk:kindOf st=κ) (hf:failedOf st=none) (uX:Up lb X) (uY:Up lb Y)
  (h:∀ M arr' g,M.Perm (X++Y)->Up lb M->Array.toList arr'=P++(M++S)->
   Q true (SortSt.mk' (kindOf st) arr' (((pendingOf st).setIfInBounds i (P.length,X.length+Y.length,pa)).eraseIdxIfInBounds (i+1)) g (failedOf st))):
  wpS (model prog w) A E s (mergeAt' i) Q st:=by
 obtain⟨y0,Y',rfl⟩:∃ y Y',Y=y::Y':=by cases Y with | nil=>exact absurd rfl hY | cons y Y'=>exact⟨y,Y',rfl⟩
 have hsz:(arrOf st).size=P.length+X.length+(y0::Y').length+S.length:=by
  rw[<- Array.length_toList,ha];simp;omega
 have inX:∀ x∈X,D x:=λ x hx=>hD x (by rw[ha];simp[hx]);have inY:∀ x∈y0::Y',D x:=λ x hx=>hD x (by rw[ha];exact List.mem_append_right _ (List.mem_append_right _ (List.mem_append_left _ hx)));have eX:((arrOf st).toList.drop P.length).take X.length=X:=by rw[ha,List.drop_left,List.take_left]
 have eY:((arrOf st).toList.drop (P.length+X.length)).take (y0::Y').length=y0::Y':=by
  rw[ha,<- List.drop_drop,List.drop_left,List.drop_left,List.take_left]
 have ey:(arrOf st)[P.length+X.length]?=some y0:=by
  rw[<- Array.getElem?_toList,ha,List.getElem?_append_right (by omega),List.getElem?_append_right (by omega)];simp
 have key:∀ {g:Nat},Up lb (X++y0::Y')->Q true (SortSt.mk' (kindOf st) (arrOf st) (((pendingOf st).setIfInBounds i (P.length,X.length+(y0::Y').length,pa)).eraseIdxIfInBounds (i+1)) g (failedOf st)):=
  λ u=>h _ _ _ (List.Perm.refl _) u (by rw[ha];simp)
 unfold mergeAt';refine wpS_bind (wpS_get ?_);rw[e1,e2];dsimp only;refine wpS_bind (Y8 (wpS_bind (xD ey ?_)));have lX:0<X.length:=List.length_pos_iff.mpr hX;refine wpS_bind (qM G X (by show P.length+X.length<=(arrOf st).size;omega) eX inX (inY y0 zMc) hk lX uX λ L R hLR hL hR=>?_);dsimp only;have hL':∀ x∈L,∀ y∈y0::Y',lb y x=false:=λ x hx y hy=>by
  have q:lb y0 x=false:=by have:=hL x hx;simpa [yj] using this
  rcases List.mem_cons.mp hy with rfl | hy
  .exact q
  .exact G.tr q ((List.pairwise_cons.mp uY).1 y hy)
 have hR':∀ x∈R,lb x y0=false:=λ x hx=>G.as (by have:=hR x hx;simpa [yj] using this);have lLR:L.length+R.length=X.length:=by rw[hLR];simp
 refine z_ (λ hz=>?_) λ hz=>?_
 .have hz:X.length-L.length=0:=by simpa using hz
  have:R=[]:=List.length_eq_zero_iff.mp (by omega);subst this;rw[List.append_nil] at hLR;refine wpS_pure (key (Up.app.mpr ⟨uX,uY,?_⟩));rw[hLR];exact hL'
 have hz:X.length-L.length≠0:=by simpa using hz
 obtain⟨R0,x1,rfl⟩:∃ R0 x1,R=R0++[x1]:=⟨R.dropLast,R.getLast (λ e=>by subst e;simp at lLR;omega),(List.dropLast_concat_getLast _).symm⟩
 have ex:(arrOf st)[P.length+L.length+(X.length-L.length)-1]?=some x1:=by
  rw[<- Array.getElem?_toList,ha,hLR];have e:P.length+L.length+((L++(R0++[x1])).length-L.length)-1=P.length+(L.length+R0.length):=by simp;omega
  rw[e,List.getElem?_append_right (by omega),Nat.add_sub_cancel_left,List.append_assoc,List.getElem?_append_right (by omega),Nat.add_sub_cancel_left,List.append_assoc,List.getElem?_append_right (by omega)];simp
 have mx1:x1∈X:=by rw[hLR];simp
 refine wpS_bind (xD ex ?_);refine wpS_bind (qM G (y0::Y') (by show P.length+X.length+(y0::Y').length<=(arrOf st).size;omega) eY inY (inX x1 mx1) hk (by simp) uY λ L2 R2 hLR2 hL2 hR2=>?_);dsimp only;have leX:∀ x∈X,lb x1 x=false:=λ x hx=>by
  rw[hLR] at hx uX;rw[<- List.append_assoc] at hx uX;rcases List.mem_append.mp hx with hx | hx
  .exact (Up.app.mp uX).2.2 x hx x1 zMc
  .rw[List.mem_singleton] at hx;subst hx;exact G.refl _
 have hR2':∀ x∈X,∀ y∈R2,lb y x=false:=λ x hx y hy=>by
  have q:lb y x1=false:=by have:=hR2 y hy;simpa [yj] using this
  exact G.tr (leX x hx) q
 refine z_ (λ hw=>?_) λ hw=>?_
 .have hw:L2.length=0:=by simpa using hw
  have:L2=[]:=List.length_eq_zero_iff.mp hw;subst this;rw[List.nil_append] at hLR2;refine wpS_pure (key (Up.app.mpr ⟨uX,uY,?_⟩));rw[hLR2];exact hR2'
 have hw:L2.length≠0:=by simpa using hw
 have lLR2:L2.length+R2.length=(y0::Y').length:=by rw[hLR2];simp
 have ax:((arrOf st).extract (P.length+L.length) (P.length+X.length)).toList=R0++[x1]:=by
  rw[show P.length+X.length=P.length+L.length+(X.length-L.length) by omega,pN,<- List.drop_drop,ha,List.drop_left];rw[hLR,List.append_assoc,List.drop_left];have e:(L++(R0++[x1])).length-L.length=(R0++[x1]).length:=by simp
  rw[e,List.take_left]
 have ay:((arrOf st).extract (P.length+X.length) (P.length+X.length+L2.length)).toList=L2:=by
  rw[pN,<- List.drop_drop,ha,List.drop_left,List.drop_left,hLR2,List.append_assoc,List.take_left]
 obtain⟨L2',rfl⟩:∃ L2',L2=y0::L2':=by
  cases L2 with
  | nil=>exact absurd rfl hw
  | cons q L2'=>injection hLR2 with h1 h2;subst h1;exact⟨_,rfl⟩
 have uR:Up lb (R0++[x1]):=by rw[hLR] at uX;exact (Up.app.mp uX).2.1
 have uL2:Up lb (y0::L2'):=by rw[hLR2] at uY;exact (Up.app.mp uY).1
 have hyx:∀ y∈y0::L2',lb x1 y=false:=λ y hy=>G.as (by have:=hL2 y hy;simpa [yj] using this);have ends:∀ (out:Array Keyed) (g:Nat),Res lb (R0++[x1]) (y0::L2') out.toList->
   Q true (SortSt.mk' (kindOf st) (List.foldl (λ a x=>a.setIfInBounds (P.length+L.length+x.snd) x.fst) (arrOf st) out.toList.zipIdx) (((pendingOf st).setIfInBounds i (P.length,X.length+(y0::Y').length,pa)).eraseIdxIfInBounds (i+1)) g (failedOf st)):=λ out g hr=>by
  have lo:out.toList.length=R0.length+1+(L2'.length+1):=by rw[hr.1.length_eq];simp;omega
  have memo:∀ z∈out.toList,z∈R0++[x1]\/z∈y0::L2':=λ z hz=>List.mem_append.mp (hr.1.mem_iff.mp hz);refine h (L++(out.toList++R2)) _ _ ?_ ?_ ?_
  .rw[hLR2]
   conv=>rhs;rw[hLR]
   rw[List.append_assoc];refine List.Perm.append_left _ ?_;rw[<- List.append_assoc];exact List.Perm.append_right _ hr.1
  .refine Up.app.mpr ⟨by rw[hLR] at uX;exact (Up.app.mp uX).1,Up.app.mpr ⟨hr.2,by rw[hLR2] at uY;exact (Up.app.mp uY).2.1,λ x hx y hy=>?_⟩,λ x hx y hy=>?_⟩
   .rcases memo x hx with hx | hx
    .exact hR2' x (by rw[hLR];exact List.mem_append_right _ hx) y hy
    .rw[hLR2] at uY;exact (Up.app.mp uY).2.2 x hx y hy
   .rcases List.mem_append.mp hy with hy | hy
    .rcases memo y hy with hy | hy
     .rw[hLR] at uX;exact (Up.app.mp uX).2.2 x hx y hy
     .exact hL' x hx y (by rw[hLR2];exact List.mem_append_left _ hy)
    .exact hL' x hx y (by rw[hLR2];exact List.mem_append_right _ hy)
  .simp only[List.length_append,List.length_cons,List.length_nil] at lLR lLR2;have e:=dU (P.length+L.length) out.toList 0 (arrOf st) (by rw[hsz];simp only[List.length_cons];omega);rw[Nat.add_zero] at e;rw[e];have e3:(arrOf st).toList=P++L++(R0++[x1])++(y0::L2')++R2++S:=by rw[ha,hLR2,hLR];simp
   have e4:(arrOf st).toList.take (P.length+L.length)=P++L:=by
    rw[e3];simp only[List.append_assoc];rw[<- List.append_assoc P L,show P.length+L.length=(P++L).length by simp,List.take_left]
   have e5:(arrOf st).toList.drop (P.length+L.length+out.toList.length)=R2++S:=by
    rw[e3,List.append_assoc (P++L++(R0++[x1])++(y0::L2'))];rw[show P.length+L.length+out.toList.length=(P++L++(R0++[x1])++(y0::L2')).length by simp[lo];omega,List.drop_left]
   rw[e4,e5];simp
 have n1:0<((arrOf st).extract (P.length+L.length) (P.length+X.length)).size:=by rw[<- Array.length_toList,ax];simp
 have n2:0<((arrOf st).extract (P.length+X.length) (P.length+X.length+(y0::L2').length)).size:=by rw[<- Array.length_toList,ay];simp
 have lx1:(R0++[x1]).drop (((arrOf st).extract (P.length+L.length) (P.length+X.length)).size-1)=[x1]:=by
  rw[<- Array.length_toList,ax];simp
 refine z_ (λ hb=>?_) λ hb=>?_
 .refine wpS_bind (YC G (by rw[ax];exact λ x hx=>inX x (by rw[hLR];exact List.mem_append_right _ hx)) (by rw[ay];exact λ x hx=>inY x (by rw[hLR2];exact List.mem_append_left _ hx)) (by rw[ax];exact uR) (by rw[ay];exact uL2) n1 n2
   (λ y hy x hx=>?_) (λ x hx y hy=>?_) hk λ out g hr=>?_)
  .rw[ax] at hx;rw[<- Array.getElem?_toList,ay] at hy;have:y0=y:=by simpa using hy
   subst this;exact hR' x hx
  .rw[ax,lx1,List.mem_singleton] at hx;subst hx;rw[ay] at hy;exact hyx y hy
  .rw[ax,ay] at hr;refine wpS_bind (wpS_modify (wpS_bind (wpS_get (wpS_pure ?_))));show Q (Option.isNone (failedOf st)) _;have e:Option.isNone (failedOf st)=true:=by rw[hf];rfl
   rw[e];exact ends out g hr
 .refine wpS_bind (YE G (by rw[ax];exact λ x hx=>inX x (by rw[hLR];exact List.mem_append_right _ hx)) (by rw[ay];exact λ x hx=>inY x (by rw[hLR2];exact List.mem_append_left _ hx)) (by rw[ax];exact uR) (by rw[ay];exact uL2) n1 n2
   (λ y hy x hx=>?_) (λ x hx y hy=>?_) hk λ out g hr=>?_)
  .rw[ax] at hx;rw[ay] at hy;have:y=y0:=by simpa using hy
   subst this;exact hR' x hx
  .have e:x1=x:=by
    rw[<- Array.getElem?_toList,<- Array.length_toList,ax] at hx;simpa using hx
   subst e;rw[ay] at hy;exact hyx y hy
  .rw[ax,ay] at hr;refine wpS_bind (wpS_modify (wpS_bind (wpS_get (wpS_pure ?_))));show Q (Option.isNone (failedOf st)) _;have e:Option.isNone (failedOf st)=true:=by rw[hf];rfl
   rw[e];exact ends out g hr
end
end TS
namespace TS
open PySem PyProof.Rows
abbrev TF:Nat->Nat->StateT SortSt Sem (Option Bool):=sortPriv% PySem.Builtin.ltAt
abbrev XZ:Nat->Nat->StateT SortSt Sem Unit:=sortPriv% PySem.Builtin.reverseSlice
abbrev Ts:Nat->Nat->StateT SortSt Sem Unit:=sortPriv% PySem.Builtin.moveDown
noncomputable def el (arr:Array Keyed) (i:Nat):Keyed:=(arr[i]?).getD (Value.none,Value.none)
theorem ng {p q:Array Keyed}{i j:Nat}(h:p[i]?=q[j]?):el p i=el q j:=by unfold el;rw[h]
theorem aw {arr:Array Keyed}{i:Nat}(h:i<arr.size):arr[i]?=some (el arr i):=by unfold el;simp[h]
theorem RM {arr:Array Keyed}{i:Nat}(h:i<arr.size):el arr i∈arr.toList:=by unfold el;simp[h]
structure Bs (lo:Nat) (st₀ st:SortSt):Prop where
 kind:kindOf st=kindOf st₀
 pend:pendingOf st=pendingOf st₀
 fail:failedOf st=failedOf st₀
 perm:(arrOf st).Perm (arrOf st₀)
 pre:∀ i,i<lo->(arrOf st)[i]?=(arrOf st₀)[i]?
section
variable {lo:Nat}{st₀ st:SortSt}{lb:Keyed->Keyed->Bool}
theorem Bs.refl (lo:Nat) (st:SortSt):Bs lo st st:=⟨rfl,rfl,rfl,Array.Perm.refl _,λ _ _=>rfl⟩
theorem Bs.size (B:Bs lo st₀ st):(arrOf st).size=(arrOf st₀).size:=B.perm.size_eq
theorem Bs.rev (B:Bs lo st₀ st) {i j:Nat}(hi:lo<=i) (hj:j<=(arrOf st₀).size):Bs lo st₀ (setArr st (mirror (arrOf st) i j ((j-i)/2))):=
 ⟨B.kind,B.pend,B.fail,(mirror_perm _ _ _ _).trans B.perm,λ k hk=>by
  show (mirror (arrOf st) i j ((j-i)/2))[k]?=_;rw[getElem?_mirror_all (by rw[B.size];exact hj),if_neg (by omega)];exact B.pre k hk⟩
theorem o5 {arr:Array Keyed}{i j:Nat}(hj:j<=arr.size) (k:Nat):el (mirror arr i j ((j-i)/2)) k=if i<=k/\k<j then el arr (i+j-1-k) else el arr k:=by
 have e:=getElem?_mirror_all (xs:=arr) (i:=i) (j:=j) hj k;split
 .rename_i h;rw[if_pos h] at e;exact ng e
 .rename_i h;rw[if_neg h] at e;exact ng e
def wU (lb:Keyed->Keyed->Bool) (arr:Array Keyed) (lo k:Nat):Prop:=∀ i j,i<=j->j<k->lb (el arr (lo+j)) (el arr (lo+i))=false
def uw (lb:Keyed->Keyed->Bool) (arr:Array Keyed) (lo k:Nat):Prop:=∀ i j,i<=j->j<k->lb (el arr (lo+i)) (el arr (lo+j))=false
end
section
variable {prog:Program}{w:World}{A:Around}{E:Value->Shared->Prop}{s:Shared}{κ:SortKind}{D:Keyed->Prop}{lb:Keyed->Keyed->Bool}{lo:Nat}{st₀ st:SortSt}
theorem wU.next (G:Asks prog w A E s κ D lb) {p:Array Keyed}{k:Nat}(h:wU lb p lo k) (hk:1<=k) (hl:lb (el p (lo+k)) (el p (lo+k-1))=false):wU lb p lo (k+1):=λ i j hij hj=>by
 by_cases hjk:j<k
 .exact h i j hij hjk
 .have e:j=k:=by omega
  subst e;by_cases hi:i=j
  .subst hi;exact G.refl _
  .have:=h i (j-1) (by omega) (by omega);rw[show lo+(j-1)=lo+j-1 by omega] at this;exact G.tr this hl
theorem uw.next (G:Asks prog w A E s κ D lb) {p:Array Keyed}{k:Nat}(h:uw lb p lo k) (hk:1<=k) (hl:lb (el p (lo+k-1)) (el p (lo+k))=false):uw lb p lo (k+1):=λ i j hij hj=>by
 by_cases hjk:j<k
 .exact h i j hij hjk
 .have e:j=k:=by omega
  subst e;by_cases hi:i=j
  .subst hi;exact G.refl _
  .have:=h i (j-1) (by omega) (by omega);rw[show lo+(j-1)=lo+j-1 by omega] at this;exact G.tr hl this
def fZ (lb:Keyed->Keyed->Bool) (p:Array Keyed) (lo m q:Nat):Prop:=∀ a b,m-(q+1)<=a->a<m->m-(q+1)<=b->b<m->lb (el p (lo+b)) (el p (lo+a))=false
theorem jI (G:Asks prog w A E s κ D lb) {p:Array Keyed}{i j:Nat}(hj:lo+j<=p.size) (hij:i<=j) (he:∀ a b,i<=a->a<j->i<=b->b<j->lb (el p (lo+b)) (el p (lo+a))=false) (k:Nat):
  lb (el p k) (el (mirror p (lo+i) (lo+j) ((lo+j-(lo+i))/2)) k)=false/\lb (el (mirror p (lo+i) (lo+j) ((lo+j-(lo+i))/2)) k) (el p k)=false:=by
 rw[o5 hj];split
 .rename_i h;have e1:k=lo+(k-lo):=by omega
  have e2:lo+i+(lo+j)-1-k=lo+(i+j-1-(k-lo)):=by omega
  rw[e2];constructor
  .have:=he (i+j-1-(k-lo)) (k-lo) (by omega) (by omega) (by omega) (by omega)
   rwa [<- e1] at this
  .have:=he (k-lo) (i+j-1-(k-lo)) (by omega) (by omega) (by omega) (by omega)
   rwa [<- e1] at this
 .exact⟨G.refl _,G.refl _⟩
theorem uw.of_eq (G:Asks prog w A E s κ D lb) {p q:Array Keyed}{k:Nat}(h:uw lb p lo k) (e:∀ k,lb (el p k) (el q k)=false/\lb (el q k) (el p k)=false):uw lb q lo k:=λ i j hij hj=>
 G.tr (e _).1 (G.tr (h i j hij hj) (e _).2)
theorem qL (G:Asks prog w A E s κ D lb) {i j:Nat}{Q:Option Bool->SortSt->Prop}(B:Bs lo st₀ st) (hk:kindOf st₀=κ) (hD:∀ x∈(arrOf st₀).toList,D x) (hi:i<(arrOf st₀).size) (hj:j<(arrOf st₀).size)
  (h:Q (some (lb (el (arrOf st) i) (el (arrOf st) j))) st):wpS (model prog w) A E s (TF i j) Q st:=by
 show wpS (model prog w) A E s (ltAt' i j) Q st;rw[ltAt'_eq];refine wpS_bind (wpS_get ?_);have mem:∀ {i},i<(arrOf st₀).size->D (el (arrOf st) i):=λ q=>hD _ ((Array.perm_iff_toList_perm.mp B.perm).mem_iff.mp (RM (by rw[B.size];exact q)));show wpS _ _ _ _ (do let x <- elem' (arrOf st) i;let y <- elem' (arrOf st) j;lt' x y) Q st;rw[elem'_eq,elem'_eq,aw (show i<(arrOf st).size by rw[B.size];exact hi),aw (show j<(arrOf st).size by rw[B.size];exact hj)];exact wpS_bind (wpS_pure (wpS_bind (wpS_pure (G.ask (mem hi) (mem hj) (B.kind.trans hk) h))))
theorem mB {i j:Nat}{Q:Unit->SortSt->Prop}(h:Q () (setArr st (mirror (arrOf st) i j ((j-i)/2)))):wpS (model prog w) A E s (XZ i j) Q st:=by
 show wpS (model prog w) A E s (reverseSlice' i j) Q st;rw[reverseSlice'_eq];exact wpS_modify h
theorem YG (G:Asks prog w A E s κ D lb) {nrem:Nat}{Q:Option Nat->SortSt->Prop}(hk:kindOf st₀=κ) (hD:∀ x∈(arrOf st₀).toList,D x) (h1:1<=nrem) (hn:lo+nrem<=(arrOf st₀).size)
  (h:∀ n st,1<=n->n<=nrem->Bs lo st₀ st->wU lb (arrOf st) lo n->Q (some n) st):wpS (model prog w) A E s (countRun' lo nrem) Q st₀:=by
 have one:∀ p:Array Keyed,wU lb p lo 1/\uw lb p lo 1:=λ p=>⟨λ i j hij hj=>by
   have:i=j:=by omega
   subst this;exact G.refl _,λ i j hij hj=>by
   have:i=j:=by omega
   subst this;exact G.refl _⟩
 unfold countRun';refine wpS_bind (wpS_mono (wpS_forRange (I:=λ k c st=>st=st₀/\c.1=none/\c.2=k/\wU lb (arrOf st₀) lo k)
  (Q:=λ c st=>st=st₀/\c.1=none/\1<=c.2/\c.2<=nrem/\wU lb (arrOf st₀) lo c.2/\(c.2=nrem\/lb (el (arrOf st₀) (lo+c.2)) (el (arrOf st₀) (lo+c.2-1))=true)) ?step ?fin ⟨rfl,rfl,rfl,(one _).1⟩) ?post)
 case step=>
  rintro k ⟨r,n⟩ st ha hb ⟨q1,q2,q3,hs⟩;dsimp only at q2 q3;subst q1 q2 q3
  try dsimp only
  refine wpS_bind (qL G (Bs.refl lo _) hk hD (by omega) (by omega) ?_);cases c:lb (el (arrOf st) (lo+n)) (el (arrOf st) (lo+n-1)) with
  | true=>exact wpS_pure ⟨rfl,rfl,ha,by dsimp only;omega,hs,.inr c⟩
  | false=>exact wpS_pure ⟨rfl,rfl,rfl,hs.next G ha c⟩
 case fin=>
  rintro⟨r,n⟩ st ⟨rfl,hr,hn',hs⟩;dsimp only at hr hn' hs;subst hn';exact⟨rfl,hr,by dsimp only;omega,by dsimp only;omega,hs,.inl (by dsimp only;omega)⟩
 case post=>
 rintro⟨r,n⟩ st ⟨q1,hr,g1,g2,g3,g4⟩;dsimp only at hr g1 g2 g3 g4;subst q1 hr
 extract_lets -underBinder +onlyGivenNames w1 w2
 dsimp -zeta -zetaHave +zetaDelta only;refine z_ (λ hz=>wpS_pure (h n st g1 g2 (Bs.refl _ _) g3)) λ hz=>?_;have hz:n≠nrem:=by simpa using hz
 have g4:=g4.resolve_left hz
 extract_lets -underBinder +onlyGivenNames jp1
 refine kX jp1 (λ st'=>Bs lo st st'/\uw lb (arrOf st') lo n/\lb (el (arrOf st') (lo+n)) (el (arrOf st') (lo+n-1))=true) (λ st' hs=>?hv1) λ hjp=>?hb1
 case hb1=>
  clear_value jp1
  refine z_ (λ hn1=>?_) λ hn1=>?_
  .refine wpS_bind (qL G (Bs.refl lo _) hk hD (by omega) (by omega) ?_);cases c:lb (el (arrOf st) lo) (el (arrOf st) (lo+n-1)) with
   | true=>exact wpS_pure (h n st g1 g2 (Bs.refl _ _) g3)
   | false=>
    refine wpS_bind (mB (hjp _ ⟨(Bs.refl lo st).rev (Nat.le_refl _) (by omega),?_,?_⟩))
    .have all:∀ a b,0<=a->a<n->0<=b->b<n->lb (el (arrOf st) (lo+b)) (el (arrOf st) (lo+a))=false:=λ a b _ ha _ hb=>by
      have c1:=g3 a (n-1) (by omega) (by omega);have c2:=g3 0 b (by omega) hb;rw[show lo+(n-1)=lo+n-1 by omega] at c1;exact G.tr c1 (G.tr c c2)
     have e:=jI G (lo:=lo) (p:=arrOf st) (i:=0) (j:=n) (by omega) (by omega) all;exact uw.of_eq G (λ i j hij hj=>all _ _ (Nat.zero_le _) hj (Nat.zero_le _) (by omega)) e
    .show lb (el (mirror (arrOf st) lo (lo+n) ((lo+n-lo)/2)) (lo+n)) (el (mirror (arrOf st) lo (lo+n) ((lo+n-lo)/2)) (lo+n-1))=true;rw[o5 (by omega),o5 (by omega),if_neg (by omega),if_pos (by omega)];rw[show lo+(lo+n)-1-(lo+n-1)=lo by omega];cases q:lb (el (arrOf st) (lo+n)) (el (arrOf st) lo) with
     | true=>rfl
     | false=>
      have c2:=g3 0 (n-1) (by omega) (by omega);rw[show lo+(n-1)=lo+n-1 by omega] at c2;rw[G.tr c q] at g4;cases g4
  .have e:n=1:=by omega
   subst e;exact hjp _ ⟨Bs.refl _ _,(one _).2,g4⟩
 case hv1=>
 obtain⟨b1,b2,b3⟩:=hs;dsimp -zeta -zetaHave only [jp1];refine wpS_bind (qK ?_);refine wpS_bind (wpS_mono (wpS_forRange (I:=λ k c st''=>c.1=none/\c.2.1=k/\Bs lo st st''/\uw lb (arrOf st'') lo k/\c.2.2+1<=k/\fZ lb (arrOf st'') lo k c.2.2)
  (Q:=λ c st''=>c.1=none/\n+1<=c.2.1/\c.2.1<=nrem/\Bs lo st st''/\uw lb (arrOf st'') lo c.2.1/\c.2.2+1<=c.2.1/\fZ lb (arrOf st'') lo c.2.1 c.2.2) ?step ?fin
  ⟨rfl,rfl,b1,b2.next G g1 (G.as b3),by dsimp only;omega,λ a b a1 a2 b1 b2=>?one⟩) ?post)
 case one=>
  have:a=b:=by dsimp only at a1 b1;omega
  subst this;exact G.refl _
 case fin=>
  rintro⟨r,m,q⟩ st'' ⟨p1,p2,p3,p4,p5,p6⟩;dsimp only at p1 p2 p3 p4 p5 p6;subst p2;exact⟨p1,by dsimp only;omega,by dsimp only;omega,p3,p4,p5,p6⟩
 case step=>
  rintro k ⟨r,m,q⟩ st'' ha hb ⟨p1,p2,p3,p4,p5,p6⟩;dsimp only at p1 p2 p3 p4 p5 p6;subst p1 p2;dsimp only;have szz:=p3.size;have blk1:∀ p:Array Keyed,fZ lb p lo (m+1) 0:=λ p a b a1 a2 b1 b2=>by
   have:a=b:=by omega
   subst this;exact G.refl _
  refine wpS_bind (qL G p3 hk hD (by omega) (by omega) ?_);cases c:lb (el (arrOf st'') (lo+m)) (el (arrOf st'') (lo+m-1)) with
  | true=>
   dsimp only;simp only[if_true];refine z_ (λ h0=>?_) λ h0=>?_
   .refine wpS_bind (mB (wpS_pure ⟨rfl,rfl,p3.rev (by omega) (by omega),?_,by dsimp only;omega,blk1 _⟩));have e:=jI G (lo:=lo) (p:=arrOf st'') (i:=m-(q+1)) (j:=m) (by omega) (by omega) p6;rw[show lo+(m-(q+1))=lo+m-(q+1) by omega] at e;exact (p4.of_eq G e).next G (by omega) (G.tr (e _).1 (G.tr (G.as c) (e _).2))
   .exact wpS_pure ⟨rfl,rfl,p3,p4.next G (by omega) (G.as c),by dsimp only;omega,blk1 _⟩
  | false=>
   dsimp only;simp only[Bool.false_eq_true,if_false];refine wpS_bind (qL G p3 hk hD (by omega) (by omega) ?_);cases d:lb (el (arrOf st'') (lo+m-1)) (el (arrOf st'') (lo+m)) with
   | true=>exact wpS_pure ⟨rfl,by dsimp only;omega,by dsimp only;omega,p3,p4,p5,p6⟩
   | false=>
    refine wpS_pure ⟨rfl,rfl,p3,p4.next G (by omega) d,by dsimp only;omega,λ a b a1 a2 b1 b2=>?_⟩;dsimp only at a1 b1;have ex:∀ x,x<m->m-(q+1)<=x->lb (el (arrOf st'') (lo+m)) (el (arrOf st'') (lo+x))=false/\lb (el (arrOf st'') (lo+x)) (el (arrOf st'') (lo+m))=false:=λ x hx hx'=>by
     have y1:=p6 x (m-1) hx' hx (by omega) (by omega);have y2:=p6 (m-1) x (by omega) (by omega) hx' hx;rw[show lo+(m-1)=lo+m-1 by omega] at y1 y2;exact⟨G.tr y1 c,G.tr d y2⟩
    by_cases ha:a=m
    .by_cases hb':b=m
     .subst ha;subst hb';exact G.refl _
     .subst ha;exact (ex b (by omega) (by omega)).2
    .by_cases hb':b=m
     .subst hb';exact (ex a (by omega) (by omega)).1
     .exact p6 a b (by omega) (by omega) (by omega) (by omega)
 case post=>
 rintro⟨r,m,q⟩ st'' ⟨p1,p2,p2',p3,p4,p5,p6⟩;dsimp only at p1 p2 p2' p3 p4 p5 p6;subst p1
 extract_lets -underBinder +onlyGivenNames w3 w4 w5 w6
 dsimp -zeta -zetaHave +zetaDelta only
 extract_lets -underBinder +onlyGivenNames jp2
 refine kX jp2 (λ st'=>Bs lo st st'/\uw lb (arrOf st') lo m) (λ st3 hs=>?hv2) λ hjp=>?hb2
 case hb2=>
  clear_value jp2
  have szz:=p3.size;refine z_ (λ h0=>?_) λ h0=>hjp _ ⟨p3,p4⟩;refine wpS_bind (mB (hjp _ ⟨p3.rev (by omega) (by omega),?_⟩));have e:=jI G (lo:=lo) (p:=arrOf st'') (i:=m-(q+1)) (j:=m) (by omega) (by omega) p6;rw[show lo+(m-(q+1))=lo+m-(q+1) by omega] at e;exact p4.of_eq G e
 case hv2=>
 obtain⟨c1,c2⟩:=hs;have szz:=c1.size;dsimp only[jp2];refine wpS_bind (mB ?_);have c3:=c1.rev (i:=lo) (j:=lo+m) (Nat.le_refl _) (by omega);have s3:wU lb (arrOf (setArr st3 (mirror (arrOf st3) lo (lo+m) ((lo+m-lo)/2)))) lo m:=λ i j hij hj=>by
  show lb (el (mirror (arrOf st3) lo (lo+m) ((lo+m-lo)/2)) (lo+j)) (el (mirror (arrOf st3) lo (lo+m) ((lo+m-lo)/2)) (lo+i))=false;rw[o5 (by omega),o5 (by omega),if_pos (by omega),if_pos (by omega)];have:=c2 (m-1-j) (m-1-i) (by omega) (by omega)
  rwa [show lo+(m-1-j)=lo+(lo+m)-1-(lo+j) by omega,show lo+(m-1-i)=lo+(lo+m)-1-(lo+i) by omega] at this
 generalize setArr st3 (mirror (arrOf st3) lo (lo+m) ((lo+m-lo)/2))=st4 at c3 s3 ⊢;refine wpS_bind (wpS_mono (wpS_forRange (I:=λ k c st=>st=st4/\c.1=none/\c.2=k/\wU lb (arrOf st4) lo k)
  (Q:=λ c st=>st=st4/\c.1=none/\1<=c.2/\c.2<=nrem/\wU lb (arrOf st4) lo c.2) ?step ?fin ⟨rfl,rfl,rfl,s3⟩) ?post)
 case step=>
  rintro k ⟨r,n'⟩ st' ha hb ⟨q1,q2,q3,hs⟩;dsimp only at q2 q3;subst q1 q2 q3
  try dsimp only
  refine wpS_bind (qL G c3 hk hD (by omega) (by omega) ?_);cases c:lb (el (arrOf st') (lo+n')) (el (arrOf st') (lo+n'-1)) with
  | true=>exact wpS_pure ⟨rfl,rfl,by dsimp only;omega,by dsimp only;omega,hs⟩
  | false=>exact wpS_pure ⟨rfl,rfl,rfl,hs.next G (by omega) c⟩
 case fin=>
  rintro⟨r,n'⟩ st' ⟨q1,hr,hn',hs⟩;dsimp only at hr hn' hs;subst q1 hn';exact⟨rfl,hr,by dsimp only;omega,by dsimp only;omega,hs⟩
 case post=>
  rintro⟨r,n'⟩ st' ⟨q1,hr,t1,t2,t3⟩;dsimp only at hr t1 t2 t3;subst q1 hr;exact wpS_pure (h n' _ t1 t2 c3 t3)
end
end TS
namespace TS
open PySem PyProof.Rows
section
variable {prog:Program}{w:World}{A:Around}{E:Value->Shared->Prop}{s:Shared}{κ:SortKind}{D:Keyed->Prop}{lb:Keyed->Keyed->Bool}{lo:Nat}{st₀ st:SortSt}
theorem YA {i j:Nat}{Q:Unit->SortSt->Prop}(h:Q () (setArr st (bubble (arrOf st) i (i-j)))):wpS (model prog w) A E s (Ts i j) Q st:=by
 show wpS (model prog w) A E s (moveDown' i j) Q st;rw[moveDown'_eq];exact wpS_modify h
theorem Bs.mv (B:Bs lo st₀ st) {i j:Nat}(hi:i<(arrOf st₀).size) (hj:lo<=j) (hij:j<=i):Bs lo st₀ (setArr st (bubble (arrOf st) i (i-j))):=
 ⟨B.kind,B.pend,B.fail,(bubble_perm _ _ _).trans B.perm,λ k hk=>by
  show (bubble (arrOf st) i (i-j))[k]?=_;rw[getElem?_bubble (by rw[B.size];exact hi) _ (by omega),if_neg (by omega),if_neg (by omega)];exact B.pre k hk⟩
theorem YH (G:Asks prog w A E s κ D lb) {n ok:Nat}{Q:Bool->SortSt->Prop}(hk:kindOf st₀=κ) (hD:∀ x∈(arrOf st₀).toList,D x) (hn:lo+n<=(arrOf st₀).size) (h1:1<=ok) (zB:ok<=n) (B:Bs lo st₀ st)
  (hs:wU lb (arrOf st) lo ok) (h:∀ st,Bs lo st₀ st->wU lb (arrOf st) lo n->Q true st):wpS (model prog w) A E s (binarySort' lo n ok) Q st:=by
 unfold binarySort';refine wpS_bind (wpS_mono (wpS_forRange (I:=λ k c st=>c.1=none/\Bs lo st₀ st/\wU lb (arrOf st) lo k) (Q:=λ c st=>c.1=none/\Bs lo st₀ st/\wU lb (arrOf st) lo n) ?step ?fin ⟨rfl,B,by rw[Nat.max_eq_left h1];exact hs⟩) ?post)
 case post=>
  rintro⟨r,u⟩ st' ⟨q1,q2,q3⟩;dsimp only at q1;subst q1;exact wpS_pure (h _ q2 q3)
 case fin=>
  rintro⟨r,u⟩ st' ⟨q1,q2,q3⟩;rw[show max (max ok 1) n=n by omega] at q3;exact⟨q1,q2,q3⟩
 case step=>
  rintro k ⟨r,u⟩ st' ha hb ⟨q1,q2,q3⟩;dsimp only at q1;subst q1;dsimp only;have szz:=q2.size;refine wpS_bind (wpS_mono (wpS_forRange (I:=λ m c st=>st=st'/\c.1=none/\c.2.2-c.2.1<=k-m/\c.2.1<=c.2.2/\c.2.2<=k/\(∀ i,i<c.2.1->lb (el (arrOf st') (lo+k)) (el (arrOf st') (lo+i))=false)/\∀ i,c.2.2<=i->i<k->lb (el (arrOf st') (lo+k)) (el (arrOf st') (lo+i))=true)
   (Q:=λ c st=>st=st'/\c.1=none/\c.2.1<=k/\(∀ i,i<c.2.1->lb (el (arrOf st') (lo+k)) (el (arrOf st') (lo+i))=false)/\∀ i,c.2.1<=i->i<k->lb (el (arrOf st') (lo+k)) (el (arrOf st') (lo+i))=true) ?step ?fin
   ⟨rfl,rfl,by dsimp only;omega,by dsimp only;omega,by dsimp only;omega,λ i hi=>absurd hi (Nat.not_lt_zero _),λ i hi hik=>by dsimp only at hi;omega⟩) ?post)
  case fin=>
   rintro⟨r,l,rr⟩ st3 ⟨p1,p2,p3,p4,p5,p6,p7⟩;dsimp only at p1 p2 p3 p4 p5 p6 p7;have:l=rr:=by omega
   subst this;exact⟨p1,p2,p5,p6,p7⟩
  case step=>
   rintro m ⟨r,l,rr⟩ st3 ha' hb' ⟨p1,p2,p3,p4,p5,p6,p7⟩;dsimp only at p1 p2 p3 p4 p5 p6 p7;subst p1 p2;dsimp only;refine z_ (λ hlr=>?_) λ hlr=>?_
   .have:l=rr:=by omega
    subst this;exact wpS_pure ⟨rfl,rfl,p5,p6,p7⟩
   .refine wpS_bind (qL G q2 hk hD (by omega) (by omega) ?_);cases c:lb (el (arrOf st3) (lo+k)) (el (arrOf st3) (lo+(l+rr)/2)) with
    | true=>
     refine wpS_pure ⟨rfl,rfl,by dsimp only;omega,by dsimp only;omega,by dsimp only;omega,p6,λ i hi hik=>?_⟩;dsimp only at hi;cases q:lb (el (arrOf st3) (lo+k)) (el (arrOf st3) (lo+i)) with
     | true=>rfl
     | false=>rw[G.tr (q3 ((l+rr)/2) i hi hik) q] at c;cases c
    | false=>
     refine wpS_pure ⟨rfl,rfl,by dsimp only;omega,by dsimp only;omega,p5,λ i hi=>?_,p7⟩;dsimp only at hi;exact G.tr (q3 i ((l+rr)/2) (by omega) (by omega)) c
  case post=>
   rintro⟨r,l,rr⟩ st3 ⟨p1,p2,p3,a2,a3⟩;dsimp only at p1 p2 p3 a2 a3;subst p1 p2;dsimp only;refine wpS_bind (YA (wpS_pure ⟨rfl,q2.mv (by omega) (by omega) (by omega),λ i j hij hj=>?_⟩));show lb (el (bubble (arrOf st3) (lo+k) (lo+k-(lo+l))) (lo+j)) (el (bubble (arrOf st3) (lo+k) (lo+k-(lo+l))) (lo+i))=false;have ev:∀ x,el (bubble (arrOf st3) (lo+k) (lo+k-(lo+l))) (lo+x)=if x=l then el (arrOf st3) (lo+k) else if l<x/\x<=k then el (arrOf st3) (lo+(x-1)) else el (arrOf st3) (lo+x):=λ x=>by
    have e:=getElem?_bubble (xs:=arrOf st3) (src:=lo+k) (by omega) (lo+k-(lo+l)) (by omega) (lo+x);by_cases h1:x=l
    .rw[if_pos (by omega)] at e;rw[if_pos h1];exact ng e
    .rw[if_neg (by omega)] at e;rw[if_neg h1];by_cases h2:l<x/\x<=k
     .rw[if_pos (by omega),show lo+x-1=lo+(x-1) by omega] at e;rw[if_pos h2];exact ng e
     .rw[if_neg (by omega)] at e;rw[if_neg h2];exact ng e
   rw[ev i,ev j];by_cases hi:i=l
   .rw[if_pos hi];by_cases hj':j=l
    .rw[if_pos hj'];exact G.refl _
    .rw[if_neg hj',if_pos ⟨by omega,by omega⟩];exact G.as (a3 (j-1) (by omega) (by omega))
   .rw[if_neg hi];by_cases hj':j=l
    .rw[if_pos hj',if_neg (by omega)];exact a2 i (by omega)
    .rw[if_neg hj'];by_cases hi2:l<i/\i<=k
     .rw[if_pos hi2,if_pos ⟨by omega,by omega⟩];exact q3 _ _ (by omega) (by omega)
     .rw[if_neg hi2];by_cases hj2:l<j/\j<=k
      .rw[if_pos hj2];exact q3 _ _ (by omega) (by omega)
      .rw[if_neg hj2];exact q3 _ _ hij (by omega)
end
end TS
namespace TS
open PySem PyProof.Rows
abbrev TC:Nat->StateT SortSt Sem Bool:=sortPriv% PySem.Builtin.mergeAt
abbrev Qi:Nat->Nat->StateT SortSt Sem (Option Nat):=sortPriv% PySem.Builtin.countRun
noncomputable def wZ:Nat->List (List Keyed×Nat)->List (Nat×Nat×Nat)
 | _,[]=>[]
 | o,r::rs=>(o,r.1.length,r.2)::wZ (o+r.1.length) rs
noncomputable def flat (rp:List (List Keyed×Nat)):List Keyed:=(rp.map (·.1)).flatten
theorem pM (a b:List (List Keyed×Nat)):flat (a++b)=flat a++flat b:=by unfold flat;simp
theorem pL (r:List Keyed×Nat) (b:List (List Keyed×Nat)):flat (r::b)=r.1++flat b:=by unfold flat;simp
theorem qP:∀ (a b:List (List Keyed×Nat)) (o:Nat),wZ o (a++b)=wZ o a++wZ (o+(flat a).length) b
 | [],b,o=>by simp[wZ,flat]
 | r::a,b,o=>by
  show (o,r.1.length,r.2)::wZ (o+r.1.length) (a++b)=_;rw[qP a b,pL,List.length_append];show _=(o,r.1.length,r.2)::(wZ (o+r.1.length) a++_);rw[Nat.add_assoc]
theorem sG:∀ (a:List (List Keyed×Nat)) (o:Nat),(wZ o a).length=a.length
 | [],_=>rfl
 | _::a,o=>by simp[wZ,sG a]
theorem X4 {α:Type}{l:List α}{i:Nat}(h:i+1<l.length):∃ P a b S,l=P++a::b::S/\P.length=i:=by
 refine⟨l.take i,l[i],l[i+1],l.drop (i+2),?_,by simp;omega⟩;rw[<- List.drop_eq_getElem_cons,<- List.drop_eq_getElem_cons,List.take_append_drop]
theorem cW {α:Type}(f:α->α):∀ (l:List α) (x:α),(l++[x]).modify l.length f=l++[f x]
 | [],x=>by simp
 | a::l,x=>by simp[cW f l x]
structure SI (κ:SortKind) (lb:Keyed->Keyed->Bool) (a₀:List Keyed) (st:SortSt) (rp:List (List Keyed×Nat)) (rest:List Keyed):Prop where
 kind:kindOf st=κ
 fail:failedOf st=none
 pend:(pendingOf st).toList=wZ 0 rp
 arr:(arrOf st).toList=flat rp++rest
 runs:∀ r∈rp,r.1≠[]/\Up lb r.1
 perm:(arrOf st).toList.Perm a₀
section
variable {prog:Program}{w:World}{A:Around}{E:Value->Shared->Prop}{s:Shared}{κ:SortKind}{D:Keyed->Prop}{lb:Keyed->Keyed->Bool}{a₀:List Keyed}{st:SortSt}{rp:List (List Keyed×Nat)}{rest:List Keyed}
theorem SI.lp (I:SI κ lb a₀ st rp rest):(pendingOf st).size=rp.length:=by rw[<- Array.length_toList,I.pend,sG]
theorem SI.many (I:SI κ lb a₀ st rp rest):rp.length<=(flat rp).length:=by
 have:=I.runs;clear I
 induction rp with
 | nil=>simp
 | cons r rp ih=>
  have h1:=(this r zMc).1;have:=ih λ r hr=>this r (zMo _ hr);rw[pL,List.length_append,List.length_cons];have:0<r.1.length:=List.length_pos_iff.mpr h1;omega
theorem SI.merge (G:Asks prog w A E s κ D lb) (hD:∀ x∈a₀,D x) (I:SI κ lb a₀ st rp rest) {i:Nat}(hi:i+1<rp.length) {Q:Bool->SortSt->Prop}
  (h:∀ st' rp',SI κ lb a₀ st' rp' rest->rp'.length+1=rp.length->Q true st'):wpS (model prog w) A E s (TC i) Q st:=by
 obtain⟨P,⟨X,pa⟩,⟨Y,pb⟩,S,rfl,rfl⟩:=X4 hi;show wpS (model prog w) A E s (mergeAt' P.length) Q st;have hX:=I.runs (X,pa) (by simp);have hY:=I.runs (Y,pb) (by simp);have ep:(pendingOf st).toList=wZ 0 P++((flat P).length,X.length,pa)::((flat P).length+X.length,Y.length,pb)::wZ ((flat P).length+X.length+Y.length) S:=by
  rw[I.pend,qP,Nat.zero_add];rfl
 have ea:(arrOf st).toList=flat P++(X++(Y++(flat S++rest))):=by rw[I.arr,pM,pL,pL];simp
 refine YB G (P:=flat P) (X:=X) (Y:=Y) (S:=flat S++rest) hX.1 hY.1 (pa:=pa) (pb:=pb) ?_ ?_ ea (λ x hx=>hD x (I.perm.mem_iff.mp hx)) I.kind I.fail hX.2 hY.2 λ M arr' g hm hu e=>?_
 .rw[<- Array.getElem?_toList,ep,List.getElem?_append_right (by rw[sG];omega),sG];simp
 .rw[<- Array.getElem?_toList,ep,List.getElem?_append_right (by rw[sG];omega),sG];simp
 .have hl:M.length=X.length+Y.length:=by rw[hm.length_eq,List.length_append]
  refine h _ (P++(M,pa)::S) ⟨I.kind,I.fail,?_,?_,?_,?_⟩ (by simp;omega)
  .show (((pendingOf st).setIfInBounds P.length ((flat P).length,X.length+Y.length,pa)).eraseIdxIfInBounds (P.length+1)).toList=_;rw[Array.toList_eraseIdxIfInBounds,Array.toList_setIfInBounds,ep,qP,Nat.zero_add];have e1:∀ (L:List (Nat×Nat×Nat)) (x y z:Nat×Nat×Nat) (R:List (Nat×Nat×Nat)) (n:Nat),n=L.length->((L++x::y::R).set n z).eraseIdx (n+1)=L++z::R:=λ L x y z R n hn=>by
    subst hn;rw[List.set_append_right _ _ (Nat.le_refl _),Nat.sub_self,List.set_cons_zero,List.eraseIdx_append_of_length_le (by omega),Nat.add_sub_cancel_left];rfl
   rw[e1 _ _ _ _ _ _ (sG P 0).symm];show _=wZ 0 P++((flat P).length,M.length,pa)::wZ ((flat P).length+M.length) S;rw[hl,Nat.add_assoc]
  .show arr'.toList=_;rw[e,pM,pL];simp
  .intro r hr;rcases List.mem_append.mp hr with hr | hr
   .exact I.runs r (List.mem_append_left _ hr)
   .rcases List.mem_cons.mp hr with rfl | hr
    .refine⟨λ e0=>?_,hu⟩;dsimp only at e0;rw[e0] at hl;have:0<X.length:=List.length_pos_iff.mpr hX.1;simp at hl;omega
    .exact I.runs r (List.mem_append_right _ (zMo _ (zMo _ hr)))
  .show arr'.toList.Perm a₀;refine List.Perm.trans ?_ I.perm;rw[e,ea];refine List.Perm.append_left _ ?_;rw[<- List.append_assoc X];exact List.Perm.append_right _ hm
theorem SI.run (I:SI κ lb a₀ st rp rest) {n:Nat}{st':SortSt}(B:Bs (flat rp).length st st') (hs:wU lb (arrOf st') (flat rp).length n) (h1:1<=n) (hn:(flat rp).length+n<=(arrOf st).size):
  ∃ X rest',SI κ lb a₀ st' rp (X++rest')/\X.length=n/\Up lb X:=by
 have hsz:=B.size;have e1:(arrOf st').toList.take (flat rp).length=flat rp:=by
  have e2:(arrOf st').toList.take (flat rp).length=(arrOf st).toList.take (flat rp).length:=by
   apply List.ext_getElem?;intro i;by_cases hi:i<(flat rp).length
   .rw[List.getElem?_take_of_lt hi,List.getElem?_take_of_lt hi,Array.getElem?_toList,Array.getElem?_toList];exact B.pre i hi
   .rw[List.getElem?_eq_none (by rw[List.length_take];omega),List.getElem?_eq_none (by rw[List.length_take];omega)]
  rw[e2,I.arr,List.take_left]
 have lx:((((arrOf st').toList.drop (flat rp).length).take n)).length=n:=by simp;omega
 refine⟨((arrOf st').toList.drop (flat rp).length).take n,((arrOf st').toList.drop (flat rp).length).drop n,⟨B.kind.trans I.kind,B.fail.trans I.fail,by rw[B.pend];exact I.pend,?_,I.runs,(Array.perm_iff_toList_perm.mp B.perm).trans I.perm⟩,lx,?_⟩
 .rw[List.take_append_drop]
  conv=>rhs;rw[<- e1]
  rw[show (List.take (flat rp).length (arrOf st').toList).length=(flat rp).length by rw[e1]] at *;rw[List.take_append_drop]
 .show List.Pairwise _ _;rw[List.pairwise_iff_getElem];intro i j hi hj hij;rw[lx] at hi hj;have q:=hs i j (by omega) hj;have ge:∀ k,k<n->∀ hk',(((arrOf st').toList.drop (flat rp).length).take n)[k]'hk'=el (arrOf st') ((flat rp).length+k):=λ k hk hk'=>by
   have:(flat rp).length+k<(arrOf st').size:=by omega
   simp[el,this]
  rw[ge i hi,ge j hj];exact q
end
end TS
namespace TS
open PySem PyProof.Rows
section
variable {prog:Program}{w:World}{A:Around}{E:Value->Shared->Prop}{s:Shared}{κ:SortKind}{D:Keyed->Prop}{lb:Keyed->Keyed->Bool}{st:SortSt}
theorem SE {c:Prop}{dc:Decidable c}{a b n:Nat}(h1:a+1<n) (h2:b+1<n):(if c then a else b)+1<n:=by split <;> assumption
theorem SI.pw {a₀:List Keyed}{rp:List (List Keyed×Nat)}{rest:List Keyed}(I:SI κ lb a₀ st rp rest) (hne:rp≠[]) (pw:Nat):
  ∃ rp',SI κ lb a₀ (SortSt.mk' (kindOf st) (arrOf st) ((pendingOf st).modify ((pendingOf st).size-1) λ x=>(x.1,x.2.1,pw)) (gallopOf st) (failedOf st)) rp' rest/\flat rp'=flat rp:=by
 obtain⟨P,⟨X,p⟩,rfl⟩:∃ P r,rp=P++[r]:=⟨rp.dropLast,rp.getLast hne,(List.dropLast_concat_getLast hne).symm⟩
 have ef:flat (P++[(X,pw)])=flat (P++[(X,p)]):=by rw[pM,pM];rfl
 refine⟨P++[(X,pw)],⟨I.kind,I.fail,?_,by rw[ef];exact I.arr,λ r hr=>?_,I.perm⟩,ef⟩
 .show ((pendingOf st).modify ((pendingOf st).size-1) λ x=>(x.1,x.2.1,pw)).toList=_;have hs:(pendingOf st).size-1=(wZ 0 P).length:=by rw[I.lp,sG];simp
  rw[hs,Array.toList_modify,I.pend,qP,qP];exact cW _ _ _
 .rcases List.mem_append.mp hr with hr | hr
  .exact I.runs r (List.mem_append_left _ hr)
  .rw[List.mem_singleton] at hr;subst hr;exact I.runs (X,p) (by simp)
theorem SI.push {a₀:List Keyed}{rp:List (List Keyed×Nat)}{X rest:List Keyed}(I:SI κ lb a₀ st rp (X++rest)) (h1:X≠[]) (hu:Up lb X):
  SI κ lb a₀ (SortSt.mk' (kindOf st) (arrOf st) ((pendingOf st).push ((flat rp).length,X.length,0)) (gallopOf st) (failedOf st)) (rp++[(X,0)]) rest:=by
 refine⟨I.kind,I.fail,?_,?_,λ r hr=>?_,I.perm⟩
 .show ((pendingOf st).push ((flat rp).length,X.length,0)).toList=_;rw[Array.toList_push,I.pend,qP,Nat.zero_add];rfl
 .show (arrOf st).toList=_;rw[I.arr,pM];simp[flat]
 .rcases List.mem_append.mp hr with hr | hr
  .exact I.runs r hr
  .rw[List.mem_singleton] at hr;subst hr;exact⟨h1,hu⟩
theorem Y9 (G:Asks prog w A E s κ D lb) {Q:Unit->SortSt->Prop}(hk:kindOf st=κ) (hf:failedOf st=none) (hp:pendingOf st=#[]) (hD:∀ x∈(arrOf st).toList,D x)
  (h:∀ st',failedOf st'=none->(arrOf st').toList.Perm (arrOf st).toList->Up lb (arrOf st').toList->Q () st'):wpS (model prog w) A E s sortRuns' Q st:=by
 have I0:SI κ lb (arrOf st).toList st [] (arrOf st).toList:=⟨hk,hf,by rw[hp];rfl,rfl,λ _ hr=>absurd hr (by simp),List.Perm.refl _⟩
 have hsz:∀ {st' rp rest},SI κ lb (arrOf st).toList st' rp rest->(arrOf st').size=(arrOf st).size:=λ I=>by
  have:=I.perm.length_eq;simpa using this
 unfold sortRuns';refine wpS_bind (wpS_get ?_)
 extract_lets -underBinder
 dsimp -zeta -zetaHave +zetaDelta only;refine wpS_bind (wpS_mono (wpS_forRange (I:=λ k c st'=>c.1=none/\∃ rp rest,SI κ lb (arrOf st).toList st' rp rest/\(flat rp).length=c.2/\min k (arrOf st).size<=c.2/\c.2<=(arrOf st).size)
  (Q:=λ c st'=>c.1=none/\∃ rp,SI κ lb (arrOf st).toList st' rp []/\(flat rp).length=(arrOf st).size) ?step ?fin ⟨rfl,[],_,I0,rfl,by dsimp only;omega,by dsimp only;omega⟩) ?post)
 case fin=>
  rintro⟨r,lo⟩ st' ⟨q1,rp,rest,I,q2,q3,q4⟩;dsimp only at q1 q2 q3 q4;have hz:=hsz I;have e:(flat rp).length=(arrOf st).size:=by
   have:max 0 (arrOf st).size=(arrOf st).size:=by omega
   have q3:min (max 0 (arrOf st).size) (arrOf st).size<=lo:=q3;omega
  have:rest=[]:=by
   have:=congrArg List.length I.arr;rw[List.length_append,Array.length_toList] at this;exact List.length_eq_zero_iff.mp (by omega)
  subst this;exact⟨q1,rp,I,e⟩
 case step=>
  rintro k ⟨r,lo⟩ st' _ hkn ⟨q1,rp,rest,I,q2,q3,q4⟩;dsimp only at q1 q2 q3 q4;subst q1;have hz:=hsz I;have hla:(arrOf st).size=(flat rp).length+rest.length:=by
   have:=congrArg List.length I.arr;rw[List.length_append,Array.length_toList] at this;omega
  extract_lets -underBinder +onlyGivenNames v1 v2
  dsimp -zeta -zetaHave +zetaDelta only;refine z_ (λ hge=>?_) λ hge=>?_
  .have hge:(arrOf st).size<=lo:=hge;have:rest=[]:=List.length_eq_zero_iff.mp (by omega);subst this;exact wpS_pure ⟨rfl,rp,I,by omega⟩
  have hge:¬ (arrOf st).size<=lo:=hge;subst q2;have dd:∀ x∈(arrOf st').toList,D x:=λ x hx=>hD x (I.perm.mem_iff.mp hx);show wpS (model prog w) A E s (Qi (flat rp).length ((arrOf st).size-(flat rp).length) >>= _) _ st';refine wpS_bind (YG G (lo:=(flat rp).length) (nrem:=(arrOf st).size-(flat rp).length) I.kind dd (by omega) (by omega) λ n st2 n1 n2 B hs=>?_);dsimp -zeta -zetaHave only
  extract_lets -underBinder +onlyGivenNames v3
  extract_lets -underBinder +onlyGivenNames jp1
  refine YD jp1 (λ m st3=>∃ X rest',SI κ lb (arrOf st).toList st3 rp (X++rest')/\X.length=m/\Up lb X/\X≠[]) (λ m st3 hX=>?hv1) λ hjp=>?hb1
  case hb1=>
   clear_value jp1
   have conv:∀ {m st3},Bs (flat rp).length st' st3->wU lb (arrOf st3) (flat rp).length m->1<=m->m<=(arrOf st).size-(flat rp).length->∃ X rest',SI κ lb (arrOf st).toList st3 rp (X++rest')/\X.length=m/\Up lb X/\X≠[]:=λ B hs h1 h2=>by
    obtain⟨X,rest',I',lx,ux⟩:=I.run B hs h1 (by omega);exact⟨X,rest',I',lx,ux,λ e=>by subst e;simp at lx;omega⟩
   refine z_ (λ hlt=>?_) λ hlt=>hjp _ _ (conv B hs n1 n2);refine wpS_bind (qK (wpS_bind (YH G (lo:=(flat rp).length) I.kind dd ?_ n1 ?_ B hs λ st3 B3 hs3=>?_)))
   .show (flat rp).length+min ((arrOf st).size-(flat rp).length) _<=(arrOf st').size;omega
   .show n<=min ((arrOf st).size-(flat rp).length) _;omega
   .refine z_ (λ hfalse=>by cases hfalse) λ _=>hjp _ _ (conv B3 hs3 ?_ ?_)
    .show 1<=min ((arrOf st).size-(flat rp).length) _;omega
    .show min ((arrOf st).size-(flat rp).length) _<=_;omega
  case hv1=>
  obtain⟨X,rest',I3,rfl,ux,nx⟩:=hX;dsimp -zeta -zetaHave only [jp1];refine wpS_bind (wpS_get ?_)
  extract_lets -underBinder +onlyGivenNames jp2
  refine kX jp2 (λ st4=>∃ rp',SI κ lb (arrOf st).toList st4 rp' (X++rest')) (λ st4 hs4=>?hv2) λ hjp=>?hb2
  case hv2=>
   dsimp only[jp2];obtain⟨rp',I4⟩:=hs4;have e4:(flat rp').length=(flat rp).length:=by
    have l3:=congrArg List.length I3.arr;have l4:=congrArg List.length I4.arr;have z3:=hsz I3;have z4:=hsz I4;rw[List.length_append,Array.length_toList] at l3 l4;omega
   have I5:=I4.push nx ux;rw[e4] at I5;refine wpS_bind (wpS_modify (wpS_pure ⟨rfl,_,_,I5,?_,?_,?_⟩))
   .show _=(flat rp).length+X.length;rw[pM,List.length_append,e4];simp[flat]
   .show min (k+1) _<=(flat rp).length+X.length;have:0<X.length:=List.length_pos_iff.mpr nx;omega
   .show (flat rp).length+X.length<=_;have:=congrArg List.length I3.arr;have z3:=hsz I3;rw[List.length_append,List.length_append,Array.length_toList] at this;omega
  case hb2=>
  clear_value jp2
  cases hb:(pendingOf st3).back? with
  | none=>exact hjp _ ⟨rp,I3⟩
  | some t=>
   obtain⟨s1,n1',p1⟩:=t;have hne:rp≠[]:=λ e=>by
    subst e;have:=I3.lp;have e0:pendingOf st3=#[]:=Array.size_eq_zero_iff.mp (by simpa using this);rw[e0] at hb;simp at hb
   try dsimp only
   refine wpS_bind (wpS_mono (wpS_forRange (I:=λ k c st'=>c.1=none/\∃ rp,SI κ lb (arrOf st).toList st' rp (X++rest')/\rp≠[]) (Q:=λ c st'=>c.1=none/\∃ rp,SI κ lb (arrOf st).toList st' rp (X++rest')/\rp≠[])
    ?step2 ?fin2 ⟨rfl,rp,I3,hne⟩) ?post2)
   case fin2=>exact λ c st' hc=>hc
   case step2=>
    rintro k' ⟨r,u⟩ st4 _ _ ⟨q1,rp4,I4,ne4⟩;dsimp only at q1;subst q1
    try dsimp only
    refine wpS_bind (wpS_get ?_);have ps:=I4.lp;show wpS (model prog w) A E s (match (if (pendingOf st4).size>1 then (pendingOf st4)[(pendingOf st4).size-2]? else none) with | some (a,b,c)=>_ | x=>_) _ st4;by_cases h2:(pendingOf st4).size>1
    .rw[if_pos h2];cases ht:(pendingOf st4)[(pendingOf st4).size-2]? with
     | none=>exact wpS_pure ⟨rfl,rp4,I4,ne4⟩
     | some t=>
      obtain⟨x1,x2,x3⟩:=t
      try dsimp only
      refine z_ (λ _=>wpS_pure ⟨rfl,rp4,I4,ne4⟩) λ _=>?_;refine wpS_bind (I4.merge G hD (i:=(pendingOf st4).size-2) (by omega) λ st5 rp5 I5 l5=>?_);refine z_ (λ hfalse=>by cases hfalse) λ _=>wpS_pure ⟨rfl,rp5,I5,λ e=>?_⟩;subst e;simp at l5;omega
    .rw[if_neg h2];exact wpS_pure ⟨rfl,rp4,I4,ne4⟩
   case post2=>
    rintro⟨r,u⟩ st4 ⟨q1,rp4,I4,ne4⟩;dsimp only at q1;subst q1
    try dsimp only
    refine wpS_bind (wpS_modify ?_);obtain⟨rp5,I5,_⟩:=I4.pw ne4 _;exact hjp _ ⟨rp5,I5⟩
 case post=>
  rintro⟨r,lo⟩ st1 ⟨q1,rp,I,e⟩;dsimp only at q1;subst q1
  try dsimp only
  refine wpS_bind (wpS_mono (wpS_forRange (I:=λ k c st'=>c.1=none/\∃ rp,SI κ lb (arrOf st).toList st' rp []/\(rp.length<=1\/rp.length+k<=(arrOf st).size)) (Q:=λ c st'=>c.1=none/\∃ rp,SI κ lb (arrOf st).toList st' rp []/\rp.length<=1)
    ?step2 ?fin2 ⟨rfl,rp,I,.inr (by have:=I.many;omega)⟩) ?post2)
  case fin2=>
   rintro⟨r,u⟩ st' ⟨q1,rp,I,q2⟩;refine⟨q1,rp,I,?_⟩;have q2:rp.length<=1\/rp.length+max 0 (arrOf st).size<=(arrOf st).size:=q2;omega
  case step2=>
   rintro k' ⟨r,u⟩ st4 _ hk' ⟨q1,rp4,I4,l4⟩;dsimp only at q1;subst q1
   try dsimp only
   refine wpS_bind (wpS_get ?_);have ps:=I4.lp;refine z_ (λ h1=>?_) λ h1=>?_
   .have h1:(pendingOf st4).size<=1:=h1;exact wpS_pure ⟨rfl,rp4,I4,by omega⟩
   have h1:¬ (pendingOf st4).size<=1:=h1;refine wpS_bind (I4.merge G hD ?_ λ st5 rp5 I5 l5=>?_)
   .refine SE (show (pendingOf st4).size-2-1+1<rp4.length by omega) (show (pendingOf st4).size-2+1<rp4.length by omega)
   .exact z_ (λ hfalse=>by cases hfalse) λ _=>wpS_pure ⟨rfl,rp5,I5,by omega⟩
  case post2=>
   rintro⟨r,u⟩ st4 ⟨q1,rp4,I4,l4⟩;dsimp only at q1;subst q1;refine wpS_pure (h _ I4.fail I4.perm ?_);rw[I4.arr,List.append_nil]
   match rp4,l4,I4.runs with
   | [],_,_=>exact List.Pairwise.nil
   | [x],_,hr=>
    have:=(hr x zMc).2;rw[pL];simpa [flat] using this
end
end TS
namespace L4
open PySem PySem.W PySem.Calls PyProof.Rows
section
variable {prog:Program}{w:World}{A:Around}{E:Value->Shared->Prop}{s:Shared}
def Core (prog:Program) (w:World) (A:Around) (E:Value->Shared->Prop) (vs:List Value) (Out:Array Value->Prop) (s6:Shared):Prop:=
 wpAny (model prog w) A (keyKind' vs.toArray) (fun κ s'=>s'=s6/\wpAny (model prog w) A ((sortRuns').run (SortSt.mk' κ (vs.toArray.zip vs.toArray) #[] 7 none))
  (λ r s''=>s''=s6/\failedOf r.2=none/\Out ((arrOf r.2).map (·.2))/\(arrOf r.2).size=vs.length) E s') E s6
theorem iL {a:Addr}{vs:List Value}{n:Nat}{P:PySem.Fin->Shared->Prop}{Out:Array Value->Prop}(ho:s.heap.get? a=some (seqObj "list" vs.toArray n)) (hz:vs.length<=sizeLine)
  (core:2<=vs.length->∀ s6:Shared,(∀ b o,b≠a->s.heap.get? b=some o->s6.heap.get? b=some o)->Core prog w A E vs Out s6) (short:vs.length<2->Out vs.toArray)
  (fin:∀ out:Array Value,Out out->out.size=vs.length->P (.done (.ret .none)) { s with heap:=sortedHeap s.heap a vs out }):
  wpAny (model prog w) A (Builtin.«list.sort» ⟨[.ref a],[]⟩) P E s:=by
 have ha:a<s.heap.objs.size:=Heap.lt_size ho;obtain⟨e1,g1⟩:∃ e1,(s.heap.update a (Obj.mapSeq λ _=>#[])).get? a=some (seqObj "list" #[] e1):=⟨_,get?_update_seq ho (λ _=>#[])⟩
 have hz':vs.toArray.size<=sizeLine:=by rw[List.size_toArray];exact hz
 have g6:(((s.heap.update a (Obj.mapSeq λ _=>#[])).push (seqObj "tuple" vs.toArray 0)).push (seqObj "list" #[] 0)).get? a=some (seqObj "list" #[] e1):=zHp _ (zHp _ g1);have keep:∀ b o,b≠a->s.heap.get? b=some o->(((s.heap.update a (Obj.mapSeq λ _=>#[])).push (seqObj "tuple" vs.toArray 0)).push (seqObj "list" #[] 0)).get? b=some o:=
  λ b o hb e=>zHp _ (zHp _ (by rw[Heap.get?_update_ne _ _ _ _ hb];exact e))
 rw[list_sort_plain];refine zWb (listItems_at ho rfl (zWb (listUpdate_at ho rfl (zWb (seqEpoch_at g1 rfl (zWb (wpAny_newTuple (zWb (wpAny_newList (wpAny_holding ?_))) (by simpa using hz))))) hz' (Nat.zero_le _))));by_cases h2:vs.toArray.size<2
 .rw[if_pos h2,if_pos h2];have e2:(arrOf (SortSt.mk' general' (vs.toArray.zip vs.toArray) #[] 7 none)).map (·.2)=vs.toArray:=by
   show (vs.toArray.zip vs.toArray).map (·.2)=vs.toArray;apply Array.ext (by simp);intro i h1 h2;simp
  refine zWb (wpAny_pure ?_);dsimp only;rw[StateT.run_pure];refine zWb (wpAny_pure ?_);dsimp only;refine zWb (seqEpoch_at g6 rfl (zWb (listUpdate_at g6 rfl ?_ (Nat.zero_le _) ?_)))
  .simp only[bne_self_eq_false,Bool.false_eq_true,if_false];have q:=fin _ (e2▸short (by simpa using h2)) (by rw[e2];simp);exact wpAny_pure q
  .show (((arrOf (SortSt.mk' general' (vs.toArray.zip vs.toArray) #[] 7 none)).map (·.2))).size<=sizeLine+1;rw[e2];omega
 .rw[if_neg h2,if_neg h2];have h2':2<=vs.length:=by simpa using h2
  refine zWb (wpAny_mono (core h2' _ keep) (fun κ s7 ⟨hs,h7⟩=>?_) λ _ _ z=>z);subst hs;refine zWb (wpAny_mono h7 (λ r s8 ⟨hs,hf,hout,hsz⟩=>?_) λ _ _ z=>z);subst hs;obtain⟨⟨⟩,st⟩:=r;refine zWb (seqEpoch_at g6 rfl (zWb (listUpdate_at g6 rfl ?_ (Nat.zero_le _) ?_)))
  .have hf':failedOf st=none:=hf;rw[hf'];simp only[bne_self_eq_false,Bool.false_eq_true,if_false];exact wpAny_pure (fin _ hout (by rw[Array.size_map];exact hsz))
  .show ((arrOf st).map (·.2)).size<=sizeLine+1;rw[Array.size_map];have:(arrOf st).size=vs.length:=hsz;omega
theorem X7 {l:Addr}{vs:List Value}{Q:Value->Shared->Prop}{Out:Array Value->Prop}(hl:s.heap.IsList l vs.toArray) (hz:vs.length<=sizeLine)
  (core:2<=vs.length->∀ s6:Shared,(∀ b o,s.heap.get? b=some o->s6.heap.get? b=some o)->Core prog w A.in1.in1 E vs Out s6) (short:vs.length<2->Out vs.toArray)
  (fin:∀ out:Array Value,Out out->out.size=vs.length->Q (.ref (s.heap.objs.size+1)) { s with heap:=sortedAll s.heap vs out }):
  wpAny (model prog w) A (call (.builtin "sorted") [.ref l]) Q E s:=by
 have hsz:((s.heap.push (seqObj "list" #[] 0)).update s.heap.objs.size (Obj.mapSeq (·++vs.toArray))).objs.size=s.heap.objs.size+1:=by
  rw[Heap.size_update,size_push']
 have hoL:(((s.heap.push (seqObj "list" #[] 0)).update s.heap.objs.size (Obj.mapSeq (·++vs.toArray))).push (seqObj "list" vs.toArray 0)).get? (s.heap.objs.size+1)=some (seqObj "list" vs.toArray 0):=hsz▸Heap.get?_push_size _ rfl;have keep:∀ b o,s.heap.get? b=some o->(((s.heap.push (seqObj "list" #[] 0)).update s.heap.objs.size (Obj.mapSeq (·++vs.toArray))).push (seqObj "list" vs.toArray 0)).get? b=some o:=λ b o q=>
  zHp _ (by rw[Heap.get?_update_ne _ _ _ _ (Nat.ne_of_lt (Heap.lt_size q))];exact zHp _ q)
 refine Calls.call_function_entry kind_sorted plain_sorted entry_sorted (args_sorted1 _) ?_;unfold Builtin.«sorted»;refine zWb (m:=checkCount "sorted" 1 1 _) (wpAny_pure (zWb (collect_list hl (zWb (wpAny_newList ?_ hz)) hz)));show wpAny _ _ _ _ _ { s with heap:=((s.heap.push (seqObj "list" #[] 0)).update s.heap.objs.size (Obj.mapSeq (·++vs.toArray))).push (seqObj "list" vs.toArray 0) };rw[hsz];refine zWb (wpAny_holding (wpAny_call_entry slot_list_sort ⟨_,hoL,rfl⟩ entry_list_sort (iL hoL hz (λ h2 s6 k=>core h2 s6 λ b o q=>k b o ?_ (keep b o q)) short λ out h1 h2=>⟨_,rfl,?_⟩) (args_list_sort _)))
 .exact Nat.ne_of_lt (Nat.lt_succ_of_lt (Heap.lt_size q))
 .exact wpAny_pure ⟨_,rfl,fin out h1 h2⟩
end
end L4
namespace L4
open PySem PySem.W PySem.Calls PyProof.Rows L2
theorem iP:∀ a b:List Int,HT.lexLt a b=true->HT.lexLt b a=false
 | [],[],h=>by cases h
 | [],_::_,_=>rfl
 | _::_,[],h=>by cases h
 | x::a,y::b,h=>by
  rw[HT.sY] at h ⊢;by_cases e:x=y
  .subst e;rw[if_pos rfl] at h ⊢;exact iP a b h
  .rw[if_neg e] at h;rw[if_neg (Ne.symm e)];have:=of_decide_eq_true h;exact decide_eq_false (by omega)
theorem bg:∀ a b:List Int,HT.lexLt a b=false->HT.lexLt b a=false->a=b
 | [],[],_,_=>rfl
 | [],_::_,h,_=>by cases h
 | _::_,[],_,h=>by cases h
 | x::a,y::b,h,h'=>by
  rw[HT.sY] at h h';by_cases e:x=y
  .subst e;rw[if_pos rfl] at h h';rw[bg a b h h']
  .rw[if_neg e] at h;rw[if_neg (Ne.symm e)] at h';have h1:=of_decide_eq_false h;have h2:=of_decide_eq_false h';omega
theorem iO:∀ a b c:List Int,HT.lexLt b a=false->HT.lexLt c b=false->HT.lexLt c a=false
 | [],[],[],_,_=>rfl
 | [],[],_::_,_,h=>h
 | [],_::_,[],_,h=>by cases h
 | [],_::_,_::_,_,_=>rfl
 | _::_,[],_,h,_=>by cases h
 | _::_,_::_,[],_,h=>by cases h
 | x::a,y::b,z::c,h,h'=>by
  rw[HT.sY] at h h' ⊢;by_cases e1:y=x
  .subst e1;rw[if_pos rfl] at h;by_cases e2:z=y
   .subst e2;rw[if_pos rfl] at h' ⊢;exact iO a b c h h'
   .rw[if_neg e2] at h' ⊢;exact h'
  .rw[if_neg e1] at h;have h1:=of_decide_eq_false h;by_cases e2:z=y
   .subst e2;rw[if_neg e1];exact h
   .rw[if_neg e2] at h';have h2:=of_decide_eq_false h';rw[if_neg (by omega)];exact decide_eq_false (by omega)
theorem jS {α:Type}{r:α->α->Prop}(an:∀ a b,r a b->r b a->a=b):∀ {l₁ l₂:List α},l₁.Perm l₂->l₁.Pairwise r->l₂.Pairwise r->l₁=l₂
 | [],l₂,h,_,_=>(List.nil_perm.mp h).symm
 | a::l₁,[],h,_,_=>absurd (List.perm_nil.mp h) (by simp)
 | a::l₁,b::l₂,h,h1,h2=>by
  have hab:a=b:=by
   have ha:a∈b::l₂:=h.mem_iff.mp zMc;have hb:b∈a::l₁:=h.mem_iff.mpr zMc;rcases List.mem_cons.mp ha with e | ha
   .exact e
   .rcases List.mem_cons.mp hb with e | hb
    .exact e.symm
    .exact an _ _ (List.rel_of_pairwise_cons h1 hb) (List.rel_of_pairwise_cons h2 ha)
  subst hab;rw[jS an (List.Perm.cons_inv h) (List.pairwise_cons.mp h1).2 (List.pairwise_cons.mp h2).2]
noncomputable def vk (rows:List (List Int)):List (List Int):=rows.mergeSort λ a b=>!HT.lexLt b a
theorem rN (rows:List (List Int)):(vk rows).Perm rows:=List.mergeSort_perm _ _
theorem jl (rows:List (List Int)):(vk rows).Pairwise λ a b=>HT.lexLt b a=false:=by
 have:=List.pairwise_mergeSort (le:=λ a b:List Int=>!HT.lexLt b a) (λ a b c h1 h2=>by simp at h1 h2 ⊢;exact iO a b c h1 h2)
  (λ a b=>by
   cases h:HT.lexLt b a with
   | false=>simp
   | true=>simp[iP b a h]) rows
 exact this.imp λ h=>by simpa using h
theorem X9 {rows out:List (List Int)}(hp:out.Perm rows) (hs:out.Pairwise λ a b=>HT.lexLt b a=false):out=vk rows:=
 jS (λ a b h1 h2=>bg a b h2 h1) (hp.trans (rN rows).symm) hs (jl rows)
section
variable {prog:Program}{w:World}{A:Around}{E:Value->Shared->Prop}{s:Shared}{Q:Bool->Shared->Prop}
theorem b6 {b:Bool}:∀ (ns ms:List Int) (us ws:List Value) (i:Nat),IntsAre us ns->IntsAre ws ms->Q (HT.lexLt ns ms) s->KatLex prog w A b (decide (ns.length<ms.length)) Q (us.zip ws) i s
 | [],[],_,_,_,.nil,.nil,h=>kat_nil (by simpa [HT.lexLt] using h)
 | [],_::_,_,_,_,.nil,.cons _ _ _,h=>kat_nil (by simpa [HT.lexLt] using h)
 | _::_,[],_,_,_,.cons _ _ _,.nil,h=>kat_nil (by simpa [HT.lexLt] using h)
 | n::ns,m::ms,_,_,i,.cons _ t hu,.cons _ u hw,h=>by
  rw[HT.sY] at h;refine kat_cons (SeqAt.EqAt.int_int n t m u prog w _ _ (kat_go (λ e=>kat_yes ?_) λ e=>kat_no ?_))
  .have e':n=m:=by simpa using e
   rw[if_pos e'] at h;rw[show decide ((n::ns).length<(m::ms).length)=decide (ns.length<ms.length) by simp];exact b6 ns ms _ _ (i+1) hu hw h
  .have e':¬ n=m:=by simpa using e
   rw[if_neg e'] at h;cases b&&i == 0 with
   | true=>exact kat_lt_int h
   | false=>exact kat_one _ _ (lt_int h)
def q8 (h:Heap):List Value->List (List Int)->Prop:=Paired λ v r=>r≠[]/\∃ b o its n,v=.ref b/\h.get? b=some o/\o.cls=.type "tuple"/\o.data=.seq its n/\IntsAre its.toList r
theorem q8.ae {h:Heap}:∀ {vs:List Value}{rows:List (List Int)},q8 h vs rows->∃ fs,KatTups h vs fs/\fs.length=vs.length/\∀ v∈fs,∃ n t,v=Value.int n t
 | _,_,.nil=>⟨[],KatTups.nil,rfl,λ _ hv=>absurd hv (by simp)⟩
 | _,_,.cons ⟨hne,b,o,its,n,hv,ho,hc,hd,hi⟩ r=>by
  obtain⟨fs,h1,h2,h3⟩:=q8.ae r;subst hv;obtain⟨its⟩:=its;cases hi with
  | nil=>exact absurd rfl hne
  | cons k t _=>exact⟨.int k t::fs,KatTups.cons ho hc hd rfl h1,by simp[h2],λ v hv=>(List.mem_cons.mp hv).elim (λ e=>⟨k,t,e⟩) (h3 v)⟩
theorem Paired.at' {α β:Type}{F:α->β->Prop}:∀ {l₁:List α}{l₂:List β}{i:Nat},Paired F l₁ l₂->i<l₁.length->∀ (d:α) (e:β),F (l₁.getD i d) (l₂.getD i e)
 | _,_,_,.nil,h,_,_=>absurd h (by simp)
 | _,_,0,.cons r _,_,_,_=>r
 | _,_,i+1,.cons _ t,h,d,e=>by simpa using Paired.at' (i:=i) t (by simpa using h) d e
def nS (vs:List Value) (rows:List (List Int)) (out:Array Value):Prop:=
 ∃ idx:List Nat,idx.Perm (List.range vs.length)/\out.toList=idx.map (λ i=>vs.getD i Value.none)/\(idx.map λ i=>rows.getD i []).Pairwise λ a b=>HT.lexLt b a=false
noncomputable def rowOf (h:Heap):Value->List Int
 | .ref b=>match h.get? b with
  | some o=>match o.data with
   | .seq its _=>its.toList.map numOf
   | _=>[]
  | none=>[]
 | _=>[]
theorem Td {vs:List Value}{ns:List Int}(h:IntsAre vs ns):vs.map numOf=ns:=by
 induction h with
 | nil=>rfl
 | cons n t _ ih=>rw[List.map_cons,ih];rfl
theorem m_ {h:Heap}{b:Addr}{o:Obj}{its:Array Value}{n:Nat}{r:List Int}(e:h.get? b=some o) (d:o.data=.seq its n) (q:IntsAre its.toList r):rowOf h (.ref b)=r:=by
 show (match h.get? b with | some o=>(match o.data with | .seq its _=>its.toList.map numOf | _=>[]) | none=>[])=r;rw[e];dsimp only;rw[d];exact Td q
theorem QS {b:Bool}:TS.Asks prog w A E s (tuples' b) (λ x=>∃ a o its n r,x.1=.ref a/\s.heap.get? a=some o/\o.data=.seq its n/\IntsAre its.toList r)
  λ x y=>HT.lexLt (rowOf s.heap x.1) (rowOf s.heap y.1):=by
 refine⟨λ{x y st Q} hx hy hk h=>?_,λ h1 h2=>iO _ _ _ h1 h2,λ h=>iP _ _ h⟩;obtain⟨a1,o1,its1,n1,r1,e1,g1,d1,q1⟩:=hx;obtain⟨a2,o2,its2,n2,r2,e2,g2,d2,q2⟩:=hy;rw[e1,e2,m_ g1 d1 q1,m_ g2 d2 q2] at h;show wpS (model prog w) A E s (lt' x y) Q st;rw[lt'_eq];refine wpS_bind (wpS_get ?_);rw[hk,e1,e2];have l1:=q1.length;have l2:=q2.length;rw[Array.length_toList] at l1 l2;refine wpS_bind (wpS_lift (wpAny_attempt (kat_lt g1 d1 g2 d2 ?_)));rw[l1,l2];exact b6 _ _ _ _ 0 q1 q2 ⟨rfl,wpS_pure h⟩
theorem WX {α β:Type}(f:α->β) {l m:List β}(h:l.Perm m):∀ {k:List α},m=k.map f->∃ k':List α,k'.Perm k/\l=k'.map f:=by
 induction h with
 | nil=>
  intro k e;cases k with
  | nil=>exact⟨[],List.Perm.nil,rfl⟩
  | cons _ _=>cases e
 | cons x _ ih=>
  intro k e;cases k with
  | nil=>cases e
  | cons a k=>
   injection e with e1 e2
   obtain⟨k',p,rfl⟩:=ih e2;exact⟨a::k',p.cons a,by rw[e1];rfl⟩
 | swap x y l=>
  intro k e
  match k,e with
  | a::b::k,e=>
   injection e with e1 e2
   injection e2 with e2 e3
   exact⟨b::a::k,.swap _ _ _,by rw[e1,e2,e3];rfl⟩
 | trans _ _ ih1 ih2=>
  intro k e;obtain⟨k2,p2,e2⟩:=ih2 e;obtain⟨k1,p1,e1⟩:=ih1 e2;exact⟨k1,p1.trans p2,e1⟩
theorem Qm {vs:List Value}{rows:List (List Int)}(r:q8 s.heap vs rows) (h2:2<=vs.length):Core prog w A E vs (nS vs rows) s:=by
 obtain⟨fs,t,hl,hf⟩:=r.ae;have zl:(vs.toArray.zip vs.toArray).toList=(List.range vs.length).map λ i=>(vs.getD i Value.none,vs.getD i Value.none):=by
  refine List.ext_getElem (by simp) λ i h1 h2=>?_;have hi:i<vs.length:=by simpa using h2
  simp[hi]
 have rw_at:∀ i,i<vs.length->∃ a o its n,vs.getD i Value.none=.ref a/\s.heap.get? a=some o/\o.data=.seq its n/\IntsAre its.toList (rows.getD i []):=λ i hi=>by
  obtain⟨_,b1,o1,its1,n1,e1,g1,_,d1,q1⟩:=Paired.at' r hi Value.none [];exact⟨b1,o1,its1,n1,e1,g1,d1,q1⟩
 unfold Core;refine kat_kind (T:=.type "int") t (by omega) (λ v hv=>?_) rfl ⟨rfl,?_⟩
 .obtain⟨n,t,rfl⟩:=hf v hv;exact Looks.of_pure rfl
 .refine wpAny_mono (TS.Y9 (E:=E) (s:=s) QS (st:=SortSt.mk' _ (vs.toArray.zip vs.toArray) #[] 7 none) (Q:=λ _ st=>failedOf st=none/\nS vs rows ((arrOf st).map (·.2))/\(arrOf st).size=vs.length)
   rfl rfl rfl ?_ λ st hf' hp hu=>?_) (λ a s' z=>⟨z.1,z.2⟩) λ _ _ z=>z
  .intro x hx;have hx:x∈(vs.toArray.zip vs.toArray).toList:=hx;rw[zl] at hx;obtain⟨i,hi,rfl⟩:=List.mem_map.mp hx;obtain⟨a,o,its,n,e,g,d,q⟩:=rw_at i (by simpa using hi);exact⟨a,o,its,n,_,e,g,d,q⟩
  .have hp:(arrOf st).toList.Perm (vs.toArray.zip vs.toArray).toList:=hp;obtain⟨idx,p1,e1⟩:=WX (λ i=>(vs.getD i Value.none,vs.getD i Value.none)) hp zl;have sz:(arrOf st).size=vs.length:=by
    have:=hp.length_eq;simpa using this
   refine⟨hf',⟨idx,p1,?_,?_⟩,sz⟩
   .rw[Array.toList_map,e1,List.map_map];rfl
   .rw[e1] at hu;unfold TS.Up at hu;rw[List.pairwise_map] at hu ⊢;refine List.Pairwise.imp_of_mem (λ{i j} hi hj hr=>?_) hu;have hi:i<vs.length:=by simpa using p1.mem_iff.mp hi
    have hj:j<vs.length:=by simpa using p1.mem_iff.mp hj
    obtain⟨a1,o1,its1,n1,c1,g1,d1,q1⟩:=rw_at i hi;obtain⟨a2,o2,its2,n2,c2,g2,d2,q2⟩:=rw_at j hj;dsimp only at hr
    rwa [c1,c2,m_ g1 d1 q1,m_ g2 d2 q2] at hr
theorem aW {vs:List Value}{rows:List (List Int)}(r:q8 s.heap vs rows) (h2:2<=vs.length) (_:vs.length<256):Core prog w A E vs (nS vs rows) s:=Qm r h2
end
section
variable {X:Cx}
theorem Q2:xg X (.builtin "sorted") (λ xs H Q=>∃ p ys,∃ rows:List (List Int),xs=[.ref p]/\zV X.K H p ys/\Paired (λ v r=>r≠[]/\∃ b,v=V.ref b/\zZ X.K H b (r.map V.int)) ys rows/\rows.length<256/\
  ∀ (l:Addr) (idx:List Nat),H l=none->idx.Perm (List.range ys.length)->(idx.map λ i=>rows.getD i []).Pairwise (λ a b=>HT.lexLt b a=false)->Q (.ref l) (upd H l (.lst (idx.map λ i=>ys.getD i .zh)))):=by
 intro pins s σ H xs us Q I r h;obtain⟨p,ys,rows,rfl,hq,hr,h64,q⟩:=h;obtain⟨u,rfl,ru⟩:=vals1 r;cases ru;obtain⟨its,rv,pl,hz⟩:=I.list hq;have hl:=rv.length;have hlr:ys.length=rows.length:=Paired.length hr;have rows_at:∀ h6:Heap,(∀ b o,s.heap.get? b=some o->h6.get? b=some o)->q8 h6 its rows:=λ h6 k=>by
  clear q hz hl hlr h64 hq pl r
  induction hr generalizing its with
  | nil=>cases rv;exact .nil
  | cons g t ih=>
   cases rv with
   | cons r1 r2=>
    refine .cons ?_ (ih _ r2);obtain⟨hne,b,rfl,hb⟩:=g;cases r1;obtain⟨its2,rv2,⟨o,e,hc,n,hd⟩,_⟩:=I.tuple hb;exact⟨hne,b,o,_,n,rfl,k _ _ e,hc,hd,by simpa using intsAre_of rv2⟩
 refine X7 (Out:=nS its rows) pl.isList (by rw[<- hl];exact hz) (λ h2 s6 k=>aW (rows_at _ k) h2 (by omega)) (λ h1=>?_) λ out ho hs=>?_
 .refine⟨List.range its.length,.refl _,?_,?_⟩
  .refine List.ext_getElem (by simp) λ i h1 h2=>?_;simp at h1;simp[h1]
  .rw[List.pairwise_map,List.pairwise_iff_getElem];intro i j hi hj hij;simp at hi hj;omega
 .obtain⟨idx,g1,g2,g3⟩:=ho;obtain⟨e,ho⟩:=sortedAll_at s.heap its out;have hfr:H (s.heap.objs.size+1)=none:=I.zB.fresh (Nat.le_succ _);have g1':idx.Perm (List.range ys.length):=by rw[hl];exact g1
  refine⟨.ref (s.heap.objs.size+1),_,I.laid (t':=s.toks) (o:=.lst (idx.map λ i=>ys.getD i .zh)) (λ b o q=>sortedAll_old q) (Nat.le_succ _) ?_,rfl,q _ idx hfr g1' g3⟩;refine⟨by rw[List.length_map,g1'.length_eq,List.length_range];exact hz,out.toList,e,?_,by simpa using ho⟩;rw[g2];have hlt:∀ i∈idx,i<ys.length:=λ i hi=>by simpa using g1'.mem_iff.mp hi
  clear g1 g1' g2 g3 q
  induction idx with
  | nil=>exact .nil
  | cons i idx ih=>
   refine .cons ?_ (ih λ j hj=>hlt j (zMo _ hj));have hi:=hlt i zMc;obtain⟨u,e1,e2⟩:=rv.get (i:=i) (x:=ys[i]) (by simp[hi]);have e3:its.getD i Value.none=u:=by simp[e1]
   have e4:ys.getD i .zh=ys[i]:=by simp[hi]
   show RelV (ys.getD i .zh) (its.getD i Value.none);rw[e3,e4];exact e2
end
end L4
namespace L2
open PySem PySem.Spec PyProof.Rows
noncomputable def v_ (ty T:String):Bool:=ty == T||(ty == "bool"&&T == "int")
noncomputable def mH (ty T:String):Bool:=PySem.W.kitMeta T&&decide ((fastBuiltinMro ty).map (λ l=>l.contains (Value.type T))=some (v_ ty T))
theorem YW:(["NoneType","bool","int","str","tuple","list","dict"].all λ ty=>["int","bool","tuple","list","str"].all λ T=>mH ty T)=true:=by decide +kernel
theorem Sj {K:PySem.W.Frag}{ty T:String}(h:mH ty T=true):PySem.W.kitOne K (.type ty) (.type T)=some (v_ ty T):=by
 unfold mH at h;rw[Bool.and_eq_true] at h;unfold PySem.W.kitOne;split
 .rename_i e;have e':ty=T:=by have:=eq_of_beq e;injection this
  subst e';simp[v_]
 .show (if PySem.W.kitMeta T=true then PySem.W.subIn K (.type ty) (.type T) else none)=_;rw[if_pos h.1];exact of_decide_eq_true h.2
noncomputable def Z2 (K:PySem.W.Frag) (H:Hp):V->String->Prop
 | .zh,t=>t="NoneType"
 | .bl _,t=>t="bool"
 | .int _,t=>t="int"
 | .str _,t=>t="str"
 | .ref a,t=>(t="tuple"/\∃ xs,zZ K H a xs)\/(t="list"/\∃ xs,zV K H a xs)\/(t="dict"/\∃ kvs,H a=some (.dK kvs))
 | _,_=>False
theorem QD {X:Cx}:xg X (.builtin "isinstance") (λ xs H Q=>∃ x T ty,xs=[x,.ty T]/\Z2 X.K H x ty/\mH ty T=true/\Q (.bl (v_ ty T)) H):=by
 intro pins s σ H xs us Q I r h;obtain⟨x,T,ty,rfl,hx,hT,q⟩:=h;obtain⟨u,c,rfl,ru,rc⟩:=vals2 r;cases (show c=Value.type T from rc);have e:PySem.W.kitOne X.K (.type ty) (.type T)=some (v_ ty T):=Sj hT;have fin:∀ tk,EP X pins σ Q (.bool (v_ ty T)) { s with toks:=tk }:=λ tk=>⟨.bl _,H,I.tok tk,rfl,q⟩;cases x with
 | zh=>cases (show u=Value.none from ru);cases (show ty=_ from hx);exact PySem.W.kia_one PySem.W.kitx_none I.vF True.intro e (λ z=>nomatch z) fin
 | bl y=>cases (show u=Value.bool y from ru);cases (show ty=_ from hx);exact PySem.W.kia_one PySem.W.kitx_bool I.vF True.intro e (λ z=>nomatch z) fin
 | int i=>obtain⟨t,rfl⟩:=(show ∃ t,u=Value.int i t from ru);cases (show ty=_ from hx);exact PySem.W.kia_one PySem.W.kitx_int I.vF True.intro e (λ z=>nomatch z) fin
 | str y=>obtain⟨t,rfl⟩:=(show ∃ t,u=Value.str y t from ru);cases (show ty=_ from hx);exact PySem.W.kia_one PySem.W.kitx_str I.vF True.intro e (λ z=>nomatch z) fin
 | ref a=>
  cases (show u=Value.ref a from ru);rcases hx with ⟨rfl,ys,hq⟩ | ⟨rfl,ys,hq⟩ | ⟨rfl,kvs,hq⟩
  .obtain⟨its,_,⟨o,h1,h2,_⟩,_⟩:=I.tuple hq;exact PySem.W.kia_one PySem.W.kitx_tuple I.vF ⟨o,h1,h2⟩ e (λ z=>nomatch z) fin
  .obtain⟨its,_,⟨o,n,h1,h2,_⟩,_⟩:=I.list hq;exact PySem.W.kia_one PySem.W.kitx_list I.vF ⟨o,h1,h2⟩ e (λ z=>nomatch z) fin
  .obtain⟨_,_,vs,_,p⟩:=(show xn X.prog X.w H s.heap a (.dK kvs) from I.zB a _ hq)
   obtain⟨o,es,ep,h1,h2,_⟩:=p;exact PySem.W.kia_one PySem.W.kitx_dict I.vF ⟨o,h1,h2.1⟩ e (λ z=>nomatch z) fin
 | pR _=>exact hx.elim
 | kc _=>exact hx.elim
 | ty _=>exact hx.elim
end L2
namespace L3
open PySem PySem.Spec L2
open PyProof.Rows hiding St
section
variable {X:Cx}{K:PySem.W.Frag}{a b c e:Expr}{es:List Expr}{ta tb tc te:zy}{tA:yt}{pos p q:Pos}
theorem oA (hm:X.mg "len"=none) (ha:xQ X (e::es) tA) (hg:Gl X "len":=by rfl) (he:starEach (e::es) X.env=(false,eval e X.env)::starEach es X.env:=by rfl) (hpl:(backTo pos (starEach es X.env)).any (·.1)=false:=by rfl):PD X (.Call (.Name "len" p) (e::es) [] pos) (xM ue tA):=
 tP (tN (QB.or QA) hg hm PySem.boot_len ha.pa (by decide) (by decide) he hpl) ue.mo ue.fits ha.mo
theorem l9 (hm:X.mg "list"=none) (ha:xQ X (e::es) tA) (hg:Gl X "list":=by rfl) (he:starEach (e::es) X.env=(false,eval e X.env)::starEach es X.env:=by rfl) (hpl:(backTo pos (starEach es X.env)).any (·.1)=false:=by rfl):PD X (.Call (.Name "list" p) (e::es) [] pos) (xM ud tA):=
 tP (o9 Q8 hg hm PyProof.Rows.boot_list ha.pa (by decide) (by decide) he hpl) ud.mo ud.fits ha.mo
theorem l7 (hm:X.mg "tuple"=none) (ha:xQ X (e::es) tA) (hg:Gl X "tuple":=by rfl) (he:starEach (e::es) X.env=(false,eval e X.env)::starEach es X.env:=by rfl) (hpl:(backTo pos (starEach es X.env)).any (·.1)=false:=by rfl):PD X (.Call (.Name "tuple" p) (e::es) [] pos) (xM uc tA):=
 tP (o9 Qz hg hm PyProof.Rows.boot_tuple ha.pa (by decide) (by decide) he hpl) uc.mo uc.fits ha.mo
abbrev ah:xW:=vL λ i j=>.int (if j>i then j else i)
abbrev ag:xW:=vL λ i j=>.int (if j<i then j else i)
theorem l8 (hm:X.mg "max"=none) (ha:xQ X (e::es) tA) (hc:X.calm=true:=by rfl) (hg:Gl X "max":=by rfl) (he:starEach (e::es) X.env=(false,eval e X.env)::starEach es X.env:=by rfl) (hpl:(backTo pos (starEach es X.env)).any (·.1)=false:=by rfl):PD X (.Call (.Name "max" p) (e::es) [] pos) (xM ah tA):=
 tP (tN (Q7 hc) hg hm boot_max ha.pa (by decide) (by decide) he hpl) vL.mo (vL.fits λ _ _ _=>by simp only[ze]) ha.mo
theorem ie (hm:X.mg "min"=none) (ha:xQ X (e::es) tA) (hc:X.calm=true:=by rfl) (hg:Gl X "min":=by rfl) (he:starEach (e::es) X.env=(false,eval e X.env)::starEach es X.env:=by rfl) (hpl:(backTo pos (starEach es X.env)).any (·.1)=false:=by rfl):PD X (.Call (.Name "min" p) (e::es) [] pos) (xM ag tA):=
 tP (tN (Q6 hc) hg hm boot_min ha.pa (by decide) (by decide) he hpl) vL.mo (vL.fits λ _ _ _=>by simp only[ze]) ha.mo
noncomputable def uS (r:List Int):D:=.tup (r.map D.int)
theorem jG {H:Hp}:∀ {rows:List (List Int)}{ys:List V},zq K H (rows.map uS) ys->(∀ r∈rows,r≠[])->Paired (λ v r=>r≠[]/\∃ b,v=V.ref b/\zZ K H b (r.map V.int)) ys rows
 | [],ys,h,_=>by simp only[List.map_nil,zq] at h;subst h;exact .nil
 | r::rows,ys,h,hn=>by
  rw[List.map_cons] at h;simp only[zq,uS,ze] at h;obtain⟨x,ys',rfl,⟨a,xs,rfl,g1,g2⟩,h3⟩:=h;rw[g2.ints] at g1;exact .cons ⟨hn r zMc,a,rfl,g1⟩ (jG h3 λ r' hr=>hn r' (zMo _ hr))
theorem T9 {α:Type}{rows:List α}{d:α}{idx:List Nat}(h:idx.Perm (List.range rows.length)):(idx.map λ i=>rows.getD i d).Perm rows:=by
 refine (h.map _).trans ?_;have:(List.range rows.length).map (λ i=>rows.getD i d)=rows:=by
  refine List.ext_getElem (by simp) λ i h1 h2=>?_;simp[h2]
 rw[this]
theorem zq.perm {H:Hp}{rows:List (List Int)}{ys:List V}(h:zq K H (rows.map uS) ys):∀ {idx:List Nat},(∀ i∈idx,i<rows.length)->zq K H ((idx.map λ i=>rows.getD i []).map uS) (idx.map λ i=>ys.getD i .zh)
 | [],_=>.nil
 | i::idx,hi=>by
  have h1:=hi i zMc;obtain⟨x,e1,e2⟩:=h.get (i:=i) (d:=uS rows[i]) (by simp[h1]);refine .cons ?_ (zq.perm h λ j hj=>hi j (zMo _ hj));have e3:ys.getD i .zh=x:=by simp[e1]
  have e4:rows.getD i []=rows[i]:=by simp[h1]
  show ze K H (uS (rows.getD i [])) (ys.getD i .zh);rw[e3,e4];exact e2
theorem cw {tg:Expr}(hm:X.mg "range"=none) (ha:xQ X [a] tA) (hg:Gl X "range":=by rfl) (hs:starEach [a] X.env=[(false,eval a X.env)]:=by rfl):rF X tg (.Call (.Name "range" p) [a] [] pos) (iU tA):=V3 (WK hg hm ha.pa hs) ha.mo
noncomputable def sD (d:D) (S:SS):Option String:=match d with
 | .zh=>some "NoneType"
 | .bl _=>some "bool"
 | .int _=>some "int"
 | .str _=>some "str"
 | .tup _=>some "tuple"
 | .yK _=>some "list"
 | .ref p=>match S p with
  | some (.lst _)=>some "list"
  | some (.ye _)=>some "dict"
  | none=>none
def nF (T:String) (te:zy):zy:=fun δ S Q=>te δ S λ x S1=>match sD x S1 with
 | some ty=>Q (.bl (v_ ty T)) S1
 | none=>False
theorem sD.ok {H:Hp}{d:D}{v:V}{S:SS}{ty:String}(r:ze K H d v) (p:zR K H S) (h:sD d S=some ty):Z2 K H v ty/\ty∈["NoneType","bool","int","str","tuple","list","dict"]:=by
 cases d with
 | zh=>simp only[ze] at r;subst r;cases h;exact⟨rfl,by simp⟩
 | bl _=>simp only[ze] at r;subst r;cases h;exact⟨rfl,by simp⟩
 | int _=>simp only[ze] at r;subst r;cases h;exact⟨rfl,by simp⟩
 | str _=>simp only[ze] at r;subst r;cases h;exact⟨rfl,by simp⟩
 | tup ds=>
  simp only[ze] at r;obtain⟨a,xs,rfl,g1,_⟩:=r;cases h;exact⟨.inl ⟨rfl,xs,g1⟩,by simp⟩
 | yK ds=>
  simp only[ze] at r;obtain⟨a,xs,rfl,g1,_⟩:=r;cases h;exact⟨.inr (.inl ⟨rfl,xs,g1.sq⟩),by simp⟩
 | ref a=>
  simp only[ze] at r;subst r;unfold sD at h;dsimp only at h;split at h
  .rename_i e;cases h;obtain⟨xs,g1,_⟩:=p _ _ e;exact⟨.inr (.inl ⟨rfl,xs,zV.of g1⟩),by simp⟩
  .rename_i e;cases h;obtain⟨xs,g1,_⟩:=p _ _ e;exact⟨.inr (.inr ⟨rfl,xs,g1⟩),by simp⟩
  .cases h
theorem ig {T:String}{x:Str}(hT:T∈["int","bool","tuple","list","str"]) (hm:X.mg "isinstance"=none) (hm2:X.mg x=none) (hv:bootBuiltins x=some (.type T)) (hg2:Gl X x) (hn:x≠"__name__") (hd:(x == ("__debug__":Str))=false) (he:PD X e te) (hg:Gl X "isinstance":=by rfl)
  (h1:starEach (e::[.Name x q]) X.env=(false,eval e X.env)::starEach [.Name x q] X.env:=by rfl) (h2:(backTo pos (starEach [.Name x q] X.env)).any (·.1)=false:=by rfl) (h3:starEach [.Name x q] X.env=(false,eval (.Name x q) X.env)::starEach [] X.env:=by rfl):
  PD X (.Call (.Name "isinstance" p) [e,.Name x q] [] pos) (nF T te):=by
 refine⟨fun δ S Q Q' hq z=>he.mo δ S _ _ (λ y S1 z=>?_) z,PE.imp (tN QD hg hm boot_isinstance (qa he.pe (qa (Vr (v:=.ty T) hg2 hm2 hv rfl hn hd) ph h3) h1) (by decide) (by decide) h1 h2) fun σ H Q hu=>?_⟩
 .split at z
  .exact hq _ _ z
  .exact z
 .obtain⟨δ,S,r1,r2,z⟩:=hu;refine zS.go he.mo r1 r2 z λ y S1 v H1 z1 q1 e1 p1=>?_;split at z1
  .rename_i ty ht;obtain⟨g1,g2⟩:=sD.ok q1 p1 ht;refine⟨v,T,ty,rfl,g1,?_,z1 _ H1 (by simp only[ze]) e1 p1⟩;exact List.all_eq_true.mp (List.all_eq_true.mp YW ty g2) T hT
  .exact z1.elim
theorem c6 (T:Bt X.mg) (he:PD X e te) (hg:Gl X "isinstance":=by rfl) (hg2:Gl X "bool":=by rfl) (h1:starEach (e::[.Name "bool" q]) X.env=(false,eval e X.env)::starEach [.Name "bool" q] X.env:=by rfl) (h2:(backTo pos (starEach [.Name "bool" q] X.env)).any (·.1)=false:=by rfl) (h3:starEach [.Name "bool" q] X.env=(false,eval (.Name "bool" q) X.env)::starEach [] X.env:=by rfl):
  PD X (.Call (.Name "isinstance" p) [e,.Name "bool" q] [] pos) (nF "bool" te):=ig (by simp) T.isinstance T.bool PyProof.Rows.boot_bool hg2 (by decide) (by decide) he hg h1 h2 h3
theorem cz (T:Bt X.mg) (he:PD X e te) (hg:Gl X "isinstance":=by rfl) (hg2:Gl X "int":=by rfl) (h1:starEach (e::[.Name "int" q]) X.env=(false,eval e X.env)::starEach [.Name "int" q] X.env:=by rfl) (h2:(backTo pos (starEach [.Name "int" q] X.env)).any (·.1)=false:=by rfl) (h3:starEach [.Name "int" q] X.env=(false,eval (.Name "int" q) X.env)::starEach [] X.env:=by rfl):
  PD X (.Call (.Name "isinstance" p) [e,.Name "int" q] [] pos) (nF "int" te):=ig (by simp) T.isinstance T.int PyProof.Rows.boot_int hg2 (by decide) (by decide) he hg h1 h2 h3
theorem VB (T:Bt X.mg) (he:PD X e te) (hg:Gl X "isinstance":=by rfl) (hg2:Gl X "tuple":=by rfl) (h1:starEach (e::[.Name "tuple" q]) X.env=(false,eval e X.env)::starEach [.Name "tuple" q] X.env:=by rfl) (h2:(backTo pos (starEach [.Name "tuple" q] X.env)).any (·.1)=false:=by rfl) (h3:starEach [.Name "tuple" q] X.env=(false,eval (.Name "tuple" q) X.env)::starEach [] X.env:=by rfl):
  PD X (.Call (.Name "isinstance" p) [e,.Name "tuple" q] [] pos) (nF "tuple" te):=ig (by simp) T.isinstance T.tuple PyProof.Rows.boot_tuple hg2 (by decide) (by decide) he hg h1 h2 h3
theorem pd {o:Expr}{to:zy}{apos cpos:Pos}(ho:PD X o to) (he:PD X e te)
  (hbase:attributeBase o "append" X.env (eval o X.env)=eval o X.env:=by rfl)
  (hfew:((backTo cpos (starEach [e] X.env)).all (λ x=>!x.1)&&(backToKw cpos (keywordEach [] X.env)).all (λ x=>x.1.isSome)
   && decide ([e].length+([]:List Keyword).length+(if ([]:List Keyword).isEmpty then 0 else 1)<30))=true:=by rfl)
  (hline:(apos.endLine == cpos.line)=true:=by rfl) (hs:starEach [e] X.env=(false,eval e X.env)::starEach [] X.env:=by rfl) (hplain:(backTo cpos (starEach [] X.env)).any (·.1)=false:=by rfl):
  PD X (.Call (.Attribute o "append" apos) [e] [] cpos) (rn to te):=
 VM (o:=o) (e:=e) (cn PySem.F.plainAttrs_list PySem.F.slot_list_append PySem.F.type_list_append cV ho.pe (qa he.pe ph hs) hbase hfew hline hs hplain) ho.mo he.mo
structure FD (P:Program) (w:World) (K:PySem.W.Frag) (mg:Str->Option Value) (base:Heap) (x:Str) (k:Nat) (ps:List Str) (sp:rE):Prop where
 ex:∃ (f:Addr) (fd:FuncData),uv P w K mg base vz k f fd ps (tG K sp)/\mg x=some (.ref f)/\PySem.W.keepIn K (.ref f)=true/\Binds K fd ps []
 mo:fy sp
theorem yg {x:Str}{k:Nat}{ps:List Str}{sp:rE}(F:FD X.prog X.w X.K X.mg X.base x k ps sp) (hr:y8 k X.A) (ha:xQ X (e::es) tA) (hg:Gl X x:=by rfl) (hdb:(x == ("__debug__":Str))=false:=by decide)
  (he:starEach (e::es) X.env=(false,eval e X.env)::starEach es X.env:=by rfl) (hpl:(backTo pos (starEach es X.env)).any (·.1)=false:=by rfl):PD X (.Call (.Name x p) (e::es) [] pos) (kq sp tA):=by
 obtain⟨⟨f,fd,h1,h2,h3,h4⟩,hm⟩:=F;exact VL (E:=E0) (Vq h1 hr hg h2 h3 h4 .nil VP ha.pa hdb he hpl) hm ha.mo
end
end L3
namespace L3
open PySem PySem.Spec L2
open PyProof.Rows hiding St
section
variable {P:Program}{w:World}{K:PySem.W.Frag}{mg:Str->Option Value}{base:Heap}{f:Addr}{fd:FuncData}
end
theorem R8 {S:SS}{p:Addr}{ds:List D}{Q:DK}(e:S p=some (.lst ds)) (h:Q (.tup ds) S):uc [.ref p] S Q:=by
 unfold uc;dsimp only;rw[e];exact h
theorem R9 {S:SS}{d:D}{ds:List D}{Q:DK}(e:zT d S=some ds) (h:∀ p,S p=none->Q (.ref p) (ups S p (.lst ds))):ud [d] S Q:=by
 unfold ud;dsimp only;rw[e];exact h
theorem RA {S:SS}{d:D}{ds:List D}{Q:DK}(e:zT d S=some ds) (h:Q (.int ds.length) S):ue [d] S Q:=by
 unfold ue;dsimp only;rw[e];exact h
theorem Xc {S:SS}{p:Addr}{ds:List D}{Q:Bool->SS->Prop}(e:S p=some (.lst ds)) (h:Q (!ds.isEmpty) S):v9 (.ref p) S Q:=by
 unfold v9;dsimp only;rw[e];exact h
theorem RD {S:SS}{p:Addr}{ds:List D}{i:Int}{d:D}{Q:DK}(e:S p=some (.lst ds)) (e2:L2.yp ds i=some d) (h:Q d S):wB (.ref p) (.int i) S Q:=by
 unfold wB;dsimp only;rw[e];dsimp only;rw[e2];exact h
theorem RB {S:SS}{ds:List D}{i:Int}{d:D}{Q:DK}(e2:L2.yp ds i=some d) (h:Q d S):wB (.tup ds) (.int i) S Q:=by
 unfold wB;dsimp only;rw[e2];exact h
theorem RC {S:SS}{ds:List D}{i:Int}{d:D}{Q:DK}(e2:L2.yp ds i=some d) (h:Q d S):wB (.yK ds) (.int i) S Q:=by
 unfold wB;dsimp only;rw[e2];exact h
end L3
namespace L3
open PySem PySem.Spec L2
open PyProof.Rows hiding St
inductive T where
 | zh | bl (b:Bool) | int (i:Int) | str (x:Str) | tup (ts:List T) | lst (ts:List T) | zU
mutual
noncomputable def eqT:T->T->Bool
 | .zh,.zh=>true
 | .bl a,.bl b=>a == b
 | .bl a,.int b=>(if a then 1 else 0) == b
 | .int a,.bl b=>a == (if b then 1 else 0)
 | .int a,.int b=>a == b
 | .str a,.str b=>a == b
 | .tup a,.tup b=>wq a b
 | .lst a,.lst b=>wq a b
 | .zU,.zU=>true
 | _,_=>false
noncomputable def wq:List T->List T->Bool
 | [],[]=>true
 | a::as,b::bs=>eqT a b&&wq as bs
 | _,_=>false
end
mutual
noncomputable def dep:T->Nat
 | .tup ts=>1+yF ts
 | .lst ts=>1+yF ts
 | .zU=>cLine
 | _=>0
noncomputable def yF:List T->Nat
 | []=>0
 | t::ts=>max (dep t) (yF ts)
end
noncomputable def iq:List T->Bool
 | []=>true
 | .int _::ts=>iq ts
 | _=>false
theorem Uq (ns:List Int):iq (ns.map T.int)=true:=by
 induction ns with
 | nil=>rfl
 | cons n ns ih=>exact ih
mutual
noncomputable def Sn (S:SS):T->D->Prop
 | .zh,d=>d=.zh
 | .bl b,d=>d=.bl b
 | .int i,d=>d=.int i
 | .str x,d=>d=.str x
 | .tup ts,d=>∃ ds,d=.tup ds/\zj S ts ds
 | .lst ts,d=>∃ ds,((d=.yK ds/\iq ts=true)\/∃ a,d=.ref a/\S a=some (.lst ds))/\zj S ts ds
 | .zU,d=>∃ a kvs,d=.ref a/\S a=some (.ye kvs)
noncomputable def zj (S:SS):List T->List D->Prop
 | [],ds=>ds=[]
 | t::ts,ds=>∃ c cs,ds=c::cs/\Sn S t c/\zj S ts cs
end
mutual
theorem gH:∀ t:T,eqT t t=true
 | .zh=>by simp[eqT]
 | .bl b=>by simp[eqT]
 | .int i=>by simp[eqT]
 | .str x=>by simp[eqT]
 | .tup ts=>by simp only[eqT];exact gG ts
 | .lst ts=>by simp only[eqT];exact gG ts
 | .zU=>by simp[eqT]
theorem gG:∀ ts:List T,wq ts ts=true
 | []=>by simp[wq]
 | t::ts=>by simp only[wq,gH t,gG ts,Bool.and_self]
end
theorem tm:∀ ts us:List T,wq ts us=((List.range (min ts.length us.length)).all (λ j=>eqT (ts.getD j .zh) (us.getD j .zh))&&ts.length == us.length)
 | [],[]=>by simp[wq]
 | [],_::_=>by simp[wq]
 | _::_,[]=>by simp[wq]
 | t::ts,u::us=>by
  simp only[wq,tm ts us,List.length_cons];rw[show min (ts.length+1) (us.length+1)=min ts.length us.length+1 by omega,List.range_succ_eq_map,List.all_cons,List.all_map];have:(ts.length+1 == us.length+1)=(ts.length == us.length):=by rw[Bool.eq_iff_iff];simp
  rw[this,Bool.and_assoc];rfl
theorem zj.length {S:SS}:∀ {ts:List T}{ds:List D},zj S ts ds->ts.length=ds.length
 | [],ds,h=>by simp only[zj] at h;subst h;rfl
 | t::ts,ds,h=>by
  simp only[zj] at h;obtain⟨c,cs,rfl,_,h2⟩:=h;simp[zj.length h2]
section
variable {X:Cx}{pins:List (Addr×Obj)}{σ:St}{H:Hp}{s:Shared}{S:SS}
theorem bE (I:Inv X pins σ H s) {a:Addr}{xs ys:List V}(h1:zZ X.K H a xs) (h2:zV X.K H a ys):False:=by
 obtain⟨_,_,⟨o,e,c,_⟩,_⟩:=I.tuple h1;obtain⟨_,_,⟨o',n,e',c',_⟩,_⟩:=I.list h2;rw[e] at e';cases e';rw[c] at c'
 injection c' with q
 exact absurd q (by decide)
theorem Sn.yS (p:zR X.K H S) {ts:List T}{d:D}{x:V}(h:Sn S (.lst ts) d) (r:ze X.K H d x):∃ a xs ds,x=.ref a/\zV X.K H a xs/\zq X.K H ds xs/\zj S ts ds:=by
 simp only[Sn] at h;obtain⟨ds,⟨h,_⟩ | ⟨a,h,e⟩,h2⟩:=h
 .subst h;simp only[ze] at r;obtain⟨a,xs,rfl,g1,g2⟩:=r;exact⟨a,xs,ds,rfl,g1.sq,g2,h2⟩
 .subst h;simp only[ze] at r;obtain⟨xs,g1,g2⟩:=p _ _ e;exact⟨a,xs,ds,r,zV.of g1,g2,h2⟩
theorem Sn.yQ {ts:List T}{d:D}{x:V}(h:Sn S (.tup ts) d) (r:ze X.K H d x):∃ a xs ds,x=.ref a/\zZ X.K H a xs/\zq X.K H ds xs/\zj S ts ds:=by
 simp only[Sn] at h;obtain⟨ds,rfl,h2⟩:=h;simp only[ze] at r;obtain⟨a,xs,rfl,g1,g2⟩:=r;exact⟨a,xs,ds,rfl,g1,g2,h2⟩
theorem Sn.qo (p:zR X.K H S) {d:D}{x:V}(h:Sn S .zU d) (r:ze X.K H d x):∃ a vs,x=.ref a/\H a=some (.dK vs):=by
 simp only[Sn] at h;obtain⟨a,kvs,rfl,e⟩:=h;simp only[ze] at r;obtain⟨xs,g1,g2⟩:=p _ _ e;exact⟨a,xs,r,g1⟩
theorem bI (I:Inv X pins σ H s) {a:Addr}{vs:List (Key×V)}(h:H a=some (.dK vs)):∃ o,s.heap.get? a=some o/\o.cls=.type "dict":=by
 obtain⟨_,_,_,_,o,_,_,e,c⟩:=(show xn X.prog X.w H s.heap a (.dK vs) from I.zB a _ h)
 exact⟨o,e,c.1.1⟩
theorem bF (I:Inv X pins σ H s) {a:Addr}{xs:List V}{vs:List (Key×V)}(h1:zZ X.K H a xs) (h2:H a=some (.dK vs)):False:=by
 obtain⟨_,_,⟨o,e,c,_⟩,_⟩:=I.tuple h1;obtain⟨o',e',c'⟩:=bI I h2;rw[e] at e';cases e';rw[c] at c'
 injection c' with q
 exact absurd q (by decide)
theorem bH (I:Inv X pins σ H s) {a:Addr}{xs:List V}{vs:List (Key×V)}(h1:zV X.K H a xs) (h2:H a=some (.dK vs)):False:=by
 obtain⟨_,_,⟨o,n,e,c,_⟩,_⟩:=I.list h1;obtain⟨o',e',c'⟩:=bI I h2;rw[e] at e';cases e';rw[c] at c'
 injection c' with q
 exact absurd q (by decide)
theorem Sn.flat {t:T}{d:D}{x:V}(h:Sn S t d) (r:ze X.K H d x):match t with
  | .zh=>x=.zh
  | .bl b=>x=.bl b
  | .int i=>x=.int i
  | .str y=>x=.str y
  | _=>True:=by
 cases t <;> first
  | trivial
  | (simp only[Sn] at h;subst h;simpa only [ze] using r)
mutual
theorem mG (I:Inv X pins σ H s) (p:zR X.K H S):∀ (t u:T) {d e:D}{x:V},Sn S t d->Sn S u e->ze X.K H d x->ze X.K H e x->t=u
 | .tup ts,u,d,e,x,h1,h2,r1,r2=>by
  obtain⟨a,xs,ds,rfl,g1,g2,g3⟩:=h1.yQ r1;cases u with
  | zU=>obtain⟨_,_,q,g⟩:=h2.qo p r2;cases q;exact (bF I g1 g).elim
  | tup us=>
   obtain⟨a',xs',ds',q,k1,k2,k3⟩:=h2.yQ r2;cases q;have:=I.jd g1 k1;subst this;rw[jb I p ts us g3 k3 g2 k2]
  | lst us=>
   obtain⟨a',xs',ds',q,k1,k2,k3⟩:=h2.yS p r2;cases q;exact (bE I g1 k1).elim
  | zh=>exact nomatch h2.flat r2
  | bl _=>exact nomatch h2.flat r2
  | int _=>exact nomatch h2.flat r2
  | str _=>exact nomatch h2.flat r2
 | .lst ts,u,d,e,x,h1,h2,r1,r2=>by
  obtain⟨a,xs,ds,rfl,g1,g2,g3⟩:=h1.yS p r1;cases u with
  | zU=>obtain⟨_,_,q,g⟩:=h2.qo p r2;cases q;exact (bH I g1 g).elim
  | lst us=>
   obtain⟨a',xs',ds',q,k1,k2,k3⟩:=h2.yS p r2;cases q;have:=I.iM g1 k1;subst this;rw[jb I p ts us g3 k3 g2 k2]
  | tup us=>
   obtain⟨a',xs',ds',q,k1,k2,k3⟩:=h2.yQ r2;cases q;exact (bE I k1 g1).elim
  | zh=>exact nomatch h2.flat r2
  | bl _=>exact nomatch h2.flat r2
  | int _=>exact nomatch h2.flat r2
  | str _=>exact nomatch h2.flat r2
 | .zh,u,d,e,x,h1,h2,r1,r2=>by
  have q:=h1.flat r1;subst q;cases u with
  | zU=>obtain⟨_,_,q,g⟩:=h2.qo p r2;cases q
  | zh=>rfl
  | tup us=>obtain⟨_,_,_,q,_⟩:=h2.yQ r2;cases q
  | lst us=>obtain⟨_,_,_,q,_⟩:=h2.yS p r2;cases q
  | bl _=>exact nomatch h2.flat r2
  | int _=>exact nomatch h2.flat r2
  | str _=>exact nomatch h2.flat r2
 | .bl b,u,d,e,x,h1,h2,r1,r2=>by
  have q:=h1.flat r1;subst q;cases u with
  | zU=>obtain⟨_,_,q,g⟩:=h2.qo p r2;cases q
  | bl _=>have q:=h2.flat r2;cases q;rfl
  | tup us=>obtain⟨_,_,_,q,_⟩:=h2.yQ r2;cases q
  | lst us=>obtain⟨_,_,_,q,_⟩:=h2.yS p r2;cases q
  | zh=>exact nomatch h2.flat r2
  | int _=>exact nomatch h2.flat r2
  | str _=>exact nomatch h2.flat r2
 | .int b,u,d,e,x,h1,h2,r1,r2=>by
  have q:=h1.flat r1;subst q;cases u with
  | zU=>obtain⟨_,_,q,g⟩:=h2.qo p r2;cases q
  | int _=>have q:=h2.flat r2;cases q;rfl
  | tup us=>obtain⟨_,_,_,q,_⟩:=h2.yQ r2;cases q
  | lst us=>obtain⟨_,_,_,q,_⟩:=h2.yS p r2;cases q
  | zh=>exact nomatch h2.flat r2
  | bl _=>exact nomatch h2.flat r2
  | str _=>exact nomatch h2.flat r2
 | .str b,u,d,e,x,h1,h2,r1,r2=>by
  have q:=h1.flat r1;subst q;cases u with
  | zU=>obtain⟨_,_,q,g⟩:=h2.qo p r2;cases q
  | str _=>have q:=h2.flat r2;cases q;rfl
  | tup us=>obtain⟨_,_,_,q,_⟩:=h2.yQ r2;cases q
  | lst us=>obtain⟨_,_,_,q,_⟩:=h2.yS p r2;cases q
  | zh=>exact nomatch h2.flat r2
  | bl _=>exact nomatch h2.flat r2
  | int _=>exact nomatch h2.flat r2
 | .zU,u,d,e,x,h1,h2,r1,r2=>by
  obtain⟨a,vs,rfl,g⟩:=h1.qo p r1;cases u with
  | zU=>rfl
  | tup us=>obtain⟨_,_,_,q,g1,_⟩:=h2.yQ r2;cases q;exact (bF I g1 g).elim
  | lst us=>obtain⟨_,_,_,q,g1,_⟩:=h2.yS p r2;cases q;exact (bH I g1 g).elim
  | zh=>exact nomatch h2.flat r2
  | bl _=>exact nomatch h2.flat r2
  | int _=>exact nomatch h2.flat r2
  | str _=>exact nomatch h2.flat r2
theorem jb (I:Inv X pins σ H s) (p:zR X.K H S):∀ (ts us:List T) {ds es:List D}{xs:List V},zj S ts ds->zj S us es->zq X.K H ds xs->zq X.K H es xs->ts=us
 | [],us,ds,es,xs,h1,h2,r1,r2=>by
  have e:=h1.length.trans (r1.length.trans (r2.length.symm.trans h2.length.symm));cases us with
  | nil=>rfl
  | cons _ _=>simp at e
 | t::ts,[],ds,es,xs,h1,h2,r1,r2=>by
  have e:=h1.length.trans (r1.length.trans (r2.length.symm.trans h2.length.symm));simp at e
 | t::ts,u::us,ds,es,xs,h1,h2,r1,r2=>by
  simp only[zj] at h1 h2;obtain⟨c,cs,rfl,a1,a2⟩:=h1;obtain⟨c',cs',rfl,b1,b2⟩:=h2;simp only[zq] at r1 r2;obtain⟨y,ys,rfl,g1,g2⟩:=r1;obtain⟨y',ys',q,k1,k2⟩:=r2;cases q;rw[mG I p t u a1 b1 g1 k1,jb I p ts us a2 b2 g2 k2]
end
theorem zj.get {ts:List T}{ds:List D}(h:zj S ts ds):∀ {j:Nat},j<ts.length->∃ c,ds[j]?=some c/\Sn S (ts.getD j .zh) c:=by
 induction ts generalizing ds with
 | nil=>intro j hj;simp at hj
 | cons t ts ih=>
  intro j hj;simp only[zj] at h;obtain⟨c,cs,rfl,h1,h2⟩:=h;cases j with
  | zero=>exact⟨c,rfl,h1⟩
  | succ j=>
   obtain⟨c',e,h3⟩:=ih h2 (j:=j) (by simpa using hj);exact⟨c',by simpa using e,by simpa using h3⟩
theorem aD:∀ {ts:List T}{j:Nat},j<ts.length->dep (ts.getD j .zh)<=yF ts
 | [],j,h=>by simp at h
 | t::ts,0,_=>by simp only[yF,List.getD_cons_zero];omega
 | t::ts,j+1,h=>by
  have:=aD (ts:=ts) (j:=j) (by simpa using h);simp only[yF,List.getD_cons_succ];omega
mutual
theorem ao (I:Inv X pins σ H s) (p:zR X.K H S):∀ (t u:T) {A:Around}{d e:D}{x y:V}{a b:Value},A.units+dep t<cLine->A.units+dep u<cLine->Sn S t d->Sn S u e->ze X.K H d x->ze X.K H e y->RelV x a->RelV y b->SeqAt.EqAt A s a b (eqT t u)
 | .zh,u,A,d,e,x,y,a,b,hu,hu',h1,h2,r1,r2,v1,v2=>by
  have q:=h1.flat r1;subst q;cases v1;cases u with
  | zU=>simp only[dep] at hu';omega
  | zh=>have q:=h2.flat r2;subst q;cases v2;simp only[eqT];exact SeqAt.EqAt.same _
  | bl b=>have q:=h2.flat r2;subst q;cases v2;simp only[eqT];exact SeqAt.EqAt.none_bool _
  | int i=>have q:=h2.flat r2;subst q;obtain⟨t,rfl⟩:=v2;simp only[eqT];exact SeqAt.EqAt.none_int _ _
  | str i=>have q:=h2.flat r2;subst q;obtain⟨t,rfl⟩:=v2;simp only[eqT];exact SeqAt.EqAt.none_str _ _
  | tup us=>obtain⟨a',xs',ds',rfl,k1,k2,k3⟩:=h2.yQ r2;cases v2;obtain⟨_,_,pt,_⟩:=I.tuple k1;simp only[eqT];exact SeqAt.EqAt.none_tuple pt (by omega)
  | lst us=>obtain⟨a',xs',ds',rfl,k1,k2,k3⟩:=h2.yS p r2;cases v2;obtain⟨_,_,pl,_⟩:=I.list k1;simp only[eqT];exact SeqAt.EqAt.none_list pl.isList (by omega)
 | .bl c,u,A,d,e,x,y,a,b,hu,hu',h1,h2,r1,r2,v1,v2=>by
  have q:=h1.flat r1;subst q;cases v1;cases u with
  | zU=>simp only[dep] at hu';omega
  | zh=>have q:=h2.flat r2;subst q;cases v2;simp only[eqT];exact SeqAt.EqAt.bool_none _
  | bl b=>have q:=h2.flat r2;subst q;cases v2;simp only[eqT];exact SeqAt.EqAt.bool_bool _ _
  | int i=>have q:=h2.flat r2;subst q;obtain⟨t,rfl⟩:=v2;simp only[eqT];exact SeqAt.EqAt.bool_int _ _ _
  | str i=>have q:=h2.flat r2;subst q;obtain⟨t,rfl⟩:=v2;simp only[eqT];exact SeqAt.EqAt.bool_str _ _ _
  | tup us=>obtain⟨a',xs',ds',rfl,k1,k2,k3⟩:=h2.yQ r2;cases v2;obtain⟨_,_,pt,_⟩:=I.tuple k1;simp only[eqT];exact SeqAt.EqAt.bool_tuple _ pt (by omega)
  | lst us=>obtain⟨a',xs',ds',rfl,k1,k2,k3⟩:=h2.yS p r2;cases v2;obtain⟨_,_,pl,_⟩:=I.list k1;simp only[eqT];exact SeqAt.EqAt.bool_list _ pl.isList (by omega)
 | .int c,u,A,d,e,x,y,a,b,hu,hu',h1,h2,r1,r2,v1,v2=>by
  have q:=h1.flat r1;subst q;obtain⟨tk,rfl⟩:=v1;cases u with
  | zU=>simp only[dep] at hu';omega
  | zh=>have q:=h2.flat r2;subst q;cases v2;simp only[eqT];exact SeqAt.EqAt.int_none _ _
  | bl b=>have q:=h2.flat r2;subst q;cases v2;simp only[eqT];exact SeqAt.EqAt.int_bool _ _ _
  | int i=>have q:=h2.flat r2;subst q;obtain⟨t,rfl⟩:=v2;simp only[eqT];exact SeqAt.EqAt.int_int _ _ _ _
  | str i=>have q:=h2.flat r2;subst q;obtain⟨t,rfl⟩:=v2;simp only[eqT];exact SeqAt.EqAt.int_str _ _ _ _
  | tup us=>obtain⟨a',xs',ds',rfl,k1,k2,k3⟩:=h2.yQ r2;cases v2;obtain⟨_,_,pt,_⟩:=I.tuple k1;simp only[eqT];exact SeqAt.EqAt.int_tuple _ _ pt (by omega)
  | lst us=>obtain⟨a',xs',ds',rfl,k1,k2,k3⟩:=h2.yS p r2;cases v2;obtain⟨_,_,pl,_⟩:=I.list k1;simp only[eqT];exact SeqAt.EqAt.int_list _ _ pl.isList (by omega)
 | .str c,u,A,d,e,x,y,a,b,hu,hu',h1,h2,r1,r2,v1,v2=>by
  have q:=h1.flat r1;subst q;obtain⟨tk,rfl⟩:=v1;cases u with
  | zU=>simp only[dep] at hu';omega
  | zh=>have q:=h2.flat r2;subst q;cases v2;simp only[eqT];exact SeqAt.EqAt.str_none _ _
  | bl b=>have q:=h2.flat r2;subst q;cases v2;simp only[eqT];exact SeqAt.EqAt.str_bool _ _ _
  | int i=>have q:=h2.flat r2;subst q;obtain⟨t,rfl⟩:=v2;simp only[eqT];exact SeqAt.EqAt.str_int _ _ _ _
  | str i=>have q:=h2.flat r2;subst q;obtain⟨t,rfl⟩:=v2;simp only[eqT];exact SeqAt.EqAt.str_str _ _ _ _
  | tup us=>obtain⟨a',xs',ds',rfl,k1,k2,k3⟩:=h2.yQ r2;cases v2;obtain⟨_,_,pt,_⟩:=I.tuple k1;simp only[eqT];exact SeqAt.EqAt.str_tuple _ _ pt (by omega)
  | lst us=>obtain⟨a',xs',ds',rfl,k1,k2,k3⟩:=h2.yS p r2;cases v2;obtain⟨_,_,pl,_⟩:=I.list k1;simp only[eqT];exact SeqAt.EqAt.str_list _ _ pl.isList (by omega)
 | .tup ts,u,A,d,e,x,y,a,b,hu,hu',h1,h2,r1,r2,v1,v2=>by
  have hd1:=h1;have hr1:=r1;obtain⟨l,xs,ds,rfl,g1,g2,g3⟩:=h1.yQ r1;cases v1;obtain⟨its,w1,pt,_⟩:=I.tuple g1;simp only[dep] at hu;cases u with
  | zU=>simp only[dep] at hu';omega
  | zh=>have q:=h2.flat r2;subst q;cases v2;simp only[eqT];exact SeqAt.EqAt.tuple_none pt (by omega)
  | bl b=>have q:=h2.flat r2;subst q;cases v2;simp only[eqT];exact SeqAt.EqAt.tuple_bool _ pt (by omega)
  | int i=>have q:=h2.flat r2;subst q;obtain⟨t,rfl⟩:=v2;simp only[eqT];exact SeqAt.EqAt.tuple_int _ _ pt (by omega)
  | str i=>have q:=h2.flat r2;subst q;obtain⟨t,rfl⟩:=v2;simp only[eqT];exact SeqAt.EqAt.tuple_str _ _ pt (by omega)
  | tup us=>
   by_cases hlb:(Value.ref l)=b
   .subst hlb;have hy:y=.ref l:=RelV.inj v2 rfl;subst hy;have:=mG I p (.tup ts) (.tup us) hd1 h2 hr1 r2;rw[<- this,gH];exact SeqAt.EqAt.same _
   .obtain⟨l',xs',ds',rfl,k1,k2,k3⟩:=h2.yQ r2;cases v2;obtain⟨its',w2,pt',_⟩:=I.tuple k1;simp only[dep] at hu';have e1:its.toArray.size=ts.length:=by rw[List.size_toArray,<- w1.length,<- g2.length,<- g3.length]
    have e2:its'.toArray.size=us.length:=by rw[List.size_toArray,<- w2.length,<- k2.length,<- k3.length]
    have q:=SeqAt.RcAt.tuples (A:=A) (e:=λ j=>eqT (ts.getD j .zh) (us.getD j .zh)) pt pt' (by omega) λ j h1 h2=>by
     have:=ql I p ts us (A:=A.in1) (by show A.units+1+yF ts<cLine;omega) (by show A.units+1+yF us<cLine;omega) g3 k3 g2 k2 w1 w2 j (by simpa using h1) (by simpa using h2);simpa using this
    rw[e1,e2] at q;have q':=SeqAt.EqAt.of_refs (λ z=>hlb (by rw[z])) q;simp only[eqT,tm];exact q'
  | lst us=>obtain⟨l',xs',ds',rfl,k1,k2,k3⟩:=h2.yS p r2;cases v2;obtain⟨_,_,pl,_⟩:=I.list k1;simp only[eqT];exact SeqAt.EqAt.tuple_list pt pl.isList (by omega)
 | .lst ts,u,A,d,e,x,y,a,b,hu,hu',h1,h2,r1,r2,v1,v2=>by
  have hd1:=h1;have hr1:=r1;obtain⟨l,xs,ds,rfl,g1,g2,g3⟩:=h1.yS p r1;cases v1;obtain⟨its,w1,pl,_⟩:=I.list g1;simp only[dep] at hu;cases u with
  | zU=>simp only[dep] at hu';omega
  | zh=>have q:=h2.flat r2;subst q;cases v2;simp only[eqT];exact SeqAt.EqAt.list_none pl.isList (by omega)
  | bl b=>have q:=h2.flat r2;subst q;cases v2;simp only[eqT];exact SeqAt.EqAt.list_bool _ pl.isList (by omega)
  | int i=>have q:=h2.flat r2;subst q;obtain⟨t,rfl⟩:=v2;simp only[eqT];exact SeqAt.EqAt.list_int _ _ pl.isList (by omega)
  | str i=>have q:=h2.flat r2;subst q;obtain⟨t,rfl⟩:=v2;simp only[eqT];exact SeqAt.EqAt.list_str _ _ pl.isList (by omega)
  | tup us=>obtain⟨l',xs',ds',rfl,k1,k2,k3⟩:=h2.yQ r2;cases v2;obtain⟨_,_,pt,_⟩:=I.tuple k1;simp only[eqT];exact SeqAt.EqAt.list_tuple pl.isList pt (by omega)
  | lst us=>
   by_cases hlb:(Value.ref l)=b
   .subst hlb;have hy:y=.ref l:=RelV.inj v2 rfl;subst hy;have:=mG I p (.lst ts) (.lst us) hd1 h2 hr1 r2;rw[<- this,gH];exact SeqAt.EqAt.same _
   .obtain⟨l',xs',ds',rfl,k1,k2,k3⟩:=h2.yS p r2;cases v2;obtain⟨its',w2,pl',_⟩:=I.list k1;simp only[dep] at hu';have e1:its.toArray.size=ts.length:=by rw[List.size_toArray,<- w1.length,<- g2.length,<- g3.length]
    have e2:its'.toArray.size=us.length:=by rw[List.size_toArray,<- w2.length,<- k2.length,<- k3.length]
    have hne:l≠l':=λ z=>hlb (by rw[z]);by_cases hsz:ts.length=us.length
    .have q:=SeqAt.RcAt.lists (A:=A) (e:=λ j=>eqT (ts.getD j .zh) (us.getD j .zh)) pl.isList pl'.isList (by rw[e1,e2];exact hsz) (by omega) λ j h1 h2=>by
      have:=ql I p ts us (A:=A.in1) (by show A.units+1+yF ts<cLine;omega) (by show A.units+1+yF us<cLine;omega) g3 k3 g2 k2 w1 w2 j (by simpa using h1) (by simpa using h2);simpa using this
     rw[e1] at q;have q':=SeqAt.EqAt.of_refs hne q;simp only[eqT,tm];rw[<- hsz,Nat.min_self];simpa using q'
    .have q:=SeqAt.RcAt.lists_lengths (A:=A) pl.isList pl'.isList (by rw[e1,e2];simpa using hsz) (by omega);have q':=SeqAt.EqAt.of_refs hne q;simp only[eqT,tm];have:(ts.length == us.length)=false:=by simpa using hsz
     rw[this,Bool.and_false];exact q'
 | .zU,u,A,d,e,x,y,a,b,hu,hu',h1,h2,r1,r2,v1,v2=>by simp only[dep] at hu;omega
theorem ql (I:Inv X pins σ H s) (p:zR X.K H S):∀ (ts us:List T) {A:Around}{ds es:List D}{xs ys:List V}{its its':List Value},A.units+yF ts<cLine->A.units+yF us<cLine->zj S ts ds->zj S us es->zq X.K H ds xs->zq X.K H es ys->Vals xs its->Vals ys its'->
  ∀ (j:Nat) (h1:j<its.length) (h2:j<its'.length),SeqAt.EqAt A s its[j] its'[j] (eqT (ts.getD j .zh) (us.getD j .zh))
 | [],us,A,ds,es,xs,ys,its,its',hu,hu',s1,s2,r1,r2,v1,v2,j,h1,h2=>by
  rw[<- v1.length,<- r1.length,<- s1.length] at h1;simp at h1
 | t::ts,[],A,ds,es,xs,ys,its,its',hu,hu',s1,s2,r1,r2,v1,v2,j,h1,h2=>by
  rw[<- v2.length,<- r2.length,<- s2.length] at h2;simp at h2
 | t::ts,u::us,A,ds,es,xs,ys,its,its',hu,hu',s1,s2,r1,r2,v1,v2,j,h1,h2=>by
  simp only[zj] at s1 s2;obtain⟨c,cs,rfl,a1,a2⟩:=s1;obtain⟨c',cs',rfl,b1,b2⟩:=s2;simp only[zq] at r1 r2;obtain⟨y,ys,rfl,g1,g2⟩:=r1;obtain⟨y',ys',rfl,k1,k2⟩:=r2;cases v1 with
  | cons m1 m2=>
   cases v2 with
   | cons n1 n2=>
    simp only[yF] at hu hu';cases j with
    | zero=>simpa using ao I p t u (A:=A) (by omega) (by omega) a1 b1 g1 k1 m1 n1
    | succ j=>simpa using ql I p ts us (A:=A) (by omega) (by omega) a2 b2 g2 k2 m2 n2 j (by simpa using h1) (by simpa using h2)
end
end
end L3
namespace L3
open PySem PySem.Spec L2
open PyProof.Rows hiding St
section
variable {X:Cx}{pins:List (Addr×Obj)}{σ:St}{H:Hp}{s:Shared}{S:SS}
theorem Wj (I:Inv X pins σ H s) (p:zR X.K H S):∀ (t u:T) {A:Around}{d e:D}{x y:V}{a b:Value},A.units+dep t<cLine->A.units+dep u<cLine->Sn S t d->Sn S u e->ze X.K H d x->ze X.K H e y->RelV x a->RelV y b->SeqAt.RcAt A s a b (eqT t u)
 | .zh,u,A,d,e,x,y,a,b,hu,hu',h1,h2,r1,r2,v1,v2=>by
  have q:=h1.flat r1;subst q;cases v1;cases u with
  | zU=>simp only[dep] at hu';omega
  | zh=>have q:=h2.flat r2;subst q;cases v2;simp only[eqT];exact SeqAt.RcAt.none_none
  | bl c2=>have q:=h2.flat r2;subst q;cases v2;simp only[eqT];exact SeqAt.RcAt.none_bool _
  | int c2=>have q:=h2.flat r2;subst q;obtain⟨tk2,rfl⟩:=v2;simp only[eqT];exact SeqAt.RcAt.none_int _ _
  | str c2=>have q:=h2.flat r2;subst q;obtain⟨tk2,rfl⟩:=v2;simp only[eqT];exact SeqAt.RcAt.none_str _ _
  | tup c2=>obtain⟨l',xs',ds',rfl,k1,k2,k3⟩:=h2.yQ r2;cases v2;obtain⟨its',w2,pt',_⟩:=I.tuple k1;simp only[dep] at hu';simp only[eqT];exact SeqAt.RcAt.none_tuple pt' (by omega)
  | lst c2=>obtain⟨l',xs',ds',rfl,k1,k2,k3⟩:=h2.yS p r2;cases v2;obtain⟨its',w2,pl',_⟩:=I.list k1;simp only[dep] at hu';simp only[eqT];exact SeqAt.RcAt.none_list pl'.isList (by omega)
 | .bl c,u,A,d,e,x,y,a,b,hu,hu',h1,h2,r1,r2,v1,v2=>by
  have q:=h1.flat r1;subst q;cases v1;cases u with
  | zU=>simp only[dep] at hu';omega
  | zh=>have q:=h2.flat r2;subst q;cases v2;simp only[eqT];exact SeqAt.RcAt.bool_none _
  | bl c2=>have q:=h2.flat r2;subst q;cases v2;simp only[eqT];exact SeqAt.RcAt.bool_bool _ _
  | int c2=>have q:=h2.flat r2;subst q;obtain⟨tk2,rfl⟩:=v2;simp only[eqT];exact SeqAt.RcAt.bool_int _ _ _
  | str c2=>have q:=h2.flat r2;subst q;obtain⟨tk2,rfl⟩:=v2;simp only[eqT];exact SeqAt.RcAt.bool_str _ _ _
  | tup c2=>obtain⟨l',xs',ds',rfl,k1,k2,k3⟩:=h2.yQ r2;cases v2;obtain⟨its',w2,pt',_⟩:=I.tuple k1;simp only[dep] at hu';simp only[eqT];exact SeqAt.RcAt.bool_tuple _ pt' (by omega)
  | lst c2=>obtain⟨l',xs',ds',rfl,k1,k2,k3⟩:=h2.yS p r2;cases v2;obtain⟨its',w2,pl',_⟩:=I.list k1;simp only[dep] at hu';simp only[eqT];exact SeqAt.RcAt.bool_list _ pl'.isList (by omega)
 | .int c,u,A,d,e,x,y,a,b,hu,hu',h1,h2,r1,r2,v1,v2=>by
  have q:=h1.flat r1;subst q;obtain⟨tk,rfl⟩:=v1;cases u with
  | zU=>simp only[dep] at hu';omega
  | zh=>have q:=h2.flat r2;subst q;cases v2;simp only[eqT];exact SeqAt.RcAt.int_none _ _
  | bl c2=>have q:=h2.flat r2;subst q;cases v2;simp only[eqT];exact SeqAt.RcAt.int_bool _ _ _
  | int c2=>have q:=h2.flat r2;subst q;obtain⟨tk2,rfl⟩:=v2;simp only[eqT];exact SeqAt.RcAt.int_int _ _ _ _
  | str c2=>have q:=h2.flat r2;subst q;obtain⟨tk2,rfl⟩:=v2;simp only[eqT];exact SeqAt.RcAt.int_str _ _ _ _
  | tup c2=>obtain⟨l',xs',ds',rfl,k1,k2,k3⟩:=h2.yQ r2;cases v2;obtain⟨its',w2,pt',_⟩:=I.tuple k1;simp only[dep] at hu';simp only[eqT];exact SeqAt.RcAt.int_tuple _ _ pt' (by omega)
  | lst c2=>obtain⟨l',xs',ds',rfl,k1,k2,k3⟩:=h2.yS p r2;cases v2;obtain⟨its',w2,pl',_⟩:=I.list k1;simp only[dep] at hu';simp only[eqT];exact SeqAt.RcAt.int_list _ _ pl'.isList (by omega)
 | .str c,u,A,d,e,x,y,a,b,hu,hu',h1,h2,r1,r2,v1,v2=>by
  have q:=h1.flat r1;subst q;obtain⟨tk,rfl⟩:=v1;cases u with
  | zU=>simp only[dep] at hu';omega
  | zh=>have q:=h2.flat r2;subst q;cases v2;simp only[eqT];exact SeqAt.RcAt.str_none _ _
  | bl c2=>have q:=h2.flat r2;subst q;cases v2;simp only[eqT];exact SeqAt.RcAt.str_bool _ _ _
  | int c2=>have q:=h2.flat r2;subst q;obtain⟨tk2,rfl⟩:=v2;simp only[eqT];exact SeqAt.RcAt.str_int _ _ _ _
  | str c2=>have q:=h2.flat r2;subst q;obtain⟨tk2,rfl⟩:=v2;simp only[eqT];exact SeqAt.RcAt.str_str _ _ _ _
  | tup c2=>obtain⟨l',xs',ds',rfl,k1,k2,k3⟩:=h2.yQ r2;cases v2;obtain⟨its',w2,pt',_⟩:=I.tuple k1;simp only[dep] at hu';simp only[eqT];exact SeqAt.RcAt.str_tuple _ _ pt' (by omega)
  | lst c2=>obtain⟨l',xs',ds',rfl,k1,k2,k3⟩:=h2.yS p r2;cases v2;obtain⟨its',w2,pl',_⟩:=I.list k1;simp only[dep] at hu';simp only[eqT];exact SeqAt.RcAt.str_list _ _ pl'.isList (by omega)
 | .tup c,u,A,d,e,x,y,a,b,hu,hu',h1,h2,r1,r2,v1,v2=>by
  obtain⟨l,xs,ds,rfl,g1,g2,g3⟩:=h1.yQ r1;cases v1;obtain⟨its,w1,pt,_⟩:=I.tuple g1;simp only[dep] at hu;cases u with
  | zU=>simp only[dep] at hu';omega
  | zh=>have q:=h2.flat r2;subst q;cases v2;simp only[eqT];exact SeqAt.RcAt.tuple_none pt (by omega)
  | bl c2=>have q:=h2.flat r2;subst q;cases v2;simp only[eqT];exact SeqAt.RcAt.tuple_bool _ pt (by omega)
  | int c2=>have q:=h2.flat r2;subst q;obtain⟨tk2,rfl⟩:=v2;simp only[eqT];exact SeqAt.RcAt.tuple_int _ _ pt (by omega)
  | str c2=>have q:=h2.flat r2;subst q;obtain⟨tk2,rfl⟩:=v2;simp only[eqT];exact SeqAt.RcAt.tuple_str _ _ pt (by omega)
  | tup c2=>
   obtain⟨l',xs',ds',rfl,k1,k2,k3⟩:=h2.yQ r2;cases v2;obtain⟨its',w2,pt',_⟩:=I.tuple k1;simp only[dep] at hu';have e1:its.toArray.size=c.length:=by rw[List.size_toArray,<- w1.length,<- g2.length,<- g3.length]
   have e2:its'.toArray.size=c2.length:=by rw[List.size_toArray,<- w2.length,<- k2.length,<- k3.length]
   have q:=SeqAt.RcAt.tuples (A:=A) (e:=λ j=>eqT (c.getD j .zh) (c2.getD j .zh)) pt pt' (by omega) λ j h1 h2=>by
    have:=ql I p c c2 (A:=A.in1) (by show A.units+1+yF c<cLine;omega) (by show A.units+1+yF c2<cLine;omega) g3 k3 g2 k2 w1 w2 j (by simpa using h1) (by simpa using h2);simpa using this
   rw[e1,e2] at q;simp only[eqT,tm];exact q
  | lst c2=>obtain⟨l',xs',ds',rfl,k1,k2,k3⟩:=h2.yS p r2;cases v2;obtain⟨its',w2,pl',_⟩:=I.list k1;simp only[dep] at hu';simp only[eqT];exact SeqAt.RcAt.tuple_list pt pl'.isList (by omega)
 | .lst c,u,A,d,e,x,y,a,b,hu,hu',h1,h2,r1,r2,v1,v2=>by
  obtain⟨l,xs,ds,rfl,g1,g2,g3⟩:=h1.yS p r1;cases v1;obtain⟨its,w1,pl,_⟩:=I.list g1;simp only[dep] at hu;cases u with
  | zU=>simp only[dep] at hu';omega
  | zh=>have q:=h2.flat r2;subst q;cases v2;simp only[eqT];exact SeqAt.RcAt.list_none pl.isList (by omega)
  | bl c2=>have q:=h2.flat r2;subst q;cases v2;simp only[eqT];exact SeqAt.RcAt.list_bool _ pl.isList (by omega)
  | int c2=>have q:=h2.flat r2;subst q;obtain⟨tk2,rfl⟩:=v2;simp only[eqT];exact SeqAt.RcAt.list_int _ _ pl.isList (by omega)
  | str c2=>have q:=h2.flat r2;subst q;obtain⟨tk2,rfl⟩:=v2;simp only[eqT];exact SeqAt.RcAt.list_str _ _ pl.isList (by omega)
  | tup c2=>obtain⟨l',xs',ds',rfl,k1,k2,k3⟩:=h2.yQ r2;cases v2;obtain⟨its',w2,pt',_⟩:=I.tuple k1;simp only[dep] at hu';simp only[eqT];exact SeqAt.RcAt.list_tuple pl.isList pt' (by omega)
  | lst c2=>
   obtain⟨l',xs',ds',rfl,k1,k2,k3⟩:=h2.yS p r2;cases v2;obtain⟨its',w2,pl',_⟩:=I.list k1;simp only[dep] at hu';have e1:its.toArray.size=c.length:=by rw[List.size_toArray,<- w1.length,<- g2.length,<- g3.length]
   have e2:its'.toArray.size=c2.length:=by rw[List.size_toArray,<- w2.length,<- k2.length,<- k3.length]
   by_cases hsz:c.length=c2.length
   .have q:=SeqAt.RcAt.lists (A:=A) (e:=λ j=>eqT (c.getD j .zh) (c2.getD j .zh)) pl.isList pl'.isList (by rw[e1,e2];exact hsz) (by omega) λ j h1 h2=>by
     have:=ql I p c c2 (A:=A.in1) (by show A.units+1+yF c<cLine;omega) (by show A.units+1+yF c2<cLine;omega) g3 k3 g2 k2 w1 w2 j (by simpa using h1) (by simpa using h2);simpa using this
    rw[e1] at q;simp only[eqT,tm];rw[<- hsz,Nat.min_self];simpa using q
   .have q:=SeqAt.RcAt.lists_lengths (A:=A) pl.isList pl'.isList (by rw[e1,e2];simpa using hsz) (by omega);simp only[eqT,tm];have z:(c.length == c2.length)=false:=by simpa using hsz
    rw[z,Bool.and_false];exact q
 | .zU,u,A,d,e,x,y,a,b,hu,hu',h1,h2,r1,r2,v1,v2=>by simp only[dep] at hu;omega
theorem Wh (I:Inv X pins σ H s) (p:zR X.K H S):∀ (t u:T) {A:Around}{d e:D}{x y:V}{a b:Value},A.units+dep t<cLine->A.units+dep u<cLine->Sn S t d->Sn S u e->ze X.K H d x->ze X.K H e y->RelV x a->RelV y b->SeqAt.RcNeAt A s a b (!eqT t u)
 | .zh,u,A,d,e,x,y,a,b,hu,hu',h1,h2,r1,r2,v1,v2=>by
  have q:=h1.flat r1;subst q;cases v1;cases u with
  | zU=>simp only[dep] at hu';omega
  | zh=>have q:=h2.flat r2;subst q;cases v2;simp only[eqT,Bool.not_false,Bool.not_true];exact SeqAt.RcNeAt.none_none
  | bl c2=>have q:=h2.flat r2;subst q;cases v2;simp only[eqT,Bool.not_false,Bool.not_true];exact SeqAt.RcNeAt.none_bool _
  | int c2=>have q:=h2.flat r2;subst q;obtain⟨tk2,rfl⟩:=v2;simp only[eqT,Bool.not_false,Bool.not_true];exact SeqAt.RcNeAt.none_int _ _
  | str c2=>have q:=h2.flat r2;subst q;obtain⟨tk2,rfl⟩:=v2;simp only[eqT,Bool.not_false,Bool.not_true];exact SeqAt.RcNeAt.none_str _ _
  | tup c2=>obtain⟨l',xs',ds',rfl,k1,k2,k3⟩:=h2.yQ r2;cases v2;obtain⟨its',w2,pt',_⟩:=I.tuple k1;simp only[dep] at hu';simp only[eqT,Bool.not_false,Bool.not_true];exact SeqAt.RcNeAt.none_tuple pt' (by omega)
  | lst c2=>obtain⟨l',xs',ds',rfl,k1,k2,k3⟩:=h2.yS p r2;cases v2;obtain⟨its',w2,pl',_⟩:=I.list k1;simp only[dep] at hu';simp only[eqT,Bool.not_false,Bool.not_true];exact SeqAt.RcNeAt.none_list pl'.isList (by omega)
 | .bl c,u,A,d,e,x,y,a,b,hu,hu',h1,h2,r1,r2,v1,v2=>by
  have q:=h1.flat r1;subst q;cases v1;cases u with
  | zU=>simp only[dep] at hu';omega
  | zh=>have q:=h2.flat r2;subst q;cases v2;simp only[eqT,Bool.not_false,Bool.not_true];exact SeqAt.RcNeAt.bool_none _
  | bl c2=>have q:=h2.flat r2;subst q;cases v2;simp only[eqT];exact SeqAt.RcNeAt.bool_bool _ _
  | int c2=>have q:=h2.flat r2;subst q;obtain⟨tk2,rfl⟩:=v2;simp only[eqT];exact SeqAt.RcNeAt.bool_int _ _ _
  | str c2=>have q:=h2.flat r2;subst q;obtain⟨tk2,rfl⟩:=v2;simp only[eqT,Bool.not_false,Bool.not_true];exact SeqAt.RcNeAt.bool_str _ _ _
  | tup c2=>obtain⟨l',xs',ds',rfl,k1,k2,k3⟩:=h2.yQ r2;cases v2;obtain⟨its',w2,pt',_⟩:=I.tuple k1;simp only[dep] at hu';simp only[eqT,Bool.not_false,Bool.not_true];exact SeqAt.RcNeAt.bool_tuple _ pt' (by omega)
  | lst c2=>obtain⟨l',xs',ds',rfl,k1,k2,k3⟩:=h2.yS p r2;cases v2;obtain⟨its',w2,pl',_⟩:=I.list k1;simp only[dep] at hu';simp only[eqT,Bool.not_false,Bool.not_true];exact SeqAt.RcNeAt.bool_list _ pl'.isList (by omega)
 | .int c,u,A,d,e,x,y,a,b,hu,hu',h1,h2,r1,r2,v1,v2=>by
  have q:=h1.flat r1;subst q;obtain⟨tk,rfl⟩:=v1;cases u with
  | zU=>simp only[dep] at hu';omega
  | zh=>have q:=h2.flat r2;subst q;cases v2;simp only[eqT,Bool.not_false,Bool.not_true];exact SeqAt.RcNeAt.int_none _ _
  | bl c2=>have q:=h2.flat r2;subst q;cases v2;simp only[eqT];exact SeqAt.RcNeAt.int_bool _ _ _
  | int c2=>have q:=h2.flat r2;subst q;obtain⟨tk2,rfl⟩:=v2;simp only[eqT];exact SeqAt.RcNeAt.int_int _ _ _ _
  | str c2=>have q:=h2.flat r2;subst q;obtain⟨tk2,rfl⟩:=v2;simp only[eqT,Bool.not_false,Bool.not_true];exact SeqAt.RcNeAt.int_str _ _ _ _
  | tup c2=>obtain⟨l',xs',ds',rfl,k1,k2,k3⟩:=h2.yQ r2;cases v2;obtain⟨its',w2,pt',_⟩:=I.tuple k1;simp only[dep] at hu';simp only[eqT,Bool.not_false,Bool.not_true];exact SeqAt.RcNeAt.int_tuple _ _ pt' (by omega)
  | lst c2=>obtain⟨l',xs',ds',rfl,k1,k2,k3⟩:=h2.yS p r2;cases v2;obtain⟨its',w2,pl',_⟩:=I.list k1;simp only[dep] at hu';simp only[eqT,Bool.not_false,Bool.not_true];exact SeqAt.RcNeAt.int_list _ _ pl'.isList (by omega)
 | .str c,u,A,d,e,x,y,a,b,hu,hu',h1,h2,r1,r2,v1,v2=>by
  have q:=h1.flat r1;subst q;obtain⟨tk,rfl⟩:=v1;cases u with
  | zU=>simp only[dep] at hu';omega
  | zh=>have q:=h2.flat r2;subst q;cases v2;simp only[eqT,Bool.not_false,Bool.not_true];exact SeqAt.RcNeAt.str_none _ _
  | bl c2=>have q:=h2.flat r2;subst q;cases v2;simp only[eqT,Bool.not_false,Bool.not_true];exact SeqAt.RcNeAt.str_bool _ _ _
  | int c2=>have q:=h2.flat r2;subst q;obtain⟨tk2,rfl⟩:=v2;simp only[eqT,Bool.not_false,Bool.not_true];exact SeqAt.RcNeAt.str_int _ _ _ _
  | str c2=>have q:=h2.flat r2;subst q;obtain⟨tk2,rfl⟩:=v2;simp only[eqT];exact SeqAt.RcNeAt.str_str _ _ _ _
  | tup c2=>obtain⟨l',xs',ds',rfl,k1,k2,k3⟩:=h2.yQ r2;cases v2;obtain⟨its',w2,pt',_⟩:=I.tuple k1;simp only[dep] at hu';simp only[eqT,Bool.not_false,Bool.not_true];exact SeqAt.RcNeAt.str_tuple _ _ pt' (by omega)
  | lst c2=>obtain⟨l',xs',ds',rfl,k1,k2,k3⟩:=h2.yS p r2;cases v2;obtain⟨its',w2,pl',_⟩:=I.list k1;simp only[dep] at hu';simp only[eqT,Bool.not_false,Bool.not_true];exact SeqAt.RcNeAt.str_list _ _ pl'.isList (by omega)
 | .tup c,u,A,d,e,x,y,a,b,hu,hu',h1,h2,r1,r2,v1,v2=>by
  obtain⟨l,xs,ds,rfl,g1,g2,g3⟩:=h1.yQ r1;cases v1;obtain⟨its,w1,pt,_⟩:=I.tuple g1;simp only[dep] at hu;cases u with
  | zU=>simp only[dep] at hu';omega
  | zh=>have q:=h2.flat r2;subst q;cases v2;simp only[eqT,Bool.not_false,Bool.not_true];exact SeqAt.RcNeAt.tuple_none pt (by omega)
  | bl c2=>have q:=h2.flat r2;subst q;cases v2;simp only[eqT,Bool.not_false,Bool.not_true];exact SeqAt.RcNeAt.tuple_bool _ pt (by omega)
  | int c2=>have q:=h2.flat r2;subst q;obtain⟨tk2,rfl⟩:=v2;simp only[eqT,Bool.not_false,Bool.not_true];exact SeqAt.RcNeAt.tuple_int _ _ pt (by omega)
  | str c2=>have q:=h2.flat r2;subst q;obtain⟨tk2,rfl⟩:=v2;simp only[eqT,Bool.not_false,Bool.not_true];exact SeqAt.RcNeAt.tuple_str _ _ pt (by omega)
  | tup c2=>
   obtain⟨l',xs',ds',rfl,k1,k2,k3⟩:=h2.yQ r2;cases v2;obtain⟨its',w2,pt',_⟩:=I.tuple k1;simp only[dep] at hu';have e1:its.toArray.size=c.length:=by rw[List.size_toArray,<- w1.length,<- g2.length,<- g3.length]
   have e2:its'.toArray.size=c2.length:=by rw[List.size_toArray,<- w2.length,<- k2.length,<- k3.length]
   have q:=SeqAt.RcNeAt.tuples (A:=A) (e:=λ j=>eqT (c.getD j .zh) (c2.getD j .zh)) pt pt' (by omega) λ j h1 h2=>by
    have:=ql I p c c2 (A:=A.in1) (by show A.units+1+yF c<cLine;omega) (by show A.units+1+yF c2<cLine;omega) g3 k3 g2 k2 w1 w2 j (by simpa using h1) (by simpa using h2);simpa using this
   rw[e1,e2] at q;simp only[eqT,tm];exact q
  | lst c2=>obtain⟨l',xs',ds',rfl,k1,k2,k3⟩:=h2.yS p r2;cases v2;obtain⟨its',w2,pl',_⟩:=I.list k1;simp only[dep] at hu';simp only[eqT,Bool.not_false,Bool.not_true];exact SeqAt.RcNeAt.tuple_list pt pl'.isList (by omega)
 | .lst c,u,A,d,e,x,y,a,b,hu,hu',h1,h2,r1,r2,v1,v2=>by
  obtain⟨l,xs,ds,rfl,g1,g2,g3⟩:=h1.yS p r1;cases v1;obtain⟨its,w1,pl,_⟩:=I.list g1;simp only[dep] at hu;cases u with
  | zU=>simp only[dep] at hu';omega
  | zh=>have q:=h2.flat r2;subst q;cases v2;simp only[eqT,Bool.not_false,Bool.not_true];exact SeqAt.RcNeAt.list_none pl.isList (by omega)
  | bl c2=>have q:=h2.flat r2;subst q;cases v2;simp only[eqT,Bool.not_false,Bool.not_true];exact SeqAt.RcNeAt.list_bool _ pl.isList (by omega)
  | int c2=>have q:=h2.flat r2;subst q;obtain⟨tk2,rfl⟩:=v2;simp only[eqT,Bool.not_false,Bool.not_true];exact SeqAt.RcNeAt.list_int _ _ pl.isList (by omega)
  | str c2=>have q:=h2.flat r2;subst q;obtain⟨tk2,rfl⟩:=v2;simp only[eqT,Bool.not_false,Bool.not_true];exact SeqAt.RcNeAt.list_str _ _ pl.isList (by omega)
  | tup c2=>obtain⟨l',xs',ds',rfl,k1,k2,k3⟩:=h2.yQ r2;cases v2;obtain⟨its',w2,pt',_⟩:=I.tuple k1;simp only[dep] at hu';simp only[eqT,Bool.not_false,Bool.not_true];exact SeqAt.RcNeAt.list_tuple pl.isList pt' (by omega)
  | lst c2=>
   obtain⟨l',xs',ds',rfl,k1,k2,k3⟩:=h2.yS p r2;cases v2;obtain⟨its',w2,pl',_⟩:=I.list k1;simp only[dep] at hu';have e1:its.toArray.size=c.length:=by rw[List.size_toArray,<- w1.length,<- g2.length,<- g3.length]
   have e2:its'.toArray.size=c2.length:=by rw[List.size_toArray,<- w2.length,<- k2.length,<- k3.length]
   by_cases hsz:c.length=c2.length
   .have q:=SeqAt.RcNeAt.lists (A:=A) (e:=λ j=>eqT (c.getD j .zh) (c2.getD j .zh)) pl.isList pl'.isList (by rw[e1,e2];exact hsz) (by omega) λ j h1 h2=>by
     have:=ql I p c c2 (A:=A.in1) (by show A.units+1+yF c<cLine;omega) (by show A.units+1+yF c2<cLine;omega) g3 k3 g2 k2 w1 w2 j (by simpa using h1) (by simpa using h2);simpa using this
    rw[e1] at q;simp only[eqT,tm];rw[<- hsz,Nat.min_self];simpa using q
   .have q:=SeqAt.RcNeAt.lists_lengths (A:=A) pl.isList pl'.isList (by rw[e1,e2];simpa using hsz) (by omega);simp only[eqT,tm];have z:(c.length == c2.length)=false:=by simpa using hsz
    rw[z,Bool.and_false];exact q
 | .zU,u,A,d,e,x,y,a,b,hu,hu',h1,h2,r1,r2,v1,v2=>by simp only[dep] at hu;omega
end
def jP (K:PySem.W.Frag) (neg:Bool):R2:=λ x y H Q=>∃ S d e t u,ze K H d x/\ze K H e y/\zR K H S/\Sn S t d/\Sn S u e/\dep t<=60/\dep u<=60/\Q (.bl (cond neg (!eqT t u) (eqT t u))) H
def vq (neg:Bool):yP:=λ x y S Q=>∃ t u,Sn S t x/\Sn S u y/\dep t<=60/\dep u<=60/\Q (.bl (cond neg (!eqT t u) (eqT t u))) S
theorem vq.mo {neg:Bool}:xI (vq neg):=λ _ _ _ _ _ hq ⟨t,u,a,b,c,d,h⟩=>⟨t,u,a,b,c,d,hq _ _ h⟩
theorem vq.fits {K:PySem.W.Frag}{neg:Bool}:xC K (vq neg) (jP K neg):=λ x y d e H S Q h1 h2 h3 ⟨t,u,a,b,c,c',h⟩=>⟨S,d,e,t,u,h1,h2,h3,a,b,c,c',h _ H (by simp only[ze]) (.refl H) h3⟩
section
variable {X:Cx}{a b:Expr}{ta tb:zy}{pos:Pos}
theorem cC (hu:X.A.units+64<cLine):yq X (compareOp .Eq) (jP X.K false):=by
 intro pins s σ H x y v u Q I rx ry h;obtain⟨S,d,e,t,u',a1,a2,a3,a4,a5,a6,a7,q⟩:=h;exact Wj I a3 t u' (A:=X.A) (by omega) (by omega) a4 a5 a1 a2 rx ry X.prog X.w X.xe _ ⟨.bl _,H,I,rfl,q⟩
theorem VV (hu:X.A.units+64<cLine):yq X (compareOp .NotEq) (jP X.K true):=by
 intro pins s σ H x y v u Q I rx ry h;obtain⟨S,d,e,t,u',a1,a2,a3,a4,a5,a6,a7,q⟩:=h;exact Wh I a3 t u' (A:=X.A) (by omega) (by omega) a4 a5 a1 a2 rx ry X.prog X.w X.xe _ ⟨.bl _,H,I,rfl,q⟩
theorem VF {k:Nat}(hr:y8 k X.A) (ha:PD X a ta) (hb:PD X b tb):PD X (.Compare a [.Eq] [b] pos) (yx (vq false) ta tb):=c9 (cC hr.units) vq.fits vq.mo ha hb (sQ _)
theorem uU {k:Nat}(hr:y8 k X.A) (ha:PD X a ta) (hb:PD X b tb):xP X (.Compare a [.Eq] [b] pos) (uh (yx (vq false) ta tb)):=rV (cC hr.units) vq.fits vq.mo ha hb (sQ _)
theorem cq {k:Nat}(hr:y8 k X.A) (ha:PD X a ta) (hb:PD X b tb):xP X (.Compare a [.NotEq] [b] pos) (uh (yx (vq true) ta tb)):=rV (VV hr.units) vq.fits vq.mo ha hb (sQ _)
def dJ (K:PySem.W.Frag) (neg:Bool):R2:=λ x y H Q=>∃ S d e u ts ds,ze K H d x/\ze K H e y/\zR K H S/\Sn S u d/\zT e S=some ds/\zj S ts ds/\dep u<=60/\yF ts<=60/\Q (.bl (cond neg (!(ts.any λ t=>eqT t u)) (ts.any λ t=>eqT t u))) H
def rh (neg:Bool):yP:=λ x y S Q=>∃ u ts ds,Sn S u x/\zT y S=some ds/\zj S ts ds/\dep u<=60/\yF ts<=60/\Q (.bl (cond neg (!(ts.any λ t=>eqT t u)) (ts.any λ t=>eqT t u))) S
theorem rh.mo {neg:Bool}:xI (rh neg):=λ _ _ _ _ _ hq ⟨u,ts,ds,a,b,c,d,e,h⟩=>⟨u,ts,ds,a,b,c,d,e,hq _ _ h⟩
theorem rh.fits {K:PySem.W.Frag}{neg:Bool}:xC K (rh neg) (dJ K neg):=λ x y d e H S Q h1 h2 h3 ⟨u,ts,ds,a,b,c,c',c2,h⟩=>⟨S,d,e,u,ts,ds,h1,h2,h3,a,b,c,c',c2,h _ H (by simp only[ze]) (.refl H) h3⟩
open Classical in
noncomputable def t8 (its:List Value) (ts:List T) (u:T) (v:Value):Bool:=if h:∃ j,its[j]?=some v then eqT (ts.getD (Classical.choose h) .zh) u else false
theorem fj {pins:List (Addr×Obj)}{σ:St}{H:Hp}{s:Shared}{S:SS}(I:Inv X pins σ H s) (p:zR X.K H S) {ts:List T}{ds:List D}{xs:List V}{its:List Value}(h1:zj S ts ds) (h2:zq X.K H ds xs) (h3:Vals xs its) (u:T) {j:Nat}{v:Value}(hj:its[j]?=some v):
  t8 its ts u v=eqT (ts.getD j .zh) u:=by
 have h:∃ j,its[j]?=some v:=⟨j,hj⟩
 unfold t8;rw[dif_pos h];have hc:=Classical.choose_spec h;have lt:∀ i,its[i]?=some v->i<ts.length:=λ i hi=>by
  rw[h1.length,h2.length,h3.length];exact (List.getElem?_eq_some_iff.mp hi).1
 obtain⟨c1,e1,s1⟩:=h1.get (lt _ hc);obtain⟨c2,e2,s2⟩:=h1.get (lt _ hj);obtain⟨x1,f1,r1⟩:=h2.get e1;obtain⟨x2,f2,r2⟩:=h2.get e2;obtain⟨v1,g1,q1⟩:=h3.get f1;obtain⟨v2,g2,q2⟩:=h3.get f2;rw[hc] at g1;cases g1;rw[hj] at g2;cases g2;have hx:=q1.inj q2;subst hx;rw[mG I p _ _ s1 s2 r1 r2]
theorem Zs {pins:List (Addr×Obj)}{σ:St}{H:Hp}{s:Shared}{S:SS}(I:Inv X pins σ H s) (p:zR X.K H S) {ts:List T}{ds:List D}{xs:List V}{its:List Value}(h1:zj S ts ds) (h2:zq X.K H ds xs) (h3:Vals xs its) (u:T):its.any (t8 its ts u)=ts.any λ t=>eqT t u:=by
 have hl:ts.length=its.length:=by rw[h1.length,h2.length,h3.length]
 rw[Bool.eq_iff_iff,List.any_eq_true,List.any_eq_true];constructor
 .rintro⟨v,hv,h⟩;obtain⟨j,hj,rfl⟩:=List.mem_iff_getElem.mp hv;rw[fj I p h1 h2 h3 u (j:=j) (by simp[hj])] at h;have hj':j<ts.length:=by omega
  exact⟨ts[j],List.getElem_mem hj',by simpa [hj'] using h⟩
 .rintro⟨t,ht,h⟩;obtain⟨j,hj,rfl⟩:=List.mem_iff_getElem.mp ht;have hj':j<its.length:=by omega
  exact⟨its[j],List.getElem_mem hj',by rw[fj I p h1 h2 h3 u (j:=j) (by simp[hj'])];simpa [hj] using h⟩
theorem Zt {pins:List (Addr×Obj)}{σ:St}{H:Hp}{s:Shared}{S:SS}(I:Inv X pins σ H s) (p:zR X.K H S) {ts:List T}{ds:List D}{xs:List V}{its:List Value}(h1:zj S ts ds) (h2:zq X.K H ds xs) (h3:Vals xs its) {u:T}{d:D}{x:V}{v:Value}(hu:Sn S u d) (hd:ze X.K H d x) (hx:RelV x v) {A:Around}(b1:A.units+yF ts<cLine) (b2:A.units+dep u<cLine) {y:Value}(hy:y∈its):
  SeqAt.EqAt A s y v (t8 its ts u y):=by
 obtain⟨j,hj,rfl⟩:=List.mem_iff_getElem.mp hy;have hjt:j<ts.length:=by rw[h1.length,h2.length,h3.length];exact hj
 rw[fj I p h1 h2 h3 u (j:=j) (by simp[hj])];obtain⟨c1,e1,s1⟩:=h1.get hjt;obtain⟨x1,f1,r1⟩:=h2.get e1;obtain⟨v1,g1,q1⟩:=h3.get f1;have:its[j]=v1:=by
  have:=List.getElem?_eq_some_iff.mp g1;exact this.2
 rw[this];have:=aD hjt;exact ao I p _ u (A:=A) (by omega) b2 s1 hu r1 hd q1 hx
theorem Ue (hu:X.A.units+64<cLine):yq X (compareOp .In) (dJ X.K false):=by
 intro pins s σ H x y v w Q I rx ry h;obtain⟨S,d,e,u,ts,ds,a1,a2,a3,a4,a5,a6,a7,a8,q⟩:=h;obtain⟨l,xs,rfl,g1,g2⟩:=zT.sq a2 a3 a5;cases ry;rcases g1 with g1 | g1
 .obtain⟨its,w1,pl,_⟩:=I.list g1;refine SeqAt.in_listAt (t8 its ts u) pl.isList (λ y hy=>Zt I a3 a6 g2 w1 a4 a1 rx (A:=X.A.in1) (by show X.A.units+1+_<_;omega) (by show X.A.units+1+_<_;omega) (by simpa using hy)) ⟨.bl _,H,I,rfl,?_⟩;rw[show its.toArray.any (t8 its ts u)=its.any (t8 its ts u) by simp,Zs I a3 a6 g2 w1];exact q
 .obtain⟨its,w1,pt,_⟩:=I.tuple g1;refine SeqAt.in_tupleAt (t8 its ts u) pt (λ y hy=>Zt I a3 a6 g2 w1 a4 a1 rx (A:=X.A.in1) (by show X.A.units+1+_<_;omega) (by show X.A.units+1+_<_;omega) (by simpa using hy)) ⟨.bl _,H,I,rfl,?_⟩;rw[show its.toArray.any (t8 its ts u)=its.any (t8 its ts u) by simp,Zs I a3 a6 g2 w1];exact q
theorem Vy {k:Nat}(hr:y8 k X.A) (ha:PD X a ta) (hb:PD X b tb) (hm:behindInMarks .In b=false:=by rfl):xP X (.Compare a [.In] [b] pos) (uh (yx (rh false) ta tb)):=rV (Ue hr.units) rh.fits rh.mo ha hb hm
end
end L3
namespace L2
open PySem PySem.Spec PyProof.Rows
section
variable {κ:Type} [DecidableEq κ]
noncomputable def wz (kvs:List (κ × V)) (k:κ):Option V:=(kvs.find? λ kv=>decide (kv.1=k)).map (·.2)
noncomputable def putK (kvs:List (κ × V)) (k:κ) (v:V):List (κ × V):=
 if (kvs.any λ kv=>decide (kv.1=k))=true then kvs.map (λ kv=>if kv.1=k then (kv.1,v) else kv) else kvs++[(k,v)]
theorem kZ {p:κ × V}{r:List (κ × V)}{k:κ}(e:p.1=k):wz (p::r) k=some p.2:=by simp[wz,List.find?_cons,e]
theorem k_ {p:κ × V}{r:List (κ × V)}{k:κ}(e:¬ p.1=k):wz (p::r) k=wz r k:=by simp[wz,List.find?_cons,e]
theorem eD (k:κ):∀ kvs:List (κ × V),(kvs.any λ kv=>decide (kv.1=k))=(wz kvs k).isSome
 | []=>rfl
 | p::r=>by
  rw[List.any_cons];by_cases e:p.1=k
  .simp only[kZ e,decide_eq_true e,Bool.true_or,Option.isSome_some]
  .rw[k_ e,decide_eq_false e,Bool.false_or];exact eD k r
theorem bh (kvs:List (κ × V)) (k:κ) (v:V):(putK kvs k v).length<=kvs.length+1:=by
 unfold putK;split
 .rw[List.length_map];omega
 .rw[List.length_append,List.length_cons,List.length_nil];omega
theorem um.SG {o:Option V}{u:Option Value}(r:um o u):o.isSome=u.isSome:=by
 cases o with
 | none=>cases u with
  | none=>rfl
  | some _=>exact (show False from r).elim
 | some _=>cases u with
  | none=>exact (show False from r).elim
  | some _=>rfl
theorem um.getD {o:Option V}{u:Option Value}{d:V}{d':Value}(r:um o u) (rd:RelV d d'):RelV (o.getD d) (u.getD d'):=by
 cases o with
 | none=>cases u with
  | none=>exact rd
  | some _=>exact (show False from r).elim
 | some _=>cases u with
  | none=>exact (show False from r).elim
  | some _=>exact r
theorem KV.val {kvs:List (κ × V)}{vs:List (κ × Value)}(r:KV kvs vs) (k:κ):um (wz kvs k) (valueAt vs k):=by
 unfold KV at r
 induction r with
 | nil=>exact True.intro
 | @cons p q ps qs h t ih=>
  obtain⟨h1,h2⟩:=h;by_cases e:p.1=k
  .have e':q.1=k:=h1.symm.trans e;have b:valueAt (q::qs) k=some q.2:=by simp[valueAt,List.find?_cons,e']
   rw[kZ e,b];exact h2
  .have e':¬ q.1=k:=λ z=>e (h1.trans z);have b:valueAt (q::qs) k=valueAt qs k:=by simp[valueAt,List.find?_cons,e']
   rw[k_ e,b];exact ih
theorem KV.any {kvs:List (κ × V)}{vs:List (κ × Value)}(r:KV kvs vs) (k:κ):(kvs.any λ kv=>decide (kv.1=k))=vs.any λ kv=>decide (kv.1=k):=by
 unfold KV at r
 induction r with
 | nil=>rfl
 | cons h t ih=>rw[List.any_cons,List.any_cons,ih,h.1]
theorem KV.uT {kvs:List (κ × V)}{vs:List (κ × Value)}(r:KV kvs vs) (k:κ) {y:V}{u:Value}(ry:RelV y u):
  KV (kvs.map λ kv=>if kv.1=k then (kv.1,y) else kv) (vs.map λ kv=>if kv.1=k then (kv.1,u) else kv):=by
 unfold KV at r ⊢
 induction r with
 | nil=>exact .nil
 | @cons p q ps qs h t ih=>
  rw[List.map_cons,List.map_cons];refine .cons ?_ ih;obtain⟨h1,h2⟩:=h;by_cases e:p.1=k
  .rw[if_pos e,if_pos (h1.symm.trans e)];exact⟨h1,ry⟩
  .rw[if_neg e,if_neg (λ z=>e (h1.trans z))];exact⟨h1,h2⟩
theorem KV.put {kvs:List (κ × V)}{vs:List (κ × Value)}(r:KV kvs vs) (k:κ) {y:V}{u:Value}(ry:RelV y u):KV (putK kvs k y) (stored vs k u):=by
 unfold putK stored;rw[r.any k];by_cases e:(vs.any λ kv=>decide (kv.1=k))=true
 .rw[if_pos e,if_pos e];exact r.uT k ry
 .rw[if_neg e,if_neg e];exact Paired.snoc r ⟨rfl,ry⟩
theorem KV.length {kvs:List (κ × V)}{vs:List (κ × Value)}(r:KV kvs vs):kvs.length=vs.length:=Paired.length r
end
theorem lR {P:Program}{w:World}{k:Key}{u:Value}(r:RelV (kV k) u):(wK P w).is k u=true:=by
 cases k with
 | inl i=>obtain⟨t,e⟩:=(show ∃ t,u=Value.int i t from r);subst e;exact T4 P w i t
 | inr x=>obtain⟨t,e⟩:=(show ∃ t,u=Value.str x t from r);subst e;exact T3 P w x t
theorem bA {P:Program}{w:World}:∀ {ks:List Key}{us:List Value},Vals (ks.map kV) us->ItemsAre (wK P w) ks us
 | [],_,r=>by rw[List.map_nil] at r;cases r;exact .nil
 | k::ks,_,r=>by
  rw[List.map_cons] at r;cases r with
  | cons h t=>exact .cons (lR h) (bA t)
abbrev KT (H:Hp):List (List Key×V)->List (List Key×Addr×Value)->Prop:=Paired λ p q=>p.1=q.1/\H q.2.1=some (.tup (p.1.map kV))/\RelV p.2 q.2.2
theorem KT.val {H:Hp}{kvs:List (List Key×V)}{xs:List (List Key×Addr×Value)}(r:KT H kvs xs) (k:List Key):um (wz kvs k) ((atKey xs k).map (·.2)):=by
 induction r with
 | nil=>exact True.intro
 | @cons p q ps qs h t ih=>
  obtain⟨h1,_,h2⟩:=h;by_cases e:p.1=k
  .have e':q.1=k:=h1.symm.trans e;have b:atKey (q::qs) k=some q.2:=by simp[atKey,List.find?_cons,e']
   rw[kZ e,b];exact h2
  .have e':¬ q.1=k:=λ z=>e (h1.trans z);have b:atKey (q::qs) k=atKey qs k:=by simp[atKey,List.find?_cons,e']
   rw[k_ e,b];exact ih
theorem KT.uT {H:Hp}{kvs:List (List Key×V)}{xs:List (List Key×Addr×Value)}(r:KT H kvs xs) (k:List Key) {y:V}{u:Value}(ry:RelV y u):
  KT H (kvs.map λ kv=>if kv.1=k then (kv.1,y) else kv) (xs.map (putAt k u)):=by
 induction r with
 | nil=>exact .nil
 | @cons p q ps qs h t ih=>
  rw[List.map_cons,List.map_cons];refine .cons ?_ ih;obtain⟨h1,h2,h3⟩:=h;unfold putAt;by_cases e:p.1=k
  .rw[if_pos e,if_pos (h1.symm.trans e)];exact⟨h1,h2,ry⟩
  .rw[if_neg e,if_neg (λ z=>e (h1.trans z))];exact⟨h1,h2,h3⟩
theorem KT.put {H:Hp}{kvs:List (List Key×V)}{xs:List (List Key×Addr×Value)}(r:KT H kvs xs) (k:List Key) {b:Addr}{y:V}{u:Value}(hb:H b=some (.tup (k.map kV))) (ry:RelV y u):
  KT H (putK kvs k y) (storedH xs k b u):=by
 have e:(kvs.any λ kv=>decide (kv.1=k))=(atKey xs k).isSome:=by
  rw[eD,(r.val k).SG,Option.isSome_map]
 unfold putK storedH;rw[e];by_cases q:(atKey xs k).isSome=true
 .rw[if_pos q,if_pos q];exact r.uT k ry
 .rw[if_neg q,if_neg q];exact Paired.snoc r ⟨rfl,hb,ry⟩
theorem KT.keeps {H H':Hp}{kvs:List (List Key×V)}{xs:List (List Key×Addr×Value)}(r:KT H kvs xs) (ht:∀ b ys,H b=some (.tup ys)->H' b=some (.tup ys)):KT H' kvs xs:=
 Paired.lO r λ _ _ z=>⟨z.1,ht _ _ z.2.1,z.2.2⟩
section
variable {P:Program}{w:World}{H:Hp}{h:Heap}{a:Addr}
theorem dD {u:HO}(ok:yX P w H h) (e:Rd H a u):xn P w H h a u:=e.ok ok
theorem pP {kvs:List (Key×V)}(ok:yX P w H h) (e:Rd H a (.dK kvs)):kvs.length<=sizeLine/\(a == sysModules)=false/\∃ vs,KV kvs vs/\h.DictOf (wK P w) a vs:=
 show xn P w H h a (.dK kvs) from dD ok e
theorem RY {kvs:List (Key×V)}(ok:yX P w H h) (e:H a=some (.dK kvs)):kvs.length<=sizeLine/\(a == sysModules)=false/\∃ vs,KV kvs vs/\h.DictOf (wK P w) a vs:=pP ok (.inl e)
theorem lQ {ks:List Key}(ok:yX P w H h) (e:H a=some (.tup (ks.map kV))):(tupleKind (wK P w)).is h ks a:=by
 obtain⟨_,its,r,o,h1,h2,n,h3⟩:=(show xn P w H h a (.tup (ks.map kV)) from ok a _ e)
 exact⟨o,its.toArray,n,h1,h2,h3,by simpa using bA r⟩
theorem nv {kvs:List (List Key×V)}(ok:yX P w H h) (e:Rd H a (.dT kvs)):kvs.length<=sizeLine/\(a == sysModules)=false/\
  ∃ xs,KT H kvs xs/\h.DictOfH (tupleKind (wK P w)) a xs:=by
 obtain⟨z,y,xs,r,o,es,ep,h1,h2,h3,h4,h5⟩:=(show xn P w H h a (.dT kvs) from dD ok e)
 refine⟨z,y,xs,r,o,es,ep,h1,h2,h3,h4,λ x hx=>?_,h5⟩;have all:∀ {l:List (List Key×V)}{m:List (List Key×Addr×Value)},KT H l m->∀ x∈m,(tupleKind (wK P w)).is h x.1 x.2.1:=by
  intro l m q
  induction q with
  | nil=>intro x hx;exact nomatch hx
  | @cons p q ps qs hq t ih=>
   intro x hx;rcases List.mem_cons.mp hx with e | hx
   .subst e;exact lQ ok (by rw[<- hq.1];exact hq.2.1)
   .exact ih x hx
 exact all r x hx
theorem RS {kvs:List (List Key×V)}(ok:yX P w H h) (e:H a=some (.dT kvs)):kvs.length<=sizeLine/\(a == sysModules)=false/\
  ∃ xs,KT H kvs xs/\h.DictOfH (tupleKind (wK P w)) a xs:=nv ok (.inl e)
end
def sv (H:Hp) (a:Addr) (y:V) (r:Option V):Prop:=
 (∃ kvs k,Rd H a (.dK kvs)/\y=kV k/\r=wz kvs k)\/∃ kvs k b,Rd H a (.dT kvs)/\y=.ref b/\H b=some (.tup (k.map kV))/\r=wz kvs k
def m7 (H:Hp) (a:Addr) (y v:V) (H':Hp):Prop:=
 (∃ kvs k,H a=some (.dK kvs)/\y=kV k/\kvs.length<sizeLine/\H'=upd H a (.dK (putK kvs k v)))\/
 ∃ kvs k b,H a=some (.dT kvs)/\y=.ref b/\H b=some (.tup (k.map kV))/\kvs.length<sizeLine/\H'=upd H a (.dT (putK kvs k v))
theorem sv.k {H:Hp}{a:Addr}{kvs:List (Key×V)}{k:Key}(e:H a=some (.dK kvs)):sv H a (kV k) (wz kvs k):=.inl ⟨kvs,k,.inl e,rfl,rfl⟩
theorem m7.k {H:Hp}{a:Addr}{kvs:List (Key×V)}{k:Key}{v:V}(e:H a=some (.dK kvs)) (hl:kvs.length<sizeLine):m7 H a (kV k) v (upd H a (.dK (putK kvs k v))):=.inl ⟨kvs,k,e,rfl,hl,rfl⟩
section
variable {X:Cx}{pins:List (Addr×Obj)}{σ:St}{H:Hp}{s:Shared}{a:Addr}{y v:V}{u r:Value}{o:Option V}{A:Around}{E:Value->Shared->Prop}
theorem Inv.big (I:Inv X pins σ H s):sysModules<s.heap.objs.size:=by
 have h:mainGlobals<s.heap.objs.size:=(I.mod.glob.keeps I.bk).lt;exact Nat.lt_trans (by decide) h
theorem Qf {Q:Value->Shared->Prop}(hu:A.units+1<cLine) (I:Inv X pins σ H s) (g:sv H a y (some v)) (ry:RelV y u) (h:∀ w' s',Inv X pins σ H s'->RelV v w'->Q w' s'):
  wpAny (model X.prog X.w) A (getItem (.ref a) u) Q E s:=by
 rcases g with ⟨kvs,k,e,ey,l⟩ | ⟨kvs,k,b,e,ey,eb,l⟩
 .subst ey;obtain⟨z,hd,vs,rel,dd⟩:=pP I.zB e;obtain⟨w',hw,rw'⟩:=um.some_of (v:=v) (o:=valueAt vs k) (by rw[l];exact rel.val k);exact wpAny_getItem_of (lR ry) dd.mapOf hw (h w' _ (I.tok _) rw')
 .subst ey;cases (show u=Value.ref b from ry);obtain⟨z,hd,xs,rel,dd⟩:=nv I.zB e;obtain⟨w',hw,rw'⟩:=um.some_of (v:=v) (o:=(atKey xs k).map (·.2)) (by rw[l];exact rel.val k);obtain⟨p,hp,pF⟩:=zOm hw;refine wpAny_getItem_heap (tupleKind_room_in1 hu) (lQ I.zB eb) dd hp ?_;rw[pF];exact h w' _ (I.tok _) rw'
theorem aF {h':Heap}{t':Nat}{ob:HO}(I:Inv X pins σ H s) (mu:nW (H a)) (hs:Heap.SameBut a s.heap h') (he:∃ q,h'.get? a=some q) (new:xn X.prog X.w (upd H a ob) h' a ob):
  Inv X pins σ (upd H a ob) { s with heap:=h',toks:=t' }:=
 I.write (x:=a) (e:=a) mu (.inl rfl) (λ b q hb z=>(hs.2 b hb).trans z) he new
theorem RZ {P:Program}{w:World}{H':Hp}{h':Heap}{kvs:List (Key×V)}{vs:List (Key×Value)}(z:kvs.length<=sizeLine) (hd:(a == sysModules)=false) (rel:KV kvs vs) (dd:h'.DictOf (wK P w) a vs):
  xn P w H' h' a (.dK kvs):=⟨z,hd,vs,rel,dd⟩
theorem Qd {H':Hp}{Q:Unit->Shared->Prop}(hu:A.units+1<cLine) (I:Inv X pins σ H s) (g:m7 H a y v H') (ry:RelV y u) (rv:RelV v r) (h:∀ s',Inv X pins σ H' s'->Q () s'):
  wpAny (model X.prog X.w) A (setItem (.ref a) u r) Q E s:=by
 rcases g with ⟨kvs,k,e,ey,l,eH⟩ | ⟨kvs,k,b,e,ey,eb,l,eH⟩
 .subst ey eH;obtain⟨z,hd,vs,rel,dd⟩:=RY I.zB e;have hz:vs.length<=sizeLine:=by rw[<- rel.length];exact z
  have hl:(putK kvs k v).length<=sizeLine:=by have:=bh kvs k v;omega
  refine wpAny_setItem_pairs (hsz:=hz) (lR ry) dd λ h' dd' hs=>h _ ?_;have he:∃ q,h'.get? a=some q:=let ⟨q,_,_,hq,_⟩:=dd';⟨q,hq⟩
  exact aF I (by rw[e];exact True.intro) hs he (RZ hl hd (rel.put k rv) dd')
 .subst ey eH;cases (show u=Value.ref b from ry);obtain⟨z,hd,xs,rel,dd⟩:=RS I.zB e;have hz:xs.length<=sizeLine:=by rw[<- Paired.length rel];exact z
  have hl:(putK kvs k v).length<=sizeLine:=by have:=bh kvs k v;omega
  refine wpAny_setItem_heap (hsz:=hz) (tupleKind_room_in1 hu) (lQ I.zB eb) dd λ h' dd' hs=>h _ ?_;obtain⟨q,es,ep,hq,h2,h3,h4,_,h5⟩:=dd';refine aF I (by rw[e];exact True.intro) hs ⟨q,hq⟩ ⟨hl,hd,_,(rel.put k eb rv).keeps λ c ys ec=>?_,q,es,ep,hq,h2,h3,h4,h5⟩;rw[yI (oJ ec e (λ z=>nomatch z))];exact ec
end
section
variable {X:Cx}{pins:List (Addr×Obj)}{σ:St}{H:Hp}{s:Shared}{a:Addr}{kvs:List (Key×V)}{k:Key}{u:Value}{A:Around}{E:Value->Shared->Prop}
theorem Qe {Q:Value->Shared->Prop}(I:Inv X pins σ H s) (e:Rd H a (.dK kvs)) (h:∀ t s',Inv X pins σ H s'->Q (.int kvs.length t) s'):wpAny (model X.prog X.w) A (call (.builtin "len") [.ref a]) Q E s:=by
 obtain⟨z,hd,vs,rel,dd⟩:=pP I.zB e;refine call_len_dict hd dd (by rw[<- rel.length];rw[sizeLine_eq] at z;omega) ?_;rw[<- rel.length];exact h _ _ (I.tok _)
end
def fx (i:Expr):Prop:=∀ ov iv,subscripted i false ov iv=operate [ov,iv] (getItem ov iv)
theorem X0 {prog:Program}{w:World}{A:Around}{E:Value->Shared->Prop}{s:Shared}{env:Env}{value slice:Expr}{pos:Pos}{T id:String}{Q:Value->Shared->Prop}
  (hl:typeLookup (.type T) "__getitem__"=pure (some (.builtin id))) (hs:fx slice)
  (h:wpAny (model prog w) A (eval value env) (λ o s₁=>wpAny (model prog w) A (eval slice env) (λ i s₂=>s₂.TypeIs o T/\wpAny (model prog w) A (getItem o i) Q E s₂) E s₁) E s):
  wpAny (model prog w) A (eval (.Subscript value slice pos) env) Q E s:=by
 refine Subscript_ (wpAny_mono h (λ o s₁ h₁=>wpAny_mono h₁ (λ i s₂ h₂=>?_) λ _ _ x=>x) λ _ _ x=>x);obtain⟨hT,h₂⟩:=h₂;unfold subscriptTail;refine zWb ?_;rw[getitemInPython_of_ne hT.not_modules];refine zWb (wpAny_specialOf hT hl ?_);have fin:wpAny (model prog w) A (subscripted slice false o i) (λ r s₃=>wpAny (model prog w) A (letTemporaryGo value o r >>= λ _=>pure r) Q E s₃) E s₂:=by
  rw[hs o i];exact wpAny_operating (wpAny_mono h₂ (λ r s₃ h₃=>zWb (wpAny_letTemporaryGo (wpAny_pure h₃))) λ _ _ x=>x)
 first
  | exact wpAny_pure (zWb fin)
  | exact zWb (wpAny_pure (zWb fin))
  | exact zWb fin
theorem Qa {X:Cx}{pins:List (Addr×Obj)}{σ:St}{H:Hp}{s:Shared}{a:Addr}{y:V}{o:Option V}(I:Inv X pins σ H s) (g:sv H a y o):s.TypeIs (.ref a) "dict":=by
 rcases g with ⟨kvs,k,e,_,_⟩ | ⟨kvs,k,b,e,_,_,_⟩
 .obtain⟨_,_,vs,_,dd⟩:=pP I.zB e;exact dd.typeIs
 .obtain⟨_,_,xs,_,dd⟩:=nv I.zB e;exact dd.typeIs
def Xx (td ty:TE):TE:=fun σ H Q=>td σ H λ x H1=>ty σ H1 λ y H2=>∃ a v,x=.ref a/\sv H2 a y (some v)/\Q v H2
def XY (td ty tv:TE):TS:=λ D σ H=>tv σ H λ v H1=>td σ H1 λ x H2=>ty σ H2 λ y H3=>∃ a H4,x=.ref a/\m7 H3 a y v H4/\D.nx σ H4
section
variable {X:Cx}{o i e value:Expr}{pos pos' tpos:Pos}{td ty tv:TE}
theorem Vn (hu:X.A.units+1<cLine) (ho:PE X o td) (hi:PE X i ty) (hs:fx i):PE X (.Subscript o i pos) (Xx td ty):=by
 intro pins s σ H Q I h;refine X0 PySem.F.slot_dict_getitem.lookup hs (zK (ho pins s σ H _ I h) λ u s1 ⟨x,H1,I1,rx,q1⟩=>zK (hi pins s1 σ H1 _ I1 q1) λ iv s2 ⟨y,H2,I2,ry,a,v,ex,g,q2⟩=>?_);subst ex;obtain rfl:u=Value.ref a:=rx;exact⟨Qa I2 g,Qf hu I2 g ry λ w' s3 I3 rw'=>⟨v,H2,I3,rw',q2⟩⟩
theorem WB (hu:X.A.units+1<cLine) (ho:PE X o td) (hi:PE X i ty) (hv:PE X value tv) (hs:swapsWith value (some (.Subscript o i pos')) pos.line X.env=pure false):
  PS X (.Assign [.Subscript o i pos'] value pos) (XY td ty tv):=by
 intro pins s σ H D I h;refine wpAny_Assign_Subscript (zK (hv pins s σ H _ I h) λ r s1 ⟨v,H1,I1,rv,q1⟩=>zK (ho pins s1 σ H1 _ I1 q1) λ u s2 ⟨x,H2,I2,rx,q2⟩=>zK (hi pins s2 σ H2 _ I2 q2) λ iv s3 ⟨y,H3,I3,ry,a,H4,ex,g,q3⟩=>?_) hs;subst ex;obtain rfl:u=Value.ref a:=rx;exact Qd hu I3 g ry rv λ s4 I4=>⟨σ,H4,I4,q3⟩
end
theorem R_ {P:Program}{w:World}{H:Hp}(h:Heap) (hb:sysModules<h.objs.size):xn P w H (h.push { cls:=.type "dict",data:=.dict #[] }) h.objs.size (.dK []):=
 ⟨Nat.zero_le _,beq_eq_false_iff_ne.mpr (Ne.symm (Nat.ne_of_lt hb)),[],.nil,Heap.DictOf.new h⟩
def Xv:TE:=λ _ H Q=>∀ p,H p=none->Q (.ref p) (upd H p (.dK []))
section
variable {X:Cx}{pos:Pos}
theorem Vl:PE X (.Dict [] [] pos) Xv:=λ pins s σ H Q I h=>
 wpAny_Dict_empty ⟨.ref s.heap.objs.size,_,I.laid (a:=s.heap.objs.size) (o:=.dK []) (t':=s.toks) (λ _ _ q=>zHp _ q) (Nat.le_refl _) (R_ s.heap I.big),rfl,h _ (I.zB.fresh (Nat.le_refl _))⟩
end
structure M2 (X:Cx) (o:Expr) (m:Str) (apos:Pos) (e f:Expr) (cpos:Pos):Prop where
 base:attributeBase o m X.env (eval o X.env)=eval o X.env
 R6:((backTo cpos (starEach [e,f] X.env)).all (λ x=>!x.1)&&(backToKw cpos (keywordEach [] X.env)).all (λ x=>x.1.isSome)
  && decide (([e,f]:List Expr).length+([]:List Keyword).length+(if ([]:List Keyword).isEmpty then 0 else 1)<30))=true
 line:(apos.endLine == cpos.line)=true
 trees:backTo cpos (starEach [e,f] X.env)=[(false,eval e X.env),(false,eval f X.env)]
def ZH (H:Hp) (a:Addr):Prop:=(∃ kvs,Rd H a (.dK kvs))\/∃ kvs,Rd H a (.dT kvs)
theorem SM {X:Cx}{pins:List (Addr×Obj)}{σ:St}{H:Hp}{s:Shared}{a:Addr}(I:Inv X pins σ H s) (d:ZH H a):
  s.TypeIs (.ref a) "dict"/\(∀ b,Value.ref a=.ref b->∃ ob,s.heap.get? b=some ob/\ob.dict=none)/\(a == sysModules)=false:=by
 rcases d with ⟨kvs,e⟩ | ⟨kvs,e⟩
 .obtain⟨_,hd,vs,_,dd⟩:=pP I.zB e;refine⟨dd.typeIs,λ b q=>?_,hd⟩;cases q;obtain⟨ob,_,_,h1,h2,_⟩:=dd;exact⟨ob,h1,h2.2.1⟩
 .obtain⟨_,hd,xs,_,dd⟩:=nv I.zB e;refine⟨dd.typeIs,λ b q=>?_,hd⟩;cases q;obtain⟨ob,_,_,h1,h2,_⟩:=dd;exact⟨ob,h1,h2.2.1⟩
section
variable {X:Cx}{pins:List (Addr×Obj)}{σ:St}{H:Hp}{s:Shared}{a:Addr}{y d:V}{u r:Value}{o:Option V}{A:Around}{E:Value->Shared->Prop}
theorem Qg {Q:Value->Shared->Prop}(hu:A.units+1<cLine) (I:Inv X pins σ H s) (g:sv H a y o) (ry:RelV y u) (rd:RelV d r) (h:∀ w' s',Inv X pins σ H s'->RelV (o.getD d) w'->Q w' s'):
  wpAny (model X.prog X.w) A (call (.builtin "dict.get") [.ref a,u,r]) Q E s:=by
 rcases g with ⟨kvs,k,e,ey,l⟩ | ⟨kvs,k,b,e,ey,eb,l⟩
 .subst ey;obtain⟨z,hd,vs,rel,dd⟩:=pP I.zB e;refine call_meetsIn PySem.F.slot_dict_get dd.typeIs PySem.F.entry_dict_get (PySem.F.args_dict_get_3 _ _ _) (meets_dict_get_default (wK X.prog X.w) a (lR ry) hd r) ⟨_,dd.mapOf,h _ _ (I.tok _) ?_⟩;rw[l];exact (rel.val k).getD rd
 .subst ey;cases (show u=Value.ref b from ry);obtain⟨z,hd,xs,rel,dd⟩:=nv I.zB e;refine call_meetsIn PySem.F.slot_dict_get dd.typeIs PySem.F.entry_dict_get (PySem.F.args_dict_get_3 _ _ _) (meetsH_dict_get_default (tupleKind (wK X.prog X.w)) a b hd r) ⟨tupleKind_room_in1 hu,k,xs,lQ I.zB eb,dd,h _ _ (I.tok _) ?_⟩;rw[l];exact (rel.val k).getD rd
end
def Xw (td ty tx:TE):TE:=fun σ H Q=>td σ H λ x H1=>∃ a,x=.ref a/\ZH H1 a/\ty σ H1 λ y H2=>tx σ H2 λ z H3=>∃ o,sv H3 a y o/\Q (o.getD z) H3
section
variable {X:Cx}{o e f:Expr}{apos cpos:Pos}{td ty tx:TE}
theorem Vm (hu:X.A.units+1<cLine) (ho:PE X o td) (he:PE X e ty) (hf:PE X f tx) (m:M2 X o "get" apos e f cpos):PE X (.Call (.Attribute o "get" apos) [e,f] [] cpos) (Xw td ty tx):=by
 intro pins s σ H Q I h;refine wpAny_Call_method m.base m.R6 m.line PySem.F.plainAttrs_dict PySem.F.slot_dict_get PySem.F.type_dict_get (zK (ho pins s σ H _ I h) λ u s1 ⟨x,H1,I1,rx,a,ex,d,q1⟩=>?_);subst ex;obtain rfl:u=Value.ref a:=rx;obtain⟨t1,t2,_⟩:=SM I1 d;refine⟨t1,t2,?_⟩;rw[m.trees];refine Calls.callWith_builtin rfl (Calls.evalArgs_plain (Calls.spliced_cons (zK (he pins s1 σ H1 _ I1 q1) λ iv s2 ⟨y,H2,I2,ry,q2⟩=>
  Calls.spliced_cons (zK (hf pins s2 σ H2 _ I2 q2) λ fv s3 ⟨z,H3,I3,rz,ov,g,q3⟩=>Calls.spliced_nil ?_))))
 exact Qg hu I3 g ry rz λ w' s4 I4 rw'=>⟨_,H3,I4,rw',q3⟩
end
section
variable {X:Cx}{pins:List (Addr×Obj)}{σ:St}{H:Hp}{s:Shared}{a:Addr}{kvs:List (Key×V)}{A:Around}{E:Value->Shared->Prop}
end
section
variable {X:Cx}{pins:List (Addr×Obj)}{σ:St}{H:Hp}{s:Shared}{a:Addr}{y:V}{u:Value}{A:Around}{E:Value->Shared->Prop}
end
end L2
namespace L3
open PySem PySem.Spec L2
open PyProof.Rows hiding St
noncomputable def vS (kvs:List (Key×D)) (k:Key):Option D:=(kvs.find? λ kv=>decide (kv.1=k)).map (·.2)
noncomputable def putD (kvs:List (Key×D)) (k:Key) (v:D):List (Key×D):=
 if (kvs.any λ kv=>decide (kv.1=k))=true then kvs.map (λ kv=>if kv.1=k then (kv.1,v) else kv) else kvs++[(k,v)]
section
variable {K:PySem.W.Frag}{H:Hp}
theorem xc.val:∀ {kvs:List (Key×D)}{vs:List (Key×V)},xc K H kvs vs->∀ k,(vS kvs k=none/\wz vs k=none)\/∃ d v,vS kvs k=some d/\wz vs k=some v/\ze K H d v
 | _,_,.nil,k=>.inl ⟨rfl,rfl⟩
 | (a,d)::kvs,(b,v)::vs,.cons ⟨e,r⟩ t,k=>by
  have e':a=b:=e;subst e';by_cases h:a=k
  .subst h;exact .inr ⟨d,v,by simp[vS],by simp[wz],r⟩
  .rcases xc.val t k with ⟨h1,h2⟩ | ⟨d',v',h1,h2,h3⟩
   .exact .inl ⟨by simpa [vS,h] using h1,by simpa [wz,h] using h2⟩
   .exact .inr ⟨d',v',by simpa [vS,h] using h1,by simpa [wz,h] using h2,h3⟩
theorem xc.any {kvs:List (Key×D)}{vs:List (Key×V)}(h:xc K H kvs vs) (k:Key):(kvs.any λ kv=>decide (kv.1=k))=vs.any λ kv=>decide (kv.1=k):=by
 induction h with
 | nil=>rfl
 | cons r _ ih=>rw[List.any_cons,List.any_cons,ih,r.1]
theorem xc.len {kvs:List (Key×D)}{vs:List (Key×V)}(h:xc K H kvs vs):kvs.length=vs.length:=Paired.length h
theorem xc.uT {k:Key}{d:D}{v:V}(r:ze K H d v):∀ {kvs:List (Key×D)}{vs:List (Key×V)},xc K H kvs vs->xc K H (kvs.map λ kv=>if kv.1=k then (kv.1,d) else kv) (vs.map λ kv=>if kv.1=k then (kv.1,v) else kv)
 | _,_,.nil=>.nil
 | (a1,a2)::_,(b1,b2)::_,.cons ⟨e,q⟩ t=>by
  have e':a1=b1:=e;subst e';refine .cons ?_ (xc.uT r t);by_cases hk:a1=k
  .simp[hk,r]
  .simpa [hk] using q
theorem xc.snoc {k:Key}{d:D}{v:V}(r:ze K H d v):∀ {kvs:List (Key×D)}{vs:List (Key×V)},xc K H kvs vs->xc K H (kvs++[(k,d)]) (vs++[(k,v)])
 | _,_,.nil=>.cons ⟨rfl,r⟩ .nil
 | _,_,.cons q t=>.cons q (xc.snoc r t)
theorem xc.put {kvs:List (Key×D)}{vs:List (Key×V)}(h:xc K H kvs vs) (k:Key) {d:D}{v:V}(r:ze K H d v):xc K H (putD kvs k d) (putK vs k v):=by
 unfold putD putK;rw[h.any k];split
 .exact xc.uT r h
 .exact xc.snoc r h
end
section
variable {X:Cx}{K:PySem.W.Frag}{o i e f v:Expr}{td ty tx tv:zy}{pos pos' apos cpos:Pos}
def aN:zy:=λ _ S Q=>∀ p,S p=none->Q (.ref p) (ups S p (.ye []))
theorem VH:PD X (.Dict [] [] pos) aN:=by
 refine⟨λ _ _ _ _ hq z p hp=>hq _ _ (z p hp),PE.imp Vl fun σ H Q hu p hp=>?_⟩;obtain⟨δ,S,r1,r2,z⟩:=hu;exact z p (r2.none hp) _ _ (by simp only[ze]) (.new hp _) (r2.ups (.new hp _) ⟨[],yZ,.nil⟩)
def aQ (td ty:zy):zy:=fun δ S Q=>td δ S λ x S1=>ty δ S1 λ y S2=>∃ p kvs k d,x=.ref p/\y=.int k/\S2 p=some (.ye kvs)/\vS kvs (.inl k)=some d/\Q d S2
theorem c8 {k:Nat}(hr:y8 k X.A) (ho:PD X o td) (hi:PD X i ty) (hs:fx i:=by exact λ _ _=>rfl):PD X (.Subscript o i pos) (aQ td ty):=by
 refine⟨fun δ S Q Q' hq z=>ho.mo δ S _ _ (λ x S1 z=>hi.mo δ S1 _ _ (λ y S2 ⟨p,kvs,k,d,a,b,c,e,h⟩=>⟨p,kvs,k,d,a,b,c,e,hq _ _ h⟩) z) z,PE.imp (Vn (iZ hr) ho.pe hi.pe hs) fun σ H Q hu=>?_⟩;obtain⟨δ,S,r1,r2,z⟩:=hu;refine zS.go ho.mo r1 r2 z λ x S1 w H1 h1 q1 e1 p1=>?_;refine zS.go hi.mo (r1.ext e1) p1 h1 λ y S2 w2 H2 h2 q2 e2 p2=>?_;obtain⟨p,kvs,k,d,rfl,rfl,c1,c2,h⟩:=h2;simp only[ze] at q1 q2;subst q1 q2;obtain⟨vs,g1,g2⟩:=p2 _ _ c1;rcases xc.val g2 (.inl k) with ⟨n1,_⟩ | ⟨d',v',n1,n2,n3⟩
 .rw[c2] at n1;cases n1
 .rw[c2] at n1;cases n1;exact⟨p,v',rfl,n2▸sv.k (k:=Sum.inl k) g1,h v' H2 n3 (e1.trans e2) p2⟩
def aP (td ty tx:zy):zy:=fun δ S Q=>td δ S λ x S1=>∃ p,x=.ref p/\(∃ kvs,S1 p=some (.ye kvs))/\ty δ S1 λ y S2=>tx δ S2 λ z S3=>∃ k kvs,y=.int k/\S3 p=some (.ye kvs)/\Q ((vS kvs (.inl k)).getD z) S3
theorem VI {k:Nat}(hr:y8 k X.A) (ho:PD X o td) (he:PD X e ty) (hf:PD X f tx) (m:M2 X o "get" apos e f cpos:=by exact⟨rfl,rfl,rfl,rfl⟩):PD X (.Call (.Attribute o "get" apos) [e,f] [] cpos) (aP td ty tx):=by
 refine⟨fun δ S Q Q' hq z=>ho.mo δ S _ _ (λ x S1 ⟨p,a,b,z⟩=>⟨p,a,b,he.mo δ S1 _ _ (λ y S2 z=>hf.mo δ S2 _ _ (λ w S3 ⟨k,kvs,a,b,h⟩=>⟨k,kvs,a,b,hq _ _ h⟩) z) z⟩) z,PE.imp (Vm (iZ hr) ho.pe he.pe hf.pe m) fun σ H Q hu=>?_⟩;obtain⟨δ,S,r1,r2,z⟩:=hu;refine zS.go ho.mo r1 r2 z λ x S1 w H1 h1 q1 e1 p1=>?_;obtain⟨p,rfl,⟨kvs0,c0⟩,h1⟩:=h1;simp only[ze] at q1;subst q1;obtain⟨vs0,g0,_⟩:=p1 _ _ c0;refine⟨p,rfl,.inl ⟨vs0,.inl g0⟩,?_⟩;refine zS.go he.mo (r1.ext e1) p1 h1 λ y S2 w2 H2 h2 q2 e2 p2=>?_;refine zS.go hf.mo ((r1.ext e1).ext e2) p2 h2 λ y3 S3 w3 H3 h3 q3 e3 p3=>?_;obtain⟨k,kvs,rfl,c1,h⟩:=h3;simp only[ze] at q2;subst q2;obtain⟨vs,g1,g2⟩:=p3 _ _ c1;refine⟨wz vs (.inl k),sv.k (k:=Sum.inl k) g1,?_⟩;rcases xc.val g2 (.inl k) with ⟨n1,n2⟩ | ⟨d',v',n1,n2,n3⟩
 .rw[n1] at h;rw[n2];exact h _ H3 q3 ((e1.trans e2).trans e3) p3
 .rw[n1] at h;rw[n2];exact h _ H3 n3 ((e1.trans e2).trans e3) p3
def aO (td ty tv:zy):yU:=λ E δ S=>tv δ S λ v S1=>td δ S1 λ x S2=>ty δ S2 λ y S3=>∃ p kvs k,x=.ref p/\y=.int k/\S3 p=some (.ye kvs)/\kvs.length<sizeLine/\E.nx δ (ups S3 p (.ye (putD kvs (.inl k) v)))
theorem Ext.dK {H:Hp}{p:Addr}{kvs:List (Key×V)}(h:H p=some (.dK kvs)) (o:HO):Ext H (upd H p o):=
 ⟨λ b ys q=>by rw[yI (oJ q h (by intro z;cases z))];exact q,λ b ob u q=>by rw[yI (oJ q h (by intro z;cases z))];exact q⟩
theorem V0 {k:Nat}(hr:y8 k X.A) (ho:PD X o td) (hi:PD X i ty) (hv:PD X v tv) (hs:swapsWith v (some (.Subscript o i pos')) pos.line X.env=pure false:=by rfl):vw X (.Assign [.Subscript o i pos'] v pos) (aO td ty tv):=by
 refine⟨λ E E' δ S hE z=>hv.mo δ S _ _ (λ w S1 z=>ho.mo δ S1 _ _ (λ x S2 z=>hi.mo δ S2 _ _ (λ y S3 ⟨p,kvs,k,a,b,c,d,h⟩=>⟨p,kvs,k,a,b,c,d,hE.nx _ _ h⟩) z) z) z,PS.imp (WB (iZ hr) ho.pe hi.pe hv.pe hs) λ D σ H hu=>?_⟩;obtain⟨δ,S,r1,r2,z⟩:=hu;refine zS.go hv.mo r1 r2 z λ w S1 w1 H1 h1 q1 e1 p1=>?_;refine zS.go ho.mo (r1.ext e1) p1 h1 λ x S2 w2 H2 h2 q2 e2 p2=>?_;refine zS.go hi.mo ((r1.ext e1).ext e2) p2 h2 λ y S3 w3 H3 h3 q3 e3 p3=>?_;obtain⟨p,kvs,k,rfl,rfl,c1,c2,h⟩:=h3;simp only[ze] at q2 q3;subst q2 q3;obtain⟨vs,g1,g2⟩:=p3 _ _ c1;have e4:Ext H3 (upd H3 p (.dK (putK vs (.inl k) w1))):=.dK g1 _;refine⟨p,_,rfl,m7.k (k:=Sum.inl k) g1 (by rw[<- g2.len];exact c2),?_⟩;exact h σ _ ((((r1.ext e1).ext e2).ext e3).ext e4) (((e1.trans e2).trans e3).trans e4) (p3.ups e4 ⟨_,yZ,(xc.put g2 _ (ze.ext (e2.trans e3) w q1)).ext e4⟩)
theorem QC:xg X (.builtin "len") (λ xs H Q=>∃ p kvs,xs=[.ref p]/\H p=some (.dK kvs)/\Q (.int kvs.length) H):=by
 intro pins s σ H xs us Q I r h;obtain⟨p,kvs,rfl,e,q⟩:=h;obtain⟨u,rfl,ru⟩:=vals1 r;cases ru;exact Qe I (.inl e) λ t s' I'=>⟨.int _,H,I',⟨_,rfl⟩,q⟩
def ai:xW:=λ ds S Q=>∃ p kvs,ds=[.ref p]/\S p=some (.ye kvs)/\Q (.int kvs.length) S
theorem VG {es:List Expr}{tA:yt}{p:Pos}(hm:X.mg "len"=none) (ha:xQ X (e::es) tA) (hg:Gl X "len":=by rfl) (he:starEach (e::es) X.env=(false,eval e X.env)::starEach es X.env:=by rfl) (hpl:(backTo pos (starEach es X.env)).any (·.1)=false:=by rfl):PD X (.Call (.Name "len" p) (e::es) [] pos) (xM ai tA):=
 tP (tN QC hg hm PySem.boot_len ha.pa (by decide) (by decide) he hpl) (λ _ _ _ _ hq ⟨p,kvs,a,b,h⟩=>⟨p,kvs,a,b,hq _ _ h⟩) (λ xs ds H S Q h0 h2 ⟨p,kvs,a,b,h⟩=>by
  subst a;obtain⟨x,rfl,h1⟩:=h0.one;simp only[ze] at h1;subst h1;obtain⟨vs,g1,g2⟩:=h2 _ _ b;refine⟨p,vs,rfl,g1,?_⟩;rw[<- g2.len];exact h _ H (by simp only[ze]) (.refl H) h2) ha.mo
end
end L3
namespace L3
open PySem L2
section
variable {S S':SS}
mutual
theorem Sn.sx (h:Sx S S'):∀ (t:T) {d:D},Sn S t d->Sn S' t d
 | .zh,d,q=>by simpa only [Sn] using q
 | .bl b,d,q=>by simpa only [Sn] using q
 | .int i,d,q=>by simpa only [Sn] using q
 | .str x,d,q=>by simpa only [Sn] using q
 | .tup ts,d,q=>by
  simp only[Sn] at q ⊢;obtain⟨ds,q1,q2⟩:=q;exact⟨ds,q1,zj.sx h ts q2⟩
 | .lst ts,d,q=>by
  simp only[Sn] at q ⊢;obtain⟨ds,q1,q2⟩:=q;refine⟨ds,?_,zj.sx h ts q2⟩;rcases q1 with q1 | ⟨a,q1,q3⟩
  .exact .inl q1
  .exact .inr ⟨a,q1,h _ _ q3⟩
 | .zU,d,q=>by
  simp only[Sn] at q ⊢;obtain⟨a,kvs,q1,q2⟩:=q;exact⟨a,kvs,q1,h _ _ q2⟩
theorem zj.sx (h:Sx S S'):∀ (ts:List T) {ds:List D},zj S ts ds->zj S' ts ds
 | [],ds,q=>by simpa only [zj] using q
 | t::ts,ds,q=>by
  simp only[zj] at q ⊢;obtain⟨c,cs,q1,q2,q3⟩:=q;exact⟨c,cs,q1,Sn.sx h t q2,zj.sx h ts q3⟩
end
theorem zj.nil:zj S [] []:=by simp only[zj]
theorem zj.cons {t:T}{ts:List T}{d:D}{ds:List D}(h:Sn S t d) (h':zj S ts ds):zj S (t::ts) (d::ds):=by
 simp only[zj];exact⟨d,ds,rfl,h,h'⟩
theorem zj.append:∀ {ts us:List T}{ds es:List D},zj S ts ds->zj S us es->zj S (ts++us) (ds++es)
 | [],us,ds,es,h,h'=>by simp only[zj] at h;subst h;simpa using h'
 | t::ts,us,ds,es,h,h'=>by
  simp only[zj] at h;obtain⟨c,cs,rfl,h1,h2⟩:=h;exact zj.cons h1 (zj.append h2 h')
theorem zj.gq:∀ {ts:List T}{ds:List D}{i:Nat}{t:T},zj S ts ds->ts[i]?=some t->∃ d,ds[i]?=some d/\Sn S t d
 | [],_,i,t,_,e=>by simp at e
 | u::ts,ds,i,t,h,e=>by
  simp only[zj] at h;obtain⟨c,cs,rfl,h1,h2⟩:=h;cases i with
  | zero=>simp at e;subst e;exact⟨c,rfl,h1⟩
  | succ i=>
   obtain⟨y,e1,e2⟩:=zj.gq (i:=i) h2 (by simpa using e);exact⟨y,by simpa using e1,e2⟩
theorem zj.gu:∀ {ts:List T}{ds:List D}{i:Nat}{d:D},zj S ts ds->ds[i]?=some d->∃ t,ts[i]?=some t/\Sn S t d
 | [],ds,i,t,h,e=>by simp only[zj] at h;subst h;simp at e
 | u::ts,ds,i,t,h,e=>by
  simp only[zj] at h;obtain⟨c,cs,rfl,h1,h2⟩:=h;cases i with
  | zero=>simp at e;subst e;exact⟨u,rfl,h1⟩
  | succ i=>
   obtain⟨y,e1,e2⟩:=zj.gu (i:=i) h2 (by simpa using e);exact⟨y,by simpa using e1,e2⟩
theorem zj.len {ts:List T}{ds:List D}(h:zj S ts ds):ds.length=ts.length:=(L3.zj.length h).symm
theorem zj.at {ts:List T}{ds:List D}{i:Int}{t:T}(h:zj S ts ds) (e:L2.yp ts i=some t):∃ d,L2.yp ds i=some d/\Sn S t d:=by
 unfold L2.yp at e ⊢;rw[h.len];cases q:L2.xm ts.length i with
 | none=>rw[q] at e;cases e
 | some j=>
  rw[q] at e;exact h.gq e
theorem zj.dh:∀ {ts:List T}{ds:List D}{t:T}{d:D}(i:Nat),zj S ts ds->Sn S t d->zj S (ts.set i t) (ds.set i d)
 | [],ds,t,d,i,h,_=>by simp only[zj] at h;subst h;simpa using zj.nil
 | u::ts,ds,t,d,0,h,hd=>by
  simp only[zj] at h;obtain⟨c,cs,rfl,h1,h2⟩:=h;exact zj.cons hd h2
 | u::ts,ds,t,d,i+1,h,hd=>by
  simp only[zj] at h;obtain⟨c,cs,rfl,h1,h2⟩:=h;exact zj.cons h1 (zj.dh i h2 hd)
theorem zj.empty {ts:List T}{ds:List D}(h:zj S ts ds):ds.isEmpty=ts.isEmpty:=by
 have:=h.len;cases ds <;> cases ts <;> simp_all
theorem zj.Zk:∀ {bs:List Bool}{ds:List D},zj S (bs.map T.bl) ds->ds=bs.map D.bl
 | [],ds,h=>by simpa only [List.map_nil,zj] using h
 | b::bs,ds,h=>by
  rw[List.map_cons] at h;simp only[zj,Sn] at h;obtain⟨c,cs,rfl,rfl,h3⟩:=h;rw[zj.Zk h3];rfl
end
end L3
namespace L5
open PySem L2 L3
noncomputable def zQ (S:SS) (Z:Addr->Prop):SS:=open Classical in λ a=>if Z a then none else S a
section
variable {S S' S1:SS}{Z Z':Addr->Prop}{a p:Addr}
theorem vH (h:¬ Z a):zQ S Z a=S a:=if_neg h
theorem i_ (h:Z a):zQ S Z a=none:=if_pos h
theorem uZ {o:O}(h:zQ S Z a=some o):¬ Z a/\S a=some o:=by
 by_cases z:Z a
 .rw[i_ z] at h;cases h
 .rw[vH z] at h;exact⟨z,h⟩
theorem oV (S:SS) (Z:Addr->Prop):Sx (zQ S Z) S:=λ _ _ h=>(uZ h).2
theorem wM (h:Sx S S'):Sx (zQ S Z) (zQ S' Z):=λ b o q=>by
 obtain⟨q1,q2⟩:=uZ q;rw[vH q1];exact h _ _ q2
theorem ua (h:∀ a,Z' a->Z a):Sx (zQ S Z) (zQ S Z'):=λ b o q=>by
 obtain⟨q1,q2⟩:=uZ q;rw[vH (λ z=>q1 (h _ z))];exact q2
theorem pG (h:Sx S S') (hp:S p=none):Sx (zQ S Z) (zQ S' λ a=>Z a\/a=p):=λ b o q=>by
 obtain⟨q1,q2⟩:=uZ q;rw[vH]
 .exact h _ _ q2
 .rintro (z | z)
  .exact q1 z
  .subst z;rw[hp] at q2;cases q2
theorem Rb {o:O}(h:Z p):zQ (ups S p o) Z=zQ S Z:=by
 funext b;by_cases z:Z b
 .rw[i_ z,i_ z]
 .rw[vH z,vH z,tF (λ e=>z (by rw[e];exact h))]
end
inductive C where
 | lst (ts:List T) | ye (kvs:List (Key×T))
noncomputable def y6 (S:SS):List (Key×T)->List (Key×D)->Prop
 | [],l=>l=[]
 | (k,t)::r,l=>∃ d m,l=(k,d)::m/\Sn S t d/\y6 S r m
theorem y6.sx {S S':SS}(h:Sx S S'):∀ {a:List (Key×T)}{b:List (Key×D)},y6 S a b->y6 S' a b
 | [],_,q=>q
 | (k,t)::r,_,q=>by
  obtain⟨d,m,q1,q2,q3⟩:=q;exact⟨d,m,q1,Sn.sx h t q2,y6.sx h q3⟩
noncomputable def t9 (S:SS):C->O->Prop
 | .lst ts,.lst ds=>zj S ts ds
 | .ye a,.ye b=>y6 S a b
 | _,_=>False
theorem t9.sx {S S':SS}(h:Sx S S'):∀ {c:C}{o:O},t9 S c o->t9 S' c o
 | .lst ts,.lst ds,q=>zj.sx h ts q
 | .ye a,.ye b,q=>y6.sx h q
inductive W where
 | im (t:T) | own (c:C)
abbrev Ev:=List (Option W)
structure ER (S:SS) (Z:Addr->Prop) (δ:yk) (ρ:Ev):Prop where
 zd:∀ a,Z a->S a≠none
 im:∀ (i:Nat) t,ρ[i]?=some (some (.im t))->∃ d,δ[i]?=some (some d)/\Sn (zQ S Z) t d
 ow:∀ (i:Nat) c,ρ[i]?=some (some (.own c))->∃ p o,δ[i]?=some (some (.ref p))/\S p=some o/\t9 (zQ S Z) c o/\Z p
def Vw (S:SS) (Z:Addr->Prop) (y:T) (d:D):Prop:=Sn (zQ S Z) y d\/∃ ts p ds,y=.lst ts/\d=.ref p/\S p=some (.lst ds)/\zj (zQ S Z) ts ds/\Z p
abbrev Rk:=SS->SS->(Addr->Prop)->T->D->Prop
def Z4:Rk:=λ _ S' Z y d=>Vw S' Z y d
def vv:Rk:=λ _ S' Z y d=>Sn (zQ S' Z) y d
def zW:Rk:=λ S S' Z y d=>Sn (zQ S' Z) y d/\∀ ts,y=.lst ts->∃ p ds,d=.ref p/\S p=none/\S' p=some (.lst ds)/\zj (zQ S' λ a=>Z a\/a=p) ts ds
class Cl (R:Rk):Prop where
 cl:∀ {S S1 S':SS}{Z:Addr->Prop}{y:T}{d:D},Sx S S1->R S1 S' Z y d->R S S' Z y d
 of:∀ {S S':SS}{Z:Addr->Prop}{y:T}{d:D},(∀ ts,y≠.lst ts)->Sn (zQ S' Z) y d->R S S' Z y d
instance:Cl Z4:=⟨λ _ h=>h,λ _ h=>.inl h⟩
instance:Cl vv:=⟨λ _ h=>h,λ _ h=>h⟩
instance:Cl zW:=⟨λ s h=>⟨h.1,λ ts e=>by
 obtain⟨p,ds,h1,h2,h3⟩:=h.2 ts e;exact⟨p,ds,h1,s.none h2,h3⟩⟩,λ n h=>⟨h,λ ts e=>absurd e (n ts)⟩⟩
section
variable {S S' S1:SS}{Z Z':Addr->Prop}{δ:yk}{ρ:Ev}{y:T}{d:D}
theorem ER.grow (h:ER S Z δ ρ) (s:Sx S S'):ER S' Z δ ρ:=
 ⟨λ a z q=>h.zd a z (s.none q),λ i t e=>by
  obtain⟨d,h1,h2⟩:=h.im i t e;exact⟨d,h1,Sn.sx (wM s) t h2⟩,λ i ts e=>by
  obtain⟨p,ds,h1,h2,h3,h4⟩:=h.ow i ts e;exact⟨p,ds,h1,s _ _ h2,t9.sx (wM s) h3,h4⟩⟩
theorem Vw.grow (h:Vw S Z y d) (s:Sx S S'):Vw S' Z y d:=by
 rcases h with h | ⟨ts,p,ds,h1,h2,h3,h4,h5⟩
 .exact .inl (Sn.sx (wM s) y h)
 .exact .inr ⟨ts,p,ds,h1,h2,s _ _ h3,zj.sx (wM s) ts h4,h5⟩
theorem Vw.sn (h:Vw S Z y d):Sn S y d:=by
 rcases h with h | ⟨ts,p,ds,rfl,rfl,h3,h4,_⟩
 .exact Sn.sx (oV S Z) y h
 .simp only[Sn];exact⟨ds,.inr ⟨p,rfl,h3⟩,zj.sx (oV S Z) ts h4⟩
theorem Vw.zh (h:Vw S Z .zh d):d=.zh:=by
 rcases h with h | ⟨_,_,_,h,_⟩
 .simpa only [Sn] using h
 .cases h
theorem Vw.bl {b:Bool}(h:Vw S Z (.bl b) d):d=.bl b:=by
 rcases h with h | ⟨_,_,_,h,_⟩
 .simpa only [Sn] using h
 .cases h
theorem Vw.int {b:Int}(h:Vw S Z (.int b) d):d=.int b:=by
 rcases h with h | ⟨_,_,_,h,_⟩
 .simpa only [Sn] using h
 .cases h
theorem Vw.str {b:Str}(h:Vw S Z (.str b) d):d=.str b:=by
 rcases h with h | ⟨_,_,_,h,_⟩
 .simpa only [Sn] using h
 .cases h
theorem Vw.tup {ts:List T}(h:Vw S Z (.tup ts) d):∃ ds,d=.tup ds/\zj (zQ S Z) ts ds:=by
 rcases h with h | ⟨_,_,_,h,_⟩
 .simpa only [Sn] using h
 .cases h
theorem Vw.lst {ts:List T}(h:Vw S Z (.lst ts) d):∃ ds,(d=.yK ds\/∃ a,d=.ref a/\S a=some (.lst ds))/\zj (zQ S Z) ts ds:=by
 rcases h with h | ⟨us,p,ds,h1,h2,h3,h4,_⟩
 .simp only[Sn] at h;obtain⟨ds,h1,h2⟩:=h;refine⟨ds,?_,h2⟩;rcases h1 with h1 | ⟨a,h1,h3⟩
  .exact .inl h1.1
  .exact .inr ⟨a,h1,(uZ h3).2⟩
 .cases h1;exact⟨ds,.inr ⟨p,h2,h3⟩,h4⟩
noncomputable def xU:T->Option (List T)
 | .tup ts=>some ts
 | .lst ts=>some ts
 | _=>none
@[simp] theorem zab (ts:List T):xU (.tup ts)=some ts:=rfl
@[simp] theorem zac (ts:List T):xU (.lst ts)=some ts:=rfl
theorem Vw.seq {ts:List T}(h:Vw S Z y d) (e:xU y=some ts):∃ ds,zT d S=some ds/\zj (zQ S Z) ts ds:=by
 cases y with
 | tup us=>cases e;obtain⟨ds,rfl,h2⟩:=h.tup;exact⟨ds,rfl,h2⟩
 | lst us=>
  cases e;obtain⟨ds,h1 | ⟨a,rfl,h1⟩,h2⟩:=h.lst
  .subst h1;exact⟨ds,rfl,h2⟩
  .exact⟨ds,by unfold zT;dsimp only;rw[h1],h2⟩
 | zh=>cases e
 | bl _=>cases e
 | int _=>cases e
 | str _=>cases e
 | zU=>cases e
theorem Vw.zU (h:Vw S Z .zU d):∃ a kvs,d=.ref a/\S a=some (.ye kvs):=by
 rcases h with h | ⟨_,_,_,h,_⟩
 .simp only[Sn] at h;obtain⟨a,kvs,h1,h2⟩:=h;exact⟨a,kvs,h1,(uZ h2).2⟩
 .cases h
theorem de:Sn S .zh .zh:=by simp only[Sn]
theorem wF {b:Bool}:Sn S (.bl b) (.bl b):=by simp only[Sn]
theorem vA {i:Int}:Sn S (.int i) (.int i):=by simp only[Sn]
theorem da {x:Str}:Sn S (.str x) (.str x):=by simp only[Sn]
theorem qS {ts:List T}{ds:List D}(h:zj S ts ds):Sn S (.tup ts) (.tup ds):=by simp only[Sn];exact⟨ds,rfl,h⟩
theorem rR {ts:List T}{ds:List D}{p:Addr}(hz:∀ a,Z a->S a≠none) (hp:S p=none) (h:zj (zQ S Z) ts ds):zW S (ups S p (.lst ds)) Z (.lst ts) (.ref p):=by
 have nz:¬ Z p:=λ z=>hz p z hp;have s:Sx S (ups S p (.lst ds)):=.new hp _;refine⟨?_,λ us e=>?_⟩
 .simp only[Sn];exact⟨ds,.inr ⟨p,rfl,by rw[vH nz,sy]⟩,zj.sx (wM s) ts h⟩
 .cases e;exact⟨p,ds,rfl,hp,sy,zj.sx (pG s hp) ts h⟩
end
def xY (R:Rk) (f:Ev->Option T) (t:zy):Prop:=∀ S Z δ ρ y Q,ER S Z δ ρ->f ρ=some y->(∀ d S',Sx S S'->R S S' Z y d->Q d S')->t δ S Q
abbrev vx:=xY vv
abbrev yy:=xY Z4
abbrev xx:=xY zW
theorem xY.imp {R R':Rk}{f:Ev->Option T}{t:zy}(h:xY R f t) (i:∀ S S' Z y d,R S S' Z y d->R' S S' Z y d):xY R' f t:=λ S Z δ ρ y Q hE e hq=>h S Z δ ρ y Q hE e λ d S' s r=>hq d S' s (i _ _ _ _ _ r)
theorem xY.er {f:Ev->Option T}{t:zy}(h:vx f t):yy f t:=h.imp λ _ _ _ _ _ r=>.inl r
theorem xY.fe {f:Ev->Option T}{t:zy}(h:xx f t):vx f t:=h.imp λ _ _ _ _ _ r=>r.1
theorem xY.fr {f:Ev->Option T}{t:zy}(h:xx f t):yy f t:=h.fe.er
@[simp] noncomputable def zx (i:Nat):Ev->Option T:=fun ρ=>match ρ[i]? with
 | some (some (.im t))=>some t
 | _=>none
@[simp] noncomputable def zb (i:Nat):Ev->Option T:=fun ρ=>match ρ[i]? with
 | some (some (.im t))=>some t
 | some (some (.own (.lst ts)))=>some (.lst ts)
 | _=>none
@[simp] noncomputable def cS (t:T):Ev->Option T:=λ _=>some t
theorem zA (i:Nat):vx (zx i) (yC i):=λ S Z δ ρ y Q hE e hq=>by
 unfold zx at e;split at e
 .rename_i t h;cases e;obtain⟨d,h1,h2⟩:=hE.im i _ h;unfold yC;rw[h1];exact hq d S (.refl S) h2
 .cases e
theorem zi (i:Nat):yy (zb i) (yC i):=λ S Z δ ρ y Q hE e hq=>by
 unfold zb at e;split at e
 .rename_i t h;cases e;obtain⟨d,h1,h2⟩:=hE.im i _ h;unfold yC;rw[h1];exact hq d S (.refl S) (.inl h2)
 .rename_i ts h;cases e;obtain⟨p,o,h1,h2,h3,h4⟩:=hE.ow i _ h;unfold yC;rw[h1];cases o with
  | ye _=>exact h3.elim
  | lst ds=>exact hq _ S (.refl S) (.inr ⟨ts,p,ds,rfl,rfl,h2,h3,h4⟩)
 .cases e
theorem zp (i:Int):xx (cS (.int i)) (dC (.int i)):=λ S Z δ ρ y Q hE e hq=>by cases e;exact hq _ S (.refl S) (Cl.of (λ _=>nofun) vA)
theorem i0 (i:Bool):xx (cS (.bl i)) (dC (.bl i)):=λ S Z δ ρ y Q hE e hq=>by cases e;exact hq _ S (.refl S) (Cl.of (λ _=>nofun) wF)
theorem lH (i:Str):xx (cS (.str i)) (dC (.str i)):=λ S Z δ ρ y Q hE e hq=>by cases e;exact hq _ S (.refl S) (Cl.of (λ _=>nofun) da)
theorem ix:xx (cS .zh) (dC .zh):=λ S Z δ ρ y Q hE e hq=>by cases e;exact hq _ S (.refl S) (Cl.of (λ _=>nofun) de)
@[simp] noncomputable def zg (f:T->T->Option T) (fa fb:Ev->Option T):Ev->Option T:=fun ρ=>(fa ρ).bind λ x=>(fb ρ).bind λ y=>f x y
def Good2 (R:Rk) (f:T->T->Option T) (g:yP):Prop:=∀ S Z x y z d e Q,(∀ a,Z a->S a≠none)->Vw S Z x d->Vw S Z y e->f x y=some z->(∀ c S',Sx S S'->R S S' Z z c->Q c S')->g d e S Q
theorem zu {R:Rk} [Cl R] {f:T->T->Option T}{g:yP}{fa fb:Ev->Option T}{ta tb:zy}(hg:Good2 R f g) (ha:yy fa ta) (hb:yy fb tb):xY R (zg f fa fb) (yx g ta tb):=λ S Z δ ρ y Q hE e hq=>by
 unfold zg at e;obtain⟨x,e1,e⟩:=zOb e;obtain⟨z,e2,e⟩:=zOb e;refine ha S Z δ ρ x _ hE e1 λ d S1 s1 r1=>?_;refine hb S1 Z δ ρ z _ (hE.grow s1) e2 λ d2 S2 s2 r2=>?_;exact hg S2 Z x z y d d2 Q ((hE.grow (s1.trans s2)).zd) (Vw.grow r1 s2) r2 e λ c S' s r=>hq c S' ((s1.trans s2).trans s) (Cl.cl (s1.trans s2) r)
@[simp] noncomputable def i2 (g:Int->Int->T):T->T->Option T
 | .int i,.int j=>some (g i j)
 | _,_=>none
instance {i j:Int}:Decidable (uL i j):=by unfold uL;infer_instance
instance {i j:Int}:Decidable (xR i j):=by unfold xR;infer_instance
instance {i j:Int}:Decidable (qI i j):=by unfold qI;infer_instance
@[simp] noncomputable def oU (C:Int->Int->Prop) [∀ i j,Decidable (C i j)] (g:Int->Int->T):T->T->Option T
 | .int i,.int j=>if C i j then some (g i j) else none
 | _,_=>none
theorem oY {g:Int->Int->T}{g':Int->Int->D}(h:∀ i j S,Sn S (g i j) (g' i j)) (n:∀ i j ts,g i j≠.lst ts):Good2 zW (i2 g) (xB g'):=λ S Z x y z d e Q hz hx hy ef hq=>by
 unfold i2 at ef;split at ef
 .cases ef;cases hx.int;cases hy.int;exact hq _ S (.refl S) (Cl.of (n _ _) (h _ _ _))
 .cases ef
theorem gm {C:Int->Int->Prop} [∀ i j,Decidable (C i j)] {g:Int->Int->T}{g':Int->Int->D}(h:∀ i j S,Sn S (g i j) (g' i j)) (n:∀ i j ts,g i j≠.lst ts):Good2 zW (oU C g) (fI C g'):=λ S Z x y z d e Q hz hx hy ef hq=>by
 unfold oU at ef;split at ef
 .split at ef
  .rename_i hh;cases ef;cases hx.int;cases hy.int;exact⟨hh,hq _ S (.refl S) (Cl.of (n _ _) (h _ _ _))⟩
  .cases ef
 .cases ef
@[simp] noncomputable def xZ:T->T->Option T:=i2 λ i j=>.int (i-j)
@[simp] noncomputable def wJ:T->T->Option T:=oU (λ _ j=>0<j) λ i j=>.int (i%j)
@[simp] noncomputable def tW:T->T->Option T:=oU xR λ i j=>.int (i/j)
@[simp] noncomputable def dY:T->T->Option T:=oU qI λ i j=>.int (i ^ j.toNat)
@[simp] noncomputable def qh:T->T->Option T:=i2 λ i j=>.bl (decide (i<=j))
@[simp] noncomputable def tU:T->T->Option T:=i2 λ i j=>.bl (decide (j<i))
@[simp] noncomputable def gw:T->T->Option T:=i2 λ i j=>.bl (decide (j<=i))
section
variable {fa fb:Ev->Option T}{ta tb:zy}
theorem wI (ha:yy fa ta) (hb:yy fb tb):xx (zg xZ fa fb) (yx (xB λ i j=>.int (i-j)) ta tb):=zu (oY (λ _ _ _=>vA) λ _ _ _=>nofun) ha hb
theorem vb (ha:yy fa ta) (hb:yy fb tb):xx (zg wJ fa fb) (yx (fI (λ _ j=>0<j) λ i j=>.int (i%j)) ta tb):=zu (gm (λ _ _ _=>vA) λ _ _ _=>nofun) ha hb
theorem sO (ha:yy fa ta) (hb:yy fb tb):xx (zg tW fa fb) (yx (fI xR λ i j=>.int (i/j)) ta tb):=zu (gm (λ _ _ _=>vA) λ _ _ _=>nofun) ha hb
theorem U0 (ha:yy fa ta) (hb:yy fb tb):xx (zg dY fa fb) (yx (fI qI λ i j=>.int (i ^ j.toNat)) ta tb):=zu (gm (λ _ _ _=>vA) λ _ _ _=>nofun) ha hb
theorem U9 (ha:yy fa ta) (hb:yy fb tb):xx (zg qh fa fb) (yx kf ta tb):=zu (oY (λ _ _ _=>wF) λ _ _ _=>nofun) ha hb
theorem iy (ha:yy fa ta) (hb:yy fb tb):xx (zg tU fa fb) (yx gC ta tb):=zu (oY (λ _ _ _=>wF) λ _ _ _=>nofun) ha hb
theorem cJ (ha:yy fa ta) (hb:yy fb tb):xx (zg gw fa fb) (yx gD ta tb):=zu (oY (λ _ _ _=>wF) λ _ _ _=>nofun) ha hb
end
noncomputable def xp (neg:Bool):T->T->Option T:=λ x y=>if dep x<=60/\dep y<=60 then some (.bl (cond neg (!eqT x y) (eqT x y))) else none
noncomputable def pD (neg:Bool):T->T->Option T:=λ x y=>match xU y with
 | some ts=>if dep x<=60/\yF ts<=60 then some (.bl (cond neg (!(ts.any λ t=>eqT t x)) (ts.any λ t=>eqT t x))) else none
 | none=>none
theorem vI {neg:Bool}:Good2 zW (xp neg) (vq neg):=λ S Z x y z d e Q hz hx hy ef hq=>by
 unfold xp at ef;split at ef
 .rename_i h;cases ef;exact⟨x,y,hx.sn,hy.sn,h.1,h.2,hq _ S (.refl S) (Cl.of (λ _=>nofun) wF)⟩
 .cases ef
theorem Ro {neg:Bool}:Good2 zW (pD neg) (rh neg):=λ S Z x y z d e Q hz hx hy ef hq=>by
 unfold pD at ef;split at ef
 .rename_i ts ht;split at ef
  .rename_i h;cases ef;obtain⟨ds,h1,h2⟩:=hy.seq ht;exact⟨x,ts,ds,hx.sn,h1,zj.sx (oV S Z) ts h2,h.1,h.2,hq _ S (.refl S) (Cl.of (λ _=>nofun) wF)⟩
  .cases ef
 .cases ef
@[simp] noncomputable def zm:T->T->Option T:=λ x y=>match xU x,y with
 | some ts,.int i=>L2.yp ts i
 | _,_=>none
theorem zI:Good2 vv zm wB:=λ S Z x y z d e Q hz hx hy ef hq=>by
 unfold zm at ef;split at ef
 .rename_i ts i ht;cases hy.int;obtain⟨ds,h1,h2⟩:=hx.seq ht;obtain⟨c,h3,h4⟩:=h2.at ef;unfold zT at h1;split at h1
  .cases h1;exact RB h3 (hq c S (.refl S) h4)
  .cases h1;exact RC h3 (hq c S (.refl S) h4)
  .split at h1
   .rename_i q;cases h1;exact RD q h3 (hq c S (.refl S) h4)
   .cases h1
  .cases h1
 .cases ef
@[simp] noncomputable def uk:T->T->Option T
 | .int i,.int j=>some (.int (i+j))
 | .str i,.str j=>if i.length+j.length<=sizeLine then some (.str (i++j)) else none
 | .lst ts,.lst us=>if ts.length+us.length<=sizeLine then some (.lst (ts++us)) else none
 | .tup ts,.tup us=>if ts.length+us.length<=sizeLine then some (.tup (ts++us)) else none
 | _,_=>none
def uf:yP:=λ x y S Q=>match x,y with
 | .int i,.int j=>Q (.int (i+j)) S
 | .str i,.str j=>i.length+j.length<=sizeLine/\Q (.str (i++j)) S
 | .tup ds,.tup es=>ds.length+es.length<=sizeLine/\Q (.tup (ds++es)) S
 | .zh,_=>False
 | .bl _,_=>False
 | .int _,_=>False
 | .str _,_=>False
 | .tup _,_=>False
 | x,y=>match zT x S,zT y S with
  | some ds,some es=>(∀ ts,y≠.tup ts)/\ds.length+es.length<=sizeLine/\∀ r,S r=none->Q (.ref r) (ups S r (.lst (ds++es)))
  | _,_=>False
theorem good_add:Good2 zW uk uf:=λ S Z x y z d e Q hz hx hy ef hq=>by
 unfold uk at ef;split at ef
 .cases ef;cases hx.int;cases hy.int;exact hq _ S (.refl S) (Cl.of (λ _=>nofun) vA)
 .split at ef
  .rename_i h;cases ef;cases hx.str;cases hy.str;exact⟨h,hq _ S (.refl S) (Cl.of (λ _=>nofun) da)⟩
  .cases ef
 .split at ef
  .rename_i h;cases ef;obtain⟨ds,h1,h2⟩:=hx.seq rfl;obtain⟨es,h3,h4⟩:=hy.seq rfl;have nt:∀ ts,e≠.tup ts:=by
    obtain⟨_,q | ⟨_,q,_⟩,_⟩:=hy.lst <;> subst q <;> exact λ _=>nofun
   have key:(∀ ts,e≠.tup ts)/\ds.length+es.length<=sizeLine/\∀ r,S r=none->Q (.ref r) (ups S r (.lst (ds++es))):=
    ⟨nt,by rw[h2.len,h4.len];exact h,λ r hr=>hq _ _ (.new hr _) (rR hz hr (h2.append h4))⟩
   obtain⟨_,q | ⟨a,q,_⟩,_⟩:=hx.lst
   .subst q;unfold uf;dsimp only;rw[h1,h3];exact key
   .subst q;unfold uf;dsimp only;rw[h1,h3];exact key
  .cases ef
 .split at ef
  .rename_i h;cases ef;obtain⟨ds,rfl,h2⟩:=hx.tup;obtain⟨es,rfl,h4⟩:=hy.tup;exact⟨by rw[h2.len,h4.len];exact h,hq _ S (.refl S) (Cl.of (λ _=>nofun) (qS (h2.append h4)))⟩
  .cases ef
 .cases ef
def vj (f:Ev->Option Bool) (t:yD):Prop:=∀ S Z δ ρ y Q,ER S Z δ ρ->f ρ=some y->(∀ S',Sx S S'->Q y S')->t δ S Q
@[simp] noncomputable def y9 (f:Ev->Option T):Ev->Option Bool:=fun ρ=>(f ρ).bind λ x=>match x with
 | .bl b=>some b
 | _=>none
@[simp] noncomputable def sF:T->Option Bool
 | .zh=>some false
 | .bl b=>some b
 | .int i=>some (i != 0)
 | .str x=>if x.length<=sizeLine then some ((x.length:Int) != 0) else none
 | .tup ts=>some (!ts.isEmpty)
 | .lst ts=>some (!ts.isEmpty)
 | .zU=>none
@[simp] noncomputable def xv (f:Ev->Option T):Ev->Option Bool:=fun ρ=>(f ρ).bind sF
@[simp] noncomputable def gK (f g:Ev->Option Bool):Ev->Option Bool:=fun ρ=>(f ρ).bind λ b=>if b=true then g ρ else some false
@[simp] noncomputable def kj (f g:Ev->Option Bool):Ev->Option Bool:=fun ρ=>(f ρ).bind λ b=>if b=true then some true else g ρ
@[simp] noncomputable def rj (f:Ev->Option Bool):Ev->Option Bool:=fun ρ=>(f ρ).map (!·)
section
variable {f g:Ev->Option T}{t u:zy}{fb gb:Ev->Option Bool}{tb ub:yD}{R:Rk}
theorem xG (h:yy f t):vj (y9 f) (uh t):=λ S Z δ ρ y Q hE e hq=>by
 obtain⟨x,e1,e2⟩:=zOb e;refine h S Z δ ρ x _ hE e1 λ d S1 s1 r1=>?_;split at e2
 .cases e2;cases Vw.bl r1;exact hq S1 s1
 .cases e2
theorem u7 (h:yy f t):vj (xv f) (a9 t):=λ S Z δ ρ y Q hE e hq=>by
 obtain⟨x,e1,e2⟩:=zOb e;refine h S Z δ ρ x _ hE e1 λ d S1 s1 r1=>?_;cases x with
 | zh=>cases Vw.zh r1;cases e2;exact hq S1 s1
 | bl b=>cases Vw.bl r1;cases e2;exact hq S1 s1
 | int b=>cases Vw.int r1;cases e2;exact hq S1 s1
 | str b=>
  cases Vw.str r1;simp only[sF] at e2;split at e2
  .rename_i hh;cases e2;exact⟨hh,hq S1 s1⟩
  .cases e2
 | tup ts=>
  obtain⟨ds,rfl,h2⟩:=Vw.tup r1;cases e2;show Q (!ds.isEmpty) S1;rw[h2.empty];exact hq S1 s1
 | lst ts=>
  obtain⟨ds,rfl | ⟨a,rfl,h1⟩,h2⟩:=Vw.lst r1
  .cases e2;show Q (!ds.isEmpty) S1;rw[h2.empty];exact hq S1 s1
  .cases e2;refine Xc h1 ?_;rw[h2.empty];exact hq S1 s1
 | zU=>cases e2
theorem cK (h:vj fb tb) (h':vj gb ub):vj (gK fb gb) (nk tb ub):=λ S Z δ ρ y Q hE e hq=>by
 obtain⟨b,e1,e2⟩:=zOb e;refine h S Z δ ρ b _ hE e1 λ S1 s1=>?_;split at e2
 .rename_i hb;rw[if_pos hb];exact h' S1 Z δ ρ y _ (hE.grow s1) e2 λ S2 s2=>hq S2 (s1.trans s2)
 .rename_i hb;rw[if_neg hb];cases e2;exact hq S1 s1
theorem iz (h:vj fb tb) (h':vj gb ub):vj (kj fb gb) (ni tb ub):=λ S Z δ ρ y Q hE e hq=>by
 obtain⟨b,e1,e2⟩:=zOb e;refine h S Z δ ρ b _ hE e1 λ S1 s1=>?_;split at e2
 .rename_i hb;rw[if_pos hb];cases e2;exact hq S1 s1
 .rename_i hb;rw[if_neg hb];exact h' S1 Z δ ρ y _ (hE.grow s1) e2 λ S2 s2=>hq S2 (s1.trans s2)
theorem pz (h:vj fb tb):vj (rj fb) (nj tb):=λ S Z δ ρ y Q hE e hq=>by
 unfold rj at e;obtain⟨b,e1,rfl⟩:=zOm e;exact h S Z δ ρ b _ hE e1 λ S1 s1=>hq S1 s1
@[simp] noncomputable def kE (f g:Ev->Option T):Ev->Option T:=fun ρ=>(f ρ).bind λ x=>match x with
 | .bl k=>if k=true then g ρ else some (.bl false)
 | _=>none
@[simp] noncomputable def cM (f:Ev->Option T):Ev->Option T:=fun ρ=>(f ρ).bind λ x=>match x with
 | .bl k=>some (.bl (!k))
 | _=>none
@[simp] noncomputable def bO (c:Ev->Option Bool) (f g:Ev->Option T):Ev->Option T:=fun ρ=>(c ρ).bind λ b=>if b=true then f ρ else g ρ
theorem i3 [Cl R] (h:yy f t) (h':xY R g u):xY R (kE f g) (nI t u):=λ S Z δ ρ y Q hE e hq=>by
 obtain⟨x,e1,e2⟩:=zOb e;refine h S Z δ ρ x _ hE e1 λ d S1 s1 r1=>?_;split at e2
 .cases Vw.bl r1;split at e2
  .rename_i hb;dsimp only;rw[if_pos hb];exact h' S1 Z δ ρ y _ (hE.grow s1) e2 λ d S2 s2 r2=>hq d S2 (s1.trans s2) (Cl.cl s1 r2)
  .rename_i hb;dsimp only;rw[if_neg hb];cases e2;exact hq _ S1 s1 (Cl.of (λ _=>nofun) wF)
 .cases e2
theorem U5 [Cl R] (h:yy f t):xY R (cM f) (nE t):=λ S Z δ ρ y Q hE e hq=>by
 obtain⟨x,e1,e2⟩:=zOb e;refine h S Z δ ρ x _ hE e1 λ d S1 s1 r1=>?_;split at e2
 .cases Vw.bl r1;cases e2;exact hq _ S1 s1 (Cl.of (λ _=>nofun) wF)
 .cases e2
theorem UK [Cl R] (hc:vj fb tb) (h:xY R f t) (h':xY R g u):xY R (bO fb f g) (nG tb t u):=λ S Z δ ρ y Q hE e hq=>by
 obtain⟨b,e1,e2⟩:=zOb e;refine hc S Z δ ρ b _ hE e1 λ S1 s1=>?_;split at e2
 .rename_i hb;rw[if_pos hb];exact h S1 Z δ ρ y _ (hE.grow s1) e2 λ d S2 s2 r2=>hq d S2 (s1.trans s2) (Cl.cl s1 r2)
 .rename_i hb;rw[if_neg hb];exact h' S1 Z δ ρ y _ (hE.grow s1) e2 λ d S2 s2 r2=>hq d S2 (s1.trans s2) (Cl.cl s1 r2)
end
noncomputable def rD (S:SS) (Z:Addr->Prop):List T->List D->Prop
 | [],ds=>ds=[]
 | t::ts,ds=>∃ c cs,ds=c::cs/\Vw S Z t c/\rD S Z ts cs
def rH (f:Ev->Option (List T)) (t:yt):Prop:=∀ S Z δ ρ ys Q,ER S Z δ ρ->f ρ=some ys->(∀ ds S',Sx S S'->rD S' Z ys ds->Q ds S')->t δ S Q
def qB (f:Ev->Option (List T)) (t:yt):Prop:=∀ S Z δ ρ ys Q,ER S Z δ ρ->f ρ=some ys->(∀ ds S',Sx S S'->zj (zQ S' Z) ys ds->Q ds S')->t δ S Q
@[simp] noncomputable def zr:Ev->Option (List T):=λ _=>some []
@[simp] noncomputable def zc (f:Ev->Option T) (g:Ev->Option (List T)):Ev->Option (List T):=fun ρ=>(f ρ).bind λ x=>(g ρ).bind λ xs=>some (x::xs)
section
variable {f:Ev->Option T}{g:Ev->Option (List T)}{t:zy}{u:yt}
theorem yA:rH zr km:=λ S Z δ ρ y Q hE e hq=>by cases e;exact hq [] S (.refl S) rfl
theorem zG:qB zr km:=λ S Z δ ρ y Q hE e hq=>by cases e;exact hq [] S (.refl S) .nil
theorem yd (h:yy f t) (h':rH g u):rH (zc f g) (qp t u):=λ S Z δ ρ y Q hE e hq=>by
 obtain⟨x,e1,e0⟩:=zOb e;obtain⟨xs,e2,e3⟩:=zOb e0;cases e3;refine h S Z δ ρ x _ hE e1 λ d S1 s1 r1=>?_;refine h' S1 Z δ ρ xs _ (hE.grow s1) e2 λ ds S2 s2 r2=>?_;exact hq _ S2 (s1.trans s2) ⟨d,ds,rfl,Vw.grow r1 s2,r2⟩
theorem zk (h:vx f t) (h':qB g u):qB (zc f g) (qp t u):=λ S Z δ ρ y Q hE e hq=>by
 obtain⟨x,e1,e0⟩:=zOb e;obtain⟨xs,e2,e3⟩:=zOb e0;cases e3;refine h S Z δ ρ x _ hE e1 λ d S1 s1 r1=>?_;refine h' S1 Z δ ρ xs _ (hE.grow s1) e2 λ ds S2 s2 r2=>?_;exact hq _ S2 (s1.trans s2) (.cons (Sn.sx (wM s2) x r1) r2)
@[simp] noncomputable def tupS (g:Ev->Option (List T)):Ev->Option T:=fun ρ=>(g ρ).bind λ xs=>if xs.length<=sizeLine then some (.tup xs) else none
@[simp] noncomputable def vd (g:Ev->Option (List T)):Ev->Option T:=fun ρ=>(g ρ).bind λ xs=>if xs.length<=sizeLine then some (.lst xs) else none
theorem xF (h:qB g u):xx (tupS g) (aG u):=λ S Z δ ρ y Q hE e hq=>by
 obtain⟨xs,e1,e2⟩:=zOb e;split at e2
 .rename_i hl;cases e2;refine h S Z δ ρ xs _ hE e1 λ ds S1 s1 r1=>⟨by rw[r1.len];exact hl,hq _ S1 s1 (Cl.of (λ _=>nofun) (qS r1))⟩
 .cases e2
theorem vo (h:qB g u):xx (vd g) (aK u):=λ S Z δ ρ y Q hE e hq=>by
 obtain⟨xs,e1,e2⟩:=zOb e;split at e2
 .rename_i hl;cases e2;refine h S Z δ ρ xs _ hE e1 λ ds S1 s1 r1=>⟨by rw[r1.len];exact hl,λ p hp=>hq _ _ (s1.trans (.new hp _)) (Cl.cl s1 (rR (hE.grow s1).zd hp r1))⟩
 .cases e2
end
@[simp] noncomputable def zJ (F:List T->Option T) (g:Ev->Option (List T)):Ev->Option T:=fun ρ=>(g ρ).bind F
def uH (R:Rk) (F:List T->Option T) (f:xW):Prop:=∀ S Z ys z ds Q,(∀ a,Z a->S a≠none)->rD S Z ys ds->F ys=some z->(∀ c S',Sx S S'->R S S' Z z c->Q c S')->f ds S Q
theorem xh {R:Rk} [Cl R] {F:List T->Option T}{f:xW}{g:Ev->Option (List T)}{u:yt}(hf:uH R F f) (h:rH g u):xY R (zJ F g) (xM f u):=λ S Z δ ρ y Q hE e hq=>by
 obtain⟨xs,e1,e2⟩:=zOb e;refine h S Z δ ρ xs _ hE e1 λ ds S1 s1 r1=>?_;exact hf S1 Z xs y ds Q (hE.grow s1).zd r1 e2 λ c S' s r=>hq c S' (s1.trans s) (Cl.cl s1 r)
@[simp] noncomputable def qf:List T->Option T
 | [.str z]=>if z.length<=sizeLine then some (.int z.length) else none
 | [y]=>(xU y).map λ ts=>.int ts.length
 | _=>none
theorem uO {S:SS}{Z:Addr->Prop}{y:T}{ds:List D}(h:rD S Z [y] ds):∃ d,ds=[d]/\Vw S Z y d:=by
 obtain⟨c,cs,rfl,h1,h2⟩:=h;cases h2;exact⟨c,rfl,h1⟩
theorem ez {S:SS}{Z:Addr->Prop}{y z:T}{ds:List D}(h:rD S Z [y,z] ds):∃ d e,ds=[d,e]/\Vw S Z y d/\Vw S Z z e:=by
 obtain⟨c,cs,rfl,h1,c2,cs2,rfl,h2,h3⟩:=h;cases h3;exact⟨c,c2,rfl,h1,h2⟩
theorem oX:uH zW qf ue:=λ S Z ys z ds Q hz hv e hq=>by
 unfold qf at e;split at e
 .obtain⟨d,rfl,h1⟩:=uO hv;split at e
  .rename_i hl;cases e;cases h1.str;exact⟨hl,hq _ S (.refl S) (Cl.of (λ _=>nofun) vA)⟩
  .cases e
 .obtain⟨d,rfl,h1⟩:=uO hv;obtain⟨ts,e1,rfl⟩:=zOm e;obtain⟨es,h2,h3⟩:=h1.seq e1;refine RA h2 ?_;rw[h3.len];exact hq _ S (.refl S) (Cl.of (λ _=>nofun) vA)
 .cases e
@[simp] noncomputable def listS:List T->Option T
 | [y]=>(xU y).map .lst
 | _=>none
theorem lZ:uH zW listS ud:=λ S Z ys z ds Q hz hv e hq=>by
 unfold listS at e;split at e
 .obtain⟨d,rfl,h1⟩:=uO hv;obtain⟨ts,e1,rfl⟩:=zOm e;obtain⟨es,h2,h3⟩:=h1.seq e1;exact R9 h2 λ p hp=>hq _ _ (.new hp _) (rR hz hp h3)
 .cases e
@[simp] noncomputable def qO:List T->Option T
 | [y]=>(xU y).map .tup
 | _=>none
theorem lW:uH zW qO uc:=λ S Z ys z ds Q hz hv e hq=>by
 unfold qO at e;split at e
 .rename_i y;obtain⟨d,rfl,h1⟩:=uO hv;obtain⟨ts,e1,rfl⟩:=zOm e;obtain⟨es,h2,h3⟩:=h1.seq e1;have k:Q (.tup es) S:=hq _ S (.refl S) (Cl.of (λ _=>nofun) (qS h3));unfold zT at h2;split at h2
  .cases h2;exact k
  .cases h2;exact k
  .split at h2
   .rename_i q;cases h2;exact R8 q k
   .cases h2
  .cases h2
 .cases e
@[simp] noncomputable def rb (g:Int->Int->Int):List T->Option T
 | [.int i,.int j]=>some (.int (g i j))
 | _=>none
theorem bU {g:Int->Int->Int}:uH zW (rb g) (vL λ i j=>.int (g i j)):=λ S Z ys z ds Q hz hv e hq=>by
 unfold rb at e;split at e
 .obtain⟨d,d',rfl,h1,h2⟩:=ez hv;cases e;cases h1.int;cases h2.int;exact hq _ S (.refl S) (Cl.of (λ _=>nofun) vA)
 .cases e
@[simp] noncomputable def oM:List T->Option T:=rb λ i j=>if j>i then j else i
@[simp] noncomputable def sV:List T->Option T:=rb λ i j=>if j<i then j else i
noncomputable def rA:List T->Option (List Bool)
 | []=>some []
 | .bl b::ts=>(rA ts).map (b::·)
 | _::_=>none
theorem Zj:∀ {ts:List T}{bs:List Bool},rA ts=some bs->ts=bs.map T.bl
 | [],bs,h=>by cases h;rfl
 | .bl b::ts,bs,h=>by
  unfold rA at h;obtain⟨cs,h1,rfl⟩:=zOm h;rw[List.map_cons,<- Zj h1]
 | .zh::ts,bs,h=>by cases h
 | .int _::ts,bs,h=>by cases h
 | .str _::ts,bs,h=>by cases h
 | .tup _::ts,bs,h=>by cases h
 | .lst _::ts,bs,h=>by cases h
theorem QM (bs:List Bool):rA (bs.map T.bl)=some bs:=by
 induction bs with
 | nil=>rfl
 | cons b bs ih=>rw[List.map_cons];unfold rA;rw[ih];rfl
@[simp] noncomputable def k6 (g:List Bool->Bool):List T->Option T
 | [.lst ts]=>(rA ts).map λ bs=>.bl (g bs)
 | _=>none
def vM (g:List Bool->Bool):xW:=λ ds S Q=>match ds with
 | [.tup _]=>False
 | [d]=>∃ bs:List Bool,zT d S=some (bs.map D.bl)/\Q (.bl (g bs)) S
 | _=>False
theorem bV {g:List Bool->Bool}:uH zW (k6 g) (vM g):=λ S Z ys z ds Q hz hv e hq=>by
 unfold k6 at e;split at e
 .obtain⟨d,rfl,h1⟩:=uO hv;obtain⟨bs,e1,rfl⟩:=zOm e;cases Zj e1;obtain⟨es,h2,h3⟩:=h1.seq rfl;cases h3.Zk;have key:∃ bs:List Bool,zT d S=some (bs.map D.bl)/\Q (.bl (g bs)) S:=⟨bs,h2,hq _ S (.refl S) (Cl.of (λ _=>nofun) wF)⟩
  obtain⟨_,q | ⟨a,q,_⟩,_⟩:=h1.lst
  .subst q;exact key
  .subst q;exact key
 .cases e
end L5
namespace L5
open PySem L2 L3
structure FR (S0:SS) (Z0:Addr->Prop) (S:SS) (Z:Addr->Prop) (δ:yk) (ρ:Ev):Prop where
 er:ER S Z δ ρ
 len:δ.length=ρ.length
 sx:Sx S0 S
 z0:∀ a,Z0 a->S0 a≠none
 zz:∀ a,Z0 a->Z a
 zn:∀ a,Z a->Z0 a\/S0 a=none
 fr:∀ (i:Nat) ts p,ρ[i]?=some (some (.own ts))->δ[i]?=some (some (.ref p))->S0 p=none
 dj:∀ (i j:Nat) ts us p,i≠j->ρ[i]?=some (some (.own ts))->ρ[j]?=some (some (.own us))->δ[i]?=some (some (.ref p))->δ[j]?=some (some (.ref p))->False
theorem yR {α:Type}{l:List α}{i j:Nat}{a b:α}(h:(l.set i a)[j]?=some b):(i=j/\i<l.length/\b=a)\/(i≠j/\l[j]?=some b):=by
 rw[List.getElem?_set] at h;by_cases e:i=j
 .subst e;rw[if_pos rfl] at h;by_cases hl:i<l.length
  .rw[if_pos hl] at h;cases h;exact .inl ⟨rfl,hl,rfl⟩
  .rw[if_neg hl] at h;cases h
 .rw[if_neg e] at h;exact .inr ⟨e,h⟩
theorem vg {α:Type}{l:List α}{i j:Nat}{a:α}(h:i≠j):(l.set i a)[j]?=l[j]?:=by rw[List.getElem?_set,if_neg h]
theorem pH {α:Type}{l:List α}{i:Nat}{a:α}(h:i<l.length):(l.set i a)[i]?=some a:=by rw[List.getElem?_set,if_pos rfl,if_pos h]
section
variable {S0 S S':SS}{Z0 Z:Addr->Prop}{δ:yk}{ρ:Ev}{y:T}{d:D}
theorem FR.grow (h:FR S0 Z0 S Z δ ρ) (s:Sx S S'):FR S0 Z0 S' Z δ ρ:=⟨h.er.grow s,h.len,h.sx.trans s,h.z0,h.zz,h.zn,h.fr,h.dj⟩
theorem FR.uP (h:FR S0 Z0 S Z δ ρ) (i:Nat) (r:Sn (zQ S Z) y d):FR S0 Z0 S Z (δ.set i (some d)) (ρ.set i (some (.im y))):=by
 refine⟨⟨h.er.zd,λ j t e=>?_,λ j ts e=>?_⟩,by simp[h.len],h.sx,h.z0,h.zz,h.zn,λ j ts p e e'=>?_,λ j k ts us p n e1 e2 e3 e4=>?_⟩
 .rcases yR e with ⟨rfl,hl,e⟩ | ⟨n,e⟩
  .cases e;exact⟨d,pH (by rw[h.len];exact hl),r⟩
  .rw[vg n];exact h.er.im j t e
 .rcases yR e with ⟨rfl,hl,e⟩ | ⟨n,e⟩
  .cases e
  .rw[vg n];exact h.er.ow j ts e
 .rcases yR e with ⟨rfl,hl,e⟩ | ⟨n,e⟩
  .cases e
  .rw[vg n] at e';exact h.fr j ts p e e'
 .rcases yR e1 with ⟨rfl,hl,e⟩ | ⟨n1,e1⟩
  .cases e
  rcases yR e2 with ⟨rfl,hl,e⟩ | ⟨n2,e2⟩
  .cases e
  rw[vg n1] at e3;rw[vg n2] at e4;exact h.dj j k ts us p n e1 e2 e3 e4
theorem FR.dg {ts:C}{ds:O}{p:Addr}(h:FR S0 Z0 S Z δ ρ) (s:Sx S S') (i:Nat) (hp:S p=none) (hd:S' p=some ds) (r:t9 (zQ S' λ a=>Z a\/a=p) ts ds):
  FR S0 Z0 S' (λ a=>Z a\/a=p) (δ.set i (some (.ref p))) (ρ.set i (some (.own ts))):=by
 have np:∀ (j:Nat) us q,ρ[j]?=some (some (.own us))->δ[j]?=some (some (.ref q))->q≠p:=λ j us q e e' z=>by
  subst z;obtain⟨p',ds',h1,h2,_⟩:=h.er.ow j us e;rw[e'] at h1;cases h1;rw[hp] at h2;cases h2
 refine⟨⟨λ a z=>?_,λ j t e=>?_,λ j us e=>?_⟩,by simp[h.len],h.sx.trans s,h.z0,λ a z=>.inl (h.zz a z),λ a z=>z.elim (h.zn a) (λ q=>.inr (by subst q;exact h.sx.none hp)),λ j us q e e'=>?_,λ j k us vs q n e1 e2 e3 e4=>?_⟩
 .rcases z with z | rfl
  .exact λ q=>h.er.zd a z (s.none q)
  .rw[hd];nofun
 .rcases yR e with ⟨rfl,hl,e⟩ | ⟨n,e⟩
  .cases e
  .rw[vg n];obtain⟨d,h1,h2⟩:=h.er.im j t e;exact⟨d,h1,Sn.sx (pG s hp) t h2⟩
 .rcases yR e with ⟨rfl,hl,e⟩ | ⟨n,e⟩
  .cases e;exact⟨p,ds,pH (by rw[h.len];exact hl),hd,r,.inr rfl⟩
  .rw[vg n];obtain⟨q,es,h1,h2,h3,h4⟩:=h.er.ow j us e;exact⟨q,es,h1,s _ _ h2,t9.sx (pG s hp) h3,.inl h4⟩
 .rcases yR e with ⟨rfl,hl,e⟩ | ⟨n,e⟩
  .rw[pH (by rw[h.len];exact hl)] at e';cases e';exact h.sx.none hp
  .rw[vg n] at e';exact h.fr j us q e e'
 .rcases yR e1 with ⟨rfl,hl,e⟩ | ⟨n1,e1⟩
  .rcases yR e2 with ⟨rfl,_,_⟩ | ⟨n2,e2⟩
   .exact n rfl
   .rw[pH (by rw[h.len];exact hl)] at e3;cases e3;rw[vg n2] at e4;exact np k vs p e2 e4 rfl
  .rcases yR e2 with ⟨rfl,hl,_⟩ | ⟨n2,e2⟩
   .rw[pH (by rw[h.len];exact hl)] at e4;cases e4;rw[vg n1] at e3;exact np j us p e1 e3 rfl
   .rw[vg n1] at e3;rw[vg n2] at e4;exact h.dj j k us vs q n e1 e2 e3 e4
theorem FR.forget (h:FR S0 Z0 S Z δ ρ) (i:Nat):FR S0 Z0 S Z δ (ρ.set i none):=by
 refine⟨⟨h.er.zd,λ j t e=>?_,λ j ts e=>?_⟩,by simp[h.len],h.sx,h.z0,h.zz,h.zn,λ j ts p e e'=>?_,λ j k ts us p n e1 e2 e3 e4=>?_⟩
 .rcases yR e with ⟨rfl,hl,e⟩ | ⟨n,e⟩
  .cases e
  .exact h.er.im j t e
 .rcases yR e with ⟨rfl,hl,e⟩ | ⟨n,e⟩
  .cases e
  .exact h.er.ow j ts e
 .rcases yR e with ⟨rfl,hl,e⟩ | ⟨n,e⟩
  .cases e
  .exact h.fr j ts p e e'
 .rcases yR e1 with ⟨rfl,hl,e⟩ | ⟨n1,e1⟩
  .cases e
  rcases yR e2 with ⟨rfl,hl,e⟩ | ⟨n2,e2⟩
  .cases e
  exact h.dj j k ts us p n e1 e2 e3 e4
@[simp] noncomputable def yO (is:List Nat) (ρ:Ev):Ev:=is.foldl (fun ρ i=>ρ.set i none) ρ
theorem FR.yO:∀ (is:List Nat) {ρ:Ev},FR S0 Z0 S Z δ ρ->FR S0 Z0 S Z δ (yO is ρ)
 | [],_,h=>h
 | i::is,_,h=>FR.yO is (h.forget i)
theorem FR.freeze {ts:List T}{p:Addr}(h:FR S0 Z0 S Z δ ρ) (i:Nat) (e:ρ[i]?=some (some (.own (.lst ts)))) (ed:δ[i]?=some (some (.ref p))):
  FR S0 Z0 S (λ a=>Z a/\a≠p) δ (ρ.set i (some (.im (.lst ts))))/\Sn (zQ S λ a=>Z a/\a≠p) (.lst ts) (.ref p):=by
 obtain⟨p',o,h1,h2,h3,h4⟩:=h.er.ow i _ e;rw[ed] at h1;cases h1;obtain⟨ds,rfl⟩:∃ ds,o=.lst ds:=by
  cases o with
  | lst ds=>exact⟨ds,rfl⟩
  | ye _=>exact h3.elim
 replace h3:zj (zQ S Z) ts ds:=h3;have hS:Sn (zQ S λ a=>Z a/\a≠p) (.lst ts) (.ref p):=by
  simp only[Sn];exact⟨ds,.inr ⟨p,rfl,by rw[vH (λ z=>z.2 rfl)];exact h2⟩,zj.sx (ua λ a z=>z.1) ts h3⟩
 refine⟨?_,hS⟩;refine⟨⟨λ a z=>h.er.zd a z.1,λ j t e'=>?_,λ j us e'=>?_⟩,by simp[h.len],h.sx,h.z0,λ a z=>⟨h.zz a z,λ q=>?_⟩,λ a z=>h.zn a z.1,λ j us q e' ed'=>?_,λ j k us vs q n e1 e2 e3 e4=>?_⟩
 .rcases yR e' with ⟨rfl,hl,e'⟩ | ⟨n,e'⟩
  .cases e';exact⟨_,ed,hS⟩
  .obtain⟨d,g1,g2⟩:=h.er.im j t e';exact⟨d,g1,Sn.sx (ua λ a z=>z.1) t g2⟩
 .rcases yR e' with ⟨rfl,hl,e'⟩ | ⟨n,e'⟩
  .cases e'
  .obtain⟨q,es,g1,g2,g3,g4⟩:=h.er.ow j us e';exact⟨q,es,g1,g2,t9.sx (ua λ a z=>z.1) g3,g4,λ z=>by subst z;exact h.dj i j _ us q n e e' ed g1⟩
 .subst q;exact h.z0 a z (h.fr i _ a e ed)
 .rcases yR e' with ⟨rfl,hl,e'⟩ | ⟨n,e'⟩
  .cases e'
  .exact h.fr j us q e' ed'
 .rcases yR e1 with ⟨rfl,hl,e⟩ | ⟨n1,e1⟩
  .cases e
  rcases yR e2 with ⟨rfl,hl,e⟩ | ⟨n2,e2⟩
  .cases e
  exact h.dj j k us vs q n e1 e2 e3 e4
theorem FR.mut {ts us:C}{es:O}{p:Addr}(h:FR S0 Z0 S Z δ ρ) (i:Nat) (e:ρ[i]?=some (some (.own ts))) (ed:δ[i]?=some (some (.ref p))) (r:t9 (zQ S Z) us es):
  FR S0 Z0 (ups S p es) Z δ (ρ.set i (some (.own us))):=by
 obtain⟨p',ds,h1,h2,h3,h4⟩:=h.er.ow i ts e;rw[ed] at h1;cases h1;have hh:zQ (ups S p es) Z=zQ S Z:=Rb h4;have hpn:=h.fr i ts p e ed;refine⟨⟨λ a z=>?_,λ j t e'=>?_,λ j vs e'=>?_⟩,by simp[h.len],λ b o q=>?_,h.z0,h.zz,h.zn,λ j vs q e' ed'=>?_,λ j k vs ws q n e1 e2 e3 e4=>?_⟩
 .by_cases hp:a=p
  .subst hp;rw[sy];nofun
  .rw[tF hp];exact h.er.zd a z
 .rw[hh];rcases yR e' with ⟨rfl,hl,e'⟩ | ⟨n,e'⟩
  .cases e'
  .exact h.er.im j t e'
 .rw[hh];rcases yR e' with ⟨rfl,hl,e'⟩ | ⟨n,e'⟩
  .cases e';exact⟨p,es,ed,sy,r,h4⟩
  .obtain⟨q,es',g1,g2,g3,g4⟩:=h.er.ow j vs e';refine⟨q,es',g1,?_,g3,g4⟩;rw[tF (λ z=>by subst z;exact h.dj i j ts vs q n e e' ed g1)];exact g2
 .rw[tF (λ z=>by subst z;rw[hpn] at q;cases q)];exact h.sx b o q
 .rcases yR e' with ⟨rfl,hl,_⟩ | ⟨n,e'⟩
  .rw[ed] at ed';cases ed';exact hpn
  .exact h.fr j vs q e' ed'
 .rcases yR e1 with ⟨rfl,hl,_⟩ | ⟨n1,e1⟩
  .rcases yR e2 with ⟨rfl,hl,_⟩ | ⟨n2,e2⟩
   .exact n rfl
   .exact h.dj _ k ts ws q n e e2 e3 e4
  .rcases yR e2 with ⟨rfl,hl,_⟩ | ⟨n2,e2⟩
   .exact h.dj j _ vs ts q n e1 e e3 e4
   .exact h.dj j k vs ws q n e1 e2 e3 e4
noncomputable def jK (S0 S:SS) (Z:Addr->Prop):SS:=open Classical in λ a=>if S0 a=none/\Z a then none else S a
theorem lg {a:Addr}(h:¬ (S0 a=none/\Z a)):jK S0 S Z a=S a:=if_neg h
theorem jJ {a:Addr}(h:S0 a=none/\Z a):jK S0 S Z a=none:=if_pos h
theorem FR.rebase (h:FR S0 Z0 S Z δ ρ):∃ S1,Sx S0 S1/\FR S1 Z0 S Z δ ρ/\Sx (zQ S Z) S1:=by
 refine⟨jK S0 S Z,λ b o q=>?_,⟨h.er,h.len,λ b o q=>?_,λ a z=>?_,h.zz,λ a z=>?_,λ i ts p e ed=>?_,h.dj⟩,λ b o q=>?_⟩
 .rw[lg (λ z=>by rw[z.1] at q;cases q)];exact h.sx _ _ q
 .by_cases w:S0 b=none/\Z b
  .rw[jJ w] at q;cases q
  .rw[lg w] at q;exact q
 .rw[lg (λ q=>h.z0 a z q.1)];exact h.er.zd a (h.zz a z)
 .rcases h.zn a z with w | w
  .exact .inl w
  .exact .inr (jJ ⟨w,z⟩)
 .obtain⟨p',ds,h1,h2,h3,h4⟩:=h.er.ow i ts e;rw[ed] at h1;cases h1;exact jJ ⟨h.fr i ts p e ed,h4⟩
 .obtain⟨q1,q2⟩:=uZ q;rw[lg (λ z=>q1 z.2)];exact q2
theorem FR.back {S1:SS}(h:FR S1 Z0 S Z δ ρ) (s:Sx S0 S1) (z0:∀ a,Z0 a->S0 a≠none):FR S0 Z0 S Z δ ρ:=⟨h.er,h.len,s.trans h.sx,z0,h.zz,λ a z=>(h.zn a z).imp id s.none,λ i ts p e ed=>s.none (h.fr i ts p e ed),h.dj⟩
theorem FR.XF {S1:SS}{Z1:Addr->Prop}(h:FR S0 Z0 S Z δ ρ) (b:Sx (zQ S1 Z1) S0) (zz:∀ a,Z0 a->Z1 a):Sx (zQ S1 Z1) (zQ S Z):=λ a o q=>by
 have q0:=b _ _ q;obtain⟨q1,q2⟩:=uZ q;rw[vH]
 .exact h.sx _ _ q0
 .intro z;rcases h.zn a z with w | w
  .exact q1 (zz a w)
  .rw[w] at q0;cases q0
end
inductive Out where
 | nx (ρ:Ev) | rt (t:T) | bk (ρ:Ev) | ct (ρ:Ev)
abbrev Sm:=Ev->Option Out
def Pf (R:Rk) (S0:SS) (Z0:Addr->Prop) (o:Out) (E:rK):Prop:=match o with
 | .nx ρ=>∀ S Z δ,FR S0 Z0 S Z δ ρ->E.nx δ S
 | .bk ρ=>∀ S Z δ,FR S0 Z0 S Z δ ρ->E.bk δ S
 | .ct ρ=>∀ S Z δ,FR S0 Z0 S Z δ ρ->E.ct δ S
 | .rt y=>∀ d S,Sx S0 S->R S0 S Z0 y d->E.rt d S
def yW (R:Rk) (g:Sm) (t:yU):Prop:=∀ S0 Z0 S Z δ ρ o E,FR S0 Z0 S Z δ ρ->g ρ=some o->Pf R S0 Z0 o E->t E δ S
class Lo (R:Rk):Prop extends Cl R where
 lo:∀ {S0 S S':SS}{Z0 Z:Addr->Prop}{y:T}{d:D},Sx S0 S->(∀ a,Z0 a->Z a)->R S S' Z y d->R S0 S' Z0 y d
instance:Lo vv:=⟨λ _ z h=>Sn.sx (ua z) _ h⟩
instance:Lo zW:=⟨λ s z h=>⟨Sn.sx (ua z) _ h.1,λ ts e=>by
 obtain⟨p,ds,h1,h2,h3,h4⟩:=h.2 ts e;exact⟨p,ds,h1,s.none h2,h3,zj.sx (ua λ a q=>q.imp (z a) id) ts h4⟩⟩⟩
@[simp] noncomputable def zD (g h:Sm):Sm:=fun ρ=>(g ρ).bind λ o=>match o with
 | .nx ρ'=>h ρ'
 | o=>some o
@[simp] noncomputable def xT:Sm:=fun ρ=>some (.nx ρ)
@[simp] noncomputable def yr (i:Nat) (f:Ev->Option T):Sm:=fun ρ=>(f ρ).map λ y=>.nx (ρ.set i (some (.im y)))
@[simp] noncomputable def ui (i:Nat) (f:Ev->Option T):Sm:=fun ρ=>(f ρ).bind λ y=>match y with
 | .lst ts=>some (.nx (ρ.set i (some (.own (.lst ts)))))
 | y=>some (.nx (ρ.set i (some (.im y))))
@[simp] noncomputable def nA (f:Ev->Option T):Sm:=fun ρ=>(f ρ).map λ _=>.nx ρ
@[simp] noncomputable def retS (f:Ev->Option T):Sm:=fun ρ=>(f ρ).map .rt
@[simp] noncomputable def o6 (i:Nat):Sm:=fun ρ=>match ρ[i]? with
 | some (some (.own (.lst ts)))=>some (.rt (.lst ts))
 | _=>none
@[simp] noncomputable def xV (c:Ev->Option Bool) (g h:Sm):Sm:=fun ρ=>(c ρ).bind λ b=>if b=true then g ρ else h ρ
@[simp] noncomputable def g9 (i:Nat) (ρ:Ev):Ev:=match ρ[i]? with
 | some (some (.own (.lst ts)))=>ρ.set i (some (.im (.lst ts)))
 | _=>ρ
@[simp] noncomputable def gz (i:Nat) (g:Sm):Sm:=fun ρ=>g (g9 i ρ)
section
variable {R:Rk}{g h:Sm}{t u:yU}{f:Ev->Option T}{te:zy}
theorem zF (hg:yW R g t) (hh:yW R h u):yW R (zD g h) (nD t u):=λ S0 Z0 S Z δ ρ o E F e P=>by
 obtain⟨o1,e1,e2⟩:=zOb e;refine hg S0 Z0 S Z δ ρ o1 { E with nx:=u E } F e1 ?_;cases o1 with
 | nx ρ1=>exact λ S1 Z1 δ1 F1=>hh S0 Z0 S1 Z1 δ1 ρ1 o E F1 e2 P
 | rt y=>cases e2;exact P
 | bk y=>cases e2;exact P
 | ct y=>cases e2;exact P
theorem wg:yW R xT aH:=λ S0 Z0 S Z δ ρ o E F e P=>by cases e;exact P S Z δ F
theorem yu (i:Nat) (hf:vx f te):yW R (yr i f) (vu te (hName i)):=λ S0 Z0 S Z δ ρ o E F e P=>by
 obtain⟨y,e1,rfl⟩:=zOm e;exact hf S Z δ ρ y _ F.er e1 λ d S1 s1 r1=>P S1 Z _ ((F.grow s1).uP i r1)
theorem u6 (i:Nat) (hf:xx f te):yW R (ui i f) (vu te (hName i)):=λ S0 Z0 S Z δ ρ o E F e P=>by
 obtain⟨y,e1,e2⟩:=zOb e;refine hf S Z δ ρ y _ F.er e1 λ d S1 s1 r1=>?_;cases y with
 | lst ts=>
  cases e2;obtain⟨p,ds,rfl,h1,h2,h3⟩:=r1.2 ts rfl;exact P S1 _ _ (F.dg (ts:=.lst ts) (ds:=.lst ds) s1 i h1 h2 h3)
 | zh=>cases e2;exact P S1 Z _ ((F.grow s1).uP i r1.1)
 | bl _=>cases e2;exact P S1 Z _ ((F.grow s1).uP i r1.1)
 | int _=>cases e2;exact P S1 Z _ ((F.grow s1).uP i r1.1)
 | str _=>cases e2;exact P S1 Z _ ((F.grow s1).uP i r1.1)
 | tup _=>cases e2;exact P S1 Z _ ((F.grow s1).uP i r1.1)
 | zU=>cases e2;exact P S1 Z _ ((F.grow s1).uP i r1.1)
theorem lE (hf:yy f te):yW R (nA f) (ko te):=λ S0 Z0 S Z δ ρ o E F e P=>by
 obtain⟨y,e1,rfl⟩:=zOm e;exact hf S Z δ ρ y _ F.er e1 λ d S1 s1 r1=>P S1 Z _ (F.grow s1)
theorem yL [Lo R] (hf:xY R f te):yW R (retS f) (gQ te):=λ S0 Z0 S Z δ ρ o E F e P=>by
 obtain⟨y,e1,rfl⟩:=zOm e;exact hf S Z δ ρ y _ F.er e1 λ d S1 s1 r1=>P d S1 (F.sx.trans s1) (Lo.lo F.sx F.zz r1)
theorem ir (i:Nat):yW zW (o6 i) (gQ (yC i)):=λ S0 Z0 S Z δ ρ o E F e P=>by
 unfold o6 at e;split at e
 .rename_i ts h;cases e;obtain⟨p,ob,h1,h2,h3,h4⟩:=F.er.ow i _ h;obtain⟨ds,rfl⟩:∃ ds,ob=.lst ds:=by
   cases ob with
   | lst ds=>exact⟨ds,rfl⟩
   | ye _=>exact h3.elim
  replace h3:zj (zQ S Z) ts ds:=h3;have hn:=F.fr i _ p h h1;have nz:¬ Z0 p:=λ z=>F.z0 p z hn;show yC i δ S E.rt;unfold yC;rw[h1];refine P _ S F.sx ⟨?_,λ us e=>?_⟩
  .simp only[Sn];exact⟨ds,.inr ⟨p,rfl,by rw[vH nz];exact h2⟩,zj.sx (ua F.zz) ts h3⟩
  .cases e;exact⟨p,ds,rfl,hn,h2,zj.sx (ua λ a q=>q.elim (F.zz a) λ q=>q▸h4) ts h3⟩
 .cases e
theorem wj {c:Ev->Option Bool}{tc:yD}(hc:vj c tc) (hg:yW R g t) (hh:yW R h u):yW R (xV c g h) (aM tc t u):=λ S0 Z0 S Z δ ρ o E F e P=>by
 obtain⟨b,e1,e2⟩:=zOb e;refine hc S Z δ ρ b _ F.er e1 λ S1 s1=>?_;split at e2
 .rename_i hb;rw[if_pos hb];exact hg S0 Z0 S1 Z δ ρ o E (F.grow s1) e2 P
 .rename_i hb;rw[if_neg hb];exact hh S0 Z0 S1 Z δ ρ o E (F.grow s1) e2 P
theorem FR.fz {S0 S:SS}{Z0 Z:Addr->Prop}{δ:yk}{ρ:Ev}(F:FR S0 Z0 S Z δ ρ) (i:Nat):∃ Z',FR S0 Z0 S Z' δ (g9 i ρ):=by
 unfold g9;split
 .rename_i ts h;obtain⟨p,ds,h1,_⟩:=F.er.ow i _ h;exact⟨_,(F.freeze i h h1).1⟩
 .exact⟨Z,F⟩
theorem cF (i:Nat) (hg:yW R g t):yW R (gz i g) t:=λ S0 Z0 S Z δ ρ o E F e P=>by
 obtain⟨Z',F'⟩:=F.fz i;exact hg S0 Z0 S Z' δ _ o E F' e P
def nU (g:T->Ev->Option Ev) (t:xt):Prop:=∀ S0 Z0 S Z δ ρ ρ' y d Q,FR S0 Z0 S Z δ ρ->Sn (zQ S Z) y d->g y ρ=some ρ'->(∀ δ',FR S0 Z0 S Z δ' ρ'->Q δ' S)->t d δ S Q
def kK (g:List T->Ev->Option Ev) (t:wR):Prop:=∀ S0 Z0 S Z δ ρ ρ' ys ds Q,FR S0 Z0 S Z δ ρ->zj (zQ S Z) ys ds->g ys ρ=some ρ'->(∀ δ',FR S0 Z0 S Z δ' ρ'->Q δ' S)->t ds δ S Q
@[simp] noncomputable def zM (i:Nat):T->Ev->Option Ev:=λ y ρ=>some (ρ.set i (some (.im y)))
@[simp] noncomputable def vc:List T->Ev->Option Ev
 | [],ρ=>some ρ
 | _::_,_=>none
@[simp] noncomputable def yv (g:T->Ev->Option Ev) (h:List T->Ev->Option Ev):List T->Ev->Option Ev
 | y::ys,ρ=>(g y ρ).bind fun ρ'=>h ys ρ'
 | [],_=>none
@[simp] noncomputable def wA (n:Nat) (g:List T->Ev->Option Ev):T->Ev->Option Ev
 | .tup ys,ρ=>if ys.length=n then g ys ρ else none
 | _,_=>none
theorem xK (i:Nat):nU (zM i) (hName i):=λ S0 Z0 S Z δ ρ ρ' y d Q F r e hq=>by cases e;exact hq _ (F.uP i r)
theorem lF:kK vc hJ:=λ S0 Z0 S Z δ ρ ρ' ys ds Q F r e hq=>by
 cases ys with
 | nil=>simp only[zj] at r;subst r;cases e;exact⟨rfl,hq _ F⟩
 | cons _ _=>cases e
theorem vX {g:T->Ev->Option Ev}{h:List T->Ev->Option Ev}{t:xt}{u:wR}(hg:nU g t) (hh:kK h u):kK (yv g h) (hV t u):=λ S0 Z0 S Z δ ρ ρ' ys ds Q F r e hq=>by
 cases ys with
 | nil=>cases e
 | cons y ys=>
  simp only[zj] at r;obtain⟨c,cs,rfl,r1,r2⟩:=r;obtain⟨ρ1,e1,e2⟩:=zOb e;exact hg S0 Z0 S Z δ ρ ρ1 y c _ F r1 e1 fun δ1 F1=>hh S0 Z0 S Z δ1 ρ1 ρ' ys cs Q F1 r2 e2 hq
theorem lG {n:Nat}{g:List T->Ev->Option Ev}{t:wR}(hg:kK g t):nU (wA n g) (lV n t):=λ S0 Z0 S Z δ ρ ρ' y d Q F r e hq=>by
 cases y with
 | tup ys=>
  simp only[Sn] at r;obtain⟨ds,rfl,r⟩:=r;simp only[wA] at e;split at e
  .rename_i hl;exact⟨by rw[r.len];exact hl,hg S0 Z0 S Z δ ρ ρ' ys ds Q F r e hq⟩
  .cases e
 | zh=>cases e
 | bl _=>cases e
 | int _=>cases e
 | str _=>cases e
 | lst _=>cases e
 | zU=>cases e
@[simp] noncomputable def eP (f:Ev->Option T) (g:T->Ev->Option Ev):Sm:=fun ρ=>(f ρ).bind λ y=>(g y ρ).map .nx
theorem Ur {g:T->Ev->Option Ev}{tg:xt}(hf:vx f te) (hg:nU g tg):yW R (eP f g) (vu te tg):=λ S0 Z0 S Z δ ρ o E F e P=>by
 obtain⟨y,e1,e2⟩:=zOb e;obtain⟨ρ',e3,rfl⟩:=zOm e2;exact hf S Z δ ρ y _ F.er e1 λ d S1 s1 r1=>hg S0 Z0 S1 Z δ ρ ρ' y d _ (F.grow s1) r1 e3 fun δ' F'=>P S1 Z δ' F'
def rG (free:Bool) (f:Ev->Option (List T)) (ti:wQ):Prop:=∀ S Z δ ρ ts Q,ER S Z δ ρ->f ρ=some ts->(∀ I S',Sx S S'->zj (zQ S' Z) ts I.items->(∀ S'',Sx (if free=true then zQ S' Z else S') S''->I.keep S'')->Q I S')->ti δ S Q
@[simp] noncomputable def xH (f:Ev->Option T):Ev->Option (List T):=fun ρ=>(f ρ).bind xU
theorem sM {f:Ev->Option T}{te:zy}(hf:yy f te):rG false (xH f) (iT te):=λ S Z δ ρ ts Q hE e hq=>by
 obtain⟨y,e1,e2⟩:=zOb e;refine hf S Z δ ρ y _ hE e1 λ d S1 s1 r1=>?_;cases y with
 | tup us=>
  cases e2;obtain⟨ds,rfl,h2⟩:=Vw.tup r1;exact hq _ S1 s1 h2 λ _ _=>trivial
 | lst us=>
  cases e2;obtain⟨ds,rfl | ⟨a,rfl,h1⟩,h2⟩:=Vw.lst r1
  .exact hq _ S1 s1 h2 λ _ _=>trivial
  .dsimp only;rw[h1];exact hq ⟨ds,_⟩ S1 s1 h2 λ S'' s=>s _ _ h1
 | zh=>cases e2
 | bl _=>cases e2
 | int _=>cases e2
 | str _=>cases e2
 | zU=>cases e2
theorem sN {f:Ev->Option T}{te:zy}(hf:vx f te):rG true (xH f) (iT te):=λ S Z δ ρ ts Q hE e hq=>by
 obtain⟨y,e1,e2⟩:=zOb e;refine hf S Z δ ρ y _ hE e1 λ d S1 s1 r1=>?_;cases y with
 | tup us=>
  cases e2;obtain⟨ds,rfl,h2⟩:=Vw.tup (.inl r1);exact hq _ S1 s1 h2 λ _ _=>trivial
 | lst us=>
  cases e2;have r2:=r1;unfold vv at r2;simp only[Sn] at r2;obtain⟨ds,⟨rfl,_⟩ | ⟨a,rfl,h1⟩,h2⟩:=r2
  .exact hq _ S1 s1 h2 λ _ _=>trivial
  .dsimp only;rw[(uZ h1).2];exact hq ⟨ds,_⟩ S1 s1 h2 λ S'' s=>s _ _ h1
 | zh=>cases e2
 | bl _=>cases e2
 | int _=>cases e2
 | str _=>cases e2
 | zU=>cases e2
noncomputable def rangeT (lo:Int) (n:Nat):List T:=(List.range n).map λ(k:Nat)=>T.int (lo+(k:Int))
theorem e_ {S:SS}(lo:Int) (n:Nat):zj S (rangeT lo n) (vD lo n):=by
 unfold rangeT vD
 induction List.range n with
 | nil=>exact .nil
 | cons k l ih=>exact .cons vA ih
noncomputable def inR (j:Int):Bool:=decide (-100000000<=j)&&decide (j<=100000000)
theorem bN {j:Int}:inR j=true↔-100000000<=j/\j<=100000000:=by simp[inR]
theorem SX {j:Int}(h:inR j=true):-(2 ^ 62)<=j/\j<2 ^ 62:=by have:=bN.mp h;omega
noncomputable def o4:List T->Option (List T)
 | [.int j]=>if inR j=true then some (rangeT 0 j.toNat) else none
 | _=>none
@[simp] noncomputable def vZ (F:List T->Option (List T)) (g:Ev->Option (List T)):Ev->Option (List T):=fun ρ=>(g ρ).bind F
theorem cG {b:Bool}{g:Ev->Option (List T)}{tA:yt}(h:rH g tA):rG b (vZ o4 g) (iU tA):=λ S Z δ ρ ts Q hE e hq=>by
 obtain⟨ys,e1,e2⟩:=zOb e;refine h S Z δ ρ ys _ hE e1 λ ds S1 s1 r1=>?_;unfold o4 at e2;split at e2
 .split at e2
  .rename_i hc;cases e2;obtain⟨d,rfl,h1⟩:=uO r1;cases h1.int;exact⟨SX hc,hq _ S1 s1 (e_ _ _) λ _ _=>trivial⟩
  .cases e2
 .cases e2
noncomputable def x8 (is:List Nat) (g:T->Ev->Option Ev) (b:Sm):List T->Ev->Option Out
 | [],ρ=>some (.nx (yO is ρ))
 | y::ys,ρ=>(g y (yO is ρ)).bind fun ρ1=>(b ρ1).bind λ o=>match o with
  | .nx ρ2=>x8 is g b ys ρ2
  | .ct ρ2=>x8 is g b ys ρ2
  | .bk ρ2=>some (.nx (yO is ρ2))
  | .rt t=>some (.rt t)
@[simp] noncomputable def vK (is:List Nat) (f:Ev->Option (List T)) (g:T->Ev->Option Ev) (b:Sm):Sm:=fun ρ=>(f ρ).bind λ ts=>x8 is g b ts ρ
theorem u5 {is:List Nat}{fi:Ev->Option (List T)}{ti:wQ}{g:T->Ev->Option Ev}{tg:xt}{b:Sm}{tb:yU} [Lo R] (hi:rG true fi ti) (hg:nU g tg) (hb:yW R b tb):yW R (vK is fi g b) (nH ti tg tb):=λ S0 Z0 S Z δ ρ o E F e P=>by
 obtain⟨ts,e1,e2⟩:=zOb e;refine hi S Z δ ρ ts _ F.er e1 λ I S1 s1 r1 hk=>?_;rw[if_pos rfl] at hk;obtain⟨SB,b1,FB,b2⟩:=(F.grow s1).rebase;have lo:∀ S' d y,R SB S' Z0 y d->R S0 S' Z0 y d:=λ S' d y r=>Lo.lo b1 (λ _ z=>z) r;have zz:=F.zz;refine⟨λ i δ' S'=>∃ Z' ρ',FR SB Z0 S' Z' δ' ρ'/\x8 is g b (ts.drop i) ρ'=some o,⟨Z,ρ,FB,e2⟩,λ i δ' S' ⟨Z',ρ',F',_⟩=>hk S' (b2.trans F'.sx),λ i d δ' S' hd ⟨Z',ρ',F',e'⟩=>?_,fun δ' S' ⟨Z',ρ',F',e'⟩=>?_⟩
 .obtain⟨y,hy,r2⟩:=r1.gu hd;have hlt:=(List.getElem?_eq_some_iff.mp hy).1;have hdt:ts.drop i=y::ts.drop (i+1):=by
   rw[List.drop_eq_getElem_cons hlt,(List.getElem?_eq_some_iff.mp hy).2]
  rw[hdt] at e';unfold x8 at e';obtain⟨ρ1,g1,e'⟩:=zOb e';obtain⟨o1,g2,e'⟩:=zOb e';refine hg SB Z0 S' Z' δ' _ ρ1 y d _ (F'.yO is) (Sn.sx (F'.XF b2 zz) y r2) g1 fun δ2 F2=>?_
  refine hb SB Z0 S' Z' δ2 ρ1 o1 _ F2 g2 ?_;cases o1 with
  | nx ρ2=>exact λ S3 Z3 δ3 F3=>⟨Z3,ρ2,F3,e'⟩
  | ct ρ2=>exact λ S3 Z3 δ3 F3=>⟨Z3,ρ2,F3,e'⟩
  | bk ρ2=>cases e';exact λ S3 Z3 δ3 F3=>P S3 Z3 δ3 ((F3.yO is).back b1 F.z0)
  | rt y=>cases e';exact λ d S3 s3 r3=>P d S3 (b1.trans s3) (lo _ _ _ r3)
 .rw[show I.items.length=ts.length from r1.len,List.drop_length] at e';unfold x8 at e';cases e';exact P S' Z' δ' ((F'.yO is).back b1 F.z0)
end
end L5
namespace L5
open PySem L2 L3
@[simp] noncomputable def rC (i:Nat) (f:Ev->Option T):Sm:=fun ρ=>match ρ[i]? with
 | some (some (.own (.lst ts)))=>(f ρ).bind λ y=>if ts.length<sizeLine then some (.nx (ρ.set i (some (.own (.lst (ts++[y])))))) else none
 | _=>none
section
variable {R:Rk}{f:Ev->Option T}{te:zy}
theorem pj (i:Nat) (hf:vx f te):yW R (rC i f) (ko (rn (yC i) te)):=λ S0 Z0 S Z δ ρ o E F e P=>by
 unfold rC at e;split at e
 .rename_i ts h;obtain⟨y,e1,e2⟩:=zOb e;split at e2
  .rename_i hl;cases e2;obtain⟨p,ob,h1,h2,h3,h4⟩:=F.er.ow i _ h;obtain⟨ds,rfl⟩:∃ ds,ob=.lst ds:=by
    cases ob with
    | lst ds=>exact⟨ds,rfl⟩
    | ye _=>exact h3.elim
   replace h3:zj (zQ S Z) ts ds:=h3;show rn (yC i) te δ S _;unfold rn yC;rw[h1];refine⟨⟨ds,h2⟩,hf S Z δ ρ y _ F.er e1 λ d S1 s1 r1=>?_⟩;dsimp only;rw[s1 _ _ h2];have F1:=F.grow s1;refine⟨by rw[h3.len];exact hl,P _ Z δ (F1.mut (us:=.lst (ts++[y])) (es:=.lst (ds++[d])) i h h1 ((zj.sx (wM s1) ts h3).append (.cons r1 .nil)))⟩
  .cases e2
 .cases e
end
def t_ (pick:List (Option Nat)) (ti:wQ) (g:xt) (tc:yD) (te:zy):zy:=fun δ S Q=>ti δ S λ I S1=>I.items.length<=sizeLine/\(∀ S,Sx S1 S->I.keep S)/\∀ p,S1 p=none->∃ W:Nat->SS->List D->Prop,W 0 S1 []/\
 (∀ i S S' acc,(∀ b o,b≠p->S b=some o->S' b=some o)->W i S acc->W i S' acc)/\
 (∀ i d S acc,I.items[i]?=some d->Sx S1 S->S p=some (.lst acc)->W i S acc->g d (vW pick δ) S fun δ2 S2=>qz (vW pick δ) δ2/\tc δ2 S2 λ b S3=>if b=true then te δ2 S3 λ y S4=>Sx S S4/\W (i+1) S4 (acc++[y]) else Sx S S3/\W (i+1) S3 acc)/\
 ∀ S2 acc,Sx S1 S2->S2 p=some (.lst acc)->W I.items.length S2 acc->Q (.ref p) S2
@[simp] noncomputable def o8 (pick:List (Option Nat)) (ρ:Ev):Ev:=pick.map λ o=>o.bind λ i=>(ρ[i]?).join
noncomputable def qq (h:T->Option (Option T)):List T->Option (List T)
 | []=>some []
 | y::ys=>(h y).bind λ o=>(qq h ys).map λ zs=>match o with
  | some z=>z::zs
  | none=>zs
@[simp] noncomputable def pA (pick:List (Option Nat)) (g:T->Ev->Option Ev) (c:Ev->Option Bool) (f:Ev->Option T) (ρ:Ev) (y:T):Option (Option T):=
 (g y (o8 pick ρ)).bind fun ρ2=>(c ρ2).bind λ b=>if b=true then (f ρ2).map some else some none
noncomputable def wL (pick:List (Option Nat)) (it:Ev->Option (List T)) (g:T->Ev->Option Ev) (c:Ev->Option Bool) (f:Ev->Option T):Ev->Option T:=fun ρ=>(it ρ).bind λ ts=>if ts.length<=sizeLine then (qq (pA pick g c f ρ) ts).map .lst else none
@[simp] noncomputable def r9:Ev->Option Bool:=λ _=>some true
theorem qc:vj r9 az:=λ S Z δ ρ y Q hE e hq=>by cases e;exact hq S (.refl S)
def kM (pick:List (Option Nat)) (g:T->Ev->Option Ev) (t:xt):Prop:=∀ B S Z δ ρ ρ' y d Q,(∀ i:Nat,pick[i]?=some none->B[i]?=some none)->qz B δ->δ.length=ρ.length->ER S Z δ ρ->Sn (zQ S Z) y d->g y ρ=some ρ'->
 (∀ δ',ER S Z δ' ρ'->qz B δ'->δ'.length=ρ'.length->Q δ' S)->t d δ S Q
def kL (pick:List (Option Nat)) (g:List T->Ev->Option Ev) (t:wR):Prop:=∀ B S Z δ ρ ρ' y d Q,(∀ i:Nat,pick[i]?=some none->B[i]?=some none)->qz B δ->δ.length=ρ.length->ER S Z δ ρ->zj (zQ S Z) y d->g y ρ=some ρ'->
 (∀ δ',ER S Z δ' ρ'->qz B δ'->δ'.length=ρ'.length->Q δ' S)->t d δ S Q
theorem ER.uP {S:SS}{Z:Addr->Prop}{δ:yk}{ρ:Ev}{y:T}{d:D}(h:ER S Z δ ρ) (hl:δ.length=ρ.length) (i:Nat) (r:Sn (zQ S Z) y d):ER S Z (δ.set i (some d)) (ρ.set i (some (.im y))):=by
 refine⟨h.zd,λ j t e=>?_,λ j ts e=>?_⟩
 .rcases yR e with ⟨rfl,hl',e⟩ | ⟨n,e⟩
  .cases e;exact⟨d,pH (by rw[hl];exact hl'),r⟩
  .rw[vg n];exact h.im j t e
 .rcases yR e with ⟨rfl,hl',e⟩ | ⟨n,e⟩
  .cases e
  .rw[vg n];exact h.ow j ts e
variable {pick:List (Option Nat)}
theorem vn (i:Nat) (hi:pick[i]?=some none:=by rfl):kM pick (zM i) (hName i):=λ B S Z δ ρ ρ' y d Q hB hs hl hE r e hq=>by
 cases e;refine hq _ (hE.uP hl i r) ⟨by rw[List.length_set];exact hs.1,λ j c q=>?_⟩ (by simp[hl]);by_cases hj:i=j
 .subst hj;rw[hB i hi] at q;cases q
 .rw[vg hj];exact hs.2 j c q
theorem iu:kL pick vc hJ:=λ B S Z δ ρ ρ' y d Q hB hs hl hE r e hq=>by
 cases y with
 | nil=>simp only[zj] at r;subst r;cases e;exact⟨rfl,hq _ hE hs hl⟩
 | cons _ _=>cases e
theorem px {g:T->Ev->Option Ev}{h:List T->Ev->Option Ev}{t:xt}{u:wR}(hg:kM pick g t) (hh:kL pick h u):kL pick (yv g h) (hV t u):=λ B S Z δ ρ ρ' y d Q hB hs hl hE r e hq=>by
 cases y with
 | nil=>cases e
 | cons y ys=>
  simp only[zj] at r;obtain⟨c,cs,rfl,r1,r2⟩:=r;obtain⟨ρ1,e1,e2⟩:=zOb e;exact hg B S Z δ ρ ρ1 y c _ hB hs hl hE r1 e1 fun δ1 E1 s1 l1=>hh B S Z δ1 ρ1 ρ' ys cs Q hB s1 l1 E1 r2 e2 hq
theorem iw {n:Nat}{g:List T->Ev->Option Ev}{t:wR}(hg:kL pick g t):kM pick (wA n g) (lV n t):=λ B S Z δ ρ ρ' y d Q hB hs hl hE r e hq=>by
 cases y with
 | tup ys=>
  simp only[Sn] at r;obtain⟨ds,rfl,r⟩:=r;simp only[wA] at e;split at e
  .rename_i hn;exact⟨by rw[r.len];exact hn,hg B S Z δ ρ ρ' ys ds Q hB hs hl hE r e hq⟩
  .cases e
 | zh=>cases e
 | bl _=>cases e
 | int _=>cases e
 | str _=>cases e
 | lst _=>cases e
 | zU=>cases e
theorem cj {ρ:Ev}{i:Nat}{w:W}(h:(o8 pick ρ)[i]?=some (some w)):∃ j:Nat,pick[i]?=some (some j)/\ρ[j]?=some (some w):=by
 unfold o8 at h;rw[List.getElem?_map] at h;cases q:pick[i]? with
 | none=>rw[q] at h;cases h
 | some o=>
  rw[q] at h;cases o with
  | none=>simp at h
  | some j=>
   simp only[Option.map_some,Option.bind_some,Option.some.injEq] at h;refine⟨j,rfl,?_⟩;cases q2:ρ[j]? with
   | none=>rw[q2] at h;cases h
   | some o2=>rw[q2] at h;simp only[Option.join_some] at h;rw[h]
theorem ck {δ:yk}{i j:Nat}{d:D}(h:pick[i]?=some (some j)) (h':δ[j]?=some (some d)):(vW pick δ)[i]?=some (some d):=by
 unfold vW;rw[List.getElem?_map,h];simp[h']
theorem ER.WH {S:SS}{Z:Addr->Prop}{δ:yk}{ρ:Ev}(h:ER S Z δ ρ):ER S Z (vW pick δ) (o8 pick ρ):=by
 refine⟨h.zd,λ i t e=>?_,λ i ts e=>?_⟩
 .obtain⟨j,h1,h2⟩:=cj e;obtain⟨d,h3,h4⟩:=h.im j t h2;exact⟨d,ck h1 h3,h4⟩
 .obtain⟨j,h1,h2⟩:=cj e;obtain⟨p,ds,h3,h4⟩:=h.ow j ts h2;exact⟨p,ds,ck h1 h3,h4⟩
theorem ER.hide {S S':SS}{Z:Addr->Prop}{δ:yk}{ρ:Ev}{p:Addr}(h:ER S Z δ ρ) (s:Sx S S') (hp:S p=none) (hp':S' p≠none):ER S' (λ a=>Z a\/a=p) δ ρ:=by
 refine⟨λ a z q=>?_,λ i t e=>?_,λ i ts e=>?_⟩
 .rcases z with z | rfl
  .exact h.zd a z (s.none q)
  .exact hp' q
 .obtain⟨d,h1,h2⟩:=h.im i t e;exact⟨d,h1,Sn.sx (pG s hp) t h2⟩
 .obtain⟨q,ds,h1,h2,h3,h4⟩:=h.ow i ts e;exact⟨q,ds,h1,s _ _ h2,t9.sx (pG s hp) h3,.inl h4⟩
theorem u9 {it:Ev->Option (List T)}{ti:wQ}{g:T->Ev->Option Ev}{tg:xt}{c:Ev->Option Bool}{tc:yD}{f:Ev->Option T}{te:zy}{b:Bool}(hi:rG b it ti) (hg:kM pick g tg) (hc:vj c tc) (hf:vx f te):
  xx (wL pick it g c f) (t_ pick ti tg tc te):=λ S Z δ ρ y Q hE e hq=>by
 obtain⟨ts,e1,e2⟩:=zOb e;split at e2
 case isFalse=>cases e2
 rename_i hlen;obtain⟨zs,e3,rfl⟩:=zOm e2;refine hi S Z δ ρ ts _ hE e1 λ I S1 s1 r1 hk=>⟨by rw[r1.len];exact hlen,λ S' s'=>hk S' ?_,λ p hp=>?_⟩
 .cases b
  .exact s'
  .exact (oV _ _).trans s'
 have E1:=hE.grow s1;have nz:¬ Z p:=λ z=>E1.zd p z hp;refine⟨λ i S' acc=>∃ us ws,zj (zQ S' λ a=>Z a\/a=p) us acc/\qq (pA pick g c f ρ) (ts.drop i)=some ws/\zs=us++ws,⟨[],zs,.nil,e3,rfl⟩,λ i S' S'' acc hh ⟨us,ws,h1,h2⟩=>⟨us,ws,zj.sx (λ a o q=>?_) us h1,h2⟩,λ i d S2 acc hd s2 hacc ⟨us,ws,h1,h2,h3⟩=>?_,λ S2 acc s2 hacc ⟨us,ws,h1,h2,h3⟩=>?_⟩
 .obtain⟨q1,q2⟩:=uZ q;rw[vH q1];exact hh a o (λ z=>q1 (.inr z)) q2
 .obtain⟨x,hx,rx⟩:=r1.gu hd;have hlt:=(List.getElem?_eq_some_iff.mp hx).1;have hdt:ts.drop i=x::ts.drop (i+1):=by rw[List.drop_eq_getElem_cons hlt,(List.getElem?_eq_some_iff.mp hx).2]
  rw[hdt] at h2;unfold qq at h2;obtain⟨o,o1,h2⟩:=zOb h2;obtain⟨ws',o2,rfl⟩:=zOm h2;have E2:=(E1.hide s2 hp (by rw[hacc];nofun)).WH (pick:=pick);unfold pA at o1;obtain⟨ρ2,g1,o1⟩:=zOb o1;obtain⟨bb,g2,o1⟩:=zOb o1;refine hg (vW pick δ) S2 _ _ _ ρ2 x d _ (λ j hj=>?_) ⟨rfl,λ _ _ q=>q⟩ (by unfold vW o8;simp) E2 (Sn.sx (pG s2 hp) x rx) g1 fun δ2 E3 l3 _=>⟨l3,?_⟩
  .unfold vW;rw[List.getElem?_map,hj];rfl
  refine hc S2 _ δ2 ρ2 bb _ E3 g2 λ S3 s3=>?_;split at o1
  .rename_i hb;rw[if_pos hb];obtain⟨z,g3,rfl⟩:=zOm o1;refine hf S3 _ δ2 ρ2 z _ (E3.grow s3) g3 λ dz S4 s4 r4=>⟨s3.trans s4,us++[z],ws',?_,o2,by rw[h3];simp⟩;exact (zj.sx (wM (s3.trans s4)) us h1).append (.cons r4 .nil)
  .rename_i hb;rw[if_neg hb];cases o1;exact⟨s3,us,ws',zj.sx (wM s3) us h1,o2,h3⟩
 .rw[show I.items.length=ts.length from r1.len,List.drop_length] at h2;cases h2;rw[List.append_nil] at h3;subst h3;refine hq _ S2 (s1.trans s2) ⟨?_,λ vs e=>?_⟩
  .simp only[Sn];exact⟨acc,.inr ⟨p,rfl,by rw[vH nz];exact hacc⟩,zj.sx (ua λ a z=>.inl z) zs h1⟩
  .cases e;exact⟨p,acc,rfl,s1.none hp,hacc,h1⟩
mutual
noncomputable def plainT:T->Bool
 | .tup ts=>lq ts
 | .lst _=>false
 | .zU=>false
 | _=>true
noncomputable def lq:List T->Bool
 | []=>true
 | t::ts=>plainT t&&lq ts
end
mutual
theorem d_ {S S':SS}:∀ (t:T) {d:D},plainT t=true->Sn S t d->Sn S' t d
 | .zh,d,_,q=>by simpa only [Sn] using q
 | .bl b,d,_,q=>by simpa only [Sn] using q
 | .int i,d,_,q=>by simpa only [Sn] using q
 | .str x,d,_,q=>by simpa only [Sn] using q
 | .tup ts,d,h,q=>by
  simp only[Sn] at q ⊢;obtain⟨ds,q1,q2⟩:=q;exact⟨ds,q1,dZ ts (by simpa only [plainT] using h) q2⟩
 | .lst ts,d,h,q=>by simp only[plainT] at h;cases h
 | .zU,d,h,q=>by simp only[plainT] at h;cases h
theorem dZ {S S':SS}:∀ (ts:List T) {ds:List D},lq ts=true->zj S ts ds->zj S' ts ds
 | [],ds,_,q=>by simpa only [zj] using q
 | t::ts,ds,h,q=>by
  simp only[lq,Bool.and_eq_true] at h;simp only[zj] at q ⊢;obtain⟨c,cs,q1,q2,q3⟩:=q;exact⟨c,cs,q1,d_ t h.1 q2,dZ ts h.2 q3⟩
end
theorem WE {y:T}(h:plainT y=true):∀ ts,y≠.lst ts:=λ ts e=>by subst e;simp[plainT] at h
class Sr (R:Rk):Prop extends Lo R where
 sn:∀ {S S':SS}{Z:Addr->Prop}{y:T}{d:D},R S S' Z y d->Sn (zQ S' Z) y d
instance:Sr vv:=⟨λ h=>h⟩
instance:Sr zW:=⟨λ h=>h.1⟩
def yc (R:Rk) (F:List T->Option T):rE:=λ ds S Q=>∃ Z ys y,(∀ a,Z a->S a≠none)/\zj (zQ S Z) ys ds/\F ys=some y/\∀ d S',Sx S S'->R S S' Z y d->Q d S'
theorem yc.mo {R:Rk}{F:List T->Option T}:fy (yc R F):=λ _ _ _ _ hq ⟨Z,ys,y,h1,h2,h3,h4⟩=>⟨Z,ys,y,h1,h2,h3,λ d S' s r=>hq _ _ (h4 d S' s r)⟩
@[simp] noncomputable def qu (F:List T->Option T) (g:Ev->Option (List T)):Ev->Option T:=fun ρ=>(g ρ).bind λ ys=>(F ys).bind λ y=>if plainT y=true then some y else none
theorem yo {R:Rk} [Lo R] {F:List T->Option T}{g:Ev->Option (List T)}{u:yt}(h:qB g u):xY R (zJ F g) (kq (yc R F) u):=λ S Z δ ρ y Q hE e hq=>by
 obtain⟨xs,e1,e2⟩:=zOb e;refine h S Z δ ρ xs _ hE e1 λ ds S1 s1 r1=>?_;exact⟨Z,xs,y,(hE.grow s1).zd,r1,e2,λ d S' s r=>hq d S' (s1.trans s) (Cl.cl s1 r)⟩
theorem rD.free {S:SS}{Z Z':Addr->Prop}:∀ {ts:List T}{ds:List D},rD S Z ts ds->(∀ a,Z' a->Z a)->(∀ a,D.ref a∈ds->¬ Z' a)->zj (zQ S Z') ts ds
 | [],ds,h,_,_=>by cases h;exact .nil
 | t::ts,ds,h,hz,hn=>by
  obtain⟨c,cs,rfl,h1,h2⟩:=h;refine .cons ?_ (rD.free h2 hz λ a ha=>hn a (zMo _ ha));rcases h1 with h1 | ⟨us,p,es,rfl,rfl,h3,h4,_⟩
  .exact Sn.sx (ua hz) t h1
  .simp only[Sn];exact⟨es,.inr ⟨p,rfl,by rw[vH (hn p zMc)];exact h3⟩,zj.sx (ua hz) us h4⟩
theorem UT {R:Rk} [Sr R] {F:List T->Option T}{g:Ev->Option (List T)}{u:yt}(h:rH g u):xx (qu F g) (kq (yc R F) u):=λ S Z δ ρ y Q hE e hq=>by
 obtain⟨xs,e1,e2⟩:=zOb e;obtain⟨y',e4,e3⟩:=zOb e2;split at e3
 .rename_i hp;obtain rfl:y'=y:=by injection e3
  refine h S Z δ ρ xs _ hE e1 λ ds S1 s1 r1=>?_;refine⟨λ a=>Z a/\D.ref a∉ds,xs,_,λ a z=>(hE.grow s1).zd a z.1,r1.free (λ a z=>z.1) (λ a ha z=>z.2 ha),e4,λ d S' s r=>hq d S' (s1.trans s) ?_⟩;exact Cl.of (WE hp) (d_ _ hp (Sr.sn r))
 .cases e3
@[simp] noncomputable def qQ (N:List Str) (ys:List T):Ev:=ys.map (λ y=>some (.im y))++List.replicate (N.length-ys.length) none
@[simp] noncomputable def cB:Option Out->Option T
 | some (.rt y)=>some y
 | some (.nx _)=>some .zh
 | _=>none
@[simp] noncomputable def yw (N:List Str) (n:Nat) (g:Sm):List T->Option T:=λ ys=>if ys.length=n then cB (g (qQ N ys)) else none
theorem yc.len {R:Rk}{N:List Str}{n:Nat}{g:Sm}{ds:List D}{S:SS}{Q:DK}(hs:yc R (yw N n g) ds S Q):ds.length=n:=by
 obtain⟨Z,ys,y,hz,r,e,hq⟩:=hs;unfold yw at e;split at e
 .rename_i h;rw[r.len];exact h
 .cases e
theorem X3 {N:List Str}{ds:List D}{i:Nat}{d:D}(h:ds[i]?=some d):(tI N ds)[i]?=some (some d):=by
 have hi:=(List.getElem?_eq_some_iff.mp h).1;unfold tI;rw[List.getElem?_append_left (by simpa using hi),List.getElem?_map,h];rfl
theorem mM {N:List Str}{ys:List T}{i:Nat}{w:W}(h:(qQ N ys)[i]?=some (some w)):∃ y,ys[i]?=some y/\w=.im y:=by
 unfold qQ at h;have hi:i<ys.length:=by
  rcases Nat.lt_or_ge i ys.length with q | q
  .exact q
  .rw[List.getElem?_append_right (by simpa using q),List.getElem?_replicate] at h;split at h <;> cases h
 rw[List.getElem?_append_left (by simpa using hi),List.getElem?_map] at h;cases q:ys[i]? with
 | none=>rw[q] at h;cases h
 | some y=>rw[q] at h;cases h;exact⟨y,rfl,rfl⟩
theorem QK {R:Rk} [Lo R] {N:List Str}{n:Nat}{g:Sm}{t:yU}(h:yW R g t) {ds:List D}{S:SS}{Q:DK}(hs:yc R (yw N n g) ds S Q):t { nx:=λ _ S'=>Q .zh S',rt:=Q } (tI N ds) S:=by
 obtain⟨Z,ys,y,hz,r,e,hq⟩:=hs;unfold yw at e;split at e
 case isFalse=>cases e
 obtain⟨o,e1,e2⟩:∃ o,g (qQ N ys)=some o/\cB (some o)=some y:=by
  cases q:g (qQ N ys) with
  | none=>rw[q] at e;cases e
  | some o=>exact⟨o,rfl,by rw[<- q];exact e⟩
 refine h S Z S Z _ _ o _ ⟨⟨hz,λ i t e=>?_,λ i ts e=>?_⟩,?_,.refl S,hz,λ _ z=>z,λ _ z=>.inl z,λ i ts p e _=>?_,λ i j ts us p _ e _ _ _=>?_⟩ e1 ?_
 .obtain⟨y',h1,h2⟩:=mM e;cases h2;obtain⟨d,h3,h4⟩:=r.gq h1;exact⟨d,X3 h3,h4⟩
 .obtain⟨y',h1,h2⟩:=mM e;cases h2
 .unfold tI qQ;have:=r.len;simp[this]
 .obtain⟨y',h1,h2⟩:=mM e;cases h2
 .obtain⟨y',h1,h2⟩:=mM e;cases h2
 .cases o with
  | rt y'=>cases e2;exact λ d S' s r=>hq d S' s r
  | nx ρ'=>
   cases e2;exact λ S' Z' δ' F=>hq .zh S' F.sx (Cl.of (λ _=>nofun) de)
  | bk _=>cases e2
  | ct _=>cases e2
end L5
namespace L5
open PySem L2 L3
noncomputable def xu (kvs:List (Key×T)) (k:Key):Option T:=(kvs.find? λ kv=>decide (kv.1=k)).map (·.2)
noncomputable def vT (kvs:List (Key×T)) (k:Key) (v:T):List (Key×T):=
 if (kvs.any λ kv=>decide (kv.1=k))=true then kvs.map (λ kv=>if kv.1=k then (kv.1,v) else kv) else kvs++[(k,v)]
section
variable {S:SS}
theorem y6.len:∀ {a:List (Key×T)}{b:List (Key×D)},y6 S a b->b.length=a.length
 | [],_,h=>by cases h;rfl
 | (k,t)::r,_,h=>by
  obtain⟨d,m,rfl,_,h2⟩:=h;simp[y6.len h2]
theorem y6.val:∀ {a:List (Key×T)}{b:List (Key×D)}(k:Key),y6 S a b->(xu a k=none/\vS b k=none)\/∃ t d,xu a k=some t/\vS b k=some d/\Sn S t d
 | [],_,k,h=>by cases h;exact .inl ⟨rfl,rfl⟩
 | (j,t)::r,_,k,h=>by
  obtain⟨d,m,rfl,h1,h2⟩:=h;by_cases e:j=k
  .subst e;exact .inr ⟨t,d,by simp[xu],by simp[vS],h1⟩
  .rcases y6.val k h2 with ⟨g1,g2⟩ | ⟨t',d',g1,g2,g3⟩
   .exact .inl ⟨by simpa [xu,e] using g1,by simpa [vS,e] using g2⟩
   .exact .inr ⟨t',d',by simpa [xu,e] using g1,by simpa [vS,e] using g2,g3⟩
theorem y6.any:∀ {a:List (Key×T)}{b:List (Key×D)}(k:Key),y6 S a b->(b.any λ kv=>decide (kv.1=k))=a.any λ kv=>decide (kv.1=k)
 | [],_,k,h=>by cases h;rfl
 | (j,t)::r,_,k,h=>by
  obtain⟨d,m,rfl,h1,h2⟩:=h;rw[List.any_cons,List.any_cons,y6.any k h2]
theorem y6.uT {k:Key}{t:T}{d:D}(r:Sn S t d):∀ {a:List (Key×T)}{b:List (Key×D)},y6 S a b->y6 S (a.map λ kv=>if kv.1=k then (kv.1,t) else kv) (b.map λ kv=>if kv.1=k then (kv.1,d) else kv)
 | [],_,h=>by cases h;rfl
 | (j,u)::a,_,h=>by
  obtain⟨e,m,rfl,h1,h2⟩:=h;rw[List.map_cons,List.map_cons];by_cases q:j=k
  .rw[if_pos q,if_pos q];exact⟨d,_,rfl,r,y6.uT r h2⟩
  .rw[if_neg q,if_neg q];exact⟨e,_,rfl,h1,y6.uT r h2⟩
theorem y6.snoc {k:Key}{t:T}{d:D}(r:Sn S t d):∀ {a:List (Key×T)}{b:List (Key×D)},y6 S a b->y6 S (a++[(k,t)]) (b++[(k,d)])
 | [],_,h=>by cases h;exact⟨d,[],rfl,r,rfl⟩
 | (j,u)::a,_,h=>by
  obtain⟨e,m,rfl,h1,h2⟩:=h;exact⟨e,_,rfl,h1,y6.snoc r h2⟩
theorem y6.put {a:List (Key×T)}{b:List (Key×D)}(h:y6 S a b) (k:Key) {t:T}{d:D}(r:Sn S t d):y6 S (vT a k t) (putD b k d):=by
 unfold vT putD;rw[h.any k];split
 .exact y6.uT r h
 .exact y6.snoc r h
end
@[simp] noncomputable def aB (i:Nat):Sm:=fun ρ=>some (.nx (ρ.set i (some (.own (.ye [])))))
@[simp] noncomputable def gO (i:Nat) (f:Ev->Option T):Ev->Option T:=fun ρ=>(f ρ).bind λ y=>match ρ[i]?,y with
 | some (some (.own (.ye kvs))),.int k=>xu kvs (.inl k)
 | _,_=>none
@[simp] noncomputable def aC (i:Nat) (f g:Ev->Option T):Ev->Option T:=fun ρ=>(f ρ).bind λ y=>(g ρ).bind λ z=>match ρ[i]?,y with
 | some (some (.own (.ye kvs))),.int k=>some ((xu kvs (.inl k)).getD z)
 | _,_=>none
@[simp] noncomputable def aA (i:Nat) (f v:Ev->Option T):Sm:=fun ρ=>(v ρ).bind λ z=>(f ρ).bind λ y=>match ρ[i]?,y with
 | some (some (.own (.ye kvs))),.int k=>if kvs.length<sizeLine then some (.nx (ρ.set i (some (.own (.ye (vT kvs (.inl k) z)))))) else none
 | _,_=>none
@[simp] noncomputable def gN (i:Nat):Ev->Option T:=fun ρ=>match ρ[i]? with
 | some (some (.own (.ye kvs)))=>some (.int kvs.length)
 | _=>none
theorem lA {S:SS}{Z:Addr->Prop}{δ:yk}{ρ:Ev}(hE:ER S Z δ ρ) {i:Nat}{kvs:List (Key×T)}(h:ρ[i]?=some (some (.own (.ye kvs)))):∃ p b,δ[i]?=some (some (.ref p))/\S p=some (.ye b)/\y6 (zQ S Z) kvs b:=by
 obtain⟨p,o,h1,h2,h3,_⟩:=hE.ow i _ h;cases o with
 | ye b=>exact⟨p,b,h1,h2,h3⟩
 | lst _=>exact h3.elim
section
variable {R:Rk}{f g v:Ev->Option T}{ty tx tv:zy}
theorem Uu (i:Nat):yW R (aB i) (vu aN (hName i)):=λ S0 Z0 S Z δ ρ o E F e P=>by
 cases e;intro p hp;exact P _ _ _ (F.dg (ts:=.ye []) (ds:=.ye []) (.new hp _) i hp sy rfl)
theorem cL (i:Nat) (hf:yy f ty):vx (gO i f) (aQ (yC i) ty):=λ S Z δ ρ y Q hE e hq=>by
 obtain⟨x,e1,e2⟩:=zOb e;split at e2
 .rename_i kvs k h;obtain⟨p,b,h1,h2,h3⟩:=lA hE h;show yC i δ S _;unfold yC;rw[h1];refine hf S Z δ ρ _ _ hE e1 λ d S1 s1 r1=>?_;cases Vw.int r1;rcases (y6.sx (wM s1) h3).val (.inl k) with ⟨g1,_⟩ | ⟨t,d,g1,g2,g3⟩
  .rw[g1] at e2;cases e2
  .rw[g1] at e2;cases e2;exact⟨p,b,k,d,rfl,rfl,s1 _ _ h2,g2,hq d S1 s1 g3⟩
 .cases e2
theorem UP (i:Nat) (hf:yy f ty) (hg:vx g tx):vx (aC i f g) (aP (yC i) ty tx):=λ S Z δ ρ y Q hE e hq=>by
 obtain⟨x,e1,e⟩:=zOb e;obtain⟨z,e2,e3⟩:=zOb e;split at e3
 .rename_i kvs k h;cases e3;obtain⟨p,b,h1,h2,h3⟩:=lA hE h;show yC i δ S _;unfold yC;rw[h1];refine⟨p,rfl,⟨b,h2⟩,hf S Z δ ρ _ _ hE e1 λ d S1 s1 r1=>?_⟩;cases Vw.int r1;refine hg S1 Z δ ρ z _ (hE.grow s1) e2 λ dz S2 s2 r2=>⟨k,b,rfl,(s1.trans s2) _ _ h2,?_⟩;rcases (y6.sx (wM (s1.trans s2)) h3).val (.inl k) with ⟨g1,g2⟩ | ⟨t,d,g1,g2,g3⟩
  .rw[g2];rw[g1] at hq;exact hq _ S2 (s1.trans s2) r2
  .rw[g2];rw[g1] at hq;exact hq _ S2 (s1.trans s2) g3
 .cases e3
theorem Ut (i:Nat) (hf:yy f ty) (hv:vx v tv):yW R (aA i f v) (aO (yC i) ty tv):=λ S0 Z0 S Z δ ρ o E F e P=>by
 obtain⟨z,e1,e⟩:=zOb e;obtain⟨x,e2,e3⟩:=zOb e;split at e3
 .rename_i kvs k h;split at e3
  .rename_i hl;cases e3;refine hv S Z δ ρ z _ F.er e1 λ dz S1 s1 r1=>?_;have F1:=F.grow s1;obtain⟨p,b,h1,h2,h3⟩:=lA F1.er h;show yC i δ S1 _;unfold yC;rw[h1];refine hf S1 Z δ ρ _ _ F1.er e2 λ d S2 s2 r2=>?_;cases Vw.int r2;have h4:=y6.sx (wM s2) h3;exact⟨p,b,k,rfl,rfl,s2 _ _ h2,by rw[h4.len];exact hl,P _ Z δ ((F1.grow s2).mut (us:=.ye (vT kvs (.inl k) z)) (es:=.ye (putD b (.inl k) dz)) i h h1 (h4.put _ (Sn.sx (wM s2) z r1)))⟩
  .cases e3
 .cases e3
theorem UO (i:Nat):xx (gN i) (xM ai (qp (yC i) km)):=λ S Z δ ρ y Q hE e hq=>by
 unfold gN at e;split at e
 .rename_i kvs h;cases e;obtain⟨p,b,h1,h2,h3⟩:=lA hE h;show yC i δ S _;unfold yC;rw[h1];refine⟨p,b,rfl,h2,?_⟩;rw[h3.len];exact hq _ S (.refl S) (Cl.of (λ _=>nofun) vA)
 .cases e
end
@[simp] noncomputable def i8 (f:Ev->Option T):Ev->Option T:=fun ρ=>(f ρ).bind λ x=>match x with
 | .int i=>some (.int (-i))
 | _=>none
def aJ (ta:zy):zy:=fun δ S Q=>ta δ S λ x S1=>match x with
 | .int i=>Q (.int (-i)) S1
 | _=>False
theorem cI {f:Ev->Option T}{te:zy}(h:yy f te):xx (i8 f) (aJ te):=λ S Z δ ρ y Q hE e hq=>by
 obtain⟨x,e1,e2⟩:=zOb e;refine h S Z δ ρ x _ hE e1 λ d S1 s1 r1=>?_;split at e2
 .cases Vw.int r1;cases e2;exact hq _ S1 s1 (Cl.of (λ _=>nofun) vA)
 .cases e2
theorem lY:uH zW oM ah:=bU
theorem gh:uH zW sV ag:=bU
noncomputable def uW:List T->Option (List Int)
 | []=>some []
 | .int i::ts=>(uW ts).map (i::·)
 | _::_=>none
noncomputable def uQ:List T->Option (List (List Int))
 | []=>some []
 | .tup r::ts=>(uW r).bind λ x=>(uQ ts).map (x::·)
 | _::_=>none
noncomputable def xJ (r:List Int):T:=.tup (r.map T.int)
theorem oT:∀ {ts:List T}{is:List Int},uW ts=some is->ts=is.map T.int
 | [],is,h=>by cases h;rfl
 | .int b::ts,is,h=>by
  unfold uW at h;obtain⟨cs,h1,rfl⟩:=zOm h;rw[List.map_cons,<- oT h1]
 | .zh::ts,bs,h=>by cases h
 | .bl _::ts,bs,h=>by cases h
 | .str _::ts,bs,h=>by cases h
 | .tup _::ts,bs,h=>by cases h
 | .lst _::ts,bs,h=>by cases h
theorem du:∀ {ts:List T}{rs:List (List Int)},uQ ts=some rs->ts=rs.map xJ
 | [],is,h=>by cases h;rfl
 | .tup r::ts,is,h=>by
  unfold uQ at h;obtain⟨x,h1,h⟩:=zOb h;obtain⟨cs,h2,rfl⟩:=zOm h;rw[List.map_cons,<- du h2,oT h1];rfl
 | .zh::ts,bs,h=>by cases h
 | .bl _::ts,bs,h=>by cases h
 | .str _::ts,bs,h=>by cases h
 | .int _::ts,bs,h=>by cases h
 | .lst _::ts,bs,h=>by cases h
theorem bK (is:List Int):uW (is.map T.int)=some is:=by
 induction is with
 | nil=>rfl
 | cons b bs ih=>rw[List.map_cons];unfold uW;rw[ih];rfl
theorem dv (rs:List (List Int)):uQ (rs.map xJ)=some rs:=by
 induction rs with
 | nil=>rfl
 | cons b bs ih=>
  show uQ (.tup (b.map T.int)::bs.map xJ)=_;unfold uQ;rw[bK,ih];rfl
theorem tK {S:SS}:∀ {is:List Int}{ds:List D},zj S (is.map T.int) ds↔ds=is.map D.int
 | [],ds=>by simp only[List.map_nil,zj]
 | i::is,ds=>by
  rw[List.map_cons];simp only[zj,Sn];constructor
  .rintro⟨c,cs,rfl,rfl,h⟩;rw[tK.mp h];rfl
  .rintro rfl;exact⟨.int i,_,rfl,rfl,tK.mpr rfl⟩
theorem mQ {S:SS}:∀ {rs:List (List Int)}{ds:List D},zj S (rs.map xJ) ds↔ds=rs.map uS
 | [],ds=>by simp only[List.map_nil,zj]
 | r::rs,ds=>by
  rw[List.map_cons];simp only[zj,xJ,Sn];constructor
  .rintro⟨c,cs,rfl,⟨es,rfl,h1⟩,h⟩;rw[mQ.mp h,tK.mp h1];rfl
  .rintro rfl;exact⟨uS r,_,rfl,⟨_,rfl,tK.mpr rfl⟩,mQ.mpr rfl⟩
@[simp] noncomputable def eN:T->String
 | .zh=>"NoneType"
 | .bl _=>"bool"
 | .int _=>"int"
 | .str _=>"str"
 | .tup _=>"tuple"
 | .lst _=>"list"
 | .zU=>"dict"
@[simp] noncomputable def instS (ty:String) (f:Ev->Option T):Ev->Option T:=fun ρ=>(f ρ).map λ x=>.bl (v_ (eN x) ty)
theorem oG {ty:String}{f:Ev->Option T}{te:zy}(hf:yy f te):xx (instS ty f) (nF ty te):=λ S Z δ ρ y Q hE e hq=>by
 obtain⟨x,e1,rfl⟩:=zOm e;refine hf S Z δ ρ x _ hE e1 λ d S1 s1 r1=>?_;have key:sD d S1=some (eN x):=by
  cases x with
  | zh=>cases Vw.zh r1;rfl
  | bl _=>cases Vw.bl r1;rfl
  | int _=>cases Vw.int r1;rfl
  | str _=>cases Vw.str r1;rfl
  | tup _=>obtain⟨ds,rfl,_⟩:=Vw.tup r1;rfl
  | lst _=>
   obtain⟨ds,rfl | ⟨a,rfl,h1⟩,h2⟩:=Vw.lst r1
   .rfl
   .unfold sD;dsimp only;rw[h1];rfl
  | zU=>
   obtain⟨a,kvs,rfl,h1⟩:=Vw.zU r1;unfold sD;dsimp only;rw[h1];rfl
 rw[key];exact hq _ S1 s1 (Cl.of (λ _=>nofun) wF)
@[simp] noncomputable def isNone:T->Bool
 | .zh=>true
 | _=>false
noncomputable def pC:D->Bool
 | .zh=>true
 | _=>false
end L5
namespace L5
open PySem L2 L3
noncomputable def zt (p:Int×Int):T:=.tup [.int p.1,.int p.2]
noncomputable def x_ (ns:List Int):T:=.lst (ns.map .int)
@[simp] theorem zaa:sizeLine=16777216:=rfl
theorem TQ {n:Nat}(h:n<=10000):n<=sizeLine:=Nat.le_trans h (by decide)
theorem t6 {α:Type}{xs:List α}{k:Nat}{x:α}(h:xs[k]?=some x):L2.yp xs (k:Int)=some x:=by
 unfold L2.yp L2.xm;have hk:=(List.getElem?_eq_some_iff.mp h).1;rw[if_pos (by omega),if_pos (by omega)];simpa using h
@[simp] theorem Zp {α:Type}{xs:List α}{x:α}:L2.yp (xs++[x]) (-1)=some x:=by
 unfold L2.yp L2.xm;rw[if_neg (by omega),if_pos (by simp;omega)];have:(-1+((xs++[x]).length:Int)).toNat=xs.length:=by simp;omega
 rw[Option.bind_some,this];simp
@[simp] theorem zah {α:Type}{x:α}{xs:List α}:L2.yp (x::xs) 0=some x:=t6 (k:=0) rfl
@[simp] theorem zag {α:Type}{x y:α}{xs:List α}:L2.yp (x::y::xs) 1=some y:=t6 (k:=1) rfl
@[simp] theorem zaf {α:Type}{x y z:α}{xs:List α}:L2.yp (x::y::z::xs) 2=some z:=t6 (k:=2) rfl
@[simp] theorem zae {α:Type}{x y z w:α}{xs:List α}:L2.yp (x::y::z::w::xs) 3=some w:=t6 (k:=3) rfl
theorem gR {α:Type}(enc:α->T) (g:α->Option T) (h:T->Option (Option T)):∀ (xs:List α),(∀ x∈xs,h (enc x)=some (g x))->qq h (xs.map enc)=some (xs.filterMap g)
 | [],_=>rfl
 | x::xs,hh=>by
  rw[List.map_cons];unfold qq;rw[hh x zMc,gR enc g h xs λ y hy=>hh y (zMo _ hy)];cases q:g x <;> simp[q]
theorem Qo {α:Type}(enc:α->T) (g:α->T) (h:T->Option (Option T)) (xs:List α) (hh:∀ x∈xs,h (enc x)=some (some (g x))):qq h (xs.map enc)=some (xs.map g):=by
 rw[gR enc (λ x=>some (g x)) h xs hh];simp
theorem qj {α:Type}(enc:α->T) (h:α->T) {pick:List (Option Nat)}{it:Ev->Option (List T)}{g:T->Ev->Option Ev}{c:Ev->Option Bool}{f:Ev->Option T}{ρ:Ev}(xs:List α) (hi:it ρ=some (xs.map enc)) (hl:xs.length<=16777216)
  (hh:∀ x∈xs,pA pick g c f ρ (enc x)=some (some (h x))):wL pick it g c f ρ=some (.lst (xs.map h)):=by
 unfold wL;rw[hi,Option.bind_some,if_pos (by rw[List.length_map];exact hl),Qo enc h _ xs hh];rfl
theorem lP {α:Type}(enc:α->T) (h:α->Option T) {pick:List (Option Nat)}{it:Ev->Option (List T)}{g:T->Ev->Option Ev}{c:Ev->Option Bool}{f:Ev->Option T}{ρ:Ev}(xs:List α) (hi:it ρ=some (xs.map enc)) (hl:xs.length<=16777216)
  (hh:∀ x∈xs,pA pick g c f ρ (enc x)=some (h x)):wL pick it g c f ρ=some (.lst (xs.filterMap h)):=by
 unfold wL;rw[hi,Option.bind_some,if_pos (by rw[List.length_map];exact hl),gR enc h _ xs hh];rfl
section
variable {α:Type}{is:List Nat}{g:T->Ev->Option Ev}{b:Sm}
noncomputable def turn (g:T->Ev->Option Ev) (b:Sm) (y:T) (ρ:Ev):Option Out:=(g y ρ).bind b
theorem cZ (y:T) (ys:List T) (ρ:Ev):x8 is g b (y::ys) ρ=(turn g b y (yO is ρ)).bind λ o=>match o with
  | .nx ρ2=>x8 is g b ys ρ2
  | .ct ρ2=>x8 is g b ys ρ2
  | .bk ρ2=>some (.nx (yO is ρ2))
  | .rt t=>some (.rt t):=by
 unfold turn;rw[x8];cases g y (yO is ρ) <;> rfl
theorem cY (enc:α->T) (I:List α->Ev->Prop):∀ (xs:List α) (pre:List α) (ρ:Ev),I pre (yO is ρ)->
  (∀ p x q,pre++xs=p++x::q->∀ ρ,I p ρ->∃ ρ',turn g b (enc x) ρ=some (.nx ρ')/\I (p++[x]) (yO is ρ'))->∃ ρ',x8 is g b (xs.map enc) ρ=some (.nx ρ')/\I (pre++xs) ρ'
 | [],pre,ρ,h,_=>⟨yO is ρ,by rw[List.map_nil,x8],by simpa using h⟩
 | x::xs,pre,ρ,h,hs=>by
  obtain⟨ρ',h1,h2⟩:=hs pre x xs rfl _ h;rw[List.map_cons,cZ,h1];have ih:=cY enc I xs (pre++[x]) ρ' h2 λ p y q e=>hs p y q (by rw[<- e];simp);simpa using ih
theorem sX (enc:α->T) (I:List α->Ev->Prop) (xs:List α) (ρ:Ev) (h:I [] (yO is ρ))
  (hs:∀ p x q,xs=p++x::q->∀ ρ,I p ρ->∃ ρ',turn g b (enc x) ρ=some (.nx ρ')/\I (p++[x]) (yO is ρ')):∃ ρ',x8 is g b (xs.map enc) ρ=some (.nx ρ')/\I xs ρ':=cY enc I xs [] ρ h hs
end
theorem Wc (n:Nat) (h:n<=100000):o4 [.int (n:Int)]=some ((List.range n).map λ(k:Nat)=>T.int (0+(k:Int))):=by
 show (if inR (n:Int)=true then some (rangeT 0 (n:Int).toNat) else none)=_;rw[if_pos (bN.mpr ⟨by omega,by omega⟩)];rfl
theorem rL (a:Key) (b:T) (kvs:List (Key×T)) (j:Key):xu ((a,b)::kvs) j=if a=j then some b else xu kvs j:=by
 by_cases h:a=j <;> simp[xu,h]
theorem eF (k j:Key) (d:T):∀ kvs:List (Key×T),xu (kvs.map λ kv=>if kv.1=k then (kv.1,d) else kv) j=(xu kvs j).map λ x=>if j=k then d else x
 | []=>rfl
 | (a,b)::kvs=>by
  have ih:=eF k j d kvs;rw[List.map_cons];by_cases hk:a=k
  .rw[if_pos hk,rL,rL,ih];by_cases hj:a=j
   .subst hj;subst hk;simp
   .rw[if_neg hj,if_neg hj]
  .rw[if_neg hk,rL,rL,ih];by_cases hj:a=j
   .subst hj;simp[hk]
   .rw[if_neg hj,if_neg hj]
theorem eE (k j:Key) (d:T):∀ kvs:List (Key×T),(∀ kv∈kvs,¬ kv.1=k)->xu (kvs++[(k,d)]) j=if j=k then some d else xu kvs j
 | [],_=>by
  show xu [(k,d)] j=_;rw[rL];by_cases h:j=k
  .subst h;simp
  .rw[if_neg h,if_neg (λ z=>h z.symm)]
 | (a,b)::kvs,hn=>by
  have ih:=eE k j d kvs λ kv hkv=>hn kv (zMo _ hkv);have ha:¬ a=k:=hn (a,b) zMc;show xu ((a,b)::(kvs++[(k,d)])) j=_;rw[rL,rL,ih];by_cases hj:a=j
  .subst hj;simp[ha]
  .rw[if_neg hj,if_neg hj]
theorem Zr (kvs:List (Key×T)) (k:Key):(kvs.any λ kv=>decide (kv.1=k))=(xu kvs k).isSome:=by
 unfold xu;rw[Option.isSome_map,Bool.eq_iff_iff,List.any_eq_true,List.find?_isSome]
theorem mE (kvs:List (Key×T)) (k j:Key) (d:T):xu (vT kvs k d) j=if j=k then some d else xu kvs j:=by
 unfold vT;split
 .rename_i h;rw[Zr] at h;rw[eF];by_cases hj:j=k
  .subst hj;obtain⟨x,hx⟩:=Option.isSome_iff_exists.mp h;simp[hx]
  .simp[hj]
 .rename_i h;exact eE k j d kvs λ kv hkv z=>h (List.any_eq_true.mpr ⟨kv,hkv,decide_eq_true z⟩)
theorem bj (kvs:List (Key×T)) (k:Key) (d:T):(vT kvs k d).length=if (xu kvs k).isSome=true then kvs.length else kvs.length+1:=by
 have e:=Zr kvs k;unfold vT;rw[e];split <;> simp
noncomputable def vB (p:Int×Int):List Int:=[p.1,p.2]
noncomputable def tJ (ps:List (Int×Int)):List (Int×Int):=(L4.vk (ps.map vB)).map λ r=>(r.getD 0 0,r.getD 1 0)
theorem eW (ps:List (Int×Int)):(tJ ps).map vB=L4.vk (ps.map vB):=by
 unfold tJ;rw[List.map_map]
 conv=>rhs;rw[<- List.map_id (L4.vk (ps.map vB))]
 refine List.map_congr_left λ r hr=>?_;obtain⟨p,_,rfl⟩:=List.mem_map.mp ((L4.rN _).mem_iff.mp hr);rfl
theorem jm (ps:List (Int×Int)):(tJ ps).Perm ps:=by
 have h:=L4.rN (ps.map vB);have:(tJ ps).Perm ((ps.map vB).map λ r=>(r.getD 0 0,r.getD 1 0)):=h.map _
 rwa [List.map_map,show ((λ r:List Int=>(r.getD 0 0,r.getD 1 0)) ∘ vB)=id from rfl,List.map_id] at this
def s_ (p q:Int×Int):Prop:=p.1<q.1\/(p.1=q.1/\p.2<=q.2)
theorem eV (ps:List (Int×Int)):(tJ ps).Pairwise s_:=by
 have h:=L4.jl (ps.map vB);rw[<- eW,List.pairwise_map] at h;refine h.imp λ{p q} hpq=>?_;unfold vB at hpq;rw[HT.sY,HT.sY] at hpq;unfold s_;by_cases e:q.1=p.1
 .rw[if_pos e] at hpq;by_cases e2:q.2=p.2
  .omega
  .rw[if_neg e2] at hpq;have:=of_decide_eq_false hpq;omega
 .rw[if_neg e] at hpq;have:=of_decide_eq_false hpq;omega
theorem Wb (ps:List (Int×Int)):uQ (ps.map zt)=some (ps.map vB):=by
 have:=dv (ps.map vB)
 rwa [List.map_map,show xJ ∘ vB=zt from rfl] at this
noncomputable def wN (q p:Int×Int):Bool:=decide (p.1<=q.1)&&decide (p.2<=q.2)
noncomputable def zN (ps:List (Int×Int)) (q:Int×Int):Bool:=ps.any (wN q)
theorem yG {ps:List (Int×Int)}{q:Int×Int}:zN ps q=true↔∃ p∈ps,p.1<=q.1/\p.2<=q.2:=by
 unfold zN wN;simp[List.any_eq_true]
theorem Qj {ps qs:List (Int×Int)}(h:ps.Perm qs) (q:Int×Int):zN ps q=zN qs q:=by
 rw[Bool.eq_iff_iff,yG,yG];exact⟨λ⟨p,h1,h2⟩=>⟨p,h.mem_iff.mp h1,h2⟩,λ⟨p,h1,h2⟩=>⟨p,h.mem_iff.mpr h1,h2⟩⟩
theorem Ql (ps qs:List (Int×Int)) (q:Int×Int):zN (ps++qs) q=(zN ps q||zN qs q):=by
 unfold zN;rw[List.any_append]
def vy (ps:List (Int×Int)):Prop:=ps.Pairwise λ p q=>p.1<q.1/\q.2<p.2
theorem vy.eq:∀ {ps qs:List (Int×Int)},vy ps->vy qs->(∀ q,zN ps q=zN qs q)->ps=qs
 | [],[],_,_,_=>rfl
 | [],q::qs,_,_,h=>by
  have:=h q;rw[show zN [] q=false from rfl] at this;have h2:zN (q::qs) q=true:=yG.mpr ⟨q,zMc,Int.le_refl _,Int.le_refl _⟩;rw[h2] at this;cases this
 | p::ps,[],_,_,h=>by
  have:=h p;rw[show zN [] p=false from rfl] at this;have h2:zN (p::ps) p=true:=yG.mpr ⟨p,zMc,Int.le_refl _,Int.le_refl _⟩;rw[h2] at this;cases this
 | p::ps,q::qs,hp,hq,h=>by
  have hp1:=List.pairwise_cons.mp hp;have hq1:=List.pairwise_cons.mp hq;have a1:∃ r∈q::qs,r.1<=p.1/\r.2<=p.2:=yG.mp (by rw[<- h];exact yG.mpr ⟨p,zMc,Int.le_refl _,Int.le_refl _⟩);have a2:∃ r∈p::ps,r.1<=q.1/\r.2<=q.2:=yG.mp (by rw[h];exact yG.mpr ⟨q,zMc,Int.le_refl _,Int.le_refl _⟩);obtain⟨r,hr,r1,r2⟩:=a1;obtain⟨u,hu,u1,u2⟩:=a2;have qr:q.1<=r.1:=by
   rcases List.mem_cons.mp hr with e | e
   .subst e;exact Int.le_refl _
   .exact Int.le_of_lt (hq1.1 r e).1
  have pu:p.1<=u.1:=by
   rcases List.mem_cons.mp hu with e | e
   .subst e;exact Int.le_refl _
   .exact Int.le_of_lt (hp1.1 u e).1
  have e1:p.1=q.1:=by omega
  have er:r=q:=by
   rcases List.mem_cons.mp hr with e | e
   .exact e
   .have:=(hq1.1 r e).1;omega
  have eu:u=p:=by
   rcases List.mem_cons.mp hu with e | e
   .exact e
   .have:=(hp1.1 u e).1;omega
  subst er eu;have e2:u.2=r.2:=by omega
  have epq:u=r:=Prod.ext e1 e2;subst epq;rw[vy.eq hp1.2 hq1.2 λ x=>?_];have hx:=h x;unfold zN at hx ⊢;rw[List.any_cons,List.any_cons] at hx;cases g:wN x u with
  | false=>rw[g] at hx;simpa using hx
  | true=>
   have gx:u.1<=x.1/\u.2<=x.2:=by simpa [wN] using g
   have key:∀ {l:List (Int×Int)},(∀ v∈l,u.1<v.1/\v.2<u.2)->l.any (wN x)=l.any (wN (x.1,u.2-1)):=by
    intro l hl;rw[Bool.eq_iff_iff,List.any_eq_true,List.any_eq_true];constructor
    .rintro⟨v,hv,hg⟩;have:=hl v hv;have hg':v.1<=x.1/\v.2<=x.2:=by simpa [wN] using hg
     exact⟨v,hv,by simp[wN];omega⟩
    .rintro⟨v,hv,hg⟩;have:=hl v hv;have hg':v.1<=x.1/\v.2<=u.2-1:=by simpa [wN] using hg
     exact⟨v,hv,by simp[wN];omega⟩
   rw[key hp1.1,key hq1.1];have hy:=h (x.1,u.2-1);unfold zN at hy;rw[List.any_cons,List.any_cons] at hy;have gn:wN (x.1,u.2-1) u=false:=by
    unfold wN;rw[show decide (u.2<=(x.1,u.2-1).2)=false from decide_eq_false (by show ¬ u.2<=u.2-1;omega),Bool.and_false]
   rw[gn] at hy;simpa using hy
noncomputable def tw (l:Option Int) (x:Int):Bool:=match l with
 | none=>true
 | some m=>decide (x<m)
noncomputable def yN:List (Int×Int)->Option Int->List (Int×Int)
 | [],_=>[]
 | p::ps,l=>if tw l p.2=true then p::yN ps (some p.2) else yN ps l
noncomputable def ve (ps:List (Int×Int)):List (Int×Int):=yN (tJ ps) none
theorem oW:∀ (ps:List (Int×Int)) (l:Option Int) (q:Int×Int),q∈yN ps l->q∈ps/\∀ m,l=some m->q.2<m
 | [],l,q,h=>by simp[yN] at h
 | p::ps,l,q,h=>by
  unfold yN at h;split at h
  .rename_i c;have hm:∀ m,l=some m->p.2<m:=λ m e=>by subst e;simpa [tw] using c
   rcases List.mem_cons.mp h with e | e
   .subst e;exact⟨zMc,hm⟩
   .obtain⟨h1,h2⟩:=oW ps _ q e;exact⟨zMo _ h1,λ m e=>by have:=h2 _ rfl;have:=hm m e;omega⟩
  .obtain⟨h1,h2⟩:=oW ps _ q h;exact⟨zMo _ h1,h2⟩
theorem hZ:∀ (ps:List (Int×Int)) (l:Option Int),ps.Pairwise s_->vy (yN ps l)
 | [],l,_=>by simp[yN,vy]
 | p::ps,l,h=>by
  have h1:=List.pairwise_cons.mp h;unfold yN;split
  .refine List.pairwise_cons.mpr ⟨λ q hq=>?_,hZ ps _ h1.2⟩;obtain⟨g1,g2⟩:=oW ps _ q hq;have:=h1.1 q g1;have:=g2 _ rfl;unfold s_ at *;omega
  .exact hZ ps _ h1.2
theorem h_:∀ (ps:List (Int×Int)) (l:Option Int),ps.Pairwise s_->∀ p∈ps,(∃ q∈yN ps l,q.1<=p.1/\q.2<=p.2)\/∃ m,l=some m/\m<=p.2
 | [],l,_,p,hp=>by cases hp
 | r::ps,l,h,p,hp=>by
  have h1:=List.pairwise_cons.mp h;unfold yN;split
  .rename_i c;rcases List.mem_cons.mp hp with e | e
   .subst e;exact .inl ⟨p,zMc,Int.le_refl _,Int.le_refl _⟩
   .rcases h_ ps (some r.2) h1.2 p e with ⟨q,q1,q2⟩ | ⟨m,e1,e2⟩
    .exact .inl ⟨q,zMo _ q1,q2⟩
    .cases e1;have:=h1.1 p e;unfold s_ at this;exact .inl ⟨r,zMc,by omega,e2⟩
  .rename_i c;rcases List.mem_cons.mp hp with e | e
   .subst e;cases l with
    | none=>simp[tw] at c
    | some m=>exact .inr ⟨m,rfl,by simpa [tw] using c⟩
   .exact h_ ps l h1.2 p e
theorem iQ (ps:List (Int×Int)):vy (ve ps):=hZ _ _ (eV ps)
theorem TY {ps:List (Int×Int)}{q:Int×Int}(h:q∈ve ps):q∈ps:=(jm ps).mem_iff.mp (oW _ _ q h).1
theorem p8 (ps:List (Int×Int)) (q:Int×Int):zN (ve ps) q=zN ps q:=by
 rw[<- Qj (jm ps) q,Bool.eq_iff_iff,yG,yG];constructor
 .rintro⟨p,h1,h2⟩;exact⟨p,(oW _ _ p h1).1,h2⟩
 .rintro⟨p,h1,h2⟩;rcases h_ (tJ ps) none (eV ps) p h1 with ⟨r,r1,r2⟩ | ⟨m,e,_⟩
  .exact⟨r,r1,by omega,by omega⟩
  .cases e
end L5
namespace L2
open PySem PySem.Spec PyProof.Rows
section
variable {X:Cx}
def dQ (K:PySem.W.Frag):R2:=λ x y H Q=>∃ l b xs zs,x=.ref l/\y=.ref b/\zV K H l xs/\zV K H b zs/\xs.length+zs.length<=sizeLine/\∀ p,H p=none->Q (.ref p) (upd H p (.lst (xs++zs)))
theorem Ul:yq X (binaryOp .Add) (dQ X.K):=by
 intro pins s σ H x y v u Q I rx ry h;obtain⟨l,b,xs,zs,rfl,rfl,hH,hB,hz,q⟩:=h;cases rx;cases ry;obtain⟨its,r,p1,_⟩:=I.list hH;obtain⟨its2,r2,p2,_⟩:=I.list hB;obtain⟨⟨cls,dd,data,sl⟩,ho,hc,n,hd⟩:=p1.isList;obtain⟨⟨cls2,dd2,data2,sl2⟩,ho2,hc2,n2,hd2⟩:=p2.isList;simp only at hc hd hc2 hd2;subst hc hd hc2 hd2;have e:its.toArray++its2.toArray=(its++its2).toArray:=by simp
 refine concat_meets ⟨_,ho,rfl⟩ ⟨_,ho2,rfl⟩ noFill_list_add seq_list_add PySem.F.slot_list_add PySem.F.entry_list_add (PySem.F.args_list_add_2 _ _) (list_addW l b its.toArray its2.toArray n n2 dd dd2 sl sl2 (by rw[List.size_toArray,List.size_toArray,<- r.length,<- r2.length];exact hz)) ⟨ho,ho2,?_⟩;rw[e];exact⟨.ref _,_,I.TL (t':=s.toks) (r.append r2) (by rw[List.length_append];omega),rfl,q _ I.fresh⟩
def dN (K:PySem.W.Frag):R2:=λ x y H Q=>∃ a b ys,x=.ref a/\y=.ref b/\zZ K H a []/\zZ K H b ys/\Q (.ref b) H
theorem Uj:yq X (binaryOp .Add) (dN X.K):=by
 intro pins s σ H x y v u Q I rx ry h;obtain⟨l,b,ys,rfl,rfl,hH,hB,q⟩:=h;cases rx;cases ry;obtain⟨its,r,p1,_⟩:=I.tuple hH;obtain⟨its2,r2,p2,_⟩:=I.tuple hB;obtain⟨⟨cls,dd,data,sl⟩,ho,hc,n,hd⟩:=id p1;obtain⟨⟨cls2,dd2,data2,sl2⟩,ho2,hc2,n2,hd2⟩:=id p2;simp only at hc hd hc2 hd2;subst hc hd hc2 hd2;exact concat_meets ⟨_,ho,rfl⟩ ⟨_,ho2,rfl⟩ noFill_tuple_add seq_tuple_add PySem.F.slot_tuple_add PySem.F.entry_tuple_add (PySem.F.args_tuple_add_2 _ _)
   (tuple_addW0 l b its.toArray its2.toArray n n2 dd dd2 sl sl2 (by cases r;rfl)) ⟨ho,ho2,⟨.ref b,H,I,rfl,q⟩⟩
end
end L2
namespace L5
open PySem PySem.Spec L2 L3
open PyProof.Rows hiding St
section
variable {X:Cx}{K:PySem.W.Frag}{a b c e:Expr}{es:List Expr}{ta tb tc te:zy}{tA:yt}{pos p:Pos}
theorem uf.mo:xI uf:=λ x y S Q Q' hq h=>by
 cases x with
 | zh=>exact h
 | bl _=>exact h
 | int i=>cases y <;> first | exact hq _ _ h | exact h
 | str i=>cases y <;> first | exact⟨h.1,hq _ _ h.2⟩ | exact h
 | tup i=>cases y <;> first | exact⟨h.1,hq _ _ h.2⟩ | exact h
 | yK ds=>
  unfold uf at h ⊢;dsimp only at h ⊢;split at h
  .exact⟨h.1,h.2.1,λ r hr=>hq _ _ (h.2.2 r hr)⟩
  .exact h.elim
 | ref q=>
  unfold uf at h ⊢;dsimp only at h ⊢;split at h
  .exact⟨h.1,h.2.1,λ r hr=>hq _ _ (h.2.2 r hr)⟩
  .exact h.elim
theorem qU {H:Hp}{S:SS}{d:D}{v:V}{ds:List D}(r:ze K H d v) (p:zR K H S) (e:zT d S=some ds) (n:∀ ts,d≠.tup ts):∃ a xs,v=.ref a/\zV K H a xs/\zq K H ds xs:=by
 unfold zT at e;split at e
 .exact absurd rfl (n _)
 .cases e;simp only[ze] at r;obtain⟨a,xs,h1,h2,h3⟩:=r;exact⟨a,xs,h1,h2.sq,h3⟩
 .split at e
  .rename_i q;cases e;simp only[ze] at r;subst r;obtain⟨xs,h1,h2⟩:=p _ _ q;exact⟨_,xs,rfl,zV.of h1,h2⟩
  .cases e
 .cases e
abbrev dS (K:PySem.W.Frag):R2:=λ x y H Q=>w_ (λ i j=>.int (i+j)) x y H Q\/((∃ i j,x=.str i/\y=.str j/\i.length+j.length<=sizeLine/\Q (.str (i++j)) H)\/(dQ K x y H Q\/(dN K x y H Q\/dP K x y H Q)))
theorem uf.fits:xC K uf (dS K):=λ x y d e H S Q h1 h2 h3 h=>by
 have lst:(∀ ts,d≠.tup ts)->(match zT d S,zT e S with
  | some ds,some es=>(∀ ts,e≠.tup ts)/\ds.length+es.length<=sizeLine/\∀ r,S r=none->wO K H Q (.ref r) (ups S r (.lst (ds++es)))
  | _,_=>False)->dS K x y H Q:=λ n h=>by
  split at h
  .rename_i ds es q1 q2;obtain⟨a,xs,rfl,g1,g2⟩:=qU h1 h3 q1 n;obtain⟨b,ys,rfl,g3,g4⟩:=qU h2 h3 q2 h.1;refine .inr (.inr (.inl ⟨a,b,xs,ys,rfl,rfl,g1,g3,by rw[<- g2.length,<- g4.length];exact h.2.1,λ p hp=>?_⟩));exact h.2.2 p (h3.none hp) _ _ (by simp only[ze]) (.new hp _) (h3.ups (.new hp _) ⟨_,yZ,zq.ext (.new hp _) _ (g2.append g4)⟩)
  .exact h.elim
 cases d with
 | zh=>exact h.elim
 | bl _=>exact h.elim
 | int i=>
  cases e with
  | int j=>
   simp only[ze] at h1 h2;exact .inl ⟨_,_,h1,h2,h _ H (by simp only[ze]) (.refl H) h3⟩
  | zh=>exact h.elim
  | bl _=>exact h.elim
  | str _=>exact h.elim
  | tup _=>exact h.elim
  | yK _=>exact h.elim
  | ref _=>exact h.elim
 | str i=>
  cases e with
  | str j=>
   simp only[ze] at h1 h2;exact .inr (.inl ⟨_,_,h1,h2,h.1,h.2 _ H (by simp only[ze]) (.refl H) h3⟩)
  | zh=>exact h.elim
  | bl _=>exact h.elim
  | int _=>exact h.elim
  | tup _=>exact h.elim
  | yK _=>exact h.elim
  | ref _=>exact h.elim
 | tup ds=>
  cases e with
  | tup es=>
   have h1':=h1;have h2':=h2;simp only[ze] at h1 h2;obtain⟨a,xs,rfl,g1,g2⟩:=h1;obtain⟨b,ys,rfl,g3,g4⟩:=h2;have hl:=g2.length;have hl':=g4.length;by_cases hx:xs=[]
   .subst hx;have:ds=[]:=by cases ds <;> simp_all
    subst this;exact .inr (.inr (.inr (.inl ⟨a,b,ys,rfl,rfl,g1,g3,h.2 _ H h2' (.refl H) h3⟩)))
   .refine .inr (.inr (.inr (.inr ⟨a,b,xs,ys,rfl,rfl,g1,g3,hx,by rw[<- hl,<- hl'];exact h.1,λ hy=>?_,λ hy p hp=>?_⟩)))
    .subst hy;have:es=[]:=by cases es <;> simp_all
     subst this;refine h.2 _ H ?_ (.refl H) h3;rw[List.append_nil];exact h1'
    .refine h.2 _ _ ?_ (.new hp _) (h3.new hp);simp only[ze];exact⟨p,_,rfl,zZ.of yZ,zq.ext (.new hp _) _ (g2.append g4)⟩
  | zh=>exact h.elim
  | bl _=>exact h.elim
  | int _=>exact h.elim
  | str _=>exact h.elim
  | yK _=>exact h.elim
  | ref _=>exact h.elim
 | yK ds=>exact lst (λ _=>nofun) h
 | ref q=>exact lst (λ _=>nofun) h
theorem tQ (ha:PD X a ta) (hb:PD X b tb):PD X (.BinOp a .Add b pos) (yx uf ta tb):=q_ (Uo.or (Um.or (Ul.or (Uj.or Uk)))) uf.fits uf.mo ha hb
theorem vM.mo {g:List Bool->Bool}:uG (vM g):=λ ds S Q Q' hq h=>by
 unfold vM at h ⊢;split at h
 .exact h.elim
 .obtain⟨bs,h1,h2⟩:=h;exact⟨bs,h1,hq _ _ h2⟩
 .exact h.elim
theorem vM.fits {g:List Bool->Bool}:sr K (vM g) (λ xs H Q=>∃ p,∃ bs:List Bool,xs=[.ref p]/\zV K H p (bs.map V.bl)/\Q (.bl (g bs)) H):=λ xs ds H S Q h0 h2 h=>by
 unfold vM at h;split at h
 .exact h.elim
 .rename_i d hn;obtain⟨x,hx,h1⟩:=h0.one;subst hx;obtain⟨bs,e,h⟩:=h;obtain⟨a,ys,rfl,g1,g2⟩:=qU h1 h2 e (λ ts z=>hn ts z);rw[g2.bools] at g1;exact⟨a,bs,rfl,g1,h _ H (by simp only[ze]) (.refl H) h2⟩
 .exact h.elim
theorem VO (hm:X.mg "all"=none) (ha:xQ X (e::es) tA) (hc:X.calm=true:=by rfl) (hg:Gl X "all":=by rfl) (he:starEach (e::es) X.env=(false,eval e X.env)::starEach es X.env:=by rfl) (hpl:(backTo pos (starEach es X.env)).any (·.1)=false:=by rfl):PD X (.Call (.Name "all" p) (e::es) [] pos) (xM (vM λ bs=>bs.all id) tA):=
 tP (tN (QF hc) hg hm boot_all ha.pa (by decide) (by decide) he hpl) vM.mo vM.fits ha.mo
theorem VN (hm:X.mg "any"=none) (ha:xQ X (e::es) tA) (hc:X.calm=true:=by rfl) (hg:Gl X "any":=by rfl) (he:starEach (e::es) X.env=(false,eval e X.env)::starEach es X.env:=by rfl) (hpl:(backTo pos (starEach es X.env)).any (·.1)=false:=by rfl):PD X (.Call (.Name "any" p) (e::es) [] pos) (xM (vM λ bs=>bs.any id) tA):=
 tP (tN (QE hc) hg hm boot_any ha.pa (by decide) (by decide) he hpl) vM.mo vM.fits ha.mo
theorem SH {H:Hp}{d:D}{v:V}(r:ze K H d v):decide (v=.zh)=pC d:=by
 cases d with
 | zh=>simp only[ze] at r;subst r;rfl
 | bl _=>simp only[ze] at r;subst r;rfl
 | int _=>simp only[ze] at r;subst r;rfl
 | str _=>simp only[ze] at r;subst r;rfl
 | tup _=>simp only[ze] at r;obtain⟨a,xs,rfl,_⟩:=r;rfl
 | yK _=>simp only[ze] at r;obtain⟨a,xs,rfl,_⟩:=r;rfl
 | ref _=>simp only[ze] at r;subst r;rfl
theorem cy (ha:PD X a ta):PD X (.UnaryOp .USub a pos) (aJ ta):=by
 refine⟨fun δ S Q Q' hq h=>ha.mo δ S _ _ (λ x S1 z=>by
  cases x <;> first
   | exact hq _ _ z
   | exact z) h,PE.imp (WZ YT ha.pe) fun σ H Q hu=>?_⟩
 obtain⟨δ,S,r1,r2,h⟩:=hu;refine zS.go ha.mo r1 r2 h λ x S1 v H1 h1 q1 e1 p1=>?_;cases x with
 | int i=>simp only[ze] at q1;exact⟨i,q1,h1 _ H1 (by simp only[ze]) e1 p1⟩
 | zh=>exact h1.elim
 | bl _=>exact h1.elim
 | str _=>exact h1.elim
 | tup _=>exact h1.elim
 | yK _=>exact h1.elim
 | ref _=>exact h1.elim
section
variable {N':List Str}{pick:List (Option Nat)}{scope:Scope}{tg elt iter:Expr}{ifs:List Expr}{ti:wQ}{g:xt}{tcc:yD}
theorem t_.mo (hi:kN ti):ym (t_ pick ti g tcc te):=fun δ S Q Q' hq z=>hi δ S _ _ (λ I S1 ⟨h1,h2,h3⟩=>⟨h1,h2,λ p hp=>by
 obtain⟨W,w0,w1,w2,w3⟩:=h3 p hp;exact⟨W,w0,w1,w2,λ S2 acc a b c=>hq _ _ (w3 S2 acc a b c)⟩⟩) z
theorem eG (hi:kN ti) (hg:nX g) (hc:wX tcc) (he:ym te) {σ:St}{H:Hp}{Q:VK}(hu:zS K (t_ pick ti g tcc te) σ H Q):jg pick (wY K ti) (oq K g) (w9 K tcc) (zS K te) σ H Q:=by
 obtain⟨δ,S,r1,r2,z⟩:=hu;refine⟨δ,S,r1,r2,hi δ S _ _ (λ I S1 hF J H1 e1 p1 rep D hD=>?_) z⟩;obtain⟨hlen,hk,hF⟩:=hF;have hS1:S1 D=none:=p1.none hD;obtain⟨W,w0,wm,wstep,wfin⟩:=hF D hS1;refine⟨λ i m σ H2=>m=I.items.length-i/\i<=I.items.length/\Ext H1 H2/\yV K H2 (vW pick δ) σ/\∃ S2 acc,zR K H2 S2/\Sx S1 S2/\S2 D=some (.lst acc)/\acc.length<=i/\W i S2 acc,⟨_,rfl,Nat.zero_le _,.new hD _,((r1.ext e1).pick pick).ext (.new hD _),ups S1 D (.lst []),[],?_,.new hS1 _,sy,Nat.le_refl _,?_⟩,?_⟩
 .exact p1.ups (.new hD _) ⟨[],yZ,.nil⟩
 .exact wm 0 S1 _ [] (λ b o hb q=>by rw[tF hb];exact q) w0
 rintro i m σ2 H2 ⟨rfl,hi',x2,q1,S2,acc,q2,sx,hS2,hacc,hW⟩;obtain⟨g1,g2⟩:=rep i H2 S2 x2 q2 (hk S2 sx);by_cases hl:i<I.items.length
 .have hd:I.items[i]?=some I.items[i]:=by simp[hl]
  obtain⟨go,yl⟩:=g1 _ hd;refine .inr ⟨go,λ x H3 hy=>?_⟩;obtain⟨x3,p3,d3⟩:=yl x H3 hy;refine⟨_,_,S2,d3,q1.ext x3,p3,hg _ _ S2 _ _ (fun δ4 S4 z4 σ4 H4 a1 a2 a3=>?_) (wstep i _ S2 acc hd sx hS2 hW)⟩;obtain⟨hle,z4⟩:=z4;refine w9.go hc a1 a3 z4 λ b S5 H5 z5 x5 p5=>vf (λ z5=>?_) (λ z5=>?_) z5
  .refine zS.go he (a1.ext x5) p5 z5 λ y S6 v H6 z6 q6 x6 p6=>?_;obtain⟨s6,hW6⟩:=z6;obtain⟨ys,h6,r6⟩:=p6 _ _ (s6 _ _ hS2);have e6:Ext H6 (upd H6 D (.lst (ys++[v]))):=.lst h6 _;have hlen2:ys.length<=i:=by rw[<- r6.length];exact hacc
   refine⟨ys,I.items.length-(i+1),h6,by omega,by omega,rfl,hl,((((x2.trans x3).trans a2).trans x5).trans x6).trans e6,hle.rep ((a1.ext (x5.trans x6)).ext e6),ups S6 D (.lst (acc++[y])),acc++[y],?_,λ b o hb=>?_,sy,by simp;omega,?_⟩
   .exact p6.ups e6 ⟨_,yZ,zq.ext e6 _ (r6.snoc q6)⟩
   .rw[tF (by intro q;subst q;rw[hS1] at hb;cases hb)];exact s6 _ _ (sx _ _ hb)
   .exact wm _ S6 _ _ (λ b o hb q=>by rw[tF hb];exact q) hW6
  .obtain⟨s5,hW5⟩:=z5;exact⟨I.items.length-(i+1),by omega,rfl,hl,((x2.trans x3).trans a2).trans x5,hle.rep (a1.ext x5),S5,acc,p5,sx.trans s5,s5 _ _ hS2,by omega,hW5⟩
 .have e:i=I.items.length:=by omega
  subst e;exact .inl ⟨g2 (Nat.le_refl _),wfin S2 acc sx hS2 hW _ H2 (by simp only[ze]) (e1.trans x2) q2⟩
theorem r_ (Sc:qH X N' pick scope) (hc:X.calm=true) (hi:rF X tg iter ti) (hg:∀ cl C s H fp,sg (yT X N' scope cl C s H fp) tg g) (hf:∀ cl C s H fp,kI (yT X N' scope cl C s H fp) ifs tcc) (he:∀ cl C s H fp,PD (yT X N' scope cl C s H fp) elt te)
  (hs:∀ x,foldedSetIterable iter X.env x=pure x:=by intro _;rfl):
  PD X (.ListComp elt [⟨tg,iter,ifs,0⟩] scope pos) (t_ pick ti g tcc te):=
 ⟨t_.mo hi.mo,λ pins s σ H Q I hu=>Vg (g:=oq X.K g) (tc:=w9 X.K tcc) (te:=zS X.K te) Sc hc hi.pi (λ cl C s H fp=>(hg cl C s H fp).pg) (λ cl C s H fp=>(hf cl C s H fp).pf) (λ cl C s H fp=>(he cl C s H fp).pe) hs pins s σ H Q I (eG hi.mo (hg [] 0 s H []).mo (hf [] 0 s H []).mo (he [] 0 s H []).mo hu)⟩
theorem ly {i:Nat}{y:Str}{py spos:Pos}(Sc:qH X N' pick scope) (hc:X.calm=true) (hi:rF X tg iter ti) (hg:∀ cl C s H fp,sg (yT X N' scope cl C s H fp) tg g) (hf:∀ cl C s H fp,kI (yT X N' scope cl C s H fp) ifs tcc) (he:∀ cl C s H fp,PD (yT X N' scope cl C s H fp) elt te)
  (hN:X.N.Nodup) (hy:X.N[i]?=some y) (hx:Loc X.env.scope y)
  (hsw:swapsWith (.ListComp elt [⟨tg,iter,ifs,0⟩] scope pos) (some (.Name y py)) spos.line X.env=pure true:=by rfl)
  (hfn:X.fn y=true\/X.env.scope.names.lookup y=some .local:=by first | exact .inl rfl | exact .inr rfl | assumption)
  (hs:∀ x,foldedSetIterable iter X.env x=pure x:=by intro _;rfl):
  vw X (.Assign [.Name y py] (.ListComp elt [⟨tg,iter,ifs,0⟩] scope pos) spos) (vu (t_ pick ti g tcc te) (hName i)):=by
 refine⟨vu.mo (t_.mo hi.mo) λ _ _ _ _ _ hq z=>hq _ _ z,λ pins s σ H D I hu=>W5 (g:=oq X.K g) (tc:=w9 X.K tcc) (te:=zS X.K te) Sc hc hi.pi (λ cl C s H fp=>(hg cl C s H fp).pg) (λ cl C s H fp=>(hf cl C s H fp).pf) (λ cl C s H fp=>(he cl C s H fp).pe) hN hy hx hsw hfn hs pins s σ H D I ?_⟩;obtain⟨δ,S,r1,r2,z⟩:=hu;refine eG hi.mo (hg [] 0 s H []).mo (hf [] 0 s H []).mo (he [] 0 s H []).mo ⟨δ,S,r1,r2,t_.mo hi.mo δ S _ _ (λ x S1 z v H1 q1 e1 p1=>?_) z⟩;exact z _ H1 ((r1.ext e1).set i q1) e1 p1
end
end
section
variable {P:Program}{w:World}{K:PySem.W.Frag}{mg:Str->Option Value}{base:Heap}{f:Addr}{fd:FuncData}
theorem ab {R:Rk} [Lo R] {x:Str}{st:Stmt}{N ps:List Str}{k n:Nat}{g:Sm}(F:uI K x x st f fd) (Sc:yz N ps (zO st)) (hn:n=ps.length)
  (hbody:∀ (cdv:Value) (A:Around) (outer:List Env) (s:Shared) (H:Hp) (E:XK),y8 k (A.deeper (envOfC x (zO st) s.heap.objs.size f cdv))->
   ∃ t,ur (tu vz P w K mg base N x (zO st) f cdv A outer s H E).sP (vt st) t/\yW R g t):uv P w K mg base vz (k+1) f fd ps (tG K (yc R (yw N n g))):=
 Rt F Sc (λ ds S Q h=>by rw[h.len,hn]) λ cdv A outer s H E hr=>by
  obtain⟨t,h1,h2⟩:=hbody cdv A outer s H E hr;exact⟨t,h1,λ ds S Q h=>QK h2 h⟩
theorem R7 {R:Rk} [Lo R] {x:Str}{st:Stmt}{N ps:List Str}{k n:Nat}{g:Sm}(F:uI K x x st f fd) (hm:mg x=some (.ref f)) (Sc:yz N ps (zO st)) (hn:n=ps.length)
  (hb:∀ (kV doc pm:Value) (an:Option Addr) (cdv ct:Value) (us:List Value),us.length=ps.length->bindArgs (PySem.W.fnOf x x (tZ st) (vt st) (zO st) .none kV doc pm an cdv ct) ⟨us,[]⟩=pure (ps.zip us))
  (hbody:∀ (cdv:Value) (A:Around) (outer:List Env) (s:Shared) (H:Hp) (E:XK),y8 k (A.deeper (envOfC x (zO st) s.heap.objs.size f cdv))->
   ∃ t,ur (tu vz P w K mg base N x (zO st) f cdv A outer s H E).sP (vt st) t/\yW R g t):FD P w K mg base x (k+1) ps (yc R (yw N n g)):=
 ⟨⟨f,fd,ab F Sc hn hbody,hm,F.kp,F.binds hb⟩,yc.mo⟩
theorem Sh {R:Rk} [Sr R] {F:List T->Option T}(hF:∀ ns:List Int,ns.length<=63->F [.lst (ns.map T.int)]=some (.bl true)) {H:Hp}{a:Addr}{ns:List Int}{E:XK}(hO:kJ H) (hS:zV K H a (ns.map V.int)) (hl:ns.length<=63):tG K (yc R F) [.ref a] H (λ v _=>v=.bl true) E:=by
 have hFz:pV K H a (ns.map V.int):=by
  rcases hS with (h | h) | h
  .rcases hO a with z | ⟨o,xs,z⟩
   .rw[h] at z;cases z
   .rw[h] at z;cases z
  .exact .inl h
  .exact .inr h
 refine⟨[.yK (ns.map D.int)],λ _=>none,.cons ?_ .nil,(λ a o z=>nomatch z),λ _=>False,[.lst (ns.map T.int)],.bl true,nofun,.cons ?_ .nil,hF ns hl,λ d S' s r v H' rv _ _=>?_⟩
 .simp only[ze];exact⟨a,_,rfl,hFz,zq.i4 ns⟩
 .simp only[Sn];exact⟨_,.inl ⟨rfl,Uq ns⟩,tK.mpr rfl⟩
 .have:=Sr.sn r;simp only[Sn] at this;subst this;simpa only [ze] using rv
end
end L5
namespace ST
open PySem PySem.SetTable
def uF (xs:List Nat):Prop:=xs.Pairwise (· < ·)
theorem gs {xs:Array Nat}{m d:Nat}(h:m<xs.size):xs.getD m d=xs[m]:=by simp[Array.getD,h]
theorem gZ (xs:Array Nat) (j:Nat) (hr:uF xs.toList):∀ (f lo hi:Nat),hi-lo<=f->lo<=hi->hi<=xs.size->(∀ i (h:i<xs.size),i<lo->xs[i]<j)->(∀ i (h:i<xs.size),hi<=i->j<=xs[i])->
  below.go xs j f lo hi<=xs.size/\(∀ i (h:i<xs.size),i<below.go xs j f lo hi->xs[i]<j)/\∀ i (h:i<xs.size),below.go xs j f lo hi<=i->j<=xs[i]
 | 0,lo,hi,h1,h2,h3,h4,h5=>by
  unfold below.go;have:lo=hi:=by omega
  subst this;exact⟨h3,h4,h5⟩
 | f+1,lo,hi,h1,h2,h3,h4,h5=>by
  unfold below.go;have vC:∀ i k (hi:i<xs.size) (hk:k<xs.size),i<=k->xs[i]<=xs[k]:=λ i k hi hk hik=>by
   rcases Nat.lt_or_ge i k with q | q
   .have r:=List.pairwise_iff_getElem.mp hr i k (by simpa using hi) (by simpa using hk) q;rw[Array.getElem_toList,Array.getElem_toList] at r;exact Nat.le_of_lt r
   .have:i=k:=by omega
    subst this;exact Nat.le_refl _
  by_cases hl:lo<hi
  .rw[if_pos hl];dsimp only;have hm:(lo+hi)/2<xs.size:=by omega
   rw[gs hm];by_cases c:xs[(lo+hi)/2]<j
   .rw[if_pos c];refine gZ xs j hr f _ hi (by omega) (by omega) h3 (λ i hi' hlt=>?_) h5;have:=vC i ((lo+hi)/2) hi' hm (by omega);omega
   .rw[if_neg c];refine gZ xs j hr f lo _ (by omega) (by omega) (by omega) h4 (λ i hi' hge=>?_);have:=vC ((lo+hi)/2) i hm hi' hge;omega
  .rw[if_neg hl];have:lo=hi:=by omega
   subst this;exact⟨h3,h4,h5⟩
theorem k7 {xs:Array Nat}{j:Nat}(hr:uF xs.toList):below xs j<=xs.size/\(∀ i (h:i<xs.size),i<below xs j->xs[i]<j)/\∀ i (h:i<xs.size),below xs j<=i->j<=xs[i]:=
 gZ xs j hr xs.size 0 xs.size (by omega) (by omega) (Nat.le_refl _) (λ i h q=>by omega) (λ i h q=>by omega)
theorem below_at {xs:Array Nat}{j i:Nat}(hr:uF xs.toList) (h:xs[i]?=some j):below xs j=i:=by
 obtain⟨h1,h2,h3⟩:=k7 (j:=j) hr;obtain⟨hi,e⟩:=Array.getElem?_eq_some_iff.mp h;have a:¬ i<below xs j:=λ q=>by have:=h2 i hi q;omega
 have b:¬ below xs j<i:=λ q=>by
  have:=h3 (below xs j) (by omega) (Nat.le_refl _);have r:=List.pairwise_iff_getElem.mp hr (below xs j) i (by simp;omega) (by simpa using hi) q;simp at r;omega
 omega
theorem QP {xs:Array Nat}{j:Nat}(hr:uF xs.toList):(xs[below xs j]?=some j)↔j∈xs.toList:=by
 constructor
 .intro h;obtain⟨hi,e⟩:=Array.getElem?_eq_some_iff.mp h;rw[<- e];simp
 .intro h;obtain⟨i,hi,e⟩:=List.mem_iff_getElem.mp h;have hx:xs[i]?=some j:=by
   simp at hi;simp[hi] at e ⊢;exact e
  rw[below_at hr hx];exact hx
noncomputable def uj (M:Nat) (p:Probe):Probe:=
 if p.more>0 then { p with j:=p.j+1,more:=p.more-1 } else
 let (i,perturb):=leap M p.i p.perturb
 { p with j:=i,more:=runEnd M i-i,i,perturb }
theorem QZ (t:SetTable) (p:Probe):t.advance p=uj t.mask p:=rfl
noncomputable def qW (M i perturb:Nat):Probe:={ j:=i,more:=runEnd M i-i,i:=i,perturb:=perturb,dummy:=none }
noncomputable def way (M:Nat) (h:Int):Nat->Probe
 | 0=>qW M (bits h%(M+1)) (bits h)
 | k+1=>uj M (way M h k)
theorem Q_ (M:Nat) (p:Probe) (h:p.dummy=none):(uj M p).dummy=none:=by
 unfold uj;split
 .exact h
 .exact h
theorem ek (M:Nat) (h:Int):∀ k,(way M h k).dummy=none
 | 0=>rfl
 | k+1=>Q_ M _ (ek M h k)
noncomputable def zY (M:Nat) (h:Int):Nat->Nat×Nat
 | 0=>(bits h%(M+1),bits h)
 | n+1=>leap M (zY M h n).1 (zY M h n).2
theorem jF (M i pt:Nat) (h:Int) (k:Nat) (hk:way M h k=qW M i pt):∀ m,m<=runEnd M i-i->way M h (k+m)={ j:=i+m,more:=runEnd M i-i-m,i:=i,perturb:=pt,dummy:=none }
 | 0,_=>by rw[Nat.add_zero,hk];rfl
 | m+1,hm=>by
  have ih:=jF M i pt h k hk m (by omega);show uj M (way M h (k+m))=_;rw[ih];unfold uj;rw[if_pos (by show runEnd M i-i-m>0;omega)];simp only[Probe.mk.injEq];exact⟨by omega,by omega,trivial,trivial,trivial⟩
theorem Wa (M i:Nat):runEnd M i-i<=9:=by unfold runEnd;split <;> omega
theorem dq (M:Nat) (h:Int) (n k:Nat) (hk:way M h k=qW M (zY M h n).1 (zY M h n).2):way M h (k+(runEnd M (zY M h n).1-(zY M h n).1)+1)=qW M (zY M h (n+1)).1 (zY M h (n+1)).2:=by
 have:=jF M _ _ h k hk _ (Nat.le_refl _);show uj M (way M h (k+_))=_;rw[this];unfold uj;rw[if_neg (by show ¬ _-_-(_-_)>0;omega)];rfl
theorem dr (M:Nat) (h:Int):∀ n,∃ k,k<=10*n/\way M h k=qW M (zY M h n).1 (zY M h n).2
 | 0=>⟨0,by omega,rfl⟩
 | n+1=>by
  obtain⟨k,h1,h2⟩:=dr M h n;have:=Wa M (zY M h n).1;exact⟨_,by omega,dq M h n k h2⟩
theorem QN (h:Int):bits h<2 ^ 64:=by
 unfold bits;have h1:=Int.emod_nonneg h (show (2 ^ 64:Int)≠0 by decide);have h2:=Int.emod_lt_of_pos h (show (0:Int)<2 ^ 64 by decide);omega
theorem cm (M:Nat) (h:Int):∀ n,(zY M h n).2*32 ^ n<=bits h
 | 0=>by simp[zY]
 | n+1=>by
  have ih:=cm M h n;show ((zY M h n).2/32)*32 ^ (n+1)<=_;have:(zY M h n).2/32*32<=(zY M h n).2:=Nat.div_mul_le_self _ _
  calc (zY M h n).2/32*32 ^ (n+1)=((zY M h n).2/32*32)*32 ^ n:=by rw[Nat.pow_succ,Nat.mul_comm (32 ^ n) 32,Nat.mul_assoc]
   _<=(zY M h n).2*32 ^ n:=Nat.mul_le_mul_right _ this
   _<=_:=ih
theorem WV (M:Nat) (h:Int) (n:Nat) (hn:13<=n):(zY M h n).2=0:=by
 rcases Nat.eq_zero_or_pos (zY M h n).2 with q | q
 .exact q
 .have h1:=cm M h n;have h2:=QN h;have h3:32 ^ 13<=32 ^ n:=Nat.pow_le_pow_right (by decide) hn;have h4:1*32 ^ n<=(zY M h n).2*32 ^ n:=Nat.mul_le_mul_right _ q;have h5:(2:Nat) ^ 64<32 ^ 13:=by decide
  omega
noncomputable def tR (M:Nat) (i:Nat):Nat->Nat
 | 0=>i
 | n+1=>(tR M i n*5+1)%(M+1)
theorem bq (M:Nat) (h:Int):∀ n,(zY M h (13+n)).1=tR M (zY M h 13).1 n
 | 0=>rfl
 | n+1=>by
  have ih:=bq M h n;have hz:=WV M h (13+n) (by omega);show ((zY M h (13+n)).1*5+1+(zY M h (13+n)).2/32)%(M+1)=_;rw[hz,ih];rfl
theorem oE (M i:Nat):∀ a b,tR M i (a+b)=tR M (tR M i a) b
 | a,0=>rfl
 | a,b+1=>by
  show (tR M i (a+b)*5+1)%(M+1)=_;rw[oE M i a b];rfl
noncomputable def oD (M:Nat):Nat->Nat->List Nat
 | 0,_=>[]
 | n+1,i=>i::oD M n ((i*5+1)%(M+1))
theorem il (M:Nat):∀ n i x,x∈oD M n i->∃ k,k<n/\tR M i k=x
 | 0,i,x,h=>by cases h
 | n+1,i,x,h=>by
  rcases List.mem_cons.mp h with e | e
  .exact⟨0,by omega,e.symm⟩
  .obtain⟨k,h1,h2⟩:=il M n _ x e;exact⟨k+1,by omega,by rw[Nat.add_comm,oE];exact h2⟩
def vQ (M:Nat):Prop:=M=7\/M=31\/M=127
theorem VS (M:Nat) (hM:vQ M):(∀ e,e<=M->e∈oD M (M+1) 0)/\tR M 0 (M+1)=0:=by
 have key:∀ M,((List.range (M+1)).all λ e=>(oD M (M+1) 0).contains e)=true->∀ e,e<=M->e∈oD M (M+1) 0:=λ M h e he=>by
  have:=List.all_eq_true.mp h e (List.mem_range.mpr (by omega));simpa using this
 rcases hM with rfl | rfl | rfl
 .exact⟨key 7 (by decide +kernel),by decide +kernel⟩
 .exact⟨key 31 (by decide +kernel),by decide +kernel⟩
 .exact⟨key 127 (by decide +kernel),by decide +kernel⟩
theorem VR (M:Nat) (hM:vQ M) (i e:Nat) (hi:i<=M) (he:e<=M):∃ n,n<=M/\tR M i n=e:=by
 obtain⟨h1,h2⟩:=VS M hM;obtain⟨a,a1,a2⟩:=il M _ _ _ (h1 i hi);obtain⟨b,b1,b2⟩:=il M _ _ _ (h1 e he);rcases Nat.lt_or_ge b a with q | q
 .refine⟨M+1+b-a,by omega,?_⟩;rw[<- a2,<- oE,show a+(M+1+b-a)=(M+1)+b by omega,oE,h2,b2]
 .refine⟨b-a,by omega,?_⟩;rw[<- a2,<- oE,show a+(b-a)=b by omega,b2]
theorem TZ (M:Nat) (h:Int):∀ n,(zY M h n).1<=M
 | 0=>by have:=Nat.mod_lt (bits h) (show 0<M+1 by omega);show bits h%(M+1)<=M;omega
 | n+1=>by
  have:=Nat.mod_lt ((zY M h n).1*5+1+(zY M h n).2/32) (show 0<M+1 by omega);show (_%(M+1):Nat)<=M;omega
theorem bu (M:Nat) (hM:vQ M) (h:Int) (e:Nat) (he:e<=M):∃ n,n<M+14/\(zY M h n).1=e:=by
 obtain⟨n,h1,h2⟩:=VR M hM (zY M h 13).1 e (TZ M h 13) he;exact⟨13+n,by omega,by rw[bq,h2]⟩
theorem YI (M:Nat) (hM:vQ M) (h:Int) (e:Nat) (he:e<=M):∃ k,k<10*(M+15)/\(way M h k).j=e:=by
 obtain⟨n,h1,h2⟩:=bu M hM h e he;obtain⟨k,k1,k2⟩:=dr M h n;exact⟨k,by omega,by rw[k2];exact h2⟩
end ST
namespace ST
open PySem PySem.SetTable
theorem ej (M:Nat) (h:Int):∀ k,(way M h k).j+(way M h k).more<=M/\(way M h k).i<=M
 | 0=>by
  have h1:bits h%(M+1)<=M:=by have:=Nat.mod_lt (bits h) (show 0<M+1 by omega);omega
  refine⟨?_,h1⟩;show bits h%(M+1)+(runEnd M (bits h%(M+1))-bits h%(M+1))<=M;unfold runEnd;split <;> omega
 | k+1=>by
  obtain⟨h1,h2⟩:=ej M h k;show (uj M (way M h k)).j+(uj M (way M h k)).more<=M/\(uj M (way M h k)).i<=M;unfold uj;split
  .rename_i c;exact⟨by show (way M h k).j+1+((way M h k).more-1)<=M;omega,h2⟩
  .have h3:((way M h k).i*5+1+(way M h k).perturb/32)%(M+1)<=M:=by have:=Nat.mod_lt ((way M h k).i*5+1+(way M h k).perturb/32) (show 0<M+1 by omega);omega
   refine⟨?_,h3⟩;show _%(M+1)+(runEnd M (_%(M+1))-_%(M+1))<=M;unfold runEnd;split <;> omega
theorem kY (M:Nat) (h:Int) (k:Nat):(way M h k).j<=M:=by have:=(ej M h k).1;omega
structure Tab (t:SetTable) (hs:List Int):Prop where
 mask:vQ t.mask
 nq:t.dummies=#[]
 len:t.place.size=hs.length
 vC:uF t.place.toList
 yE:∀ j∈t.place.toList,j<=t.mask
 lh:∀ (i:Nat) h j,hs[i]?=some h->t.place[i]?=some j->∃ k,(way t.mask h k).j=j/\∀ k'<k,(way t.mask h k').j∈t.place.toList
theorem Tab.live {t:SetTable}{hs:List Int}(T:Tab t hs) {i j:Nat}(h:t.place[i]?=some j):t.slot j=.live i:=by
 unfold SetTable.slot;dsimp only;rw[below_at T.vC h,if_pos (by rw[h];simp)]
theorem Tab.empty {t:SetTable}{hs:List Int}(T:Tab t hs) {j:Nat}(h:j∉t.place.toList):t.slot j=.empty:=by
 unfold SetTable.slot;dsimp only;have n1:¬ (t.place[below t.place j]? == some j)=true:=λ q=>h ((QP T.vC).mp (by simpa using q));rw[if_neg n1,if_neg (by rw[T.nq];simp[has])]
theorem Tab.at {t:SetTable}{hs:List Int}(T:Tab t hs) {j:Nat}(h:j∈t.place.toList):∃ (i:Nat) (g:Int),t.place[i]?=some j/\hs[i]?=some g:=by
 obtain⟨i,hi,e⟩:=List.mem_iff_getElem.mp h;have hi':i<t.place.size:=by simpa using hi
 refine⟨i,hs[i]'(by rw[<- T.len];exact hi'),?_,by simp⟩;rw[Array.getElem?_eq_getElem hi'];rw[Array.getElem_toList] at e;rw[e]
theorem cO {xs ys:List Nat}(hx:xs.Nodup) (h:∀ x∈xs,x∈ys):xs.length<=ys.length:=by
 induction xs generalizing ys with
 | nil=>simp
 | cons x xs ih=>
  have h1:=List.nodup_cons.mp hx;have hxy:=h x zMc;have:=ih h1.2 (ys:=ys.erase x) λ z hz=>by
   have hne:z≠x:=λ e=>h1.1 (e▸hz);exact (List.mem_erase_of_ne hne).mpr (h z (zMo _ hz))
  rw[List.length_erase_of_mem hxy] at this;have hp:=List.length_pos_of_mem hxy;simp only[List.length_cons];omega
theorem least {P:Nat->Prop}(k:Nat) (h:P k):∃ m,m<=k/\P m/\∀ m'<m,¬ P m':=by
 induction k using Nat.strongRecOn with
 | ind k ih=>
  rcases Classical.em (∃ m',m'<k/\P m') with ⟨m',h1,h2⟩ | q
  .obtain⟨m,g1,g2⟩:=ih m' h1 h2;exact⟨m,by omega,g2⟩
  .exact⟨k,Nat.le_refl _,h,λ m' hm hp=>q ⟨m',hm,hp⟩⟩
theorem Rw {xs:List Nat}{M:Nat}(h:xs.length<=M):∃ e,e<=M/\e∉xs:=by
 rcases Classical.em (∃ e,e<=M/\e∉xs) with q | q
 .exact q
 .have:=cO (xs:=List.range (M+1)) (ys:=xs) List.nodup_range λ e he=>by
   have:=List.mem_range.mp he;rcases Classical.em (e∈xs) with w | w
   .exact w
   .exact absurd ⟨e,by omega,w⟩ q
  simp at this;omega
def ZI (t:SetTable) (h:Int) (j:Nat):Prop:=j∉t.place.toList/\∃ k,(way t.mask h k).j=j/\∀ k'<k,(way t.mask h k').j∈t.place.toList
theorem Tab.first {t:SetTable}{hs:List Int}(T:Tab t hs) (hl:hs.length<=t.mask) (h:Int):∃ K,K<10*(t.mask+15)/\(way t.mask h K).j∉t.place.toList/\∀ k'<K,(way t.mask h k').j∈t.place.toList:=by
 obtain⟨e,e1,e2⟩:=Rw (xs:=t.place.toList) (M:=t.mask) (by rw[Array.length_toList,T.len];exact hl);obtain⟨k,k1,k2⟩:=YI t.mask T.mask h e e1;obtain⟨K,q1,q2,q3⟩:=least (P:=λ n=>(way t.mask h n).j∉t.place.toList) k (by rw[k2];exact e2);exact⟨K,by omega,q2,λ k' hk=>Classical.not_not.mp (q3 k' hk)⟩
theorem Wd {xs:List Nat}{j p:Nat}(h:uF xs) (h1:∀ x∈xs.take p,x<j) (h2:∀ x∈xs.drop p,j<x):uF (xs.take p++j::xs.drop p):=by
 refine List.pairwise_append.mpr ⟨h.sublist (List.take_sublist _ _),List.pairwise_cons.mpr ⟨h2,h.sublist (List.drop_sublist _ _)⟩,λ a ha b hb=>?_⟩;rcases List.mem_cons.mp hb with e | e
 .subst e;exact h1 a ha
 .have:=h1 a ha;have:=h2 b e;omega
theorem bL {α:Type}{xs:List α}{p i:Nat}{x y:α}(hp:p<=xs.length) (h:(xs.take p++x::xs.drop p)[i]?=some y):(i=p/\y=x)\/(i<p/\xs[i]?=some y)\/(p<i/\xs[i-1]?=some y):=by
 have hl:(xs.take p).length=p:=by rw[List.length_take];omega
 rcases Nat.lt_trichotomy i p with q | q | q
 .rw[List.getElem?_append_left (by omega),List.getElem?_take,if_pos q] at h;exact .inr (.inl ⟨q,h⟩)
 .subst q;rw[List.getElem?_append_right (by omega),hl] at h;simp at h;exact .inl ⟨rfl,h.symm⟩
 .rw[List.getElem?_append_right (by omega),hl] at h;obtain⟨d,hd⟩:∃ d,i-p=d+1:=⟨i-p-1,by omega⟩
  rw[hd] at h;simp only[List.getElem?_cons_succ,List.getElem?_drop] at h;refine .inr (.inr ⟨q,?_⟩);rw[show i-1=p+d by omega];exact h
theorem Tab.put {t:SetTable}{hs:List Int}(T:Tab t hs) {h:Int}{j:Nat}(F:ZI t h j):
  (t.put j).2<=hs.length/\(t.put j).1={ t with place:=insertAt t.place (t.put j).2 j }/\Tab (t.put j).1 (hs.take (t.put j).2++h::hs.drop (t.put j).2):=by
 obtain⟨b1,b2,b3⟩:=k7 (xs:=t.place) (j:=j) T.vC;obtain⟨fn,K,k1,k2⟩:=F;have e2:(t.put j).2=below t.place j:=rfl;have e1:(t.put j).1={ t with place:=insertAt t.place (t.put j).2 j }:=by
  show ({ t with place:=insertAt t.place (below t.place j) j,dummies:=_ }:SetTable)=_;rw[if_neg (by rw[T.nq];simp[has]),e2]
 have pl:(insertAt t.place (below t.place j) j).toList=t.place.toList.take (below t.place j)++j::t.place.toList.drop (below t.place j):=toList_insertAt _ _ _;have old:∀ x∈t.place.toList,x∈(insertAt t.place (below t.place j) j).toList:=λ x hx=>by
  rw[pl];have:=List.take_append_drop (below t.place j) t.place.toList;rw[<- this] at hx;rcases List.mem_append.mp hx with q | q
  .exact List.mem_append_left _ q
  .exact List.mem_append_right _ (zMo _ q)
 rw[e2] at e1 ⊢;refine⟨by rw[<- T.len];exact b1,e1,?_⟩;rw[e1];refine⟨T.mask,T.nq,?_,?_,?_,?_⟩
 .show (insertAt t.place (below t.place j) j).size=_;rw[<- Array.length_toList,pl];simp[T.len]
 .show uF (insertAt t.place (below t.place j) j).toList;rw[pl];refine Wd T.vC (λ x hx=>?_) (λ x hx=>?_)
  .obtain⟨i,hi,e⟩:=List.mem_iff_getElem.mp hx;rw[List.length_take] at hi;rw[List.getElem_take,Array.getElem_toList] at e;rw[<- e];exact b2 i (by simp at hi;omega) (by omega)
  .obtain⟨i,hi,e⟩:=List.mem_iff_getElem.mp hx;rw[List.length_drop] at hi;rw[List.getElem_drop,Array.getElem_toList] at e;have h3:=b3 (below t.place j+i) (by simp at hi;omega) (by omega);have hm:x∈t.place.toList:=List.mem_of_mem_drop hx;have hne:x≠j:=λ q=>fn (q▸hm);omega
 .intro x hx;show x<=t.mask;have hx:x∈(insertAt t.place (below t.place j) j).toList:=hx;rw[pl] at hx;rcases List.mem_append.mp hx with q | q
  .exact T.yE x (List.mem_of_mem_take q)
  .rcases List.mem_cons.mp q with e | e
   .subst e;rw[<- k1];exact kY _ _ _
   .exact T.yE x (List.mem_of_mem_drop e)
 .intro i g x hg hx;show ∃ k,(way t.mask g k).j=x/\∀ k'<k,(way t.mask g k').j∈(insertAt t.place (below t.place j) j).toList;have hx:(insertAt t.place (below t.place j) j)[i]?=some x:=hx;rw[<- Array.getElem?_toList,pl] at hx;have hpl:below t.place j<=t.place.toList.length:=by simpa using b1
  have hpl':below t.place j<=hs.length:=by rw[<- T.len];exact b1
  rcases bL hpl hx with ⟨c1,c2⟩ | ⟨c1,c2⟩ | ⟨c1,c2⟩ <;> rcases bL hpl' hg with ⟨d1,d2⟩ | ⟨d1,d2⟩ | ⟨d1,d2⟩ <;> first
   | omega
   | (subst c2 d2;exact⟨K,k1,λ k' hk=>old _ (k2 k' hk)⟩)
   | (obtain⟨k,g1,g2⟩:=T.lh _ g x d2 (by rw[<- Array.getElem?_toList];exact c2)
      exact⟨k,g1,λ k' hk=>old _ (g2 k' hk)⟩)
end ST
namespace ST
open PySem PySem.SetTable
def rJ (owner:Array (Option Nat)) (j:Nat):Prop:=∃ k,owner[j]?=some (some k)
theorem R4 {P:Nat->Bool}{n k:Nat}(h:(List.range n).find? P=some k):k<n/\P k=true/\∀ k'<k,P k'=false:=by
 obtain⟨h1,as,bs,h2,h3⟩:=List.find?_eq_some_iff_append.mp h;have hlen:as.length=k:=by
  have e:(List.range n)[as.length]?=some k:=by rw[h2];simp
  have:=(List.getElem?_eq_some_iff.mp e)
  obtain⟨q1,q2⟩:=this;rw[List.getElem_range] at q2;exact q2
 have hk:k<n:=by
  have:k∈List.range n:=by rw[h2];simp
  exact List.mem_range.mp this
 refine⟨hk,h1,λ k' hk'=>?_⟩;have:k'∈as:=by
  have e:(List.range n)[k']?=some k':=List.getElem?_range (by omega);rw[h2,List.getElem?_append_left (by omega)] at e;exact List.mem_of_getElem? e
 have:=h3 k' this;simpa using this
theorem getD_none {owner:Array (Option Nat)}{j:Nat}(h:((owner.getD j (some 0)).isNone)=true):owner[j]?=some none:=by
 unfold Array.getD at h;split at h
 .rename_i hj;have e:owner[j]=none:=by simpa using h
  rw[Array.getElem?_eq_getElem hj,e]
 .simp at h
theorem bX {owner:Array (Option Nat)}{j:Nat}(hj:j<owner.size) (h:((owner.getD j (some 0)).isNone)=false):rJ owner j:=by
 unfold Array.getD at h;rw[dif_pos hj] at h;cases q:owner[j] with
 | none=>simp[q] at h
 | some k=>exact⟨k,by rw[Array.getElem?_eq_getElem hj,q]⟩
theorem aa (M:Nat) (owner:Array (Option Nat)) (hsz:owner.size=M+1) (h:Int):∀ (fuel n kn:Nat),way M h kn=qW M (zY M h n).1 (zY M h n).2->(∀ q<kn,rJ owner (way M h q).j)->
  (∃ n',n<=n'/\n'<n+fuel/\owner[(zY M h n').1]?=some none)->
  ∃ j q,layClean.free M owner fuel (zY M h n).1 (zY M h n).2=some j/\(way M h q).j=j/\owner[j]?=some none/\∀ q'<q,rJ owner (way M h q').j
 | 0,n,kn,_,_,⟨n',h1,h2,_⟩=>by omega
 | fuel+1,n,kn,hk,ho,⟨n',h1,h2,h3⟩=>by
  have hre:runEnd M (zY M h n).1+1-(zY M h n).1=runEnd M (zY M h n).1-(zY M h n).1+1:=by unfold runEnd;split <;> omega
  have hwalk:∀ m,m<=runEnd M (zY M h n).1-(zY M h n).1->(way M h (kn+m)).j=(zY M h n).1+m:=λ m hm=>by rw[jF M _ _ h kn hk m hm]
  unfold layClean.free;cases hf:(List.range (runEnd M (zY M h n).1+1-(zY M h n).1)).find? (λ k=>(owner.getD ((zY M h n).1+k) (some 0)).isNone) with
  | some k=>
   obtain⟨f1,f2,f3⟩:=R4 hf;refine⟨_,kn+k,rfl,hwalk k (by omega),getD_none f2,λ q' hq=>?_⟩;rcases Nat.lt_or_ge q' kn with w | w
   .exact ho q' w
   .have e:(way M h q').j=(zY M h n).1+(q'-kn):=by
     have:=hwalk (q'-kn) (by omega)
     rwa [show kn+(q'-kn)=q' by omega] at this
    have hle:=kY M h q';rw[e] at hle ⊢;exact bX (by omega) (f3 (q'-kn) (by omega))
  | none=>
   have f3:=List.find?_eq_none.mp hf;have occ:∀ m,m<=runEnd M (zY M h n).1-(zY M h n).1->rJ owner ((zY M h n).1+m):=λ m hm=>by
    have hle:=kY M h (kn+m);rw[hwalk m hm] at hle;exact bX (by omega) (Bool.eq_false_iff.mpr (f3 m (List.mem_range.mpr (by omega))))
   have hne:n'≠n:=λ e=>by
    subst e;obtain⟨k,hk'⟩:=occ 0 (Nat.zero_le _);rw[Nat.add_zero] at hk';rw[hk'] at h3;cases h3
   dsimp only;obtain⟨j,q,r1,r2⟩:=aa M owner hsz h fuel (n+1) _ (dq M h n kn hk) (λ q hq=>by
    rcases Nat.lt_or_ge q kn with w | w
    .exact ho q w
    .have e:=hwalk (q-kn) (by omega);rw[show kn+(q-kn)=q by omega] at e;rw[e];exact occ _ (by omega)) ⟨n',by omega,by omega,h3⟩
   exact⟨j,q,r1,r2⟩
structure Lay (M:Nat) (hs:List Int) (owner:Array (Option Nat)) (m:Nat):Prop where
 size:owner.size=M+1
 below:∀ (j k:Nat),owner[j]?=some (some k)->k<m
 each:∀ (k:Nat),k<m->∃ (j:Nat),owner[j]?=some (some k)
 once:∀ (i j k:Nat),owner[i]?=some (some k)->owner[j]?=some (some k)->i=j
 lh:∀ (j k:Nat) h,owner[j]?=some (some k)->hs[k]?=some h->∃ q,(way M h q).j=j/\∀ q'<q,rJ owner (way M h q').j
theorem Lay.none {M:Nat}(hM:vQ M) {hs:List Int}{owner:Array (Option Nat)}{m:Nat}(L:Lay M hs owner m) (hm:m<=M):∃ (e:Nat),e<=M/\owner[e]?=some Option.none:=by
 rcases Classical.em (∃ (e:Nat),e<=M/\owner[e]?=some Option.none) with q | q
 .exact q
 .exfalso;have hall:∀ (e:Nat),e<=M->∃ (k:Nat),owner[e]?=some (some k):=λ e he=>by
   have hlt:e<owner.size:=by rw[L.size];omega
   cases w:owner[e] with
   | none=>exact absurd ⟨e,he,by rw[Array.getElem?_eq_getElem hlt,w]⟩ q
   | some k=>exact⟨k,by rw[Array.getElem?_eq_getElem hlt,w]⟩
  have:=cO (xs:=(List.range (M+1)).map λ e=>((owner[e]?).getD Option.none).getD 0) (ys:=List.range m) (by
   refine List.pairwise_map.mpr (List.Pairwise.imp_of_mem ?_ List.nodup_range);intro a b ha hb hne e;refine hne ?_;obtain⟨k,hk⟩:=hall a (by have:=List.mem_range.mp ha;omega);obtain⟨k',hk'⟩:=hall b (by have:=List.mem_range.mp hb;omega);rw[hk,hk'] at e;simp at e;subst e;exact L.once a b k hk hk') (λ x hx=>by
   obtain⟨e,he,rfl⟩:=List.mem_map.mp hx;obtain⟨k,hk⟩:=hall e (by have:=List.mem_range.mp he;omega);rw[hk];exact List.mem_range.mpr (L.below e k hk))
  simp at this;omega
theorem mR {α:Type}{xs:Array α}{j i:Nat}{a b:α}(h:(xs.setIfInBounds j a)[i]?=some b):(i=j/\b=a)\/(i≠j/\xs[i]?=some b):=by
 rw[Array.getElem?_setIfInBounds] at h;by_cases e:j=i
 .subst e;rw[if_pos rfl] at h;split at h
  .cases h;exact .inl ⟨rfl,rfl⟩
  .cases h
 .rw[if_neg e] at h;exact .inr ⟨λ q=>e q.symm,h⟩
theorem Lay.step {M:Nat}(hM:vQ M) {hs:List Int}{owner:Array (Option Nat)}{m:Nat}{h:Int}(L:Lay M hs owner m) (hm:m<=M) (hh:hs[m]?=some h):
  ∃ j,layClean.free M owner (turns M) (bits h%(M+1)) (bits h)=some j/\Lay M hs (owner.setIfInBounds j (some m)) (m+1):=by
 obtain⟨e,e1,e2⟩:=L.none hM hm;obtain⟨n',n1,n2⟩:=bu M hM h e e1;obtain⟨j,q,r1,r2,r3,r4⟩:=aa M owner L.size h (turns M) 0 0 rfl (λ q hq=>by omega) ⟨n',by omega,by unfold turns;omega,by rw[n2];exact e2⟩;have hj:j<owner.size:=(Array.getElem?_eq_some_iff.mp r3).1;have keep:∀ x,rJ owner x->rJ (owner.setIfInBounds j (some m)) x:=λ x ⟨k,hk⟩=>by
  have hne:j≠x:=λ w=>by subst w;rw[r3] at hk;cases hk
  exact⟨k,by rw[Array.getElem?_setIfInBounds,if_neg hne];exact hk⟩
 have self:(owner.setIfInBounds j (some m))[j]?=some (some m):=by rw[Array.getElem?_setIfInBounds,if_pos rfl,if_pos hj]
 refine⟨j,r1,⟨by simp[L.size],λ x k hx=>?_,λ k hk=>?_,λ x y k hx hy=>?_,λ x k g hx hg=>?_⟩⟩
 .rcases mR hx with ⟨_,w⟩ | ⟨_,w⟩
  .cases w;omega
  .have:=L.below x k w;omega
 .rcases Nat.lt_or_ge k m with w | w
  .obtain⟨x,hx⟩:=L.each k w;have hne:j≠x:=λ w=>by subst w;rw[r3] at hx;cases hx
   exact⟨x,by rw[Array.getElem?_setIfInBounds,if_neg hne];exact hx⟩
  .have:k=m:=by omega
   subst this;exact⟨j,self⟩
 .rcases mR hx with ⟨w1,w⟩ | ⟨w1,w⟩ <;> rcases mR hy with ⟨v1,v⟩ | ⟨v1,v⟩
  .omega
  .cases w;have:=L.below y _ v;omega
  .cases v;have:=L.below x _ w;omega
  .exact L.once x y k w v
 .rcases mR hx with ⟨w1,w⟩ | ⟨w1,w⟩
  .cases w;rw[hh] at hg;cases hg;subst w1;exact⟨q,r2,λ q' hq=>keep _ (r4 q' hq)⟩
  .obtain⟨q,g1,g2⟩:=L.lh x k g w hg;exact⟨q,g1,λ q' hq=>keep _ (g2 q' hq)⟩
theorem bz {M:Nat}(hM:vQ M) {hs:List Int}(hl:hs.length<=M+1):∀ (rest:List Int) (owner:Array (Option Nat)) (m:Nat),m<=hs.length->hs.drop m=rest->Lay M hs owner m->
  ∃ owner',rest.foldl (λ acc h=>do
   let (owner,k) <- acc
   let j <- layClean.free M owner (turns M) (bits h%(M+1)) (bits h)
   pure (owner.setIfInBounds j (some k),k+1)) (some (owner,m))=some (owner',hs.length)/\Lay M hs owner' hs.length
 | [],owner,m,hl2,hd,L=>by
  have hm:hs.length<=m:=List.drop_eq_nil_iff.mp hd;have e:m=hs.length:=by omega
  subst e;exact⟨owner,rfl,L⟩
 | h::rest,owner,m,hl2,hd,L=>by
  have hm:hs[m]?=some h:=by
   have:=congrArg (λ l=>l[0]?) hd;simpa using this
  have hlt:m<hs.length:=(List.getElem?_eq_some_iff.mp hm).1;obtain⟨j,j1,j2⟩:=L.step hM (by omega) hm;have hd':hs.drop (m+1)=rest:=by
   have:=congrArg List.tail hd;simpa using this
  obtain⟨o',h1,h2⟩:=bz hM hl rest _ (m+1) (by omega) hd' j2;refine⟨o',?_,h2⟩;rw[List.foldl_cons,<- h1];show _=_;congr 1;show ((layClean.free M owner (turns M) (bits h%(M+1)) (bits h)).bind λ j=>some (owner.setIfInBounds j (some m),m+1))=_;rw[j1];rfl
theorem Sd (M:Nat) (hs:List Int):Lay M hs (Array.replicate (M+1) Option.none) 0:=by
 have no:∀ (j k:Nat),(Array.replicate (M+1) (Option.none:Option Nat))[j]?≠some (some k):=λ j k h=>by
  rw[Array.getElem?_replicate] at h;split at h <;> cases h
 exact⟨by simp,λ j k h=>absurd h (no j k),λ k hk=>by omega,λ i j k h=>absurd h (no i k),λ j k h e=>absurd e (no j k)⟩
theorem Se {M:Nat}(hM:vQ M) (hashes:Array Int) (hl:hashes.size<=M+1):∃ owner,layClean M hashes=some owner/\Lay M hashes.toList owner hashes.size:=by
 obtain⟨o,h1,h2⟩:=bz hM (hs:=hashes.toList) (by simpa using hl) hashes.toList _ 0 (Nat.zero_le _) (by simp) (Sd M _);refine⟨o,?_,by simpa using h2⟩;unfold layClean;rw[<- Array.foldl_toList,h1];rfl
noncomputable def lives (M:Nat) (owner:Array (Option Nat)):List (Nat×Nat):=(List.range (M+1)).filterMap λ j=>(owner.getD j Option.none).map (j,·)
theorem getD_some {owner:Array (Option Nat)}{j k:Nat}:owner.getD j Option.none=some k↔owner[j]?=some (some k):=by
 unfold Array.getD;split
 .rename_i h;rw[Array.getElem?_eq_getElem h];simp
 .rename_i h;rw[Array.getElem?_eq_none (by omega)];simp
theorem qd {M:Nat}{owner:Array (Option Nat)}(hs:owner.size=M+1) {j k:Nat}:(j,k)∈lives M owner↔owner[j]?=some (some k):=by
 unfold lives;rw[List.mem_filterMap];constructor
 .rintro⟨x,hx,e⟩;obtain⟨y,e1,e2⟩:=zOm e;cases e2;exact getD_some.mp e1
 .intro h;have hj:=(Array.getElem?_eq_some_iff.mp h).1;exact⟨j,List.mem_range.mpr (by omega),by rw[getD_some.mpr h];rfl⟩
theorem bf (M:Nat) (owner:Array (Option Nat)):(lives M owner).Pairwise λ a b=>a.1<b.1:=by
 unfold lives;rw[List.pairwise_filterMap];refine List.Pairwise.imp ?_ List.pairwise_lt_range;intro a b hab x hx y hy;obtain⟨_,_,e1⟩:=zOm hx;obtain⟨_,_,e2⟩:=zOm hy;subst e1 e2;exact hab
theorem Si {M:Nat}(hM:vQ M) (finger moves:Nat) (led plain:Bool) (hashes:Array Int) (hl:hashes.size<=M+1):
  ∃ t order,laid M finger moves led plain hashes=some (t,order)/\t.mask=M/\t.finger=finger/\t.led=led/\t.plain=plain/\order.toList.Perm (List.range hashes.size)/\Tab t (order.toList.map λ k=>hashes.toList.getD k 0):=by
 obtain⟨owner,h1,L⟩:=Se hM hashes hl;refine⟨_,_,by unfold laid;rw[h1];rfl,rfl,rfl,rfl,rfl,?_,?_⟩
 .show ((lives M owner).map (·.2)).toArray.toList.Perm _;rw[List.toList_toArray];refine (List.perm_ext_iff_of_nodup ?_ List.nodup_range).mpr λ k=>?_
  .refine List.pairwise_map.mpr (List.Pairwise.imp_of_mem ?_ (bf M owner));intro a b ha hb hab e;have h2:=(qd L.size (j:=a.1) (k:=a.2)).mp ha;have h3:=(qd L.size (j:=b.1) (k:=b.2)).mp hb;have e:a.2=b.2:=e;rw[e] at h2;have:=L.once _ _ _ h2 h3;omega
  .rw[List.mem_range];constructor
   .intro h;obtain⟨⟨j,k'⟩,h2,rfl⟩:=List.mem_map.mp h;exact L.below j _ ((qd L.size).mp h2)
   .intro h;obtain⟨j,hj⟩:=L.each k h;exact List.mem_map.mpr ⟨(j,k),(qd L.size).mpr hj,rfl⟩
 .have pl:∀ x,x∈(lives M owner).map (·.1)↔rJ owner x:=λ x=>by
   constructor
   .intro h;obtain⟨⟨j,k⟩,h2,rfl⟩:=List.mem_map.mp h;exact⟨k,(qd L.size).mp h2⟩
   .rintro⟨k,hk⟩;exact List.mem_map.mpr ⟨(x,k),(qd L.size).mpr hk,rfl⟩
  refine⟨hM,rfl,?_,?_,?_,?_⟩
  .show ((lives M owner).map (·.1)).toArray.size=(((lives M owner).map (·.2)).toArray.toList.map _).length;simp
  .show uF ((lives M owner).map (·.1)).toArray.toList;rw[List.toList_toArray];exact List.pairwise_map.mpr (bf M owner)
  .intro x hx;show x<=M;have hx:x∈((lives M owner).map (·.1)).toArray.toList:=hx;rw[List.toList_toArray] at hx;obtain⟨k,hk⟩:=(pl x).mp hx;have:=(Array.getElem?_eq_some_iff.mp hk).1;rw[L.size] at this;omega
  .intro i g x hg hx;have hx:((lives M owner).map (·.1)).toArray[i]?=some x:=hx;have hg:(((lives M owner).map (·.2)).toArray.toList.map λ k=>hashes.toList.getD k 0)[i]?=some g:=hg;rw[List.getElem?_toArray,List.getElem?_map] at hx;rw[List.toList_toArray,List.getElem?_map,List.getElem?_map] at hg;obtain⟨p,p1,p2⟩:=zOm hx;rw[p1] at hg;simp only[Option.map_some,Option.some.injEq] at hg;obtain⟨j,k⟩:=p;cases p2;have hm:=(qd L.size).mp (List.mem_of_getElem? p1);have hk:=L.below _ _ hm;obtain⟨q,q1,q2⟩:=L.lh _ k g hm (by rw[<- hg];simp[hk]);refine⟨q,q1,λ q' hq=>?_⟩;show _∈((lives M owner).map (·.1)).toArray.toList;rw[List.toList_toArray];exact (pl _).mpr (q2 q' hq)
end ST
namespace ST
open PySem PySem.SetTable
section
variable {prog:Program}{w:World}{A:Around}{E:Value->Shared->Prop}{s:Shared}
theorem items_int {ks:List Int}{vs:List Value}(h:ItemsAre (intKind prog w) ks vs):∀ v∈vs,∃ n t,v=.int n t:=by
 induction h with
 | nil=>intro v hv;cases hv
 | cons h1 _ ih=>
  intro v hv;rcases List.mem_cons.mp hv with rfl | hv
  .obtain⟨t,e⟩:=Value.isInt_shape h1;exact⟨_,t,e⟩
  .exact ih v hv
end
end ST
namespace ST
open PySem PySem.SetTable
section
variable {prog:Program}{w:World}{A:Around}{E:Value->Shared->Prop}{s:Shared}
theorem dW {h:Heap}{a:Addr}{es es':Array (Int×Value)}{ep:Nat}{t t':SetTable}(ho:h.get? a=some { cls:=.type "set",dict:=none,data:=.set es ep t }):(h.update a (Obj.putSet es' t')).get? a=some { cls:=.type "set",dict:=none,data:=.set es' (ep+1) t' }:=by
 have e:Obj.putSet es' t' { cls:=.type "set",dict:=none,data:=.set es ep t }={ cls:=.type "set",dict:=none,data:=.set es' (ep+1) t' }:=putSet_of es' t' rfl;have:=Heap.get?_update_self (Obj.putSet es' t') ho (by rw[e];rfl);rw[e] at this;exact this
theorem cf {α β:Type}(l:List α) (f:α->β) (d:β):∀ (order:List Nat),(∀ k∈order,k<l.length)->order.map (λ k=>(l.map f).getD k d)=(order.filterMap λ k=>l[k]?).map f
 | [],_=>rfl
 | k::order,h=>by
  have hk:=h k zMc;have ih:=cf l f d order λ j hj=>h j (zMo _ hj);rw[List.map_cons,List.filterMap_cons,List.getElem?_eq_getElem hk];dsimp only;rw[List.map_cons,ih];congr 1;simp[hk]
theorem XA (n:Nat) (M:Nat) (hM:vQ M) (h1:n*5<M*3) (h2:M*3<=(n+1)*5) (hn:n<70):∃ M',vQ M'/\sizeAbove (grown (n+1))=M' + 1/\(n+1)*5<M'*3:=by
 rcases hM with e | e | e <;> subst e
 .have:n=4:=by omega
  subst this;exact⟨31,.inr (.inl rfl),by decide +kernel,by omega⟩
 .have:n=18:=by omega
  subst this;exact⟨127,.inr (.inr rfl),by decide +kernel,by omega⟩
 .omega
end
end ST
namespace ST
open PySem PySem.SetTable
noncomputable def sZ (w:World):Bool:=!w.params.followText "set-order"
noncomputable def vl (w:World):Obj:={ cls:=.type "set",dict:=none,data:=.set #[] 0 (.fresh 0 0 (sZ w)) }
section
variable {prog:Program}{w:World}{A:Around}{E:Value->Shared->Prop}{s:Shared}
set_option maxHeartbeats 3200000 in
theorem Qr (a:Value) {Q:Value->Shared->Prop}(h:Q (.ref s.heap.objs.size) { s with heap:=s.heap.push (vl w) }):
  codeAny (model prog w) A (.call (.builtin "set.__new__") ⟨[.type "set",a],[]⟩) (wants Q E) s:=by
 refine codeAny_of_tree ?_;show wpAny _ A.in1 (checkBuiltinCall "set.__new__" ⟨[.type "set",a],[]⟩ >>= λ _=>again (.builtin "set.__new__" ⟨[.type "set",a],[]⟩)) _ _ s;refine zWb (wpAny_of_eq (F.newCall_set_1 a) (wpAny_pure ⟨plainId_quiet F.plain_set_new _,codeAny_builtin F.entry_set_new ?_⟩));rw[Around.under_plainId F.plain_set_new _];unfold Builtin.«set.__new__» Builtin.Frozenset.newClass newSet setsByText;have sub:=sub_set_self;obtain⟨hp,g,d,tk,os⟩:=s;dsimp only
 wp_walk
 refine wpAny_askSetting (wpAny_pure ?_);dsimp only;simp only[newObj];exact zWb (wpAny_alloc (wpAny_pure (wpAny_pure h)))
end
end ST
namespace ST
open PySem PySem.SetTable PyProof.Rows
section
variable {prog:Program}{w:World}{A:Around}{R:Result->Shared->Prop}{I:Addr}{fp wr:List Addr}{G:Array GenState->Array GenState->Prop}{n:Nat}{P:Nat->Value->Prop}{St:Nat->Shared->Prop}
end
end ST
namespace ST
open PySem PySem.SetTable PyProof.Rows
section
variable {prog:Program}{w:World}{A:Around}{E:Value->Shared->Prop}{s:Shared}
end
end ST
namespace ST
open PySem PySem.SetTable
section facts
set_option maxRecDepth 100000
theorem cA:Manifest.owners.lookup (String.ofList ['r','o','t','a','r','e','t','i','_','t','e','s'].reverse)=some Manifest.sig_set_iterator:=by kernel_rfl
theorem qT:Slot "set_iterator" "__next__" "set_iterator.__next__":=
 .of (owner:="set_iterator") (n:="__next__") (by rw[typeLookup_type,builtinLookup_eq_fast];kernel_rfl) (by decide +kernel) (by decide +kernel) (by decide +kernel) (by first | exact .inl (by decide +kernel) | exact .inr (by decide +kernel)) (by rw[isSubtype_type];kernel_rfl)
theorem aq:entryFor table "set_iterator.__next__"=some Builtin.«set_iterator.__next__»:=entryFor_of_tree (by kernel_rfl)
theorem Zq (a:Value):argsOk "set_iterator.__next__" ⟨[a],[]⟩:=by
 unfold argsOk;rw[signature?_of (id:="set_iterator.__next__") (n:=['_','_','t','x','e','n','_','_']) (o:=['r','o','t','a','r','e','t','i','_','t','e','s']) (by kernel_rfl) cA]
 kernel_rfl
theorem RK:entryFor table "set.__iter__"=some Builtin.«frozenset.__iter__»:=entryFor_alias (id':="frozenset.__iter__") (by kernel_rfl) rfl (by decide +kernel) (by kernel_rfl)
theorem df:Slot "set_iterator" "__iter__" "set_iterator.__iter__":=
 .of (owner:="set_iterator") (n:="__iter__") (by rw[typeLookup_type,builtinLookup_eq_fast];kernel_rfl) (by decide +kernel) (by decide +kernel) (by decide +kernel) (by first | exact .inl (by decide +kernel) | exact .inr (by decide +kernel)) (by rw[isSubtype_type];kernel_rfl)
theorem RJ:entryFor table "set_iterator.__iter__"=some Builtin.«dict_keyiterator.__iter__»:=entryFor_alias (id':="dict_keyiterator.__iter__") (by kernel_rfl) rfl (by decide +kernel) (by kernel_rfl)
theorem QT (a:Value):argsOk "set_iterator.__iter__" ⟨[a],[]⟩:=by
 unfold argsOk;rw[signature?_of (id:="set_iterator.__iter__") (n:=['_','_','r','e','t','i','_','_']) (o:=['r','o','t','a','r','e','t','i','_','t','e','s']) (by kernel_rfl) cA]
 kernel_rfl
end facts
end ST
namespace ST
open PySem PySem.SetTable
theorem aj {α:Type}:∀ (l:List α) (i:Nat) (x:α),l[i]?=some x->l.Perm (x::l.eraseIdx i)
 | [],i,x,h=>by simp at h
 | y::l,0,x,h=>by simp at h;subst h;simp
 | y::l,i+1,x,h=>by
  have ih:=aj l i x (by simpa using h);rw[List.eraseIdx_cons_succ];exact (ih.cons y).trans (.swap x y _)
theorem cg {α:Type}(next:Nat->Nat):∀ (f k:Nat) (left:List α) (out:Array α),left.length=f->(pickOrder.go next f k left out).toList.Perm (out.toList++left)
 | 0,k,left,out,h=>by
  cases left with
  | nil=>unfold pickOrder.go;simp
  | cons _ _=>simp at h
 | f+1,k,left,out,h=>by
  unfold pickOrder.go;have hlt:next k%left.length<left.length:=Nat.mod_lt _ (by omega);rw[List.getElem?_eq_getElem hlt];dsimp only;refine (cg next f (k+1) _ _ (by rw[List.length_eraseIdx_of_lt hlt];omega)).trans ?_;rw[Array.toList_push,List.append_assoc];exact (aj left _ _ (List.getElem?_eq_getElem hlt)).symm.append_left _
theorem WG {α:Type}(next:Nat->Nat) (xs:Array α):(pickOrder next xs).toList.Perm xs.toList:=by
 unfold pickOrder;simpa using cg next xs.size 0 xs.toList #[] (by simp)
noncomputable def comes (w:World) (a:Addr) (es:Array (Int×Value)) (ep:Nat):Array (Int×Value):=if w.params.followText "set-order"=true then pickOrder (w.params.setOrder a ep) es else es
theorem nJ (w:World) (a:Addr) (es:Array (Int×Value)) (ep:Nat):(comes w a es ep).toList.Perm es.toList:=by
 unfold comes;split
 .exact WG _ _
 .exact .refl _
noncomputable def ra (a:Addr) (slot i n ep:Nat):Obj:={ cls:=.type "set_iterator",data:=.fields #[rawInt slot,rawInt i,.ref a,rawInt n,rawInt ep] }
noncomputable def slotAt (t:SetTable):Nat->Nat
 | 0=>0
 | i+1=>t.place.getD i 0+1
theorem QO {t:SetTable}(hr:uF t.place.toList):∀ i,i<=t.place.size->below t.place (slotAt t i)=i
 | 0,_=>by
  obtain⟨h1,h2,h3⟩:=k7 (xs:=t.place) (j:=0) hr;rcases Nat.eq_zero_or_pos (below t.place 0) with q | q
  .exact q
  .have:=h2 0 (by omega) q;omega
 | i+1,hi=>by
  have hd:t.place.getD i 0=t.place[i]:=gs (by omega);show below t.place (t.place.getD i 0+1)=i+1;rw[hd];obtain⟨h1,h2,h3⟩:=k7 (xs:=t.place) (j:=t.place[i] + 1) hr;have vC:∀ a b (ha:a<t.place.size) (hb:b<t.place.size),a<b->t.place[a]<t.place[b]:=λ a b ha hb hab=>by
   have r:=List.pairwise_iff_getElem.mp hr a b (by simpa using ha) (by simpa using hb) hab;rw[Array.getElem_toList,Array.getElem_toList] at r;exact r
  rcases Nat.lt_trichotomy (below t.place (t.place[i] + 1)) (i+1) with q | q | q
  .have:=h3 i (by omega) (by omega);omega
  .exact q
  .have a:=h2 (i+1) (by omega) q;have b:=vC i (i+1) (by omega) (by omega) (by omega);omega
structure wW (w:World) (h:Heap) (a:Addr) (es:Array (Int×Value)) (ep:Nat) (t:SetTable):Prop where
 get:h.get? a=some { cls:=.type "set",dict:=none,data:=.set es ep t }
 fits:t.fits es.size=true
 vC:uF t.place.toList
 led:t.led=sZ w
 plain:t.plain=true
theorem wW.size {w:World}{h:Heap}{a:Addr}{es:Array (Int×Value)}{ep:Nat}{t:SetTable}(S:wW w h a es ep t):t.place.size=es.size:=by
 have:=S.fits;simp only[SetTable.fits,Bool.and_eq_true,beq_iff_eq] at this;exact this.1
section
variable {prog:Program}{w:World}{A:Around}{E:Value->Shared->Prop}{s:Shared}
theorem cR {a:Addr}{es:Array (Int×Value)}{ep:Nat}{t:SetTable}{i:Nat}{Q:Option (Value×Nat)->Shared->Prop}(S:wW w s.heap a es ep t) (hi:i<=es.size) (slot:Nat) (hs:w.params.followText "set-order"=false->slot=slotAt t i)
  (h:∀ slot',(w.params.followText "set-order"=false->slot'=slotAt t (i+1))->Q ((comes w a es ep)[i]?.map λ e=>(e.2,slot')) s):wpAny (model prog w) A (setNext a slot i ep) Q E s:=by
 unfold setNext setsByText;refine zWb (wpAny_setState_of S.get rfl S.fits ?_);dsimp only;refine zWb (zWb (wpAny_askSetting (wpAny_pure ?_)));show wpAny _ A (if w.params.followText "set-order"=true then _ else _) Q E s;cases hb:w.params.followText "set-order" with
 | true=>
  rw[if_pos rfl,if_neg (by simp)];unfold setWalk setsByText;refine zWb (zWb (wpAny_setState_of S.get rfl S.fits ?_));dsimp only;refine zWb (zWb (wpAny_askSetting (wpAny_pure ?_)));show wpAny _ A (if w.params.followText "set-order"=true then _ else _) _ E s;rw[if_pos hb];refine zWb (wpAny_askSetting (wpAny_pure ?_));refine wpAny_pure ?_;have:=h slot (λ q=>by rw[hb] at q;cases q);unfold comes at this;rw[if_pos hb] at this;exact this
 | false=>
  rw[if_neg (by simp)];split
  .rename_i hd;have hd':(!t.plain&&decide (es.size>1))=true:=hd;rw[S.plain] at hd';simp at hd'
  .show wpAny _ A ((if (!t.led&&!es.isEmpty)=true then unsupported "set:maker-not-led" else pure ()) >>= _) Q E s;have hl:t.led=true:=by rw[S.led];unfold sZ;rw[hb];rfl
   rw[if_neg (by rw[hl];simp)];refine zWb (wpAny_pure (wpAny_pure ?_));have hsl:=hs hb;have hz:=S.size;rw[hsl,QO S.vC i (by rw[hz];exact hi)];have:=h (slotAt t (i+1)) (λ _=>rfl);unfold comes at this;rw[if_neg (by rw[hb];simp)] at this;rcases Nat.lt_or_ge i es.size with q | q
   .have hp:i<t.place.size:=by rw[hz];exact q
    rw[Array.getElem?_eq_getElem q] at this;rw[Array.getElem?_eq_getElem q,Array.getElem?_eq_getElem hp];have e:slotAt t (i+1)=t.place[i] + 1:=by show t.place.getD i 0+1=_;rw[gs hp]
    rw[e] at this;exact this
   .rw[Array.getElem?_eq_none q] at this;rw[Array.getElem?_eq_none q];exact this
theorem qk {a I:Addr}{slot i n ep:Nat}(ho:s.heap.get? I=some (ra a slot i n ep)):s.TypeIs (.ref I) "set_iterator":=⟨_,ho,rfl⟩
theorem eO (k:Nat):((k:Int)).toNat=k:=Int.toNat_natCast k
theorem XC {I a:Addr}{es:Array (Int×Value)}{ep:Nat}{t:SetTable}{i slot:Nat}{e:Int×Value}{Q:Option Value->Shared->Prop}(ho:s.heap.get? I=some (ra a slot i es.size ep)) (S:wW w s.heap a es ep t) (hs:w.params.followText "set-order"=false->slot=slotAt t i) (he:(comes w a es ep)[i]?=some e)
  (hi:i<es.size) (h:∀ h' slot',(w.params.followText "set-order"=false->slot'=slotAt t (i+1))->h'.get? I=some (ra a slot' (i+1) es.size ep)->Heap.SameBut I s.heap h'->Q (some e.2) { s with heap:=h' }):wpAny (model prog w) A (pyNext (.ref I)) Q E s:=by
 unfold pyNext;refine zWb (wpAny_attempt (wpAny_callSpecial?_slot (name:=Str.ofString "__next__") (qk ho) qT (wpAny_call_entry qT (qk ho) aq ?_ (Zq _))));refine zWb (wpAny_pure ?_);dsimp only;refine zWb (wpAny_fieldsOf ho rfl ?_);dsimp only[rawInt];refine zWb (zWb (wpAny_setState_of S.get rfl S.fits (wpAny_pure ?_)));rw[if_neg (by simp)];refine zWb (cR S (by omega) slot hs λ slot' hs'=>?_);rw[eO] at hs' ⊢;rw[he];dsimp only[Option.map_some];refine zWb (wpAny_setField ho rfl (by simp) ?_);have o1:=Heap.get?_update_self (Obj.mapFields (·.set! 0 (Value.int (slot':Int) 0))) ho rfl;refine zWb (wpAny_setField o1 rfl (by simp) ?_);have o2:=Heap.get?_update_self (Obj.mapFields (·.set! 1 (Value.int ((i:Int)+1) 0))) o1 rfl;refine wpAny_pure ⟨_,rfl,wpAny_pure (h _ slot' hs' o2 ((Heap.SameBut.update ..).trans (Heap.SameBut.update ..)))⟩
theorem XD {I a:Addr}{es:Array (Int×Value)}{ep:Nat}{t:SetTable}{slot:Nat}{Q:Option Value->Shared->Prop}(hh:A.handled=none) (ho:s.heap.get? I=some (ra a slot es.size es.size ep)) (S:wW w s.heap a es ep t) (hs:w.params.followText "set-order"=false->slot=slotAt t es.size)
  (h:∀ h',Heap.ExtBut I s.heap h'->Q none { s with heap:=h' }):wpAny (model prog w) A (pyNext (.ref I)) Q E s:=by
 have hn:(comes w a es ep)[es.size]?=none:=by
  have:=(nJ w a es ep).length_eq;simp only[Array.length_toList] at this;rw[Array.getElem?_eq_none (by omega)]
 unfold pyNext;refine zWb (wpAny_attempt (wpAny_callSpecial?_slot (name:=Str.ofString "__next__") (qk ho) qT (wpAny_call_entry qT (qk ho) aq ?_ (Zq _))));refine zWb (wpAny_pure ?_);dsimp only;refine zWb (wpAny_fieldsOf ho rfl ?_);dsimp only[rawInt];refine zWb (zWb (wpAny_setState_of S.get rfl S.fits (wpAny_pure ?_)));rw[if_neg (by simp)];refine zWb (cR S (by simp) slot (by simpa using hs) λ slot' hs'=>?_);rw[eO,hn];dsimp only[Option.map_none];refine zWb (wpAny_setField ho rfl (by simp) ?_);refine zWb ?_;simp only[newExc,newTuple];refine zWb (wpAny_newObj_type ?_ (by size_fits));refine zWb (m:=firstArgMember _ _) (wpAny_of_eq (a:=Value.none) (by first | rfl | (simp only[firstArgMember];rfl)) (wpAny_newObj_type ?_ (by size_fits)));unfold raiseNew;refine zWb (wpAny_handled ?_);rw[show A.in1.handled=none from hh];refine zWb ((wpAny_pure (wpAny_throw ?_)));refine zWb ((wpAny_isInstance (T:="StopIteration") (b:=true) ⟨_,Heap.get?_push_size _ rfl,rfl⟩ isSubtype_stop ?_));exact wpAny_pure (h _ (((Heap.SameBut.update ..).extBut.push _).push _))
theorem XB {I a:Addr}{slot i n ep:Nat}{Q:Value->Shared->Prop}(ho:s.heap.get? I=some (ra a slot i n ep)) (h:Q (.ref I) s):wpAny (model prog w) A (pyIter (.ref I)) Q E s:=by
 refine wpAny_pyIter_slot (qk ho) df (wpAny_call_entry df (qk ho) RJ ?_ (QT _));exact wpAny_pure ⟨_,rfl,"set_iterator",_,qk ho,qT.lookup,h⟩
theorem wW.keep {h h':Heap}{a:Addr}{es:Array (Int×Value)}{ep:Nat}{t:SetTable}(S:wW w h a es ep t) (k:∀ o,h.get? a=some o->h'.get? a=some o):wW w h' a es ep t:=⟨k _ S.get,S.fits,S.vC,S.led,S.plain⟩
theorem YJ (hh:A.handled=none) (I a:Addr) (hne:a≠I) (es:Array (Int×Value)) (ep:Nat) (t:SetTable):
  Walks prog w A I [I,a] [I] es.size (λ i v=>∃ e,(comes w a es ep)[i]?=some e/\v=e.2) (λ i h=>(∃ slot,(w.params.followText "set-order"=false->slot=slotAt t i)/\h.get? I=some (ra a slot i es.size ep))/\wW w h a es ep t) where
 sub:=λ b hb=>by simp at hb;simp[hb]
 frame:=λ _ _ _ st k=>by
  obtain⟨⟨slot,h1,h2⟩,S⟩:=st;exact⟨⟨slot,h1,k I (by simp) _ h2⟩,S.keep λ o e=>k a (by simp) o e⟩
 item:=λ i s Q E hi st hQ=>by
  obtain⟨⟨slot,h1,h2⟩,S⟩:=st;have hl:i<(comes w a es ep).size:=by
   have:=(nJ w a es ep).length_eq;simp only[Array.length_toList] at this;omega
  refine XC h2 S h1 (Array.getElem?_eq_getElem hl) hi λ h' slot' g1 g2 g3=>?_;exact hQ _ h' s.toks ⟨_,Array.getElem?_eq_getElem hl,rfl⟩ ⟨⟨slot',g1,g2⟩,S.keep λ o e=>(g3.2 a hne).trans e⟩ λ b o hb e=>(g3.2 b (λ z=>hb (by simp[z]))).trans e
 done:=λ s Q E st hQ=>by
  obtain⟨⟨slot,h1,h2⟩,S⟩:=st;exact XD hh h2 S h1 λ h' g=>hQ h' s.toks λ b o hb e=>g b o (λ z=>hb (by simp[z])) e
 self:=λ _ _ _ _ st hQ=>by
  obtain⟨⟨slot,h1,h2⟩,S⟩:=st;exact XB h2 hQ
end
end ST
namespace ST
open PySem PySem.SetTable
section
variable {prog:Program}{w:World}{A:Around}{E:Value->Shared->Prop}{s:Shared}
theorem TN:typeLookup (.type "set") "__len__"=pure (some (.builtin "set.__len__")):=F.slot_set_len.lookup
theorem split_len:splitId "set.__len__"=some ("set","__len__"):=by decide +kernel
theorem Tf {a:Addr}{es:Array (Int×Value)}{ep:Nat}{t:SetTable}{Q:Bool->Shared->Prop}(S:wW w s.heap a es ep t) (h:Q false s):wpAny (model prog w) A (setDrawn a) Q E s:=by
 unfold setDrawn setsByText;refine zWb (wpAny_setState_of S.get rfl S.fits ?_);dsimp only;refine zWb (zWb (wpAny_askSetting (wpAny_pure (wpAny_pure ?_))));show Q (!w.params.followText "set-order"&&(!t.plain&&decide (es.size>1))) s;rw[S.plain];simpa using h
set_option maxRecDepth 100000 in
set_option maxHeartbeats 4000000 in
theorem Ti {a:Addr}{es:Array (Int×Value)}{ep:Nat}{t:SetTable}{Q:Bool->Shared->Prop}(S:wW w s.heap a es ep t) (h:Q false s):wpAny (model prog w) A (Builtin.List.listLengthHint (.ref a)) Q E s:=by
 have Ty:s.TypeIs (.ref a) "set":=⟨_,S.get,rfl⟩
 unfold Builtin.List.listLengthHint;refine zWb (wpAny_specialOf Ty TN ?_);dsimp only;rw[split_len];dsimp only;refine zWb (wpAny_isInstance (b:=true) Ty sub_set_self ?_);rw[if_neg (by decide)];rw[if_pos (by decide +kernel)];refine zWb (wpAny_typeOf Ty ?_);exact wpAny_pure h
set_option maxRecDepth 100000 in
set_option maxHeartbeats 4000000 in
theorem Qp {a:Addr}{es:Array (Int×Value)}{ep:Nat}{t:SetTable}{Q:List Value->Shared->Prop}(hh:A.handled=none) (S:wW w s.heap a es ep t) (hn:es.size<=sizeLine)
  (h:∀ (h':Heap) (tk:Nat),(∀ b o,b<s.heap.objs.size->s.heap.get? b=some o->h'.get? b=some o)->s.heap.objs.size<=h'.objs.size->Q ((comes w a es ep).toList.map (·.2)) { s with heap:=h',toks:=tk }):wpAny (model prog w) A (collect (.ref a)) Q E s:=by
 have ha:a<s.heap.objs.size:=Heap.lt_size S.get;unfold collect;refine zWb (wpAny_runValue (codeAny_builtin F.entry_proto_collect ?_));rw[Around.under_plainId F.plain_proto_collect _];show wpAny _ A.in1 (newList [] >>= λ l=>again (.builtin "list.__iadd__" ⟨[l,.ref a],[]⟩)) _ _ s;refine zWb (wpAny_newObj_type (wpAny_pure ⟨plainId_quiet F.plain_list_iadd _,codeAny_builtin F.entry_list_iadd ?_⟩));rw[Around.under_plainId F.plain_list_iadd _]
 let L0:Obj:={ cls:=.type "list",data:=.seq ([]:List Value).toArray }
 have S1:wW w (s.heap.push L0) a es ep t:=S.keep λ o e=>zHp _ e;have T1:Shared.TypeIs { s with heap:=s.heap.push L0 } (.ref a) "set":=⟨_,S1.get,rfl⟩
 show wpAny _ A.in1 (Builtin.List.listExtendWith (.ref s.heap.objs.size) (.ref a) (.ref s.heap.objs.size)) _ _ { s with heap:=s.heap.push L0 };unfold Builtin.List.listExtendWith;refine zWb (wpAny_typeOf T1 ?_);have hne:s.heap.objs.size≠a:=Nat.ne_of_gt ha;have c1:Builtin.List.listSameRef (.ref s.heap.objs.size) (.ref a)=false:=by simp[Builtin.List.listSameRef,hne]
 rw[if_neg (by rw[c1];decide)];refine zWb (wpAny_pyIter_slot T1 F.slot_set_iter (wpAny_call_entry F.slot_set_iter T1 RK ?_ (F.args_set_iter_1 _)));refine zWb (zWb (wpAny_pure (wpAny_pure ?_)));refine zWb (zWb (zWb (wpAny_setState_of S1.get rfl S1.fits (wpAny_pure (wpAny_pure ?_)))));refine zWb (Tf S1 ?_);rw[if_neg (by decide)];refine zWb (wpAny_pure ?_);refine zWb (wpAny_setEpoch_of S1.get rfl S1.fits ?_);refine zWb (wpAny_newObj_type (wpAny_pure ⟨_,rfl,"set_iterator",_,⟨_,Heap.get?_push_size _ rfl,rfl⟩,qT.lookup,?_⟩))
 let I:=(s.heap.push L0).objs.size
 let h2:=(s.heap.push L0).push (ra a 0 0 es.size ep)
 have S2:wW w h2 a es ep t:=S1.keep λ o e=>zHp _ e;have hI:h2.get? I=some (ra a 0 0 es.size ep):=Heap.get?_push_size _ rfl;have hL:h2.get? s.heap.objs.size=some L0:=zHp _ (Heap.get?_push_size _ rfl);have hsz:(s.heap.push L0).objs.size=s.heap.objs.size+1:=Heap.size_push _ _;show wpAny _ A.in1 _ _ _ { s with heap:=h2 };refine zWb (wpAny_holding (Ti (s:={ s with heap:=h2 }) S2 ?_));rw[if_pos (by decide +kernel)];refine zWb (wpAny_rule ?_);refine zWb ?_;show wpAny _ A.in1 (updateSeq s.heap.objs.size (·.push .none) >>= λ _=>updateSeq s.heap.objs.size (·.pop)) _ _ { s with heap:=h2 };refine zWb (wpAny_updateSeq hL rfl ?_);have hL2:=Heap.get?_update_self (Obj.mapSeq (·.push Value.none)) hL rfl;refine wpAny_updateSeq hL2 rfl ?_;have hL3:=Heap.get?_update_self (Obj.mapSeq (·.pop)) hL2 rfl
 let h3:=(h2.update s.heap.objs.size (Obj.mapSeq (·.push Value.none))).update s.heap.objs.size (Obj.mapSeq (·.pop))
 have oth:∀ b o,b≠s.heap.objs.size->h2.get? b=some o->h3.get? b=some o:=λ b o hb e=>(Heap.get?_update_other _ _ (Ne.symm hb)).trans ((Heap.get?_update_other _ _ (Ne.symm hb)).trans e);have haI:a≠I:=by show a≠(s.heap.push L0).objs.size;rw[hsz];exact Nat.ne_of_lt (Nat.lt_succ_of_lt ha)
 have hIn:I≠s.heap.objs.size:=by show (s.heap.push L0).objs.size≠_;rw[hsz];exact Nat.ne_of_gt (Nat.lt_succ_self _)
 refine wpAny_pure ⟨plainId_quiet F.plain_extend_loop _,codeAny_extend_loopS ((YJ (A:=A.in1) hh I a haI es ep t).toS) hn s.heap.objs.size ?_ _ es.size 0 { s with heap:=h3 } #[] _ rfl (Nat.zero_le _) ⟨⟨0,λ _=>rfl,oth I _ hIn hI⟩,S2.keep λ o e=>oth a o (Ne.symm hne) e⟩ hL3 (ItemsOf.nil _) λ s' acc c' hm hS' hacc=>?_⟩
 .intro hm;rcases List.mem_cons.mp hm with q | q
  .exact hIn q.symm
  .exact hne (List.mem_singleton.mp q)
 .refine zWb (wpAny_load hS' (wpAny_pure ?_));obtain⟨h',g',d',tk',os'⟩:=s';obtain rfl:g'=s.gens:=hm.gens;obtain rfl:d'=s.drawn:=hm.drawn;obtain rfl:os'=s.os:=hm.os;have hcm:(comes w a es ep).size=es.size:=by
   have:=(nJ w a es ep).length_eq;simpa using this
  have e:acc.toList=(comes w a es ep).toList.map (·.2):=by
   refine List.ext_getElem? λ j=>?_;rw[List.getElem?_map];rcases Nat.lt_or_ge j es.size with q | q
   .have hjl:j<acc.size:=by rw[hacc.1];exact q
    have hj:acc[j]?=some acc[j]:=Array.getElem?_eq_getElem hjl;obtain⟨e,e1,e2⟩:=hacc.2 j _ hj;rw[Array.getElem?_toList,Array.getElem?_toList,hj,e1,e2];rfl
   .rw[Array.getElem?_toList,Array.getElem?_toList,Array.getElem?_eq_none (by rw[hacc.1];exact q),Array.getElem?_eq_none (by rw[hcm];exact q)];rfl
  rw[e];refine h h' tk' (λ b o hb e=>hm.heap b o (λ q=>?_) (oth b o (Nat.ne_of_lt hb) (zHp _ (zHp _ e)))) ?_
  .rcases List.mem_cons.mp q with q | q
   .exact Nat.ne_of_lt hb q
   .have q':b=(s.heap.push L0).objs.size:=List.mem_singleton.mp q;rw[hsz] at q';exact Nat.ne_of_lt (Nat.lt_succ_of_lt hb) q'
  .exact Nat.le_of_lt (Heap.lt_size hS')
end
end ST
namespace ST
open PySem PySem.SetTable PyProof.Rows L4
section
variable {prog:Program}{w:World}{A:Around}{E:Value->Shared->Prop}{s:Shared}
theorem X5 {a:Addr}{es:Array (Int×Value)}{ep:Nat}{t:SetTable}{Q:Value->Shared->Prop}{Out:Array Value->Prop}(hh:A.handled=none) (S:wW w s.heap a es ep t) (hz:es.size<=sizeLine)
  (core:∀ s6:Shared,2<=es.size->(∀ b o,s.heap.get? b=some o->s6.heap.get? b=some o)->Core prog w A.in1.in1 E ((comes w a es ep).toList.map (·.2)) Out s6) (short:es.size<2->Out ((comes w a es ep).toList.map (·.2)).toArray)
  (fin:∀ (out:Array Value) (h':Heap) (tk l:Nat),Out out->out.size=es.size->s.heap.objs.size<=l->(∀ b o,s.heap.get? b=some o->h'.get? b=some o)->(∃ e,h'.get? l=some (seqObj "list" out e))->Q (.ref l) { s with heap:=h',toks:=tk }):
  wpAny (model prog w) A (call (.builtin "sorted") [.ref a]) Q E s:=by
 have hcl:((comes w a es ep).toList.map (·.2)).length=es.size:=by
  have:=(nJ w a es ep).length_eq;rw[List.length_map,this,Array.length_toList]
 refine Calls.call_function_entry kind_sorted plain_sorted entry_sorted (args_sorted1 _) ?_;unfold Builtin.«sorted»;refine zWb (m:=checkCount "sorted" 1 1 _) (wpAny_pure (zWb (Qp (A:=A.in1) hh S hz λ h1 tk k1 k2=>zWb (wpAny_newList ?_ (by rw[hcl];exact hz)))));generalize hvs:(comes w a es ep).toList.map (·.2)=vs at *;have hoL:(h1.push (seqObj "list" vs.toArray 0)).get? h1.objs.size=some (seqObj "list" vs.toArray 0):=Heap.get?_push_size _ rfl;have k3:∀ b o,s.heap.get? b=some o->h1.get? b=some o:=λ b o q=>k1 b o (Heap.lt_size q) q;show wpAny _ _ _ _ _ { s with heap:=h1.push (seqObj "list" vs.toArray 0),toks:=tk };refine zWb (wpAny_holding (wpAny_call_entry slot_list_sort ⟨_,hoL,rfl⟩ entry_list_sort (iL hoL (by rw[hcl];exact hz) (λ h2 s6 k=>core s6 (by rw[<- hcl];exact h2) λ b o q=>k b o ?_ (zHp _ (k3 b o q))) (λ h2=>short (by rw[<- hcl];exact h2)) λ out g1 g2=>⟨_,rfl,?_⟩) (args_list_sort _)))
 .exact Nat.ne_of_lt (Nat.lt_of_lt_of_le (Heap.lt_size q) k2)
 .refine wpAny_pure ⟨_,rfl,fin out _ tk h1.objs.size g1 (by rw[g2,hcl]) k2 (λ b o q=>?_) (sortedHeap_at (n:=0) hoL)⟩;have hlt:b<h1.objs.size:=Heap.lt_size (k3 b o q);rw[sortedHeap_old (Nat.ne_of_lt hlt) (by rw[size_push'];exact Nat.lt_succ_of_lt hlt),Heap.get?_push_ne _ _ _ (Nat.ne_of_lt hlt)];exact k3 b o q
end
end ST
namespace ST
open PySem PySem.SetTable PySem.Spec PyProof.Rows L2
def wV (w:World) (a:Addr) (us:List Value):Heap->Prop:=λ h=>∃ es ep t,wW w h a es ep t/\es.toList.map (·.2)=us
theorem wV.sI {w:World}{a:Addr}{us:List Value}{h1 h2:Heap}(S:wV w a us h1) (k:∀ o,h1.get? a=some o->h2.get? a=some o):wV w a us h2:=by
 obtain⟨es,ep,t,S,e⟩:=S;exact⟨es,ep,t,S.keep k,e⟩
section
variable {X:Cx}
theorem Paired.mk {α β:Type}{F:α->β->Prop}:∀ {l:List α}{m:List β},l.length=m.length->(∀ (i:Nat) a b,l[i]?=some a->m[i]?=some b->F a b)->Paired F l m
 | [],[],_,_=>.nil
 | a::l,b::m,h,f=>.cons (f 0 a b rfl rfl) (Paired.mk (by simpa using h) λ i x y hx hy=>f (i+1) x y (by simpa using hx) (by simpa using hy))
 | [],_::_,h,_=>by simp at h
 | _::_,[],h,_=>by simp at h
end
end ST
namespace L5
open PySem PySem.Spec L2 L3
open PyProof.Rows hiding St
section
variable {X:Cx}{K:PySem.W.Frag}{e:Expr}{tA:yt}{pos pos2 p p2:Pos}
end
end L5
namespace ST
open PySem PySem.SetTable PyProof.Rows
theorem bW {t:SetTable}{hs:List Int}(T:Tab t hs) (h:Int):∀ (f k K:Nat),k<=K->K<k+f->(way t.mask h K).j∉t.place.toList->(∀ m<K,(way t.mask h m).j∈t.place.toList)->probe.go t (λ _=>h+1) h f (way t.mask h k)=some (.empty (way t.mask h K).j none)
 | 0,k,K,h1,h2,_,_=>by omega
 | f+1,k,K,h1,h2,h3,h4=>by
  by_cases e:k=K
  .subst e;unfold probe.go;rw[T.empty h3,ek]
  .obtain⟨i,g,p1,_⟩:=T.at (h4 k (by omega));have ih:=bW T h f (k+1) K (by omega) (by omega) h3 h4
   conv=>lhs;unfold probe.go
   rw[T.live p1];dsimp only;rw[if_neg (by intro q;have:=eq_of_beq q;omega),QZ];exact ih
theorem Rx {t:SetTable}{hs:List Int}(T:Tab t hs) (hl:hs.length<=t.mask) (h:Int):∃ j,t.freeSlot h=some (j,false)/\ZI t h j:=by
 obtain⟨K,k1,k2,k3⟩:=T.first hl h;refine⟨(way t.mask h K).j,?_,⟨k2,K,rfl,k3⟩⟩;have g:=bW T h (10*turns t.mask) 0 K (Nat.zero_le _) (by unfold turns;omega) k2 k3;unfold SetTable.freeSlot;have e:t.probe (λ _=>h+1) h (t.probeStart h)=some (.empty (way t.mask h K).j none):=g;rw[e];rfl
structure vP (prog:Program) (w:World) (h:Heap) (a:Addr) (xs:List (Int×Tok)) (led:Bool):Prop where
 ex:∃ es ep t,h.get? a=some { cls:=.type "set",dict:=none,data:=.set es ep t }/\es.toList=xs.map (λ e=>((intKind prog w).hash e.1,Value.int e.1 e.2))/\Tab t (xs.map λ e=>(intKind prog w).hash e.1)/\t.led=led/\t.plain=true/\xs.length*5<t.mask*3
 nd:(xs.map (·.1)).Nodup
section
variable {prog:Program}{w:World}{A:Around}{E:Value->Shared->Prop}{s:Shared}
theorem fits_of {es:Array (Int×Value)}{t:SetTable}{hs:List Int}{n:Nat}(h1:es.size=n) (T:Tab t hs) (h2:hs.length=n) (h3:n<=t.mask):t.fits es.size=true:=by
 have l:=T.len;unfold SetTable.fits SetTable.fill;rw[T.nq,h1,l,h2];simp;omega
theorem oQ {n m:Int}{t:Tok}:(intKind prog w).is n (.int m t)=true↔n=m:=by
 constructor
 .intro h;obtain⟨t',e⟩:=Value.isInt_shape (show Value.isInt n (.int m t)=true from h);cases e;rfl
 .rintro rfl;exact intKind_is _ _ _ _
theorem RL {es:Array (Int×Value)}{xs:List (Int×Tok)}(h:es.toList=xs.map (λ e=>((intKind prog w).hash e.1,Value.int e.1 e.2))):ElemsOf (intKind prog w) es.toList:=λ e he=>by
 rw[h] at he;obtain⟨x,_,rfl⟩:=List.mem_map.mp he;exact⟨⟨x.1,oQ.mpr rfl,rfl⟩,rfl⟩
theorem Wg {es:Array (Int×Value)}{t:SetTable}{xs:List (Int×Tok)}{M wanted:Nat}(he:es.toList=xs.map (λ e=>((intKind prog w).hash e.1,Value.int e.1 e.2))) (hM:vQ M) (hw:sizeAbove wanted=M+1) (hfew:xs.length*5<M*3):
  ∃ es' t',∃ xs':List (Int×Tok),relayAll t es wanted=(es',t',false)/\es'.toList=xs'.map (λ e=>((intKind prog w).hash e.1,Value.int e.1 e.2))/\xs'.Perm xs/\Tab t' (xs'.map λ e=>(intKind prog w).hash e.1)/\t'.mask=M/\t'.led=t.led/\t'.plain=t.plain/\es'.size=es.size:=by
 have hlen:es.size=xs.length:=by have:=congrArg List.length he;simpa using this
 have hhs:(es.map (·.1)).toList=xs.map λ e=>(intKind prog w).hash e.1:=by rw[Array.toList_map,he,List.map_map];rfl
 have hsz:(es.map (·.1)).size=xs.length:=by rw[Array.size_map,hlen]
 obtain⟨t',order,h1,h2,h3,h4,h5,h6,h7⟩:=Si hM t.finger (t.movedTo M) t.led t.plain (es.map (·.1)) (by rw[hsz];omega);rw[hsz] at h6;have hlt:∀ k∈order.toList,k<xs.length:=λ k hk=>by simpa using h6.mem_iff.mp hk
 have hr:t.relaid (es.map (·.1)) wanted=some (t',order):=by
  unfold SetTable.relaid;rw[hw,Nat.add_sub_cancel];exact h1
 have hes':(order.filterMap (es[·]?)).toList=(order.toList.filterMap λ k=>xs[k]?).map λ e=>((intKind prog w).hash e.1,Value.int e.1 e.2):=by
  rw[Array.toList_filterMap,List.map_filterMap];congr 1;funext k;rw[<- Array.getElem?_toList,he,List.getElem?_map]
 have hperm:(order.toList.filterMap λ k=>xs[k]?).Perm xs:=(h6.filterMap _).trans (by rw[List.filterMap_getElem?_range_length]);have hsz':(order.filterMap (es[·]?)).size=es.size:=by
  rw[<- Array.length_toList,hes',List.length_map,hperm.length_eq,hlen]
 have hT:Tab t' ((order.toList.filterMap λ k=>xs[k]?).map λ e=>(intKind prog w).hash e.1):=by
  rw[<- cf xs (λ e=>(intKind prog w).hash e.1) 0 order.toList hlt,<- hhs];exact h7
 refine⟨_,t',_,?_,hes',hperm,hT,h2,h4,h5,hsz'⟩;have zN:coversAll order es.size=true:=by
  unfold coversAll;rw[List.isPerm_iff,hlen];exact h6
 have fit:t'.fits (order.filterMap (es[·]?)).size=true:=fits_of (n:=xs.length) (by rw[hsz',hlen]) hT (by rw[List.length_map,hperm.length_eq]) (by rw[h2];omega);unfold relayAll;rw[hr];dsimp only;rw[zN,fit];rfl
theorem add_int {a:Addr}{xs:List (Int×Tok)}{n:Int}{tk:Tok}{led:Bool}{Q:Bool->Shared->Prop}(S:vP prog w s.heap a xs led) (hn:xs.length<70)
  (h:∀ h' xs' r,Heap.SameBut a s.heap h'->vP prog w h' a xs' led->(n∈xs.map (·.1)/\xs'=xs\/n∉xs.map (·.1)/\xs'.Perm (xs++[(n,tk)]))->Q r { s with heap:=h' }):
  wpAny (model prog w) A (setAddHashed a (.int n tk) ((intKind prog w).hash n)) Q E s:=by
 have S0:=S;obtain⟨⟨es,ep,t,ho,he,T,hled,hpl,hfew⟩,hnd⟩:=S;have hlen:es.size=xs.length:=by have:=congrArg List.length he;simpa using this
 have hm7:7<=t.mask/\t.mask<=127:=by rcases T.mask with e | e | e <;> omega
 have fit:t.fits es.size=true:=fits_of (n:=xs.length) hlen T (by simp) (by omega);have hel:=RL (prog:=prog) (w:=w) he;unfold setAddHashed setAddHashedIn;refine wpAny_holding (zWb (wpAny_setState_of ho rfl fit ?_));dsimp only;have bs:byScan (.int n tk) es=true:=by
  have h1:decide (es.size<scanBound)=true:=decide_eq_true (by unfold scanBound;omega);have h2:es.all (·.2.scannable)=true:=by
   rw[Array.all_eq_true_iff_forall_mem];intro e hm;exact (hel e (by simpa using hm)).2
  unfold byScan;rw[h1,h2];rfl
 rw[if_pos bs];refine zWb ?_;unfold setAddByScan;refine zWb (wpAny_rule (zWb (wpAny_setScan_of (k:=n) (oQ.mpr rfl) ho rfl fit hel ?_)));have hfind:(es.toList.findIdx? (λ e=>(intKind prog w).is n e.2)).isSome=true↔n∈xs.map (·.1):=by
  rw[he,List.findIdx?_isSome,List.any_eq_true];constructor
  .rintro⟨e,hm,q⟩;obtain⟨x,hx,rfl⟩:=List.mem_map.mp hm;exact List.mem_map.mpr ⟨x,hx,(oQ.mp q).symm⟩
  .intro hm;obtain⟨x,hx,rfl⟩:=List.mem_map.mp hm;exact⟨_,List.mem_map.mpr ⟨x,hx,rfl⟩,oQ.mpr rfl⟩
 cases hc:es.toList.findIdx? (λ e=>(intKind prog w).is n e.2) with
 | some j=>
  dsimp only;have hm:=hfind.mp (by rw[hc];rfl);refine wpAny_pure ?_;dsimp only;exact wpAny_pure (h s.heap xs false ⟨rfl,λ _ _=>rfl⟩ S0 (.inl ⟨hm,rfl⟩))
 | none=>
  dsimp only;have hm:n∉xs.map (·.1):=λ q=>by have:=hfind.mpr q;rw[hc] at this;cases this
  obtain⟨j,fs,F⟩:=Rx T (by rw[List.length_map];omega) ((intKind prog w).hash n);obtain⟨p1,p2,p3⟩:=T.put F;rw[List.length_map] at p1;have hpt:(t.put j).1.plain=true:=by rw[p2];exact hpl
  have hmt:(t.put j).1.mask=t.mask:=by rw[p2]
  have hlt:(t.put j).1.led=led:=by rw[p2];exact hled
  generalize hT:(t.put j)=P at *;obtain⟨t1,p⟩:=P;dsimp only at *
  let xs1:=xs.take p++(n,tk)::xs.drop p
  have hperm:xs1.Perm (xs++[(n,tk)]):=by
   have e:xs.take p++xs.drop p=xs:=List.take_append_drop p xs;have:xs1.Perm ((n,tk)::(xs.take p++xs.drop p)):=List.perm_middle;rw[e] at this;exact this.trans (List.perm_append_singleton _ _).symm
  have hl1:xs1.length=xs.length+1:=by rw[hperm.length_eq];simp
  have hes1:(insertAt es p ((intKind prog w).hash n,Value.int n tk)).toList=xs1.map λ e=>((intKind prog w).hash e.1,Value.int e.1 e.2):=by
   rw[toList_insertAt,he];simp[xs1,List.map_take,List.map_drop]
  have hsz1:(insertAt es p ((intKind prog w).hash n,Value.int n tk)).size=xs.length+1:=by rw[<- Array.length_toList,hes1,List.length_map,hl1]
  have T1:Tab t1 (xs1.map λ e=>(intKind prog w).hash e.1):=by
   have:xs1.map (λ e=>(intKind prog w).hash e.1)=(xs.map λ e=>(intKind prog w).hash e.1).take p++(intKind prog w).hash n::(xs.map λ e=>(intKind prog w).hash e.1).drop p:=by simp[xs1,List.map_take,List.map_drop]
   rw[this];exact p3
  have fit1:t1.fits (insertAt es p ((intKind prog w).hash n,Value.int n tk)).size=true:=fits_of (n:=xs.length+1) hsz1 T1 (by rw[List.length_map,hl1]) (by rw[hmt];omega);have hlay:layNew t es ((intKind prog w).hash n) (.int n tk)=(insertAt es p ((intKind prog w).hash n,Value.int n tk),t1,false,false):=by
   unfold layNew;rw[fs];dsimp only;rw[hT];dsimp only;unfold SetTable.orStandIn;rw[fit1];rfl
  have hsl:(insertAt es p ((intKind prog w).hash n,Value.int n tk)).size<=sizeLine:=by
   rw[hsz1];have:sizeLine=16777216:=rfl;omega
  have hnd1:(xs1.map (·.1)).Nodup:=by
   refine (hperm.map _).nodup_iff.mpr ?_;rw[List.map_append,List.nodup_append];refine⟨hnd,by simp,λ x hx y hy=>?_⟩;simp at hy;subst hy;exact λ e=>hm (e▸hx)
  have ho1:=dW (es':=insertAt es p ((intKind prog w).hash n,Value.int n tk)) (t':=t1) ho;have sb:=Heap.SameBut.update s.heap a (Obj.putSet (insertAt es p ((intKind prog w).hash n,Value.int n tk)) t1);have hfill:t1.fill=xs.length+1:=by
   have l:=T1.len;rw[List.length_map,hl1] at l;unfold SetTable.fill;rw[T1.nq,l];simp
  rw[hlay];dsimp only;refine zWb (m:=pure ()) (wpAny_pure ?_);rw[hpt];simp only[if_true];refine zWb (m:=pure true) (wpAny_pure ?_);simp only[if_true];refine zWb (wpAny_storeSet_of ho rfl ?_ hsl);by_cases hf:t1.tooFull=true
  .rw[hf];simp only[Bool.not_false,Bool.and_self,if_true];have hfull:t.mask*3<=(xs.length+1)*5:=by
    have:=hf;unfold SetTable.tooFull at this;rw[hfill,hmt] at this;simpa using this
   obtain⟨M',g1,g2,g3⟩:=XA xs.length t.mask T.mask hfew hfull hn;obtain⟨es2,t2,xs2,r1,r2,r3,r4,r5,r6,r7,r8⟩:=Wg (prog:=prog) (w:=w) (t:=t1) hes1 g1 (wanted:=grown (insertAt es p ((intKind prog w).hash n,Value.int n tk)).size) (by rw[hsz1];exact g2) (by rw[hl1];exact g3);rw[r1];dsimp only;refine zWb (m:=pure ()) (wpAny_pure (zWb (wpAny_storeSet_of ho1 rfl ?_ (by rw[r8];exact hsl))));refine wpAny_pure ?_;dsimp only;refine wpAny_pure (h _ xs2 true (sb.trans (Heap.SameBut.update _ a _)) ⟨⟨es2,ep+1+1,t2,dW ho1,r2,r4,by rw[r6];exact hlt,by rw[r7];exact hpt,by rw[r3.length_eq,hl1,r5];exact g3⟩,(r3.map _).nodup_iff.mpr hnd1⟩ (.inr ⟨hm,r3.trans hperm⟩))
  .have hf':t1.tooFull=false:=by simpa using hf
   rw[hf'];simp only[Bool.not_false,Bool.and_false,Bool.false_eq_true,if_false];have hfull:(xs.length+1)*5<t.mask*3:=by
    have:=hf';unfold SetTable.tooFull at this;rw[hfill,hmt] at this;simpa using this
   refine wpAny_pure ?_;dsimp only;exact wpAny_pure (h _ xs1 true sb ⟨⟨_,ep+1,t1,ho1,hes1,T1,hlt,hpt,by rw[hl1,hmt];exact hfull⟩,hnd1⟩ (.inr ⟨hm,hperm⟩))
end
end ST
namespace ST
open PySem PySem.SetTable PyProof.Rows
structure se (its:Array Value) (ns:List Int) (i:Nat) (xs:List (Int×Tok)):Prop where
 own:∀ e∈xs,∃ j,j<i/\ns[j]?=some e.1
 all:∀ (j:Nat) r,j<i->ns[j]?=some r->r∈xs.map (·.1)
theorem i6:∀ (l m:List Int),l.Nodup->(∀ x∈l,x∈m)->l.length<=m.length
 | [],m,_,_=>Nat.zero_le _
 | x::l,m,hn,hs=>by
  have h1:=List.nodup_cons.mp hn;have hx:=hs x zMc;have:=i6 l (m.erase x) h1.2 λ z hz=>(List.mem_erase_of_ne (λ e:z=x=>h1.1 (by rw[<- e];exact hz))).mpr (hs z (zMo _ hz));rw[List.length_erase_of_mem hx] at this;have:=List.length_pos_of_mem hx;simp only[List.length_cons];omega
theorem se.len {its:Array Value}{ns:List Int}{i:Nat}{xs:List (Int×Tok)}(U:se its ns i xs) (nd:(xs.map (·.1)).Nodup):xs.length<=i:=by
 have:=i6 (xs.map (·.1)) ((List.range i).map λ j=>ns.getD j 0) nd λ x hx=>by
  obtain⟨e,he,rfl⟩:=List.mem_map.mp hx;obtain⟨j,h1,h3⟩:=U.own e he;exact List.mem_map.mpr ⟨j,List.mem_range.mpr h1,by rw[List.getD_eq_getElem?_getD,h3];rfl⟩
 simpa using this
theorem se.step {its:Array Value}{ns:List Int}{i:Nat}{xs xs':List (Int×Tok)}{n:Int}{t:Tok}(U:se its ns i xs) (hr:ns[i]?=some n)
  (h:n∈xs.map (·.1)/\xs'=xs\/n∉xs.map (·.1)/\xs'.Perm (xs++[(n,t)])):se its ns (i+1) xs':=by
 have eqi:∀ j:Nat,j<i+1->¬ j<i->j=i:=λ j a b=>by omega
 rcases h with ⟨hm,rfl⟩ | ⟨_,hp⟩
 .refine⟨λ e he=>?_,λ j r hj hrj=>?_⟩
  .obtain⟨j,h1,h2⟩:=U.own e he;exact⟨j,Nat.lt_succ_of_lt h1,h2⟩
  .by_cases q:j<i
   .exact U.all j r q hrj
   .rw[eqi j hj q,hr] at hrj;cases hrj;exact hm
 .refine⟨λ e he=>?_,λ j r hj hrj=>?_⟩
  .rcases List.mem_append.mp (hp.mem_iff.mp he) with q | q
   .obtain⟨j,h1,h2⟩:=U.own e q;exact⟨j,Nat.lt_succ_of_lt h1,h2⟩
   .cases List.mem_singleton.mp q;exact⟨i,Nat.lt_succ_self i,hr⟩
  .rw[(hp.map (·.1)).mem_iff,List.map_append];by_cases q:j<i
   .exact List.mem_append_left _ (U.all j r q hrj)
   .rw[eqi j hj q,hr] at hrj;cases hrj;exact List.mem_append_right _ zMc
def Nums (its:Array Value) (ns:List Int):Prop:=∀ (i:Nat) v,its[i]?=some v->∃ n t,v=.int n t/\ns[i]?=some n
section
variable {prog:Program}{w:World}{A:Around}{R:Result->Shared->Prop}{I:Addr}{fp wr:List Addr}{G:Array GenState->Array GenState->Prop}{n:Nat}{P:Nat->Value->Prop}{St:Nat->Shared->Prop}
theorem vP.keep {h h':Heap}{a:Addr}{xs:List (Int×Tok)}{led:Bool}(S:vP prog w h a xs led) (k:∀ o,h.get? a=some o->h'.get? a=some o):vP prog w h' a xs led:=
 let ⟨⟨es,ep,t,ho,r⟩,nd⟩:=S;⟨⟨es,ep,t,k _ ho,r⟩,nd⟩
theorem TK (W:WalksS prog w A.in1 I fp wr G n (λ i v=>P i v) St) (Sa:Addr) (hSf:Sa∉fp) {its:Array Value}{ns:List Int}(hP:∀ i v,P i v->its[i]?=some v) (hn:n<70) (led:Bool) (hN:Nums its ns):
  ∀ (k i:Nat) (s:Shared) (xs:List (Int×Tok)),n-i=k->i<=n->St i s->vP prog w s.heap Sa xs led->se its ns i xs->
   (∀ s' xs',Moved (Sa::wr) G s s'->vP prog w s'.heap Sa xs' led->se its ns n xs'->R (.ok (.ret .none)) s')->
   codeAny (model prog w) A (.builtin "set.update.loop" ⟨[.ref Sa,.ref I],[]⟩) R s:=by
 have hSw:Sa∉wr:=λ z=>hSf (W.sub _ z);have more:∀ b∈wr,b∈Sa::wr:=λ b hb=>zMo _ hb;intro k
 induction k with
 | zero=>
  intro i s xs hk hi hst hS hU hR;have e:i=n:=by omega
  subst e;refine codeAny_builtin F.entry_set_update_loop ?_;rw[Around.under_plainId F.plain_set_update_loop _];show wpAny _ A.in1 (pyNext (.ref I) >>= _) _ _ s;exact zWb (W.done s _ _ hst λ s' hm=>wpAny_pure (hR s' xs (hm.mono more) (hS.keep λ o e=>hm.heap _ o hSw e) hU))
 | succ k ih=>
  intro i s xs hk hi hst hS hU hR;have hlt:i<n:=by omega
  refine codeAny_builtin F.entry_set_update_loop ?_;rw[Around.under_plainId F.plain_set_update_loop _];show wpAny _ A.in1 (pyNext (.ref I) >>= _) _ _ s;refine zWb (W.item i s _ _ hlt hst λ v s1 hPv hst1 hm=>?_);obtain⟨m,t,rfl,hr⟩:=hN i v (hP i v hPv);have S1:vP prog w s1.heap Sa xs led:=hS.keep λ o e=>hm.heap _ o hSw e;have hl:xs.length<70:=by have:=hU.len hS.nd;omega
  show wpAny _ A.in1 (holding [Value.int m t] (setAdd Sa (.int m t)) >>= _) _ _ s1;refine zWb (wpAny_holding ?_);unfold setAdd;refine wpAny_holding (zWb ((intKind prog w).pyHash (A:=A.in1) (k:=m) (oQ.mpr rfl) ?_));refine add_int (s:={ s1 with toks:=s1.toks+1 }) (A:=A.in1) S1 hl λ h' xs' rr sb S' hx=>?_;have fr:=W.frame (i+1) s1 h' (s1.toks+1) hst1 (Nat.le_add_right _ _) λ c hc o e=>(sb.2 c (λ z:c=Sa=>hSf (z▸hc))).trans e;refine wpAny_pure ⟨plainId_quiet F.plain_set_update_loop _,ih (i+1) _ xs' (by omega) hlt fr S' (hU.step hr hx) λ s2 xs2 hm2 S2 U2=>?_⟩;refine hR s2 xs2 (Moved.trans W.gtrans ((hm.mono more).then_heap (Nat.le_add_right _ _) λ c o hc e=>?_) hm2) S2 U2;exact (sb.2 c (λ z=>hc (z▸zMc))).trans e
end
end ST
namespace ST
open PySem PySem.SetTable PyProof.Rows
section
variable {prog:Program}{w:World}{A:Around}{E:Value->Shared->Prop}{s:Shared}
theorem XE {h:Heap}{a:Addr}(ho:h.get? a=some (vl w)):vP prog w h a [] (sZ w):=
 ⟨⟨#[],0,_,ho,rfl,⟨.inl rfl,rfl,rfl,.nil,λ j hj=>(by cases hj),λ i g j hg=>(by cases hg)⟩,rfl,rfl,by show 0*5<7*3;omega⟩,.nil⟩
set_option maxRecDepth 100000 in
set_option maxHeartbeats 6400000 in
theorem Q4 {l:Addr}{its:Array Value}{ns:List Int}{Q:Value->Shared->Prop}(hh:A.handled=none) (hl:s.heap.IsList l its) (hT:Nums its ns) (hn:its.size<70)
  (h:∀ (h':Heap) (tk:Nat) xs,vP prog w h' s.heap.objs.size xs (sZ w)->se its ns its.size xs->(∀ b o,b<s.heap.objs.size->s.heap.get? b=some o->h'.get? b=some o)->Q (.ref s.heap.objs.size) { s with heap:=h',toks:=tk }):
  wpAny (model prog w) A (call (.type "set") [.ref l]) Q E s:=by
 obtain⟨c,tl,hmro⟩:=F.called_set.mro;have made:=F.called_set.made;have subm:=F.called_set.sub;refine wpAny_call (codeAny_of_tree ?_);show wpAny _ _ (callAny (.type "set") _) _ _ _;refine wpAny_pure ⟨Code.quiet_builtin _ (by decide +kernel),codeAny_builtin F.entry_type_call ?_⟩;rw[Around.under_plain (weight_type_call_type "set" [.ref l] []) rfl];have nt:=F.called_set.notType;have cc:=F.called_set.canCreate;have tc:=F.typeCall_set_1 (.ref l)
 repeat (any_goals (first | assumption | wp_step))
 refine codeAny_mono (Qr (.ref l) (E:=E) (Q:=λ obj s₁=>obj=.ref s.heap.objs.size/\s₁={ s with heap:=s.heap.push (vl w) }) ⟨rfl,rfl⟩) λ r s₁ hr=>?_;cases r with
 | error e=>exact hr
 | ok fl=>
  cases fl with
  | ret obj=>
   obtain⟨rfl,rfl⟩:=hr;have hS:(s.heap.push (vl w)).get? s.heap.objs.size=some (vl w):=Heap.get?_push_size _ rfl;have hTy:Shared.TypeIs { s with heap:=s.heap.push (vl w) } (.ref s.heap.objs.size) "set":=⟨_,hS,rfl⟩
   have li:=F.called_set.init.lookup;have bi:=F.called_set.init.bind (.ref s.heap.objs.size)
   repeat (any_goals (first | assumption | wp_step))
   let s1:Shared:={ s with heap:=s.heap.push (vl w) }
   refine codeAny_mono (codeAny_call_builtin (R:=wants (λ r s₂=>r=.none/\∃ h' tk xs,s₂={ s with heap:=h',toks:=tk }/\vP prog w h' s.heap.objs.size xs (sZ w)/\se its ns its.size xs/\
     ∀ b o,b<s.heap.objs.size->s.heap.get? b=some o->h'.get? b=some o) E) F.called_set.init.plain F.entry_set_init (check_set_init_1 hTy ?_)) λ r₂ s₂ hr₂=>?_
   .obtain⟨⟨ocls,odict,odata,oslots⟩,hol,hcl,nl,hdl⟩:=id hl;simp only at hcl hdl;subst hcl hdl;have hol1:(s.heap.push (vl w)).get? l=some { cls:=.type "list",dict:=odict,data:=.seq its nl,slots:=oslots }:=zHp _ hol;have sls:=F.sub_list_set;have slf:=F.sub_list_frozenset;have nd:(Value.type "list" == Value.type "dict")=false:=by decide
    have hl1:(s.heap.push (vl w)).IsList l its:=⟨_,hol1,rfl,nl,rfl⟩
    unfold Builtin.«set.__init__» noKeywords Builtin.Frozenset.updateFrom;generalize hPI:pyIter=PI;unfold vl at *
    wp_walk
    subst hPI;refine wpAny_pyIter_list hl1 (zWb (wpAny_runValue ?_));have hlS:l<s.heap.objs.size:=Heap.lt_size hol;have hsz:(s.heap.push (vl w)).objs.size=s.heap.objs.size+1:=Heap.size_push _ _;have hneI:l≠(s.heap.push (vl w)).objs.size:=by rw[hsz];exact Nat.ne_of_lt (Nat.lt_succ_of_lt hlS)
    have szne:s.heap.objs.size≠(s.heap.push (vl w)).objs.size:=by rw[hsz];exact Nat.ne_of_lt (Nat.lt_succ_self _)
    have low:∀ b:Addr,b<s.heap.objs.size->b≠(s.heap.push (vl w)).objs.size:=λ b hb=>by rw[hsz];exact Nat.ne_of_lt (Nat.lt_succ_of_lt hb)
    refine TK (A:=A.in1.in1) (P:=λ i v=>its[i]?=some v) ((Walks.list (A:=A.in1.in1.in1) (by simp[hh]) _ l hneI its).toS) s.heap.objs.size ?_ (its:=its) (ns:=ns) (λ _ _ q=>q) hn (sZ w) hT its.size 0 _ [] (by omega) (Nat.zero_le _)
     ⟨⟨_,Heap.get?_push_size _ rfl,rfl,rfl⟩,hl1.push _⟩ (XE (w:=w) (zHp _ hS)) ⟨λ e he=>(by cases he),λ j r hj=>(by omega)⟩ ?_
    .intro hm;rcases List.mem_cons.mp hm with q | q
     .exact szne q
     .exact Nat.ne_of_gt hlS (List.mem_singleton.mp q)
    .intro s' xs' hm S' U';obtain⟨h',g',d',tk',os'⟩:=s';obtain rfl:g'=s.gens:=hm.gens;obtain rfl:d'=s.drawn:=hm.drawn;obtain rfl:os'=s.os:=hm.os;refine wpAny_pure (wpAny_pure ⟨rfl,h',tk',xs',rfl,S',U',λ b o hb e=>?_⟩);refine hm.heap b o (λ q=>?_) (zHp _ (zHp _ e));rcases List.mem_cons.mp q with q | q
     .exact Nat.ne_of_lt hb q
     .exact low b hb (List.mem_singleton.mp q)
   .cases r₂ with
    | error e=>exact hr₂
    | ok fl₂=>
     cases fl₂ with
     | ret r=>
      obtain⟨rfl,h',tk,xs,rfl,g1,g2,g3⟩:=hr₂
      repeat (any_goals (first | assumption | wp_step))
      exact h h' tk xs g1 g2 g3
     | _=>exact hr₂.elim
  | _=>exact hr.elim
end
end ST
namespace L4
open PySem PyProof.Rows
theorem Qn {prog:Program}{w:World}{A:Around}{E:Value->Shared->Prop}{s:Shared}{vs:List Value}{ns:List Int}(hI:IntsAre vs ns) (h2:2<=vs.length) (h64:vs.length<64):
  Core prog w A E vs (λ out=>∃ ns',IntsAre out.toList ns'/\ns'.Perm ns/\ns'.Pairwise (·<=·)) s:=by
 obtain⟨v1,v2,rest,rfl⟩:∃ v1 v2 rest,vs=v1::v2::rest:=by
  match vs,h2 with
  | v1::v2::rest,_=>exact⟨v1,v2,rest,rfl⟩
 unfold Core;rw[keyKind_ints hI];refine wpAny_pure ⟨rfl,?_⟩;refine wpAny_mono (wpS_sortRuns (a₀:=pairsOf (v1::v2::rest)) (st:=SortSt.mk' oneType' ((v1::v2::rest).toArray.zip (v1::v2::rest).toArray) #[] 7 none)
   (Q:=λ _ st'=>(arrOf st').Perm (pairsOf (v1::v2::rest))/\failedOf st'=none/\SortedTo (arrOf st') (pairsOf (v1::v2::rest)).size)
   hI.intKeys ⟨Array.Perm.refl _,rfl,rfl,rfl⟩ (by rw[pairsOf_size];simp) (by rw[pairsOf_size];exact h64) λ st' a1 a2 a3=>⟨a1,a2,a3⟩) ?_ λ _ _ e=>e
 rintro⟨⟨⟩,st'⟩ s' ⟨rfl,hp,hf,hs⟩;exact⟨rfl,hf,sorted_out hI hp hs,by rw[hp.size_eq,pairsOf_size]⟩
end L4
namespace L5
open PySem PySem.Spec L2 L3
open PyProof.Rows hiding St
structure Bq (mg:Str->Option Value):Prop where
 set:mg "set"=none
 zip:mg "zip"=none
 enumerate:mg "enumerate"=none
section
variable {X:Cx}{K:PySem.W.Frag}{a b c e:Expr}{es:List Expr}{ta tb tc te:zy}{tA:yt}{pos p:Pos}{fa fb fc:Ev->Option T}
def pQ (f g:yP) (ta tb tc:zy):zy:=fun δ S Q=>ta δ S λ x S1=>tb δ S1 λ y S2=>f x y S2 λ z S3=>match z with
 | .bl k=>if k=true then tc δ S3 λ w S4=>g y w S4 Q else Q (.bl false) S3
 | _=>False
theorem pQ.mo {f g:yP}(hf:xI f) (hg:xI g) (ha:ym ta) (hb:ym tb) (hc:ym tc):ym (pQ f g ta tb tc):=fun δ S Q Q' hq h=>
 ha δ S _ _ (λ x S1 h=>hb δ S1 _ _ (λ y S2 h=>hf x y S2 _ _ (λ z S3 h=>by
  cases z <;> first
   | exact vf (hc δ S3 _ _ λ w S4 h=>hg y w S4 _ _ hq h) (hq _ _) h
   | exact h) h) h) h
theorem YR {f g:yP}{r r':R2}(hr:xC K f r) (hr':xC K g r') (hf:xI f) (hg:xI g) (ha:ym ta) (hb:ym tb) (hc:ym tc) {σ:St}{H:Hp}{Q:VK}(h:zS K (pQ f g ta tb tc) σ H Q):eQ r r' (zS K ta) (zS K tb) (zS K tc) σ H Q:=by
 obtain⟨δ,S,r1,r2,h⟩:=h;refine zS.go ha r1 r2 h λ x S1 v H1 h1 q1 e1 p1=>?_;refine zS.go hb (r1.ext e1) p1 h1 λ y S2 w H2 h2 q2 e2 p2=>?_;refine hr v w x y H2 S2 _ (ze.ext e2 x q1) q2 p2 (hf x y S2 _ _ (λ d S3 z v3 H3 q3 e3 p3=>?_) h2);cases d with
 | bl k=>
  simp only[ze] at q3;refine⟨k,q3,vf (λ z=>?_) (λ z=>?_) z⟩
  .refine zS.go hc (r1.ext ((e1.trans e2).trans e3)) p3 z λ w4 S4 v4 H4 h4 q4 e4 p4=>?_;exact hr' w v4 y w4 H4 S4 Q (ze.ext (e3.trans e4) y q2) q4 p4 (hg y w4 S4 _ _ (λ d S' z=>z.ext (((e1.trans e2).trans e3).trans e4)) h4)
  .exact z _ H3 (by simp only[ze]) ((e1.trans e2).trans e3) p3
 | zh=>exact z.elim
 | int _=>exact z.elim
 | str _=>exact z.elim
 | tup _=>exact z.elim
 | yK _=>exact z.elim
 | ref _=>exact z.elim
@[simp] noncomputable def Za (f g:T->T->Option T) (fa fb fc:Ev->Option T):Ev->Option T:=fun ρ=>(fa ρ).bind λ x=>(fb ρ).bind λ y=>(f x y).bind λ b=>match b with
 | .bl k=>if k=true then (fc ρ).bind λ z=>g y z else some (.bl false)
 | _=>none
theorem US {f g:T->T->Option T}{F G:yP}(hf:Good2 zW f F) (hg:Good2 zW g G) (ha:yy fa ta) (hb:yy fb tb) (hc:yy fc tc):xx (Za f g fa fb fc) (pQ F G ta tb tc):=λ S Z δ ρ y Q hE e hq=>by
 obtain⟨x1,e1,e⟩:=zOb e;obtain⟨x2,e2,e⟩:=zOb e;obtain⟨b,e3,e⟩:=zOb e;refine ha S Z δ ρ x1 _ hE e1 λ d1 S1 s1 r1=>?_;refine hb S1 Z δ ρ x2 _ (hE.grow s1) e2 λ d2 S2 s2 r2=>?_;refine hf S2 Z x1 x2 b d1 d2 _ (hE.grow (s1.trans s2)).zd (Vw.grow r1 s2) r2 e3 λ c S3 s3 r3=>?_;split at e
 .have:=r3.1;simp only[Sn] at this;subst this;split at e
  .rename_i hk;obtain⟨x4,e4,e5⟩:=zOb e;dsimp only;rw[if_pos hk];refine hc S3 Z δ ρ x4 _ (hE.grow ((s1.trans s2).trans s3)) e4 λ d4 S4 s4 r4=>?_;exact hg S4 Z x2 x4 y d2 d4 Q (hE.grow (((s1.trans s2).trans s3).trans s4)).zd (Vw.grow r2 (s3.trans s4)) r4 e5 λ c' S5 s5 r5=>hq c' S5 ((((s1.trans s2).trans s3).trans s4).trans s5) (Cl.cl (((s1.trans s2).trans s3).trans s4) r5)
  .rename_i hk;dsimp only;rw[if_neg hk];cases e;exact hq _ S3 ((s1.trans s2).trans s3) (Cl.of (λ _=>nofun) wF)
 .cases e
theorem VJ {op op':CmpOp}{f g:yP}{r r':R2}(ho:yq X (compareOp op) r) (ho':yq X (compareOp op') r') (hr:xC X.K f r) (hr':xC X.K g r') (hf:xI f) (hg:xI g) (ha:PD X a ta) (hb:PD X b tb) (hc:PD X c tc)
  (hm:lastMarks [op,op'] [b,c]=false:=by with_unfolding_all rfl):PD X (.Compare a [op,op'] [b,c] pos) (pQ f g ta tb tc):=
 ⟨pQ.mo hf hg ha.mo hb.mo hc.mo,PE.imp (Vp ho ho' ha.pe hb.pe hc.pe hm) λ _ _ _ h=>YR hr hr' hf hg ha.mo hb.mo hc.mo h⟩
end
end L5
namespace L2
open PySem PySem.Spec PyProof.Rows
section
variable {X:Cx}
theorem Ud:yq X (compareOp .Is) (λ x y H Q=>∃ c d,x=.bl c/\y=.bl d/\Q (.bl (c == d)) H):=by
 intro pins s σ H x y v u Q I rx ry h;obtain⟨c,d,rfl,rfl,q⟩:=h;cases rx;cases ry;exact is_bool ⟨.bl _,H,I,rfl,q⟩
end
end L2
namespace L5
open PySem PySem.Spec L2 L3
open PyProof.Rows hiding St
section
variable {X:Cx}{K:PySem.W.Frag}{a b c e o i v:Expr}{es:List Expr}{ta tb tc te td ty tv:zy}{tA:yt}{pos p pos':Pos}{fa fb fc:Ev->Option T}
def tj:yP:=λ x y S Q=>match x,y with
 | .int i,.int j=>Q (.bl (decide (i<j))) S
 | .tup ds,.tup es=>∃ ns ms:List Int,ds=ns.map D.int/\es=ms.map D.int/\Q (.bl (HT.lexLt ns ms)) S
 | _,_=>False
noncomputable def vY:T->T->Option T
 | .int i,.int j=>some (.bl (decide (i<j)))
 | .tup ts,.tup us=>(uW ts).bind λ ns=>(uW us).map λ ms=>.bl (HT.lexLt ns ms)
 | _,_=>none
theorem tj.mo:xI tj:=λ x y S Q Q' hq h=>by
 unfold tj at h ⊢;split at h
 .exact hq _ _ h
 .obtain⟨ns,ms,h1,h2,h3⟩:=h;exact⟨ns,ms,h1,h2,hq _ _ h3⟩
 .exact h.elim
theorem tj.fits:xC K tj (λ x y H Q=>w_ (λ i j=>.bl (decide (i<j))) x y H Q\/jO K x y H Q):=λ x y d e H S Q h1 h2 h3 h=>by
 unfold tj at h;split at h
 .simp only[ze] at h1 h2;exact .inl ⟨_,_,h1,h2,h _ H (by simp only[ze]) (.refl H) h3⟩
 .obtain⟨ns,ms,rfl,rfl,h⟩:=h;simp only[ze] at h1 h2;obtain⟨a,xs,rfl,g1,g2⟩:=h1;obtain⟨b,ys,rfl,g3,g4⟩:=h2;rw[g2.ints] at g1;rw[g4.ints] at g3;exact .inr ⟨a,b,ns,ms,rfl,rfl,g1,g3,h _ H (by simp only[ze]) (.refl H) h3⟩
 .exact h.elim
theorem gj:Good2 zW vY tj:=λ S Z x y z d e Q hz hx hy ef hq=>by
 unfold vY at ef;split at ef
 .cases ef;cases hx.int;cases hy.int;exact hq _ S (.refl S) (Cl.of (λ _=>nofun) wF)
 .obtain⟨ns,e1,e2⟩:=zOb ef;obtain⟨ms,e3,rfl⟩:=zOm e2;cases oT e1;cases oT e3;obtain⟨ds,rfl,h2⟩:=hx.tup;obtain⟨es,rfl,h4⟩:=hy.tup;exact⟨ns,ms,tK.mp h2,tK.mp h4,hq _ S (.refl S) (Cl.of (λ _=>nofun) wF)⟩
 .cases ef
theorem V_ {k:Nat}(hr:y8 k X.A):yq X (compareOp .Lt) (λ x y H Q=>w_ (λ i j=>.bl (decide (i<j))) x y H Q\/jO X.K x y H Q):=Ub.or (Ua (by have:=hr.units;omega))
theorem jV {k:Nat}(hr:y8 k X.A) (ha:PD X a ta) (hb:PD X b tb):xP X (.Compare a [.Lt] [b] pos) (uh (yx tj ta tb)):=rV (V_ hr) tj.fits tj.mo ha hb (sQ _)
def uD (neg:Bool):yP:=λ x y S Q=>match x,y with
 | .bl c,.bl d=>Q (.bl (cond neg (c != d) (c == d))) S
 | x,.zh=>Q (.bl (cond neg (!pC x) (pC x))) S
 | _,_=>False
noncomputable def oS (neg:Bool):T->T->Option T
 | .bl c,.bl d=>some (.bl (cond neg (c != d) (c == d)))
 | x,.zh=>some (.bl (cond neg (!isNone x) (isNone x)))
 | _,_=>none
theorem uD.mo {neg:Bool}:xI (uD neg):=λ x y S Q Q' hq h=>by
 unfold uD at h ⊢;split at h
 .exact hq _ _ h
 .exact hq _ _ h
 .exact h.elim
theorem uD.fits:xC K (uD false) (λ x y H Q=>(∃ c d,x=.bl c/\y=.bl d/\Q (.bl (c == d)) H)\/(y=.zh/\Q (.bl (decide (x=.zh))) H)):=λ x y d e H S Q h1 h2 h3 h=>by
 unfold uD at h;split at h
 .simp only[ze] at h1 h2;exact .inl ⟨_,_,h1,h2,h _ H (by simp only[ze,cond]) (.refl H) h3⟩
 .simp only[ze] at h2;refine .inr ⟨h2,?_⟩;rw[SH h1];exact h _ H (by simp only[ze,cond]) (.refl H) h3
 .exact h.elim
theorem SJ {S:SS}{Z:Addr->Prop}{x:T}{d:D}(hx:Vw S Z x d):pC d=isNone x:=by
 cases x with
 | zh=>cases hx.zh;rfl
 | bl _=>cases hx.bl;rfl
 | int _=>cases hx.int;rfl
 | str _=>cases hx.str;rfl
 | tup _=>obtain⟨ds,rfl,_⟩:=hx.tup;rfl
 | lst _=>obtain⟨ds,rfl | ⟨a,rfl,h1⟩,h2⟩:=hx.lst <;> rfl
 | zU=>obtain⟨a,kvs,rfl,h1⟩:=hx.zU;rfl
theorem Rn {neg:Bool}:Good2 zW (oS neg) (uD neg):=λ S Z x y z d e Q hz hx hy ef hq=>by
 unfold oS at ef;split at ef
 .cases ef;cases hx.bl;cases hy.bl;exact hq _ S (.refl S) (Cl.of (λ _=>nofun) wF)
 .cases ef;cases hy.zh;have key:Q (.bl (cond neg (!pC d) (pC d))) S:=by
   rw[SJ hx];exact hq _ S (.refl S) (Cl.of (λ _=>nofun) wF)
  unfold uD;cases d <;> exact key
 .cases ef
theorem Vx (ha:PD X a ta) (hb:PD X b tb):xP X (.Compare a [.Is] [b] pos) (uh (yx (uD false) ta tb)):=rV (Ud.or Uc) uD.fits uD.mo ha hb (sQ _)
def aL (td ty tv:zy):yU:=λ E δ S=>tv δ S λ v S1=>td δ S1 λ x S2=>ty δ S2 λ y S3=>∃ p ds k j,x=.ref p/\y=.int k/\S3 p=some (.lst ds)/\xm ds.length k=some j/\E.nx δ (ups S3 p (.lst (ds.set j v)))
theorem zq.set {H:Hp}{d:D}{x:V}(h:ze K H d x):∀ {ds:List D}{xs:List V}(j:Nat),zq K H ds xs->zq K H (ds.set j d) (xs.set j x)
 | [],xs,j,r=>by simp only[zq] at r;subst r;exact .nil
 | c::ds,xs,0,r=>by
  simp only[zq] at r;obtain⟨y,ys,rfl,_,r2⟩:=r;exact .cons h r2
 | c::ds,xs,j+1,r=>by
  simp only[zq] at r;obtain⟨y,ys,rfl,r1,r2⟩:=r;exact .cons r1 (zq.set h j r2)
theorem rW (ho:PD X o td) (hi:PD X i ty) (hv:PD X v tv) (hs:swapsWithSole [.Subscript o i pos'] v pos.line X.env=pure false:=by rfl) (hw:swappedStores [.Subscript o i pos'] v X.env=pure none:=by rfl)
  (h1:(assignEach [.Subscript o i pos'] X.env).map (·.2)=[assign (.Subscript o i pos') X.env]:=by rfl)
  (ha:∀ v,assign (.Subscript o i pos') X.env v=(do
   let ov <- holding [v] (eval o X.env)
   let iv <- holding [v,ov] (eval i X.env)
   standAt pos'
   holding [v,ov,iv] (setItem ov iv v)
   release [v,ov,iv] []):=by intro _;rfl):vw X (.Assign [.Subscript o i pos'] v pos) (aL td ty tv):=by
 refine⟨λ E E' δ S hE z=>hv.mo δ S _ _ (λ w S1 z=>ho.mo δ S1 _ _ (λ x S2 z=>hi.mo δ S2 _ _ (λ y S3 ⟨p,ds,k,j,a,b,c,d,h⟩=>⟨p,ds,k,j,a,b,c,d,hE.nx _ _ h⟩) z) z) z,PS.imp (dX hv.pe (WQ ho.pe hi.pe set_list ha) hs hw h1) λ D σ H hu=>?_⟩;obtain⟨δ,S,r1,r2,z⟩:=hu;refine zS.go hv.mo r1 r2 z λ w S1 w1 H1 h1 q1 e1 p1=>?_;refine zS.go ho.mo (r1.ext e1) p1 h1 λ x S2 w2 H2 h2 q2 e2 p2=>?_;refine zS.go hi.mo ((r1.ext e1).ext e2) p2 h2 λ y S3 w3 H3 h3 q3 e3 p3=>?_;obtain⟨p,ds,k,j,rfl,rfl,c1,c2,h⟩:=h3;simp only[ze] at q2 q3;subst q2 q3;obtain⟨xs,g1,g2⟩:=p3 _ _ c1;have e4:Ext H3 (upd H3 p (.lst (xs.set j w1))):=.lst g1 _;refine⟨p,xs,k,j,rfl,rfl,g1,by rw[<- g2.length];exact c2,?_⟩;exact h σ _ ((((r1.ext e1).ext e2).ext e3).ext e4) (((e1.trans e2).trans e3).trans e4) (p3.ups e4 ⟨_,yZ,zq.ext e4 _ (zq.set (ze.ext (e2.trans e3) w q1) j g2)⟩)
@[simp] noncomputable def sW (n:Nat) (f v:Ev->Option T):Sm:=fun ρ=>(v ρ).bind λ z=>(f ρ).bind λ y=>match ρ[n]?,y with
 | some (some (.own (.lst ts))),.int k=>(xm ts.length k).map λ j=>.nx (ρ.set n (some (.own (.lst (ts.set j z)))))
 | _,_=>none
theorem qb {R:Rk}(n:Nat) {f v:Ev->Option T}(hf:yy f ty) (hv:vx v tv):yW R (sW n f v) (aL (yC n) ty tv):=λ S0 Z0 S Z δ ρ o E F e P=>by
 obtain⟨z,e1,e⟩:=zOb e;obtain⟨x,e2,e3⟩:=zOb e;split at e3
 .rename_i ts k h;obtain⟨j,hj,rfl⟩:=zOm e3;refine hv S Z δ ρ z _ F.er e1 λ dz S1 s1 r1=>?_;have F1:=F.grow s1;obtain⟨p,ob,h1,h2,h3,h4⟩:=F1.er.ow n _ h;cases ob with
  | ye _=>exact h3.elim
  | lst ds=>
   show yC n δ S1 _;unfold yC;rw[h1];refine hf S1 Z δ ρ _ _ F1.er e2 λ d S2 s2 r2=>?_;cases Vw.int r2;have h5:zj (zQ S2 Z) ts ds:=zj.sx (wM s2) ts h3;exact⟨p,ds,k,j,rfl,rfl,s2 _ _ h2,by rw[h5.len];exact hj,P _ Z δ ((F1.grow s2).mut (us:=.lst (ts.set j z)) (es:=.lst (ds.set j dz)) n h h1 (h5.dh j (Sn.sx (wM s2) z r1)))⟩
 .cases e3
theorem VD {x y:Str}{u:Value}(hm:X.mg x=some u) (r:RelV (.str y) u) (hg:Gl X x:=by rfl) (hd:(x == ("__debug__":Str))=false:=by decide):PD X (.Name x pos) (dC (.str y)):=oB (Vk hg hm r hd) λ _=>by simp only[ze]
end
end L5
namespace ZP
open PySem PyProof.Rows
noncomputable def iY (k:Bool):String:=cond k "tuple_iterator" "list_iterator"
def SI (h:Heap) (k:Bool) (it l:Addr) (i:Nat):Prop:=∃ o,h.get? it=some o/\o.cls=.type (iY k)/\o.data=.fields #[.ref l,.int i 0]
def SQ (h:Heap) (k:Bool) (l:Addr) (xs:Array Value):Prop:=match k with
 | true=>h.IsTuple l xs
 | false=>h.IsList l xs
theorem SI.on {h h':Heap}{k:Bool}{it l:Addr}{i:Nat}(x:SI h k it l i) (f:∀ o,h.get? it=some o->h'.get? it=some o):SI h' k it l i:=
 let ⟨o,ho,r⟩:=x;⟨o,f o ho,r⟩
theorem SQ.on {h h':Heap}{k:Bool}{l:Addr}{xs:Array Value}(x:SQ h k l xs) (f:∀ o,h.get? l=some o->h'.get? l=some o):SQ h' k l xs:=by
 cases k with
 | true=>obtain⟨o,ho,r⟩:=(show h.IsTuple l xs from x);exact⟨o,f o ho,r⟩
 | false=>obtain⟨o,ho,r⟩:=(show h.IsList l xs from x);exact⟨o,f o ho,r⟩
theorem SQ.lt {h:Heap}{k:Bool}{l:Addr}{xs:Array Value}(x:SQ h k l xs):l<h.objs.size:=by
 cases k with
 | true=>obtain⟨o,ho,_⟩:=(show h.IsTuple l xs from x);exact Heap.lt_size ho
 | false=>obtain⟨o,ho,_⟩:=(show h.IsList l xs from x);exact Heap.lt_size ho
theorem SQ.cls {h:Heap}{k:Bool}{l:Addr}{xs:Array Value}(x:SQ h k l xs):∃ o,h.get? l=some o/\o.cls=.type (cond k "tuple" "list"):=by
 cases k with
 | true=>obtain⟨o,ho,c,_⟩:=(show h.IsTuple l xs from x);exact⟨o,ho,c⟩
 | false=>obtain⟨o,ho,c,_⟩:=(show h.IsList l xs from x);exact⟨o,ho,c⟩
section
variable {prog:Program}{w:World}{A:Around}{E:Value->Shared->Prop}{s:Shared}
theorem made {k:Bool}{l:Addr}{xs:Array Value}{Q:Value->Shared->Prop}(hl:SQ s.heap k l xs)
  (hQ:Q (.ref s.heap.objs.size) { s with heap:=s.heap.push { cls:=.type (iY k),data:=.fields #[.ref l,.int 0 0] } }):wpAny (model prog w) A (pyIter (.ref l)) Q E s:=by
 cases k with
 | true=>exact wpAny_pyIter_tuple hl hQ
 | false=>exact wpAny_pyIter_list hl hQ
theorem RV {it l:Addr}{i:Nat}{xs:Array Value}{x:Value}{Q:Value->Shared->Prop}(hit:s.heap.IsTupleIter it l i) (hl:s.heap.IsTuple l xs) (hx:xs[i]?=some x)
  (hQ:∀ h',h'.IsTupleIter it l (i+1)->Heap.SameBut it s.heap h'->Q x { s with heap:=h' }):wpAny (model prog w) A (Builtin.SmallTypes.nextOf (.ref it)) Q E s:=by
 have ht:=hit.typeIs;obtain⟨oi,e1,e2,e3⟩:=id hit;obtain⟨ol,g1,_,n,g2⟩:=hl;refine zWb (wpAny_callSpecial?_slot (name:=Str.ofString "__next__") ht F.slot_tuple_iterator_next (wpAny_call_entry F.slot_tuple_iterator_next ht F.entry_tuple_iterator_next ?_ (F.args_tuple_iterator_next_1 _)));refine zWb (m:=field (.ref it) 0) (wpAny_field e1 e3 (x:=.ref l) rfl ?_);dsimp only;rw[if_neg (show ¬ ((Value.ref l == Value.none)=true) from Bool.false_ne_true)];refine zWb (m:=field (.ref it) 1) (wpAny_field e1 e3 (x:=.int i 0) rfl ?_);dsimp only;refine zWb (m:=seqItems? (.ref l)) (wpAny_seqItems g1 g2 ?_);simp only[Int.toNat_natCast,hx];have there:=Heap.get?_update_self (Obj.mapFields λ y=>y.setIfInBounds 1 (rawInt ((i:Int)+1))) e1 (Obj.isFreed_of_fields (Obj.data_mapFields e3 _));refine zWb (wpAny_setField e1 e3 (by simp) (wpAny_pure ⟨x,rfl,wpAny_pure (hQ _ ⟨_,there,(Obj.cls_mapFields ..).trans e2,?_⟩ (Heap.SameBut.update ..))⟩));rw[Obj.data_mapFields e3];simp[rawInt]
theorem RI {it l:Addr}{i:Nat}{xs:Array Value}{Q:Value->Shared->Prop}(hh:A.handled=none) (hit:s.heap.IsTupleIter it l i) (hl:s.heap.IsTuple l xs) (hx:xs[i]?=none)
  (hE:∀ h' e,Heap.ExtBut it s.heap h'->(∃ o,h'.get? e=some o/\o.cls=.type "StopIteration")->E (.ref e) { s with heap:=h' }):wpAny (model prog w) A (Builtin.SmallTypes.nextOf (.ref it)) Q E s:=by
 have ht:=hit.typeIs;obtain⟨oi,e1,e2,e3⟩:=id hit;obtain⟨ol,g1,_,n,g2⟩:=hl;refine zWb (wpAny_callSpecial?_slot (name:=Str.ofString "__next__") ht F.slot_tuple_iterator_next (wpAny_call_entry F.slot_tuple_iterator_next ht F.entry_tuple_iterator_next ?_ (F.args_tuple_iterator_next_1 _)));refine zWb (m:=field (.ref it) 0) (wpAny_field e1 e3 (x:=.ref l) rfl ?_);dsimp only;rw[if_neg (show ¬ ((Value.ref l == Value.none)=true) from Bool.false_ne_true)];refine zWb (m:=field (.ref it) 1) (wpAny_field e1 e3 (x:=.int i 0) rfl ?_);dsimp only;refine zWb (m:=seqItems? (.ref l)) (wpAny_seqItems g1 g2 ?_);simp only[Int.toNat_natCast,hx];refine zWb (wpAny_rule (zWb (wpAny_setField e1 e3 (by simp) ?_)));refine zWb (m:=newExc (.type "StopIteration") []) ?_;simp only[newExc,newTuple];refine zWb (wpAny_newObj_type (zWb (m:=firstArgMember _ _) (wpAny_of_eq (a:=Value.none) (by first | rfl | (simp only[firstArgMember];rfl)) (wpAny_newObj_type ?_ (by size_fits)))) (by size_fits));simp only[raiseNew];refine zWb (wpAny_handled ?_);rw[show A.in1.handled=none from hh];exact zWb (wpAny_pure (wpAny_throw (hE _ _ (((Heap.SameBut.update ..).extBut.push _).push _) ⟨_,Heap.get?_push_size _ rfl,rfl⟩)))
theorem draw {k:Bool}{it l:Addr}{i:Nat}{xs:Array Value}{x:Value}{Q:Value->Shared->Prop}(hit:SI s.heap k it l i) (hl:SQ s.heap k l xs) (hx:xs[i]?=some x)
  (hQ:∀ h',SI h' k it l (i+1)->Heap.SameBut it s.heap h'->Q x { s with heap:=h' }):wpAny (model prog w) A (Builtin.SmallTypes.nextOf (.ref it)) Q E s:=by
 cases k with
 | true=>exact RV hit hl hx hQ
 | false=>exact wpAny_nextOf_list_item hit hl hx hQ
theorem kl {k:Bool}{it l:Addr}{i:Nat}{xs:Array Value}{Q:Value->Shared->Prop}(hh:A.handled=none) (hit:SI s.heap k it l i) (hl:SQ s.heap k l xs) (hx:xs[i]?=none)
  (hE:∀ h' e,Heap.ExtBut it s.heap h'->(∃ o,h'.get? e=some o/\o.cls=.type "StopIteration")->E (.ref e) { s with heap:=h' }):wpAny (model prog w) A (Builtin.SmallTypes.nextOf (.ref it)) Q E s:=by
 cases k with
 | true=>exact RI hh hit hl hx hE
 | false=>exact wpAny_nextOf_list_end hh hit hl hx hE
structure kP (z TI TO i1 i2 l1 l2:Addr):Prop where
 nd:[z,TI,TO,i1,i2].Nodup
 f1:l1∉[z,TI,TO,i1,i2]
 f2:l2∉[z,TI,TO,i1,i2]
structure At (h:Heap) (k1 k2:Bool) (z TI TO i1 i2 l1 l2:Addr) (f0:Value) (n:Nat):Prop where
 z:IsZip h z TI TO f0
 ti:IsPair h TI (.ref i1) (.ref i2)
 to:∃ a b,IsPair h TO a b
 s1:SI h k1 i1 l1 n
 s2:SI h k2 i2 l2 n
theorem At.keep {h h':Heap}{k1 k2:Bool}{z TI TO i1 i2 l1 l2:Addr}{f0:Value}{n:Nat}(S:At h k1 k2 z TI TO i1 i2 l1 l2 f0 n) (f:∀ b∈[z,TI,TO,i1,i2],∀ o,h.get? b=some o->h'.get? b=some o):At h' k1 k2 z TI TO i1 i2 l1 l2 f0 n:=
 ⟨f z (by simp) _ S.z,f TI (by simp) _ S.ti,let ⟨a,b,e⟩:=S.to;⟨a,b,f TO (by simp) _ e⟩,S.s1.on (f i1 (by simp)),S.s2.on (f i2 (by simp))⟩
theorem item {k1 k2:Bool}{z TI TO i1 i2 l1 l2:Addr}{n:Nat}{xs ys:Array Value}{x y:Value}{Q:Option Value->Shared->Prop}(D:kP z TI TO i1 i2 l1 l2) (S:At s.heap k1 k2 z TI TO i1 i2 l1 l2 .none n)
  (h1:SQ s.heap k1 l1 xs) (h2:SQ s.heap k2 l2 ys) (hx:xs[n]?=some x) (hy:ys[n]?=some y)
  (hQ:∀ h',At h' k1 k2 z TI TO i1 i2 l1 l2 (rawInt s.heap.objs.size) (n+1)->IsPair h' s.heap.objs.size x y->(∀ c o,c∉[z,TI,TO,i1,i2]->s.heap.get? c=some o->h'.get? c=some o)->Q (some (.ref s.heap.objs.size)) { s with heap:=h' }):
  wpAny (model prog w) A (pyNext (.ref z)) Q E s:=by
 obtain⟨nd,f1,f2⟩:=D;simp only[List.nodup_cons,List.mem_cons,List.not_mem_nil,or_false,not_or,List.nodup_nil,and_true,not_false_eq_true] at nd f1 f2;obtain⟨⟨n1,n2,n3,n4⟩,⟨n5,n6,n7⟩,⟨n8,n9⟩,n10⟩:=nd;obtain⟨a1,a2,a3,a4,a5⟩:=f1;obtain⟨b1,b2,b3,b4,b5⟩:=f2;obtain⟨hz,hti,⟨a,b,hto⟩,s1,s2⟩:=S;have hT:s.TypeIs (.ref z) "zip":=⟨_,hz,rfl⟩
 unfold pyNext;refine zWb (wpAny_attempt (wpAny_callSpecial?_slot (name:=Str.ofString "__next__") hT F.slot_zip_next (wpAny_call_entry F.slot_zip_next hT F.entry_zip_next ?_ (F.args_zip_next_1 _))));refine zWb (m:=field (.ref z) 2) (wpAny_field hz rfl (x:=.bool false) rfl ?_);refine zWb (m:=field (.ref z) 3) (wpAny_field hz rfl (x:=.ref TI) rfl ?_);refine zWb (m:=seqItems? (.ref TI)) (wpAny_seqItems hti rfl ?_);refine zWb (m:=Builtin.SmallTypes.ownedTupleIsFree (.ref z)) (zWb (m:=field (.ref z) 0) (wpAny_field hz rfl (x:=.none) rfl (wpAny_pure ?_)));simp only[if_true];refine zWb (wpAny_rule (zWb (wpAny_field hz rfl (x:=.ref TO) rfl (zWb (wpAny_setField_rec hz (by simp) λ g1 hz1 e1=>?_)))));replace hz1:IsZip g1 z TI TO .ellipsis:=hz1;refine zWb ?_;simp only[List.zipIdx_cons,List.zipIdx_nil,List.forIn_cons,List.forIn_nil];refine zWb (zWb (wpAny_onRaise (zWb (m:=Builtin.SmallTypes.nextOf (.ref i1)) (draw (s1.on λ o q=>e1.extBut _ _ (Ne.symm n3) q) (h1.on λ o q=>e1.extBut _ _ a1 q) hx λ g2 s12 e2=>wpAny_pure ?_))));have to2:IsPair g2 TO a b:=e2.extBut _ _ n8 (e1.extBut _ _ (Ne.symm n2) hto);refine zWb (wpAny_seqItems to2 rfl (zWb (wpAny_updateSeq_pair to2 λ g3 to3 e3=>zWb (wpAny_letGo (wpAny_pure ?_)))));replace to3:IsPair g3 TO x b:=to3;have up:∀ c o,c≠z->c≠i1->c≠TO->s.heap.get? c=some o->g3.get? c=some o:=λ c o c1 c2 c3 q=>e3.extBut _ _ c3 (e2.extBut _ _ c2 (e1.extBut _ _ c1 q));refine zWb (zWb (wpAny_onRaise (zWb (m:=Builtin.SmallTypes.nextOf (.ref i2)) (draw (s2.on λ o q=>up _ o (Ne.symm n4) (Ne.symm n10) (Ne.symm n9) q) (h2.on λ o q=>up _ o b1 b4 b3 q) hy λ g4 s24 e4=>wpAny_pure ?_))));have to4:IsPair g4 TO x b:=e4.extBut _ _ n9 to3;refine zWb (wpAny_seqItems to4 rfl (zWb (wpAny_updateSeq_pair to4 λ g5 to5 e5=>zWb (wpAny_letGo (wpAny_pure (wpAny_pure ?_))))));replace to5:IsPair g5 TO x y:=to5;refine zWb (wpAny_seqItems to5 rfl (zWb (wpAny_newTuple ?_)));have sz:g5.objs.size=s.heap.objs.size:=by rw[e5.1,e4.1,e3.1,e2.1,e1.1]
 have hz5:IsZip g5 z TI TO .ellipsis:=e5.extBut _ _ n2 (e4.extBut _ _ n4 (e3.extBut _ _ n2 (e2.extBut _ _ n3 hz1)));have up5:∀ c o,c∉[z,TI,TO,i1,i2]->s.heap.get? c=some o->g5.get? c=some o:=λ c o hc q=>by
  simp only[List.mem_cons,List.not_mem_nil,or_false,not_or] at hc;exact e5.extBut _ _ hc.2.2.1 (e4.extBut _ _ hc.2.2.2.2 (up c o hc.1 hc.2.2.2.1 hc.2.2.1 q))
 have ti5:IsPair g5 TI (.ref i1) (.ref i2):=e5.extBut _ _ n5 (e4.extBut _ _ n7 (up _ _ (Ne.symm n1) n6 n5 hti));have s15:SI g5 k1 i1 l1 (n+1):=s12.on λ o q=>e5.extBut _ _ (Ne.symm n8) (e4.extBut _ _ n10 (e3.extBut _ _ (Ne.symm n8) q));have s25:SI g5 k2 i2 l2 (n+1):=s24.on λ o q=>e5.extBut _ _ (Ne.symm n9) q;have lz:z<g5.objs.size:=Heap.lt_size hz5;refine zWb (m:=Builtin.SmallTypes.ownedTupleHandOut (.ref z) (.ref g5.objs.size)) ?_;have hz6:IsZip (g5.push { cls:=.type "tuple",data:=.seq #[x,y] }) z TI TO .ellipsis:=zHp _ hz5;refine zWb (wpAny_setField_rec hz6 (by simp) λ g7 hz7 e7=>?_);replace hz7:IsZip g7 z TI TO (rawInt g5.objs.size):=hz7;refine wpAny_setField_rec hz7 (by simp) λ g8 hz8 e8=>?_;replace hz8:IsZip g8 z TI TO (rawInt g5.objs.size):=hz8;have up8:∀ c o,c≠z->(g5.push { cls:=.type "tuple",data:=.seq #[x,y] }).get? c=some o->g8.get? c=some o:=λ c o c1 q=>e8.extBut _ _ c1 (e7.extBut _ _ c1 q);have T8:IsPair g8 g5.objs.size x y:=up8 _ _ (Nat.ne_of_gt lz) (Heap.get?_push_size _ rfl);have up9:∀ c o,c≠z->g5.get? c=some o->g8.get? c=some o:=λ c o c1 q=>up8 c o c1 (zHp _ q);rw[sz] at hz8 T8;refine wpAny_pure ⟨.ref g5.objs.size,rfl,wpAny_pure ?_⟩;show Q (some (.ref g5.objs.size)) _;rw[sz];refine hQ g8 ⟨hz8,up9 _ _ (Ne.symm n1) ti5,⟨x,y,up9 _ _ (Ne.symm n2) to5⟩,s15.on λ o q=>up9 _ o (Ne.symm n3) q,s25.on λ o q=>up9 _ o (Ne.symm n4) q⟩ T8 λ c o hc q=>up9 c o (λ e=>hc (by simp[e])) (up5 c o hc q)
theorem stop {k1 k2:Bool}{z TI TO i1 i2 l1 l2:Addr}{n:Nat}{xs ys:Array Value}{Q:Option Value->Shared->Prop}(hh:A.handled=none) (D:kP z TI TO i1 i2 l1 l2) (S:At s.heap k1 k2 z TI TO i1 i2 l1 l2 .none n)
  (h1:SQ s.heap k1 l1 xs) (h2:SQ s.heap k2 l2 ys) (hend:xs[n]?=none\/ys[n]?=none)
  (hQ:∀ h',(∀ c o,c∉[z,TI,TO,i1,i2]->s.heap.get? c=some o->h'.get? c=some o)->Q none { s with heap:=h' }):
  wpAny (model prog w) A (pyNext (.ref z)) Q E s:=by
 obtain⟨nd,f1,f2⟩:=D;simp only[List.nodup_cons,List.mem_cons,List.not_mem_nil,or_false,not_or,List.nodup_nil,and_true,not_false_eq_true] at nd f1 f2;obtain⟨⟨n1,n2,n3,n4⟩,⟨n5,n6,n7⟩,⟨n8,n9⟩,n10⟩:=nd;obtain⟨a1,a2,a3,a4,a5⟩:=f1;obtain⟨b1,b2,b3,b4,b5⟩:=f2;obtain⟨hz,hti,⟨a,b,hto⟩,s1,s2⟩:=S;have hT:s.TypeIs (.ref z) "zip":=⟨_,hz,rfl⟩
 have fin:∀ (h':Heap) (e:Addr),(∀ c o,c∉[z,TI,TO,i1,i2]->s.heap.get? c=some o->h'.get? c=some o)->(∃ o,h'.get? e=some o/\o.cls=.type "StopIteration")->
   wpAny (model prog w) A (do if <- isInstance (.ref e) (.type "StopIteration") then pure none else throw (.ref e)) Q E { s with heap:=h' }:=λ h' e k1 k2=>by
  obtain⟨o,ho,hc⟩:=k2;exact zWb (wpAny_isInstance (T:="StopIteration") (b:=true) ⟨o,ho,hc⟩ isSubtype_stop (wpAny_pure (hQ _ k1)))
 unfold pyNext;refine zWb (wpAny_attempt (wpAny_callSpecial?_slot (name:=Str.ofString "__next__") hT F.slot_zip_next (wpAny_call_entry F.slot_zip_next hT F.entry_zip_next ?_ (F.args_zip_next_1 _))));refine zWb (m:=field (.ref z) 2) (wpAny_field hz rfl (x:=.bool false) rfl ?_);refine zWb (m:=field (.ref z) 3) (wpAny_field hz rfl (x:=.ref TI) rfl ?_);refine zWb (m:=seqItems? (.ref TI)) (wpAny_seqItems hti rfl ?_);refine zWb (m:=Builtin.SmallTypes.ownedTupleIsFree (.ref z)) (zWb (m:=field (.ref z) 0) (wpAny_field hz rfl (x:=.none) rfl (wpAny_pure ?_)));simp only[if_true];refine zWb (wpAny_rule (zWb (wpAny_field hz rfl (x:=.ref TO) rfl (zWb (wpAny_setField_rec hz (by simp) λ g1 hz1 e1=>?_)))));replace hz1:IsZip g1 z TI TO .ellipsis:=hz1;refine zWb ?_;simp only[List.zipIdx_cons,List.zipIdx_nil,List.forIn_cons,List.forIn_nil];cases hx:xs[n]? with
 | none=>
  refine zWb (zWb (wpAny_onRaise (zWb (m:=Builtin.SmallTypes.nextOf (.ref i1)) (kl hh (s1.on λ o q=>e1.extBut _ _ (Ne.symm n3) q) (h1.on λ o q=>e1.extBut _ _ a1 q) hx λ g2 ex e2 he=>?_))));have hz2:IsZip g2 z TI TO .ellipsis:=e2 _ _ n3 hz1;obtain⟨oe,q1,q2⟩:=he;have ne:ex≠z:=λ q=>by subst q;rw[hz2] at q1;cases q1;simp at q2
  refine wpAny_setField_rec hz2 (by simp) λ g3 _ e3=>fin g3 ex (λ c o hc q=>?_) ⟨oe,e3.extBut _ _ ne q1,q2⟩;simp only[List.mem_cons,List.not_mem_nil,or_false,not_or] at hc;exact e3.extBut _ _ hc.1 (e2 _ _ hc.2.2.2.1 (e1.extBut _ _ hc.1 q))
 | some x=>
  have hy:ys[n]?=none:=hend.resolve_left (by rw[hx];simp);refine zWb (zWb (wpAny_onRaise (zWb (m:=Builtin.SmallTypes.nextOf (.ref i1)) (draw (s1.on λ o q=>e1.extBut _ _ (Ne.symm n3) q) (h1.on λ o q=>e1.extBut _ _ a1 q) hx λ g2 s12 e2=>wpAny_pure ?_))));have to2:IsPair g2 TO a b:=e2.extBut _ _ n8 (e1.extBut _ _ (Ne.symm n2) hto);refine zWb (wpAny_seqItems to2 rfl (zWb (wpAny_updateSeq_pair to2 λ g3 to3 e3=>zWb (wpAny_letGo (wpAny_pure ?_)))));have up:∀ c o,c≠z->c≠i1->c≠TO->s.heap.get? c=some o->g3.get? c=some o:=λ c o c1 c2 c3 q=>e3.extBut _ _ c3 (e2.extBut _ _ c2 (e1.extBut _ _ c1 q));refine zWb (zWb (wpAny_onRaise (zWb (m:=Builtin.SmallTypes.nextOf (.ref i2)) (kl hh (s2.on λ o q=>up _ o (Ne.symm n4) (Ne.symm n10) (Ne.symm n9) q) (h2.on λ o q=>up _ o b1 b4 b3 q) hy λ g4 ex e4 he=>?_))));have hz4:IsZip g4 z TI TO .ellipsis:=e4 _ _ n4 (e3.extBut _ _ n2 (e2.extBut _ _ n3 hz1));obtain⟨oe,q1,q2⟩:=he;have ne:ex≠z:=λ q=>by subst q;rw[hz4] at q1;cases q1;simp at q2
  refine wpAny_setField_rec hz4 (by simp) λ g5 _ e5=>fin g5 ex (λ c o hc q=>?_) ⟨oe,e5.extBut _ _ ne q1,q2⟩;simp only[List.mem_cons,List.not_mem_nil,or_false,not_or] at hc;exact e5.extBut _ _ hc.1 (e4 _ _ hc.2.2.2.2 (up c o hc.1 hc.2.2.2.1 hc.2.2.1 q))
end
end ZP
namespace ZP
open PySem PyProof.Rows
abbrev vG (k:Bool) (l:Addr):Obj:={ cls:=.type (iY k),data:=.fields #[.ref l,.int 0 0] }
abbrev pF (k1 k2:Bool) (h:Heap) (l1 l2:Addr):Heap:=(h.push (vG k1 l1)).push (vG k2 l2)
abbrev lU (k1 k2:Bool) (h:Heap) (l1 l2:Addr):Heap:=(pF k1 k2 h l1 l2).push { cls:=.type "tuple",data:=.seq #[.ref h.objs.size,.ref (h.push (vG k1 l1)).objs.size] }
abbrev lT (k1 k2:Bool) (h:Heap) (l1 l2:Addr):Heap:=(lU k1 k2 h l1 l2).push { cls:=.type "tuple",data:=.seq #[.none,.none] }
abbrev pE (k1 k2:Bool) (h:Heap) (l1 l2:Addr):Heap:=(lT k1 k2 h l1 l2).push { cls:=.type "zip",data:=.fields #[.none,.bool false,.bool false,.ref (pF k1 k2 h l1 l2).objs.size,.ref (lU k1 k2 h l1 l2).objs.size] }
theorem T6 (k1 k2:Bool) (l1 l2:Addr) (xs ys:Array Value):Meets (Builtin.«zip.__new__» ⟨[.type "zip",.ref l1,.ref l2],[]⟩) (λ _ R s=>SQ s.heap k1 l1 xs/\SQ s.heap k2 l2 ys/\
   R (.ok (.ret (.ref (lT k1 k2 s.heap l1 l2).objs.size))) { s with heap:=pE k1 k2 s.heap l1 l2 }):=
 .of_wp λ prog w A R s h=>by
  obtain⟨hp,g,d,tk,os⟩:=s;obtain⟨q1,q2,h⟩:=h;have hsub:=sub_zip;have m1:SQ (Shared.heap ⟨hp,g,d,tk,os⟩) k1 l1 xs:=q1;have m2:SQ (Shared.heap ⟨hp.push (vG k1 l1),g,d,tk,os⟩) k2 l2 ys:=q2.on λ o e=>zHp _ e
  wp_walk using made m1,made m2
  exact⟨_,rfl,h⟩
section
variable {prog:Program}{w:World}{A:Around}{E:Value->Shared->Prop}{s:Shared}
theorem new {k1 k2:Bool}{l1 l2:Addr}{xs ys:Array Value}{Q:Value->Shared->Prop}(h1:SQ s.heap k1 l1 xs) (h2:SQ s.heap k2 l2 ys)
  (h:∀ h' z TI TO i1 i2,(∀ b∈[z,TI,TO,i1,i2],s.heap.objs.size<=b)->kP z TI TO i1 i2 l1 l2->At h' k1 k2 z TI TO i1 i2 l1 l2 .none 0->(∀ c o,s.heap.get? c=some o->h'.get? c=some o)->Q (.ref z) { s with heap:=h' }):
  wpAny (model prog w) A (call (.type "zip") [.ref l1,.ref l2]) Q E s:=by
 refine callType_new F.called_zip (by decide) (F.typeCall_zip_2 _ _) (F.newCall_zip_2 _ _) (λ obj=>F.args_object_init_3 obj _ _) F.entry_zip_new (T6 k1 k2 l1 l2 xs ys) ⟨h1,h2,?_⟩;have z1:(s.heap.push (vG k1 l1)).objs.size=s.heap.objs.size+1:=Heap.size_push ..;have z2:(pF k1 k2 s.heap l1 l2).objs.size=s.heap.objs.size+2:=by rw[Heap.size_push,z1]
 have z3:(lU k1 k2 s.heap l1 l2).objs.size=s.heap.objs.size+3:=by rw[Heap.size_push,z2]
 have z4:(lT k1 k2 s.heap l1 l2).objs.size=s.heap.objs.size+4:=by rw[Heap.size_push,z3]
 have p1:∀ (h:Heap) (o:Obj),o.isFreed=false->(h.push o).get? h.objs.size=some o:=λ h o e=>Heap.get?_push_size _ e;have u:∀ {h:Heap}{b:Addr}{o:Obj}(o':Obj),h.get? b=some o->(h.push o').get? b=some o:=λ o' e=>zHp _ e;have g5:(pE k1 k2 s.heap l1 l2).get? (lT k1 k2 s.heap l1 l2).objs.size=some _:=p1 _ _ rfl;have g4:(pE k1 k2 s.heap l1 l2).get? (lU k1 k2 s.heap l1 l2).objs.size=some _:=u _ (p1 _ _ rfl);have g3:(pE k1 k2 s.heap l1 l2).get? (pF k1 k2 s.heap l1 l2).objs.size=some _:=u _ (u _ (p1 _ _ rfl));have g2:(pE k1 k2 s.heap l1 l2).get? (s.heap.push (vG k1 l1)).objs.size=some (vG k2 l2):=u _ (u _ (u _ (p1 _ _ rfl)));have g1:(pE k1 k2 s.heap l1 l2).get? s.heap.objs.size=some (vG k1 l1):=u _ (u _ (u _ (u _ (p1 _ _ rfl))));have a1:=h1.lt;have a2:=h2.lt;rw[z2,z3,z4] at g5;rw[z1,z2] at g3;rw[z3] at g4;rw[z1] at g2;generalize hN:s.heap.objs.size=N at *;have lt:∀ {m:Nat},m<N->∀ j:Nat,¬ m=N+j:=λ hm j=>by omega
 have ne:∀ {i j:Nat},i≠j->¬ (N+i=N+j):=λ hij e=>hij (by omega);show _/\_;rw[z4];refine⟨⟨_,g5,rfl⟩,h _ (N+4) (N+2) (N+3) N (N+1) (λ b hb=>?_) ⟨?_,?_,?_⟩ ⟨g5,g3,⟨_,_,g4⟩,⟨_,g1,rfl,rfl⟩,⟨_,g2,rfl,rfl⟩⟩ λ c o e=>u _ (u _ (u _ (u _ (u _ e))))⟩
 .simp only[List.mem_cons,List.not_mem_nil,or_false] at hb;have h0:N<=N:=Nat.le_refl N;rcases hb with e | e | e | e | e <;> subst e
  .exact Nat.le_add_right N 4
  .exact Nat.le_add_right N 2
  .exact Nat.le_add_right N 3
  .exact h0
  .exact Nat.le_add_right N 1
 .have e0:∀ {i:Nat},i≠0->¬ (N+i=N):=λ hi e=>hi (by omega);have e0':∀ {i:Nat},i≠0->¬ (N=N+i):=λ hi e=>hi (by omega);simp only[List.nodup_cons,List.mem_cons,List.not_mem_nil,or_false,not_or,List.nodup_nil,and_true,not_false_eq_true];exact⟨⟨ne (by decide),ne (by decide),e0 (by decide),ne (by decide)⟩,⟨ne (by decide),e0 (by decide),ne (by decide)⟩,⟨e0 (by decide),ne (by decide)⟩,e0' (by decide)⟩
 .simp only[List.mem_cons,List.not_mem_nil,or_false,not_or];exact⟨lt a1 4,lt a1 2,lt a1 3,Nat.ne_of_lt a1,lt a1 1⟩
 .simp only[List.mem_cons,List.not_mem_nil,or_false,not_or];exact⟨lt a2 4,lt a2 2,lt a2 3,Nat.ne_of_lt a2,lt a2 1⟩
end
end ZP
namespace L2
open PySem PySem.Spec PyProof.Rows ZP
section
variable {X:Cx}{pins:List (Addr×Obj)}{σ:St}{H:Hp}{s:Shared}
theorem Inv.mI {h':Heap}{t':Nat}{fp:List Addr}(I:Inv X pins σ H s) (k:∀ b o,b∉fp->s.heap.get? b=some o->h'.get? b=some o) (hf:∀ b∈fp,vR X pins H b):Inv X pins σ H { s with heap:=h',toks:=t' }:=by
 have nit:∀ b u,H b=some u->b∉fp:=λ b u e z=>by rw[(hf b z).1] at e;cases e
 refine I.step (g':=s.gens) (d':=s.drawn) (ch:=fp) (λ b hb=>?_) (λ b o _ _ hc e _=>k b o hc e) (λ b o _ _ hc e _=>⟨o.slots,k b o hc e⟩) (λ _ _ _ _ n=>n)
  (λ b o hc e=>⟨o,k b o hc e⟩) (λ _ _ e=>e) (λ _ _ _ e=>e) (λ b ps e=>⟨#[],by rw[e];simp⟩) (λ m hm=>?_) (λ b u e=>?_) I.bare
 .obtain⟨_,q1,_,q2,q3,q4⟩:=hf b hb;exact⟨q2,q1,q3,q4⟩
 .obtain⟨o,es,ep,ho,r⟩:=hm;exact⟨o,es,ep,k _ o (λ z=>(hf _ z).2.1 rfl) ho,r⟩
 .refine (I.zB b u e).sI (λ c v hc q=>k c v ?_ q) (λ _ q=>q) λ _ _ q=>q;rcases hc with z | z
  .rw[z];exact nit b u e
  .exact nit c _ z
def wu (K:PySem.W.Frag) (H:Hp) (k:Bool) (a:Addr) (xs:List V):Prop:=match k with
 | true=>zZ K H a xs
 | false=>zV K H a xs
theorem wu.of (I:Inv X pins σ H s) {k:Bool}{a:Addr}{xs:List V}(h:wu X.K H k a xs):∃ its:List Value,Vals xs its/\SQ s.heap k a its.toArray:=by
 cases k with
 | true=>obtain⟨its,rv,p,_⟩:=I.tuple h;exact⟨its,rv,p⟩
 | false=>obtain⟨its,rv,p,_⟩:=I.list h;exact⟨its,rv,p.isList⟩
theorem wu.inj (I:Inv X pins σ H s) {k:Bool}{a:Addr}{xs ys:List V}(h:wu X.K H k a xs) (h':wu X.K H k a ys):xs=ys:=by
 cases k with
 | true=>exact I.jd h h'
 | false=>exact I.iM h h'
def ZD (K:PySem.W.Frag) (k1 k2:Bool) (a1 a2:Addr):It:=
 ⟨λ i H=>∃ xs ys x y,wu K H k1 a1 xs/\wu K H k2 a2 ys/\xs[i]?=some x/\ys[i]?=some y,
   λ i H v H'=>∃ p x y,v=.ref p/\H p=none/\H'=upd H p (.tup [x,y])/\(∀ xs,wu K H k1 a1 xs->xs[i]?=some x)/\∀ ys,wu K H k2 a2 ys->ys[i]?=some y,
   λ i H=>∃ xs ys,wu K H k1 a1 xs/\wu K H k2 a2 ys/\(xs.length<=i\/ys.length<=i)⟩
theorem YX {P:Program}{w:World}{K:PySem.W.Frag}{es:List Expr}{kk} {pos:Pos}{k1 k2:Bool}{z TI TO i1 i2 a1 a2:Addr}(D:kP z TI TO i1 i2 a1 a2):
  Turn P w K (.Tuple es kk pos) (ZD K k1 k2 a1 a2) [z,TI,TO,i1,i2] z (λ i h=>At h k1 k2 z TI TO i1 i2 a1 a2 .none i) where
 mem:=by simp
 obj:=λ i h st b hb=>by
  obtain⟨q1,q2,⟨_,_,q3⟩,⟨o1,q4,_,d1⟩,⟨o2,q5,_,d2⟩⟩:=st;simp only[List.mem_cons,List.not_mem_nil,or_false] at hb;rcases hb with e | e | e | e | e <;> subst e
  .exact⟨_,q1,λ v z=>by cases z⟩
  .exact⟨_,q2,λ v z=>by cases z⟩
  .exact⟨_,q3,λ v z=>by cases z⟩
  .exact⟨_,q4,λ v z=>by rw[d1] at z;cases z⟩
  .exact⟨_,q5,λ v z=>by rw[d2] at z;cases z⟩
 keep:=λ i h h' st k=>st.keep k
 item:=by
  intro X hP hw hK hc i pins s σ H E I hf st hg;subst hP hw hK;obtain⟨xs,ys,x,y,g1,g2,hx,hy⟩:=hg;obtain⟨it1,rv1,q1⟩:=g1.of I;obtain⟨it2,rv2,q2⟩:=g2.of I;obtain⟨u1,e1,r1⟩:=rv1.get hx;obtain⟨u2,e2,r2⟩:=rv2.get hy;refine ZP.item D st q1 q2 (x:=u1) (y:=u2) (by simpa using e1) (by simpa using e2) λ h' S' T' up=>⟨_,rfl,?_⟩;refine wpAny_letOwnedTupleGo_zip S'.z λ h2 z2 sb=>?_;have nT:s.heap.objs.size∉[z,TI,TO,i1,i2]:=λ hb=>by
   obtain⟨o,ho,_⟩:=(show ∃ o,s.heap.get? s.heap.objs.size=some o/\True from by
    obtain⟨w1,w2,⟨_,_,w3⟩,⟨o1,w4,_⟩,⟨o2,w5,_⟩⟩:=st;simp only[List.mem_cons,List.not_mem_nil,or_false] at hb;rcases hb with e | e | e | e | e <;> rw[e]
    .exact⟨_,w1,trivial⟩
    .exact⟨_,w2,trivial⟩
    .exact⟨_,w3,trivial⟩
    .exact⟨_,w4,trivial⟩
    .exact⟨_,w5,trivial⟩)
   exact absurd (Heap.lt_size ho) (Nat.lt_irrefl _)
  have nz:s.heap.objs.size≠z:=λ e=>nT (by simp[e]);have fr:H s.heap.objs.size=none:=I.zB.fresh (Nat.le_refl _);have I1:Inv X pins σ (upd H s.heap.objs.size (.tup [x,y])) { s with heap:=s.heap.push { cls:=.type "tuple",data:=.seq [u1,u2].toArray },toks:=s.toks }:=
   I.laid (o:=.tup [x,y]) (λ b u q=>zHp _ q) (Nat.le_refl _) ⟨by show 2<=sizeLine;decide,[u1,u2],.cons r1 (.cons r2 .nil),IsTup.new _ _⟩
  have hf':∀ b∈[z,TI,TO,i1,i2],upd H s.heap.objs.size (.tup [x,y]) b=none:=λ b hb=>by
   rw[yI (λ e=>nT (by rw[<- e];exact hb))];exact (hf b hb).1
  have kk:∀ b o,b∉[z,TI,TO,i1,i2]->(s.heap.push { cls:=.type "tuple",data:=.seq [u1,u2].toArray }).get? b=some o->h2.get? b=some o:=λ b o hb q=>by
   have hbz:b≠z:=λ e=>hb (by simp[e]);by_cases hbs:b=s.heap.objs.size
   .subst hbs;rw[Heap.get?_push_size _ rfl] at q;cases q;exact sb.extBut _ _ nz T'
   .have q':s.heap.get? b=some o:=by rw[Heap.get?_push_ne _ _ _ hbs] at q;exact q
    exact sb.extBut _ _ hbz (up b o hb q')
  have I2:=Inv.mI (h':=h2) (t':=s.toks) (fp:=[z,TI,TO,i1,i2]) I1 kk λ b hb=>⟨hf' b hb,(hf b hb).2⟩;refine⟨.ref s.heap.objs.size,_,I2,rfl,⟨_,x,y,rfl,fr,rfl,λ zs hz=>by rw[hz.inj I g1];exact hx,λ zs hz=>by rw[hz.inj I g2];exact hy⟩,⟨z2,?_,?_,?_,?_⟩,hf'⟩
  .have nd:=D.nd;simp only[List.nodup_cons,List.mem_cons,List.not_mem_nil,or_false,not_or] at nd;exact sb.extBut _ _ (Ne.symm nd.1.1) S'.ti
  .obtain⟨a,b,e⟩:=S'.to;have nd:=D.nd;simp only[List.nodup_cons,List.mem_cons,List.not_mem_nil,or_false,not_or] at nd;exact⟨a,b,sb.extBut _ _ (Ne.symm nd.1.2.1) e⟩
  .have nd:=D.nd;simp only[List.nodup_cons,List.mem_cons,List.not_mem_nil,or_false,not_or] at nd;exact S'.s1.on λ o q=>sb.extBut _ _ (Ne.symm nd.1.2.2.1) q
  .have nd:=D.nd;simp only[List.nodup_cons,List.mem_cons,List.not_mem_nil,or_false,not_or] at nd;exact S'.s2.on λ o q=>sb.extBut _ _ (Ne.symm nd.1.2.2.2) q
 done:=by
  intro X hP hw hK hc i pins s σ H E I hf st hg;subst hP hw hK;obtain⟨xs,ys,g1,g2,hx⟩:=hg;obtain⟨it1,rv1,q1⟩:=g1.of I;obtain⟨it2,rv2,q2⟩:=g2.of I;have l1:=rv1.length;have l2:=rv2.length;refine ZP.stop (I.ok.hd hc) D st q1 q2 ?_ λ h' up=>⟨rfl,I.mI (t':=s.toks) up hf⟩;rcases hx with hx | hx
  .exact .inl (by simp;omega)
  .exact .inr (by simp;omega)
 self:=λ _ _ _ _ _ st h=>wpAny_pyIter_zip st.z h
def SY (K:PySem.W.Frag) (ta:TA):TI:=fun σ H R=>ta σ H λ vs H1=>∃ a1 a2 k1 k2,vs=[.ref a1,.ref a2]/\(∃ xs,wu K H1 k1 a1 xs)/\(∃ ys,wu K H1 k2 a2 ys)/\R (ZD K k1 k2 a1 a2) H1
theorem WI {a b:Expr}{ta:TA}{p pos pos':Pos}{es:List Expr}{kk} (hg:Gl X "zip") (hm:X.mg "zip"=none) (ha:PA X [a,b] ta) (hs:starEach [a,b] X.env=[(false,eval a X.env),(false,eval b X.env)]:=by rfl) (hs2:starEach [b] X.env=[(false,eval b X.env)]:=by rfl):
  PI X (.Tuple es kk pos') (.Call (.Name "zip" p) [a,b] [] pos) (SY X.K ta):=by
 intro pins s σ H R I h;refine Call_ (p9 I hg hm boot_zip (PyProof.Rows.callWith_type1 (zK (ha pos pins s σ H _ I h) λ us s1 ⟨vs,H1,I1,r1,q1⟩=>?_) (by rw[hs,hs2]) (by rw[hs2];rfl)));obtain⟨a1,a2,k1,k2,rfl,⟨xs,g1⟩,⟨ys,g2⟩,q⟩:=q1;cases r1 with
 | cons r rr=>
  cases rr with
  | cons r' rr=>
   cases rr;cases r;cases r';obtain⟨it1,_,q1⟩:=g1.of I1;obtain⟨it2,_,q2⟩:=g2.of I1;refine ZP.new q1 q2 λ h' z TI TO i1 i2 nw D S up=>wpAny_pyIter_zip S.z ?_;exact⟨z,[z,TI,TO,i1,i2],_,_,H1,rfl,I1.kept (t':=s1.toks) up,YX D,S,λ b hb=>I1.ka (nw b hb) (I1.zB.fresh (nw b hb)),q⟩
end
end L2
namespace L5
open PySem PySem.Spec L2 L3
open PyProof.Rows hiding St
section
variable {X:Cx}{K:PySem.W.Frag}{a b:Expr}{tA:yt}{pos p pos':Pos}
def b7 (t:yt):wQ:=fun δ S R=>t δ S λ ds S1=>∃ d e xs ys,ds=[d,e]/\zT d S1=some xs/\zT e S1=some ys/\R ⟨List.zipWith (λ x y=>D.tup [x,y]) xs ys,λ S=>zT d S=some xs/\zT e S=some ys⟩ S1
noncomputable def oP:D->Bool
 | .tup _=>true
 | _=>false
theorem zT.k {H:Hp}{S:SS}{d:D}{v:V}{ds:List D}(r:ze K H d v) (p:zR K H S) (e:zT d S=some ds):∃ a xs,v=.ref a/\wu K H (oP d) a xs/\zq K H ds xs:=by
 by_cases q:∃ ts,d=.tup ts
 .obtain⟨ts,rfl⟩:=q;cases e;simp only[ze] at r;obtain⟨a,xs,h1,h2,h3⟩:=r;exact⟨a,xs,h1,h2,h3⟩
 .obtain⟨a,xs,h1,h2,h3⟩:=qU r p e λ ts z=>q ⟨ts,z⟩;refine⟨a,xs,h1,?_,h3⟩;have:oP d=false:=by cases d <;> first | rfl | exact absurd ⟨_,rfl⟩ q
  rw[this];exact h2
end
end L5
namespace L5
open PySem PySem.Spec L2 L3
open PyProof.Rows hiding St
section
variable {X:Cx}{K:PySem.W.Frag}{a b:Expr}{tA:yt}{pos p pos':Pos}{es:List Expr}{kk:Nat}
theorem V2 (hm:X.mg "zip"=none) (ha:xQ X [a,b] tA) (hg:Gl X "zip":=by rfl) (hs:starEach [a,b] X.env=[(false,eval a X.env),(false,eval b X.env)]:=by rfl) (hs2:starEach [b] X.env=[(false,eval b X.env)]:=by rfl):
  rF X (.Tuple es kk pos') (.Call (.Name "zip" p) [a,b] [] pos) (b7 tA):=by
 refine⟨fun δ S Q Q' hq z=>ha.mo δ S _ _ (λ ds S1 ⟨d,e,xs,ys,h1,h2,h3,h4⟩=>⟨d,e,xs,ys,h1,h2,h3,hq _ _ h4⟩) z,PI.imp (WI hg hm ha.pa hs hs2) fun σ H R hu=>?_⟩;obtain⟨δ,S,r1,r2,z⟩:=hu;refine wD.go ha.mo r1 r2 z λ ds S1 vs H1 h1 q1 e1 p1=>?_;obtain⟨d,e,xs,ys,rfl,s1,s2,h⟩:=h1;obtain⟨v,u,rfl,d1,d2⟩:=q1.two;obtain⟨a1,us,rfl,g1,g2⟩:=zT.k d1 p1 s1;obtain⟨a2,ws,rfl,g3,g4⟩:=zT.k d2 p1 s2;refine⟨a1,a2,oP d,oP e,rfl,⟨us,g1⟩,⟨ws,g3⟩,h _ H1 e1 p1 λ i H2 S2 x1 x2 hk=>?_⟩;obtain⟨b1,us2,q1,m1,m2⟩:=zT.k (ze.ext x1 d d1) x2 hk.1;cases q1;obtain⟨b2,ws2,q2,m3,m4⟩:=zT.k (ze.ext x1 e d2) x2 hk.2;cases q2;have l1:=m2.length;have l2:=m4.length;refine⟨λ dd hd=>?_,λ hl=>⟨us2,ws2,m1,m3,?_⟩⟩
 .rw[List.getElem?_zipWith] at hd;split at hd
  .rename_i dx dy hx hy;cases hd;obtain⟨x,hx',rx⟩:=m2.get hx;obtain⟨y,hy',ry⟩:=m4.get hy;refine⟨⟨us2,ws2,x,y,m1,m3,hx',hy'⟩,λ v H' q=>?_⟩;obtain⟨pp,x',y',rfl,hp,rfl,f1,f2⟩:=q;have ex:x'=x:=by have:=f1 _ m1;rw[hx'] at this;exact (Option.some.inj this).symm
   have ey:y'=y:=by have:=f2 _ m3;rw[hy'] at this;exact (Option.some.inj this).symm
   subst ex ey;refine⟨.new hp _,x2.new hp,?_⟩;simp only[ze];exact⟨pp,_,rfl,zZ.of yZ,zq.ext (.new hp _) _ (.cons rx (.cons ry .nil))⟩
  .cases hd
 .have hl':(List.zipWith (λ x y=>D.tup [x,y]) xs ys).length<=i:=hl;rw[List.length_zipWith] at hl';omega
@[simp] noncomputable def kW:List T->Option (List T)
 | [x,y]=>(xU x).bind λ xs=>(xU y).map λ ys=>List.zipWith (λ a b=>T.tup [a,b]) xs ys
 | _=>none
theorem eZ {S:SS}:∀ {ts us:List T}{ds es:List D},zj S ts ds->zj S us es->zj S (List.zipWith (λ a b=>T.tup [a,b]) ts us) (List.zipWith (λ x y=>D.tup [x,y]) ds es)
 | [],us,ds,es,h,h'=>by simp only[zj] at h;subst h;simpa using zj.nil
 | t::ts,[],ds,es,h,h'=>by simp only[zj] at h';subst h';simpa using zj.nil
 | t::ts,u::us,ds,es,h,h'=>by
  simp only[zj] at h h';obtain⟨c,cs,rfl,h1,h2⟩:=h;obtain⟨c',cs',rfl,h3,h4⟩:=h';exact zj.cons (qS (zj.cons h1 (zj.cons h3 zj.nil))) (eZ h2 h4)
theorem zT.sx {S S':SS}{d:D}{ds:List D}(h:zT d S=some ds) (s:Sx S S'):zT d S'=some ds:=by
 unfold zT at h ⊢;split at h
 .exact h
 .exact h
 .split at h
  .rename_i q;cases h;rw[s _ _ q]
  .cases h
 .cases h
theorem Uv {g:Ev->Option (List T)}(h:rH g tA):rG false (vZ kW g) (b7 tA):=λ S Z δ ρ ts Q hE e hq=>by
 obtain⟨ys,e1,e2⟩:=zOb e;refine h S Z δ ρ ys _ hE e1 λ ds S1 s1 r1=>?_;unfold kW at e2;split at e2
 .obtain⟨xs,e3,e4⟩:=zOb e2;obtain⟨zs,e5,rfl⟩:=zOm e4;obtain⟨d,d',rfl,h1,h2⟩:=ez r1;obtain⟨es,g1,g2⟩:=h1.seq e3;obtain⟨es',g3,g4⟩:=h2.seq e5;exact⟨d,d',es,es',rfl,g1,g3,hq _ S1 s1 (eZ g2 g4) λ S'' s=>⟨zT.sx g1 s,zT.sx g3 s⟩⟩
 .cases e2
theorem zT.zQ {S:SS}{Z:Addr->Prop}{y:T}{d:D}{ts:List T}(h:Sn (zQ S Z) y d) (e:xU y=some ts):∃ ds,zT d (zQ S Z)=some ds/\zj (zQ S Z) ts ds:=by
 cases y with
 | tup us=>cases e;simp only[Sn] at h;obtain⟨ds,rfl,h2⟩:=h;exact⟨ds,rfl,h2⟩
 | lst us=>
  cases e;simp only[Sn] at h;obtain⟨ds,⟨rfl,_⟩ | ⟨a,rfl,h1⟩,h2⟩:=h
  .exact⟨ds,rfl,h2⟩
  .exact⟨ds,by unfold zT;dsimp only;rw[h1],h2⟩
 | zh=>cases e
 | bl _=>cases e
 | int _=>cases e
 | str _=>cases e
 | zU=>cases e
end
end L5
namespace HT
open PySem PyProof.Rows
section
variable {prog:Program}{w:World}{A:Around}{E:Value->Shared->Prop}{s:Shared}
end
end HT
namespace L2
open PySem PySem.Spec PyProof.Rows
section
variable {X:Cx}
end
end L2
namespace L5
open PySem PySem.Spec L2 L3
open PyProof.Rows hiding St
section
variable {X:Cx}{K:PySem.W.Frag}{e:Expr}{lo hi:Option Expr}{te:zy}{tl th:Option zy}{pos p2:Pos}
end
end L5
namespace TM
open PySem PyProof.Rows
set_option maxRecDepth 100000
theorem noFill:fillsNumberSlot (.type "tuple") "mul"=pure false:=
 PySem.fillsNumberSlot_seq (id:="tuple.__mul__") (r:=some (.builtin "tuple.__rmul__")) F.slot_tuple_mul.lookup (by decide +kernel) F.slot_tuple_rmul.lookup (by decide +kernel)
theorem rep:seqRepeat? (.type "tuple")=pure (some (.builtin "tuple.__mul__")):=by
 have a:=PySem.seqSlot_of (T:="tuple") (name:="__mul__") (id:="tuple.__mul__") F.slot_tuple_mul.lookup (by decide +kernel);have b:=PySem.seqSlot_of (T:="tuple") (name:="__rmul__") (id:="tuple.__rmul__") F.slot_tuple_rmul.lookup (by decide +kernel);unfold seqRepeat?;rw[a,b];rfl
theorem declines (i:Int) (t:Tok) (l:Addr) (items:Array Value) (n:Nat) (dd:Option Addr) (sl:Array (Option Value)):
  Meets (Builtin.«int.__rmul__» ⟨[.int i t,.ref l],[]⟩) (λ _ R s=>s.heap.get? l=some { cls:=.type "tuple",dict:=dd,data:=.seq items n,slots:=sl }/\R (.ok (.ret Value.notImplemented)) s):=
 .of_wp λ prog w A R s h=>by
  obtain⟨hp,g,d,tk,os⟩:=s;obtain⟨hl,h⟩:=h
  wp_walk
  exact⟨_,rfl,h⟩
theorem gA {α:Type}(xs:List α):∀ (m:Nat) (acc:Array α),(List.replicate m xs.toArray).foldl (·++·) acc=acc++(List.replicate m xs).flatten.toArray
 | 0,acc=>by simp
 | m+1,acc=>by
  rw[List.replicate_succ,List.foldl_cons,gA xs m,List.replicate_succ,List.flatten_cons,Array.append_assoc];simp
theorem Tu (k:Int) (t:Tok) (l:Addr) (items:Array Value) (n:Nat) (dd:Option Addr) (sl:Array (Option Value)) (h1:¬ (decide (k < -(2 ^ 63))||decide (k≥2 ^ 63))=true) (h2:¬ (items.isEmpty||k == 1)=true) (h3:¬ (decide (k<=0)||items.isEmpty)=true)
  (h4:¬ (items.size*k>(2 ^ 63-1)/8)) (h5:¬ Builtin.Tuple.tupleTooMany (items.size*k)=true) (h6:((List.replicate k.toNat items).foldl (·++·) #[]).size<=sizeLine):
  Meets (Builtin.«tuple.__mul__» ⟨[.ref l,.int k t],[]⟩) (λ _ R s=>s.heap.get? l=some { cls:=.type "tuple",dict:=dd,data:=.seq items n,slots:=sl }/\
   R (.ok (.ret (.ref s.heap.objs.size))) { s with heap:=s.heap.push { cls:=.type "tuple",data:=.seq ((List.replicate k.toNat items).foldl (·++·) #[]) } }):=
 .of_wp λ prog w A R s h=>by
  obtain⟨hp,g,d,tk,os⟩:=s;obtain⟨hl,h⟩:=h;have e0:IsTup (Shared.heap ⟨hp,g,d,tk,os⟩) l items:=⟨_,hl,rfl,n,rfl⟩
  wp_walk
  rw[if_neg h1];refine zWb (m:=Builtin.Tuple.tupleItemsOf (.ref l)) (tupleItemsOf_ e0 ?_);dsimp only;rw[if_neg h2,if_neg h3,if_neg h4,if_neg h5];exact zWb (m:=Builtin.Tuple.tupleExact _) (wpAny_newObj_type (wpAny_pure ⟨_,rfl,h⟩) h6)
theorem Tv (t:Tok) (l:Addr) (items:Array Value) (n:Nat) (dd:Option Addr) (sl:Array (Option Value)):
  Meets (Builtin.«tuple.__mul__» ⟨[.ref l,.int 1 t],[]⟩) (λ _ R s=>s.heap.get? l=some { cls:=.type "tuple",dict:=dd,data:=.seq items n,slots:=sl }/\R (.ok (.ret (.ref l))) s):=
 .of_wp λ prog w A R s h=>by
  obtain⟨hp,g,d,tk,os⟩:=s;obtain⟨hl,h⟩:=h;have c:(items.isEmpty||(1:Int) == 1)=true:=by simp
  wp_walk
  exact⟨_,rfl,h⟩
section
variable {prog:Program}{w:World}{A:Around}{E:Value->Shared->Prop}{s:Shared}
theorem times {l:Addr}{its:List Value}{k:Int}{t:Tok}{Q:Value->Shared->Prop}(ht:IsTup s.heap l its.toArray) (hne:its≠[]) (h0:1<=k) (hz:its.length*k.toNat<=sizeLine)
  (one:k=1->Q (.ref l) s) (more:k≠1->Q (.ref s.heap.objs.size) { s with heap:=s.heap.push { cls:=.type "tuple",data:=.seq (List.replicate k.toNat its).flatten.toArray } }):
  wpAny (model prog w) A (binaryOp .Mult (.ref l) (.int k t)) Q E s:=by
 have hT:=ht.typeIs;obtain⟨⟨cls,dd,data,sl⟩,ho,hc,n,hd⟩:=id ht;simp only at hc hd;subst hc hd;refine wpAny_binaryOp_repeat_ref (T:="tuple") (U:="int") (by decide) hT (λ s'=>typeIs_int s' k t) noFill F.fills_int_mul F.slot_int_rmul rep F.slot_int_index.lookup
  (call_meets F.slot_int_rmul (typeIs_int s k t) F.entry_int_rmul (F.args_int_rmul_2 _ _) (declines k t l its.toArray n dd sl) ⟨ho,rfl,hT,?_⟩)
 have hlen:0<its.length:=List.length_pos_iff.mpr hne;have hem:its.toArray.isEmpty=false:=by cases its with
  | nil=>exact absurd rfl hne
  | cons a r=>rfl
 by_cases h1:k=1
 .subst h1;exact call_meets F.slot_tuple_mul hT F.entry_tuple_mul (F.args_tuple_mul_2 _ _) (Tv t l its.toArray n dd sl) ⟨ho,one rfl⟩
 .have hks:k.toNat<=sizeLine:=Nat.le_trans (Nat.le_mul_of_pos_left _ hlen) hz;have hl:sizeLine=16777216:=rfl;have hk2:k<=16777216:=by omega
  have hcast:((its.toArray.size:Nat):Int)*k=((its.length*k.toNat:Nat):Int):=by
   rw[List.size_toArray,Int.natCast_mul,Int.toNat_of_nonneg (by omega)]
  have hf:(List.replicate k.toNat its.toArray).foldl (·++·) #[]=(List.replicate k.toNat its).flatten.toArray:=by rw[gA];simp
  have hfl:(List.replicate k.toNat its).flatten.length=k.toNat*its.length:=by simp
  refine call_meets F.slot_tuple_mul hT F.entry_tuple_mul (F.args_tuple_mul_2 _ _) (Tu k t l its.toArray n dd sl ?_ ?_ ?_ ?_ ?_ ?_) ⟨ho,?_⟩
  .simp only[Bool.or_eq_true,decide_eq_true_eq,not_or];exact⟨by omega,by omega⟩
  .rw[hem];simpa using h1
  .rw[hem];simp;omega
  .rw[hcast];omega
  .rw[hcast];intro q;unfold Builtin.Tuple.tupleTooMany at q;have:=of_decide_eq_true q;omega
  .rw[hf,List.size_toArray,hfl,Nat.mul_comm];exact hz
  .rw[hf];exact more h1
end
end TM
namespace L2
open PySem PySem.Spec PyProof.Rows
def jM (K:PySem.W.Frag):R2:=λ x y H Q=>∃ a k xs,x=.ref a/\y=.int k/\zZ K H a xs/\xs≠[]/\1<=k/\xs.length*k.toNat<=sizeLine/\(k=1->Q (.ref a) H)/\(k≠1->∀ p,H p=none->Q (.ref p) (upd H p (.tup (List.replicate k.toNat xs).flatten)))
theorem VW {X:Cx}:yq X (binaryOp .Mult) (jM X.K):=by
 intro pins s σ H x y v u Q I rx ry h;obtain⟨a,k,xs,rfl,rfl,hx,hne,h1,hz,q1,q2⟩:=h;cases rx;obtain⟨t,rfl⟩:=ry;obtain⟨its,r,ht,_⟩:=I.tuple hx;have hl:=r.length;refine TM.times ht (λ z=>hne (r.oI.mp z)) h1 (by rw[<- hl];exact hz) (λ e=>⟨.ref a,H,I,rfl,q1 e⟩) λ e=>?_;have hlen:(List.replicate k.toNat xs).flatten.length<=sizeLine:=by
  have:(List.replicate k.toNat xs).flatten.length=k.toNat*xs.length:=by simp
  rw[this,Nat.mul_comm];exact hz
 exact⟨.ref _,_,I.laid (t':=s.toks) (o:=.tup (List.replicate k.toNat xs).flatten) (λ b ob q=>zHp _ q) (Nat.le_refl _) ⟨hlen,_,r.rep k.toNat,IsTup.new _ _⟩,rfl,q2 e _ (I.zB.fresh (Nat.le_refl _))⟩
end L2
namespace L5
open PySem PySem.Spec L2 L3
open PyProof.Rows hiding St
section
variable {X:Cx}{K:PySem.W.Frag}{a b:Expr}{ta tb:zy}{pos:Pos}
def tf:yP:=λ x y S Q=>match x,y with
 | .int i,.int j=>uL i j/\Q (.int (i*j)) S
 | .tup ds,.int k=>(ds≠[]/\1<=k/\ds.length*k.toNat<=sizeLine)/\Q (.tup (List.replicate k.toNat ds).flatten) S
 | _,_=>False
noncomputable def iC:T->T->Option T
 | .int i,.int j=>if uL i j then some (.int (i*j)) else none
 | .tup ts,.int k=>if ts≠[]/\1<=k/\ts.length*k.toNat<=sizeLine then some (.tup (List.replicate k.toNat ts).flatten) else none
 | _,_=>none
theorem tf.mo:xI tf:=λ x y S Q Q' hq h=>by
 unfold tf at h ⊢;split at h
 .exact⟨h.1,hq _ _ h.2⟩
 .exact⟨h.1,hq _ _ h.2⟩
 .exact h.elim
theorem zq.rep {H:Hp}{ds:List D}{xs:List V}(h:zq K H ds xs):∀ n:Nat,zq K H (List.replicate n ds).flatten (List.replicate n xs).flatten
 | 0=>.nil
 | n+1=>by
  rw[List.replicate_succ,List.replicate_succ,List.flatten_cons,List.flatten_cons];exact h.append (zq.rep h n)
theorem tf.fits:xC K tf (λ x y H Q=>rI uL (λ i j=>.int (i*j)) x y H Q\/jM K x y H Q):=λ x y d e H S Q h1 h2 h3 h=>by
 unfold tf at h;split at h
 .simp only[ze] at h1 h2;exact .inl ⟨_,_,h1,h2,h.1,h.2 _ H (by simp only[ze]) (.refl H) h3⟩
 .rename_i ds k;obtain⟨⟨c1,c2,c3⟩,h⟩:=h;have h1':=h1;simp only[ze] at h1 h2;obtain⟨a,xs,rfl,g1,g2⟩:=h1;have hl:=g2.length;refine .inr ⟨a,k,xs,rfl,h2,g1,λ z=>c1 (by subst z;cases ds with | nil=>rfl | cons _ _=>simp at hl),c2,by rw[<- hl];exact c3,λ e=>?_,λ e p hp=>?_⟩
  .subst e;refine h _ H ?_ (.refl H) h3;have:(List.replicate (1:Int).toNat ds).flatten=ds:=by simp
   rw[this];exact h1'
  .refine h _ _ ?_ (.new hp _) (h3.new hp);simp only[ze];exact⟨p,_,rfl,zZ.of yZ,zq.ext (.new hp _) _ (zq.rep g2 _)⟩
 .exact h.elim
theorem zj.rep {S:SS}{ts:List T}{ds:List D}(h:zj S ts ds):∀ n:Nat,zj S (List.replicate n ts).flatten (List.replicate n ds).flatten
 | 0=>.nil
 | n+1=>by
  rw[List.replicate_succ,List.replicate_succ,List.flatten_cons,List.flatten_cons];exact h.append (zj.rep h n)
theorem Rl:Good2 zW iC tf:=λ S Z x y z d e Q hz hx hy ef hq=>by
 unfold iC at ef;split at ef
 .split at ef
  .rename_i hc;cases ef;cases hx.int;cases hy.int;exact⟨hc,hq _ S (.refl S) (Cl.of (λ _=>nofun) vA)⟩
  .cases ef
 .split at ef
  .rename_i hc;cases ef;obtain⟨ds,rfl,h2⟩:=hx.tup;cases hy.int;have hl:=h2.len;exact⟨⟨λ q=>hc.1 (by subst q;simpa using hl.symm),hc.2.1,by rw[hl];exact hc.2.2⟩,hq _ S (.refl S) (Cl.of (λ _=>nofun) (qS (zj.rep h2 _)))⟩
  .cases ef
 .cases ef
end
end L5
namespace L4
open PySem PyProof.Rows
section
variable {prog:Program}{w:World}{A:Around}{E:Value->Shared->Prop}{s:Shared}
theorem Qq {l:Addr}{vs:List Value}{Q:List Value->Shared->Prop}(hl:IsTup s.heap l vs.toArray) (hz:vs.length<=sizeLine)
  (h:Q vs { s with heap:=(s.heap.push (seqObj "list" #[] 0)).update s.heap.objs.size (Obj.mapSeq (·++vs.toArray)) }):wpAny (model prog w) A (collect (.ref l)) Q E s:=by
 obtain⟨o,ho,hc,n,hd⟩:=id hl;have new:(s.heap.push (seqObj "list" #[] 0)).get? s.heap.objs.size=some (seqObj "list" #[] 0):=Heap.get?_push_size _ rfl;have ho':(s.heap.push (seqObj "list" #[] 0)).get? l=some o:=zHp _ ho;unfold collect;refine zWb (wpAny_runValue (codeAny_builtin entry_proto_collect' (zWb (m:=newList []) (wpAny_newList (wpAny_pure ⟨Code.quiet_builtin _ (by decide +kernel),codeAny_builtin entry_list_iadd' ?_⟩)))));show wpAny _ _ (Builtin.List.listExtendWith (.ref s.heap.objs.size) (.ref l) (.ref s.heap.objs.size)) _ _ { s with heap:=s.heap.push (seqObj "list" #[] 0) };unfold Builtin.List.listExtendWith;refine zWb (wpAny_typeOf (T:="tuple") ⟨o,ho',hc⟩ ?_);rw[if_pos (by rw[show (Value.type "tuple" == Value.type "tuple")=true from rfl];simp)];refine zWb (listItems_at ho' hd (zWb (listItems_at (xs:=#[]) (n:=0) new rfl ?_)));rw[if_neg (by simp)];refine zWb (listUpdate_at (xs:=#[]) (n:=0) new rfl (wpAny_pure ?_) (Nat.zero_le _) (by show (#[]++vs.toArray).size<=sizeLine+1;simp only[Array.size_append,List.size_toArray,List.length_nil];omega));refine zWb (m:=load s.heap.objs.size) (wpAny_load (get?_update_seq new _) ?_);show wpAny _ _ (pure ((#[]:Array Value)++vs.toArray).toList) Q E _;have e:((#[]:Array Value)++vs.toArray).toList=vs:=by simp
 rw[e];exact wpAny_pure h
theorem X6 {l:Addr}{vs:List Value}{Q:Value->Shared->Prop}{Out:Array Value->Prop}(hl:IsTup s.heap l vs.toArray) (hz:vs.length<=sizeLine)
  (core:2<=vs.length->∀ s6:Shared,(∀ b o,s.heap.get? b=some o->s6.heap.get? b=some o)->Core prog w A.in1.in1 E vs Out s6) (short:vs.length<2->Out vs.toArray)
  (fin:∀ out:Array Value,Out out->out.size=vs.length->Q (.ref (s.heap.objs.size+1)) { s with heap:=sortedAll s.heap vs out }):
  wpAny (model prog w) A (call (.builtin "sorted") [.ref l]) Q E s:=by
 let h1:=(s.heap.push (seqObj "list" #[] 0)).update s.heap.objs.size (Obj.mapSeq (·++vs.toArray))
 have sz:h1.objs.size=s.heap.objs.size+1:=by show (Heap.update _ _ _).objs.size=_;rw[Heap.size_update,size_push']
 have there:(h1.push (seqObj "list" vs.toArray 0)).get? (s.heap.objs.size+1)=some (seqObj "list" vs.toArray 0):=sz▸Heap.get?_push_size _ rfl;have keep:∀ b o,s.heap.get? b=some o->(h1.push (seqObj "list" vs.toArray 0)).get? b=some o:=λ b o q=>by
  refine zHp _ ?_;show (Heap.update _ _ _).get? b=_;rw[Heap.get?_update_ne _ _ _ _ (Nat.ne_of_lt (Heap.lt_size q))];exact zHp _ q
 refine Calls.call_function_entry kind_sorted plain_sorted entry_sorted (args_sorted1 _) ?_;unfold Builtin.«sorted»;refine zWb (m:=checkCount "sorted" 1 1 _) (wpAny_pure (zWb (Qq hl hz (zWb (wpAny_newList ?_ hz)))));show wpAny _ _ _ _ _ { s with heap:=h1.push (seqObj "list" vs.toArray 0) };rw[show (Heap.update (s.heap.push (seqObj "list" #[] 0)) s.heap.objs.size (Obj.mapSeq (·++vs.toArray))).objs.size=s.heap.objs.size+1 from sz];refine zWb (wpAny_holding (wpAny_call_entry slot_list_sort ⟨_,there,rfl⟩ entry_list_sort (iL there hz (λ h2 s6 k=>core h2 s6 λ b o q=>k b o (Nat.ne_of_lt (Nat.lt_succ_of_lt (Heap.lt_size q))) (keep b o q)) short λ out g1 g2=>⟨_,rfl,?_⟩) (args_list_sort _)));exact wpAny_pure ⟨_,rfl,fin out g1 g2⟩
end
section
open L2 PySem.Spec
variable {X:Cx}
theorem Q0:xg X (.builtin "sorted") (λ xs H Q=>∃ p ys,∃ rows:List (List Int),xs=[.ref p]/\zZ X.K H p ys/\Paired (λ v r=>r≠[]/\∃ b,v=V.ref b/\zZ X.K H b (r.map V.int)) ys rows/\rows.length<256/\
  ∀ (l:Addr) (idx:List Nat),H l=none->idx.Perm (List.range ys.length)->(idx.map λ i=>rows.getD i []).Pairwise (λ a b=>HT.lexLt b a=false)->Q (.ref l) (upd H l (.lst (idx.map λ i=>ys.getD i .zh)))):=by
 intro pins s σ H xs us Q I r h;obtain⟨p,ys,rows,rfl,hq,hr,h64,q⟩:=h;obtain⟨u,rfl,ru⟩:=vals1 r;cases ru;obtain⟨its,rv,pl,hz⟩:=I.tuple hq;have hl:=rv.length;have hlr:ys.length=rows.length:=Paired.length hr;have rows_at:∀ h6:Heap,(∀ b o,s.heap.get? b=some o->h6.get? b=some o)->q8 h6 its rows:=λ h6 k=>by
  refine ST.Paired.mk (by omega) λ i a b ha hb=>?_;have hi:i<ys.length:=by have:=(List.getElem?_eq_some_iff.mp hb).1;omega
  obtain⟨hne,c,hc,hsq⟩:=L4.Paired.at' hr (i:=i) hi V.zh ([]:List Int);obtain⟨u,e1,e2⟩:=rv.get (i:=i) (x:=ys.getD i V.zh) (by simp[hi]);rw[ha] at e1;cases e1;rw[hc] at e2;cases (show a=Value.ref c from e2);obtain⟨its2,rv2,⟨o,e,hcl,n,hd⟩,_⟩:=I.tuple hsq;have eb:rows.getD i []=b:=by simp[hb]
  rw[eb] at hne rv2;exact⟨hne,c,o,_,n,rfl,k _ _ e,hcl,hd,by simpa using intsAre_of rv2⟩
 refine X6 (Out:=nS its rows) pl (by rw[<- hl];exact hz) (λ h2 s6 k=>aW (rows_at _ k) h2 (by omega)) (λ h1=>?_) λ out ho hs=>?_
 .refine⟨List.range its.length,.refl _,?_,?_⟩
  .refine List.ext_getElem (by simp) λ i h1 h2=>?_;simp at h1;simp[h1]
  .rw[List.pairwise_map,List.pairwise_iff_getElem];intro i j hi hj hij;simp at hi hj;omega
 .obtain⟨idx,g1,g2,g3⟩:=ho;obtain⟨e,ho⟩:=sortedAll_at s.heap its out;have g1':idx.Perm (List.range ys.length):=by rw[hl];exact g1
  refine⟨.ref (s.heap.objs.size+1),_,I.laid (t':=s.toks) (o:=.lst (idx.map λ i=>ys.getD i .zh)) (λ b o q=>sortedAll_old q) (Nat.le_succ _) ?_,rfl,q _ idx (I.zB.fresh (Nat.le_succ _)) g1' g3⟩;refine⟨by rw[List.length_map,g1'.length_eq,List.length_range];exact hz,out.toList,e,?_,by simpa using ho⟩;rw[g2];refine ST.Paired.mk (by simp) λ j a b ha hb=>?_;rw[List.getElem?_map] at ha hb;obtain⟨i,hi,rfl⟩:=zOm ha;rw[hi] at hb;cases hb;have hil:i<ys.length:=by simpa using g1'.mem_iff.mp (List.mem_of_getElem? hi)
  obtain⟨u,e1,e2⟩:=rv.get (i:=i) (x:=ys.getD i V.zh) (by simp[hil]);have e3:its.getD i Value.none=u:=by simp[e1]
  show L2.RelV (ys.getD i V.zh) (its.getD i Value.none);rw[e3];exact e2
end
end L4
namespace L5
open PySem PySem.Spec L2 L3
open PyProof.Rows hiding St
section
variable {X:Cx}{K:PySem.W.Frag}{e:Expr}{es:List Expr}{tA:yt}{pos p pos2 p2:Pos}
def rf:xW:=λ ds S Q=>∃ d,∃ rows:List (List Int),ds=[d]/\zT d S=some (rows.map uS)/\rows.length<256/\(∀ r∈rows,r≠[])/\∀ l,S l=none->Q (.ref l) (ups S l (.lst ((L4.vk rows).map uS)))
noncomputable def qR:List T->Option T
 | [y]=>(xU y).bind λ ts=>(uQ ts).bind λ rs=>if rs.length<256/\∀ r∈rs,r≠[] then some (.lst ((L4.vk rs).map xJ)) else none
 | _=>none
theorem bR:uH zW qR rf:=λ S Z ys z ds Q hz hv e hq=>by
 unfold qR at e;split at e
 .obtain⟨d,rfl,h1⟩:=uO hv;obtain⟨ts,e0,e⟩:=zOb e;obtain⟨rs,e1,e2⟩:=zOb e;split at e2
  .rename_i hc;cases e2;cases du e1;obtain⟨es,h2,h3⟩:=h1.seq e0;cases mQ.mp h3;exact⟨d,rs,rfl,h2,hc.1,hc.2,λ l hl=>hq _ _ (.new hl _) (rR hz hl (mQ.mpr rfl))⟩
  .cases e2
 .cases e
theorem rf.mo:uG rf:=λ ds S Q Q' hq ⟨d,rows,h0,h1,h2,h3,h4⟩=>⟨d,rows,h0,h1,h2,h3,λ l hl=>hq _ _ (h4 l hl)⟩
abbrev dE (K:PySem.W.Frag) (sq:Hp->Addr->List V->Prop):List V->Hp->VK->Prop:=λ xs H Q=>∃ p ys,∃ rows:List (List Int),xs=[.ref p]/\sq H p ys/\Paired (λ v r=>r≠[]/\∃ b,v=V.ref b/\zZ K H b (r.map V.int)) ys rows/\rows.length<256/\
  ∀ (l:Addr) (idx:List Nat),H l=none->idx.Perm (List.range ys.length)->(idx.map λ i=>rows.getD i []).Pairwise (λ a b=>HT.lexLt b a=false)->Q (.ref l) (upd H l (.lst (idx.map λ i=>ys.getD i .zh)))
theorem xg.or {f:Value}{r r':List V->Hp->VK->Prop}(h:xg X f r) (h':xg X f r'):xg X f (λ xs H Q=>r xs H Q\/r' xs H Q):=λ pins s σ H xs us Q I rv q=>
 q.elim (λ q=>h pins s σ H xs us Q I rv q) λ q=>h' pins s σ H xs us Q I rv q
theorem rf.fits:sr K rf (λ xs H Q=>dE K (zV K) xs H Q\/dE K (zZ K) xs H Q):=λ xs ds H S Q h0 h2 h=>by
 obtain⟨d,rows,rfl,e,h64,hne,h⟩:=h;obtain⟨x,hx,h1⟩:=h0.one;subst hx;obtain⟨a,ys,rfl,g1,g2⟩:=zT.sq h1 h2 e;have hl:=g2.length;rw[List.length_map] at hl;have key:∀ (l:Addr) (idx:List Nat),H l=none->idx.Perm (List.range ys.length)->(idx.map λ i=>rows.getD i []).Pairwise (λ a b=>HT.lexLt b a=false)->Q (.ref l) (upd H l (.lst (idx.map λ i=>ys.getD i .zh))):=λ l idx hf hp hs=>by
  rw[<- hl] at hp;have heq:=L4.X9 (T9 hp) hs;have hx:Ext H (upd H l (.lst (idx.map λ i=>ys.getD i .zh))):=.new hf _;refine h l (h2.none hf) _ _ (by simp only[ze]) hx (h2.ups hx ⟨_,yZ,?_⟩);rw[<- heq];exact zq.ext hx _ (g2.perm λ i hi=>by simpa using hp.mem_iff.mp hi)
 rcases g1 with g1 | g1
 .exact .inl ⟨_,ys,rows,rfl,g1,jG g2 hne,h64,key⟩
 .exact .inr ⟨_,ys,rows,rfl,g1,jG g2 hne,h64,key⟩
theorem cx (hm:X.mg "sorted"=none) (ha:xQ X (e::es) tA) (hg:Gl X "sorted":=by rfl) (he:starEach (e::es) X.env=(false,eval e X.env)::starEach es X.env:=by rfl) (hpl:(backTo pos (starEach es X.env)).any (·.1)=false:=by rfl):PD X (.Call (.Name "sorted" p) (e::es) [] pos) (xM rf tA):=
 tP (tN (xg.or L4.Q2 L4.Q0) hg hm boot_sorted ha.pa (by decide) (by decide) he hpl) rf.mo rf.fits ha.mo
end
end L5
namespace L2
open PySem PySem.Spec PyProof.Rows
section
variable {X:Cx}
def uo (r:Addr) (j:Int):Heap->Prop:=λ h=>∃ t u v,IsRange h r 0 j 1 t u v
theorem Q5:xg X (.type "range") (λ xs H Q=>∃ j,xs=[.int j]/\∀ r,H r=none->Q (.ref r) (upd H r (.ext (uo r j)))):=by
 intro pins s σ H xs us Q I r h;obtain⟨j,rfl,q⟩:=h;obtain⟨u,rfl,ru⟩:=vals1 r;obtain⟨t,rfl⟩:=ru;refine call_range_1 ⟨.ref s.heap.objs.size,_,I.laid (o:=.ext (uo s.heap.objs.size j)) (λ b o e=>zHp _ e) (Nat.le_refl _) ?_,rfl,q _ (I.zB.fresh (Nat.le_refl _))⟩;have here:uo s.heap.objs.size j (s.heap.push { cls:=.type "range",data:=.fields #[.int 0 s.toks,.int j t,.int 1 (s.toks+1)] }):=⟨_,_,_,IsRange.new ..⟩
 refine⟨here,⟨_,Heap.get?_push_size _ rfl⟩,λ h1 h2 S k=>?_⟩;obtain⟨a,b,c,e⟩:=S;exact⟨a,b,c,k _ e⟩
theorem Q9 (hc:X.calm=true):xg X (.type "list") (λ xs H Q=>∃ r j,xs=[.ref r]/\H r=some (.ext (uo r j))/\0<=j/\j<=16777216/\∀ l,H l=none->Q (.ref l) (upd H l (.lst ((List.range j.toNat).map λ(k:Nat)=>V.int (k:Int))))):=by
 intro pins s σ H xs us Q I r h;obtain⟨a,j,rfl,hr,h0,h1,q⟩:=h;obtain⟨u,rfl,ru⟩:=vals1 r;cases ru;obtain⟨⟨t,u,v,hR⟩,-,-⟩:=(show xn X.prog X.w H s.heap a (.ext (uo a j)) from I.zB a _ hr)
 have hsz:Builtin.Range.rangeSize 0 j 1=((j.toNat:Nat):Int):=by rw[rangeSize_one];split <;> omega
 refine call_list_range (n:=j.toNat) (I.ok.hd hc) hR (small_one (by decide) (by decide) (by omega) (by omega)) hsz (by omega) λ h' tk acc c k e hi=>?_;refine⟨.ref s.heap.objs.size,_,I.laid (o:=.lst ((List.range j.toNat).map λ(k:Nat)=>V.int (k:Int))) k (Nat.le_refl _) ⟨?_,acc.toList,c,?_,by simpa using e⟩,rfl,q _ (I.zB.fresh (Nat.le_refl _))⟩
 .have:sizeLine=16777216:=rfl;simp;omega
 .obtain⟨hn,hi⟩:=hi;refine ST.Paired.mk (by simp[hn]) λ i a b ha hb=>?_;rw[List.getElem?_map] at ha;obtain⟨k',hk,rfl⟩:=zOm ha;obtain⟨hk1,hk2⟩:=List.getElem?_eq_some_iff.mp hk;simp at hk2;subst hk2;obtain⟨w,hw⟩:=hi i b (by simpa using hb);subst hw;exact⟨w,by simp⟩
end
end L2
namespace L5
open PySem PySem.Spec L2 L3
open PyProof.Rows hiding St
section
variable {X:Cx}{K:PySem.W.Frag}{e:Expr}{tA:yt}{pos p pos2 p2:Pos}
def tX:xW:=λ ds S Q=>∃ j:Int,ds=[.int j]/\0<=j/\j<=16777216/\∀ l,S l=none->Q (.ref l) (ups S l (.lst (vD 0 j.toNat)))
noncomputable def oO:List T->Option T
 | [.int j]=>if 0<=j/\j<=16777216 then some (.lst (rangeT 0 j.toNat)) else none
 | _=>none
theorem Rm:uH zW oO tX:=λ S Z ys z ds Q hz hv e hq=>by
 unfold oO at e;split at e
 .obtain⟨d,rfl,h1⟩:=uO hv;split at e
  .rename_i hc;cases e;cases h1.int;exact⟨_,rfl,hc.1,hc.2,λ l hl=>hq _ _ (.new hl _) (rR hz hl (e_ _ _))⟩
  .cases e
 .cases e
theorem tX.mo:uG tX:=λ ds S Q Q' hq ⟨j,h0,h1,h2,h3⟩=>⟨j,h0,h1,h2,λ l hl=>hq _ _ (h3 l hl)⟩
theorem Wf {H:Hp}(n:Nat):zq K H (vD 0 n) ((List.range n).map λ(k:Nat)=>V.int (k:Int)):=by
 unfold vD
 induction List.range n with
 | nil=>exact .nil
 | cons k l ih=>exact .cons (by simp only[ze];rw[Int.zero_add]) ih
theorem tX.fits:sr K tX (λ xs H Q=>∃ j,xs=[.int j]/\∀ r,H r=none->∃ r' j',[V.ref r]=[.ref r']/\(upd H r (.ext (uo r j))) r'=some (.ext (uo r' j'))/\0<=j'/\j'<=16777216/\
  ∀ l,(upd H r (.ext (uo r j))) l=none->Q (.ref l) (upd (upd H r (.ext (uo r j))) l (.lst ((List.range j'.toNat).map λ(k:Nat)=>V.int (k:Int))))):=λ xs ds H S Q h0 h2 h=>by
 obtain⟨j,rfl,c1,c2,h⟩:=h;obtain⟨x,hx,h1⟩:=h0.one;subst hx;simp only[ze] at h1;subst h1;refine⟨j,rfl,λ r hr=>⟨r,j,rfl,yZ,c1,c2,λ l hl=>?_⟩⟩;have x1:Ext H (upd H r (.ext (uo r j))):=.new hr _;have hlr:l≠r:=λ z=>by subst z;rw[yZ] at hl;cases hl
 have hlH:H l=none:=by rw[yI hlr] at hl;exact hl
 have x2:Ext (upd H r (.ext (uo r j))) (upd (upd H r (.ext (uo r j))) l (.lst ((List.range j.toNat).map λ(k:Nat)=>V.int (k:Int)))):=.new hl _;exact h l (h2.none hlH) _ _ (by simp only[ze]) (x1.trans x2) ((h2.new hr).ups x2 ⟨_,yZ,Wf _⟩)
theorem VA (hm:X.mg "list"=none) (hm2:X.mg "range"=none) (ha:xQ X [e] tA) (hc:X.calm=true:=by rfl) (hg:Gl X "list":=by rfl) (hg2:Gl X "range":=by rfl)
  (he2:starEach [e] X.env=(false,eval e X.env)::starEach [] X.env:=by rfl)
  (he:starEach [.Call (.Name "range" p2) [e] [] pos2] X.env=(false,eval (.Call (.Name "range" p2) [e] [] pos2) X.env)::starEach [] X.env:=by rfl) (hpl:(backTo pos (starEach [] X.env)).any (·.1)=false:=by rfl) (hpl2:(backTo pos2 (starEach [] X.env)).any (·.1)=false:=by rfl):
  PD X (.Call (.Name "list" p) [.Call (.Name "range" p2) [e] [] pos2] [] pos) (xM tX tA):=by
 have h:=o9 (p:=p) (Q9 hc) hg hm PyProof.Rows.boot_list (qa (o9 Q5 hg2 hm2 boot_range ha.pa (by decide) (by decide) he2 hpl2) ph he) (by decide) (by decide) he hpl;exact⟨xM.mo tX.mo ha.mo,PE.imp h λ _ _ _ hu=>eK tX.mo tX.fits ha.mo hu⟩
end
end L5
namespace ST
open PySem PySem.SetTable PySem.Spec PyProof.Rows L2
theorem SV {us us':List Value}(p:us'.Perm us):∀ {ms:List Int},IntsAre us ms->∃ ms',IntsAre us' ms'/\ms'.Perm ms:=by
 induction p with
 | nil=>intro ms h;exact⟨ms,h,.refl _⟩
 | cons x _ ih=>
  intro ms h;cases h with
  | cons n t h=>
   obtain⟨ms',h1,h2⟩:=ih h;exact⟨n::ms',.cons n t h1,h2.cons n⟩
 | swap x y l=>
  intro ms h;cases h with
  | cons n t h=>
   cases h with
   | cons m u h=>exact⟨m::n::_,.cons m u (.cons n t h),.swap _ _ _⟩
 | trans _ _ ih1 ih2=>
  intro ms h;obtain⟨m1,h1,h2⟩:=ih2 h;obtain⟨m2,h3,h4⟩:=ih1 h1;exact⟨m2,h3,h4.trans h2⟩
theorem vP.at {prog:Program}{w:World}{h:Heap}{a:Addr}{xs:List (Int×Tok)}(S:vP prog w h a xs (sZ w)):wV w a (xs.map λ e=>Value.int e.1 e.2) h:=by
 obtain⟨⟨es,ep,t,ho,he,T,h1,h2,h3⟩,_⟩:=S;have hm:7<=t.mask/\t.mask<=127:=by rcases T.mask with e | e | e <;> omega
 have hlen:es.size=xs.length:=by have:=congrArg List.length he;simpa using this
 exact⟨es,ep,t,⟨ho,fits_of (n:=xs.length) hlen T (by simp) (by omega),T.vC,h1,h2⟩,by rw[he,List.map_map];rfl⟩
theorem bJ:∀ xs:List (Int×Tok),IntsAre (xs.map λ e=>Value.int e.1 e.2) (xs.map (·.1))
 | []=>.nil
 | e::xs=>.cons e.1 e.2 (bJ xs)
theorem e9:∀ {us:List Value}{ns:List Int},IntsAre us ns->Vals (ns.map V.int) us
 | _,_,.nil=>.nil
 | _,_,.cons n t h=>.cons ⟨t,rfl⟩ (e9 h)
section
variable {X:Cx}
theorem Q3 (hc:X.calm=true):xg X (.type "set") (λ xs H Q=>∃ p,∃ ns:List Int,xs=[.ref p]/\zV X.K H p (ns.map V.int)/\ns.length<64/\
  ∀ (l:Addr) (us:List Value) (ms:List Int),H l=none->IntsAre us ms->ms.Nodup->(∀ n,n∈ms↔n∈ns)->Q (.ref l) (upd H l (.ext (wV X.w l us)))):=by
 intro pins s σ H xs us Q I r h;obtain⟨p,ns,rfl,hq,h64,q⟩:=h;obtain⟨u,rfl,ru⟩:=vals1 r;cases ru;obtain⟨its,rv,pl,hz⟩:=I.list hq;have hl:=rv.length;rw[List.length_map] at hl;have iA:IntsAre its ns:=intsAre_of rv;have nums:Nums its.toArray ns:=λ i v hv=>by
  have hv':its[i]?=some v:=by simpa using hv
  have hi:i<ns.length:=by rw[hl];exact (List.getElem?_eq_some_iff.mp hv').1
  obtain⟨u,e1,t,e2⟩:=rv.get (i:=i) (x:=V.int ns[i]) (by simp[hi]);rw[hv'] at e1;cases e1;exact⟨ns[i],t,e2,by simp[hi]⟩
 have hh:X.A.handled=none:=I.ok.hd hc;refine Q4 (A:=X.A) hh pl.isList nums (by rw[List.size_toArray];omega) λ h' tk xs S U k=>?_;have kk:∀ b o,s.heap.get? b=some o->h'.get? b=some o:=λ b o e=>k b o (Heap.lt_size e) e;have hSO:=S.at;refine⟨.ref s.heap.objs.size,_,I.laid (t':=tk) (o:=.ext (wV X.w s.heap.objs.size (xs.map λ e=>Value.int e.1 e.2))) kk (Nat.le_refl _) ?_,rfl,q _ _ (xs.map (·.1)) (I.zB.fresh (Nat.le_refl _)) (bJ xs) S.nd λ n=>⟨λ hn=>?_,λ hn=>?_⟩⟩
 .obtain⟨es,ep,t,St,e⟩:=id hSO;exact⟨hSO,⟨_,St.get⟩,λ h1 h2 S1 k=>S1.sI k⟩
 .obtain⟨e,he,rfl⟩:=List.mem_map.mp hn;obtain⟨j,_,hj⟩:=U.own e he;exact List.mem_of_getElem? hj
 .obtain⟨j,hj⟩:=List.mem_iff_getElem?.mp hn;exact U.all j n (by have:=(List.getElem?_eq_some_iff.mp hj).1;rw[List.size_toArray];omega) hj
theorem Q1 (hc:X.calm=true):xg X (.builtin "sorted") (λ xs H Q=>∃ l us,∃ ms:List Int,xs=[.ref l]/\H l=some (.ext (wV X.w l us))/\IntsAre us ms/\ms.length<64/\
  ∀ (p:Addr) (ns:List Int),H p=none->ns.Perm ms->ns.Pairwise (·<=·)->Q (.ref p) (upd H p (.lst (ns.map V.int)))):=by
 intro pins s σ H xs us0 Q I r h;obtain⟨l,us,ms,rfl,hl,hm,h64,q⟩:=h;obtain⟨u,rfl,ru⟩:=vals1 r;cases ru;obtain⟨⟨es,ep,t,S,eu⟩,-,-⟩:=(show xn X.prog X.w H s.heap l (.ext (wV X.w l us)) from I.zB l _ hl)
 have hlen:es.size=us.length:=by rw[<- eu];simp
 have hml:=hm.length;have hh:X.A.handled=none:=I.ok.hd hc;have hp:((comes X.w l es ep).toList.map (·.2)).Perm us:=by rw[<- eu];exact (nJ X.w l es ep).map _
 obtain⟨ms',i1,i2⟩:=SV hp hm;have hcl:=hp.length_eq;have hl24:sizeLine=16777216:=rfl;refine X5 (Out:=λ out=>∃ ns',IntsAre out.toList ns'/\ns'.Perm ms'/\ns'.Pairwise (·<=·)) hh S (by rw[hlen,hml];omega) (λ s6 h2 k=>L4.Qn i1 (by rw[hcl,<- hlen];exact h2) (by rw[hcl,hml];exact h64)) (λ h1=>⟨ms',by simpa using i1,.refl _,?_⟩) λ out h' tk p ho hs hp' k hat=>?_
 .have:ms'.length<2:=by rw[<- i1.length,hcl,<- hlen];exact h1
  match ms',this with
  | [],_=>exact .nil
  | [_],_=>exact List.pairwise_singleton _ _
 .obtain⟨ns,g1,g2,g3⟩:=ho;obtain⟨e,he⟩:=hat;refine⟨.ref p,_,I.laid (t':=tk) (o:=.lst (ns.map V.int)) k hp' ?_,rfl,q p ns (I.zB.fresh hp') (g2.trans i2) g3⟩;exact⟨by rw[List.length_map,g2.length_eq,i2.length_eq];omega,out.toList,e,e9 g1,by simpa using he⟩
end
end ST
namespace L5
open PySem PySem.Spec L2 L3
open PyProof.Rows hiding St
noncomputable def insI (n:Int):List Int->List Int
 | []=>[n]
 | m::l=>if n<m then n::m::l else if n=m then m::l else m::insI n l
noncomputable def wY:List Int->List Int
 | []=>[]
 | n::ns=>insI n (wY ns)
theorem iE {n k:Int}:∀ {l:List Int},k∈insI n l↔k=n\/k∈l
 | []=>by simp[insI]
 | m::l=>by
  unfold insI;split
  .simp
  .split
   .rename_i h;subst h;simp
   .rw[List.mem_cons,iE,List.mem_cons];constructor
    .rintro (h | h | h)
     .exact .inr (.inl h)
     .exact .inl h
     .exact .inr (.inr h)
    .rintro (h | h | h)
     .exact .inr (.inl h)
     .exact .inl h
     .exact .inr (.inr h)
theorem lK {k:Int}:∀ {l:List Int},k∈wY l↔k∈l
 | []=>.rfl
 | n::l=>by unfold wY;rw[iE,lK,List.mem_cons]
theorem bM {n:Int}:∀ {l:List Int},l.Pairwise (· < ·)->(insI n l).Pairwise (· < ·)
 | [],_=>List.pairwise_singleton _ _
 | m::l,h=>by
  have h':=List.pairwise_cons.mp h;unfold insI;split
  .rename_i c;refine List.pairwise_cons.mpr ⟨λ x hx=>?_,h⟩;rcases List.mem_cons.mp hx with e | e
   .rw[e];exact c
   .exact Int.lt_trans c (h'.1 x e)
  .split
   .exact h
   .rename_i c1 c2;refine List.pairwise_cons.mpr ⟨λ x hx=>?_,bM h'.2⟩;rcases iE.mp hx with e | e
    .rw[e];omega
    .exact h'.1 x e
theorem eI:∀ l:List Int,(wY l).Pairwise (· < ·)
 | []=>.nil
 | n::l=>bM (eI l)
theorem YQ {l m:List Int}(h1:l.Nodup) (h2:l.Pairwise (·<=·)) (h3:m.Pairwise (· < ·)) (h:∀ k,k∈l↔k∈m):l=m:=by
 have nm:m.Nodup:=h3.imp λ h e=>by omega
 refine L4.jS (r:=λ a b:Int=>a<=b) (λ a b p q=>by omega) ((List.perm_ext_iff_of_nodup h1 nm).mpr h) h2 (h3.imp λ h=>by omega)
section
variable {X:Cx}{K:PySem.W.Frag}{e:Expr}{tA:yt}{pos pos2 p p2:Pos}
theorem Rz {w:World}{xs:List V}{H:Hp}{S:SS}{Q:VK}{d:D}{ns:List Int}(h0:zq K H [d] xs) (h2:zR K H S) (hn:∀ ts,d≠.tup ts) (e:zT d S=some (ns.map D.int)) (h64:ns.length<64) (h:∀ l,S l=none->wO K H Q (.ref l) (ups S l (.lst ((wY ns).map D.int)))):
  ∃ p,∃ ns':List Int,xs=[.ref p]/\zV K H p (ns'.map V.int)/\ns'.length<64/\
   ∀ (l:Addr) (us:List Value) (ms:List Int),H l=none->IntsAre us ms->ms.Nodup->(∀ n,n∈ms↔n∈ns')->
    ∃ l' us',∃ ms':List Int,[V.ref l]=[.ref l']/\(upd H l (.ext (ST.wV w l us))) l'=some (.ext (ST.wV w l' us'))/\IntsAre us' ms'/\ms'.length<64/\
     ∀ (p:Addr) (ns:List Int),(upd H l (.ext (ST.wV w l us))) p=none->ns.Perm ms'->ns.Pairwise (·<=·)->Q (.ref p) (upd (upd H l (.ext (ST.wV w l us))) p (.lst (ns.map V.int))):=by
 obtain⟨x,hx,h1⟩:=h0.one;subst hx;obtain⟨a,ys,rfl,g1,g2⟩:=qU h1 h2 e hn;rw[g2.ints] at g1;refine⟨a,ns,rfl,g1,h64,λ l us ms hf hi nd hmem=>⟨l,us,ms,rfl,yZ,hi,?_,λ p ns2 hp pm srt=>?_⟩⟩
 .have:=ST.i6 ms ns nd λ x hx=>(hmem x).mp hx;omega
 .have x1:Ext H (upd H l (.ext (ST.wV w l us))):=.new hf _;have hpl:p≠l:=λ z=>by subst z;rw[yZ] at hp;cases hp
  have hpH:H p=none:=by rw[yI hpl] at hp;exact hp
  have x2:Ext (upd H l (.ext (ST.wV w l us))) (upd (upd H l (.ext (ST.wV w l us))) p (.lst (ns2.map V.int))):=.new hp _;have heq:ns2=wY ns:=YQ (pm.nodup_iff.mpr nd) srt (eI ns) λ k=>by rw[pm.mem_iff,hmem,lK]
  refine h p (h2.none hpH) _ _ (by simp only[ze]) (x1.trans x2) ((h2.new hf).ups x2 ⟨_,yZ,?_⟩);rw[<- heq];exact zq.i4 ns2
end
end L5
namespace HT
open PySem PyProof.Rows
section
variable {prog:Program}{w:World}{A:Around}{E:Value->Shared->Prop}{s:Shared}
end
end HT
namespace L2
open PySem PySem.Spec PyProof.Rows
section
variable {X:Cx}{e st:Expr}{te:TE}{pos p2:Pos}
end
end L2
namespace L5
open PySem PySem.Spec L2 L3
open PyProof.Rows hiding St
section
variable {X:Cx}{K:PySem.W.Frag}{e st:Expr}{te:zy}{pos p2 p3 p4:Pos}
noncomputable def i5:Sm:=λ _=>none
def aI:yU:=λ _ _ _=>False
theorem cu {st:Stmt}:vw X st aI:=⟨λ _ _ _ _ _ h=>h.elim,λ _ _ _ _ _ _ ⟨_,_,_,_,h⟩=>h.elim⟩
theorem cE {R:Rk}:yW R i5 aI:=λ S0 Z0 S Z δ ρ o E F e P=>by cases e
end
end L5
namespace L5
open PySem L2 L3
theorem bS:Good2 zW qh kf:=oY (λ _ _ _=>wF) λ _ _ _=>nofun
end L5
namespace L5
open PySem PySem.Spec L2 L3
open PyProof.Rows hiding St
section
variable {X:Cx}{e:Expr}{te:zy}{pos p q:Pos}
end
end L5
namespace L3
open PySem PyProof.Rows L2
section
variable {X:Cx}{pos:Pos}
noncomputable def wE (E:rK) (W:Nat->yk->SS->Prop) (m:Nat):rK:={ E with nx:=fun δ' S'=>∃ m',m'<m/\W m' δ' S',ct:=fun δ' S'=>∃ m',m'<m/\W m' δ' S',bk:=E.nx }
def nC (c:yD) (tb:yU):yU:=λ E δ S=>∃ W:Nat->yk->SS->Prop,(∃ m,W m δ S)/\∀ m δ S,W m δ S->
 c δ S λ b S1=>if b=true then tb (wE E W m) δ S1 else E.nx δ S1
theorem nC.mo {c:yD}{tb:yU}(hc:wX c) (hb:tD tb):tD (nC c tb):=λ E E' δ S hE ⟨W,w0,ws⟩=>
 ⟨W,w0,λ m δ S hw=>hc δ S _ _ (λ b S1 z=>vf (λ z=>hb (wE E W m) (wE E' W m) δ S1 ⟨λ _ _ q=>q,hE.rt,hE.nx,λ _ _ q=>q⟩ z) (λ z=>hE.nx _ _ z) z) (ws m δ S hw)⟩
theorem lu {c:Expr}{body:List Stmt}{tc:yD}{tb:yU}(hp:PassesOwn (model X.prog X.w) X.A X.env X.xe) (hc:xP X c tc) (hb:ur X body tb):vw X (.While c body [] pos) (nC tc tb):=by
 refine⟨nC.mo hc.mo hb.mo,PS.imp (W4 hp hc.pt hb.ps) λ D σ H hu=>?_⟩;obtain⟨δ,S,r1,r2,W,⟨m0,w0⟩,ws⟩:=hu;refine⟨λ m σ' H'=>Ext H H'/\∃ δ S,yV X.K H' δ σ'/\zR X.K H' S/\W m δ S,⟨m0,.refl _,δ,S,r1,r2,w0⟩,?_⟩;rintro m σ2 H2 ⟨x2,δ2,S2,q1,q2,w2⟩;refine w9.go hc.mo q1 q2 (ws m δ2 S2 w2) λ k S3 H3 h3 e3 p3=>vf (λ z=>?_) (λ z=>?_) h3
 .refine⟨fun σ' H'=>Ext H H'/\∃ δ S m',m'<m/\yV X.K H' δ σ'/\zR X.K H' S/\W m' δ S,fun σ' H' ⟨a,δ',S',m',b,c,d,e⟩=>⟨m',b,a,δ',S',c,d,e⟩,δ2,S3,q1.ext e3,p3,?_⟩;exact hb.mo (wE (tq X.K H D) W m) _ δ2 S3 ⟨fun δ5 S5 ⟨m',b,w5⟩ σ5 H5 b1 b2 b3=>⟨(x2.trans e3).trans b2,δ5,S5,m',b,b1,b3,w5⟩,λ _ _ q=>wO.ext (x2.trans e3) q,λ _ _ q=>vh.ext (x2.trans e3) q,fun δ5 S5 ⟨m',b,w5⟩ σ5 H5 b1 b2 b3=>⟨(x2.trans e3).trans b2,δ5,S5,m',b,b1,b3,w5⟩⟩ z
 .exact z σ2 H3 (q1.ext e3) (x2.trans e3) p3
end
end L3
namespace L5
open PySem PyProof.Rows L2 L3
noncomputable def xl (is:List Nat) (c:Ev->Option Bool) (b:Sm):Nat->Ev->Option Out
 | 0,_=>none
 | n+1,ρ=>(c (yO is ρ)).bind λ k=>if k=true then (b (yO is ρ)).bind λ o=>match o with
   | .nx ρ2=>xl is c b n ρ2
   | .ct ρ2=>xl is c b n ρ2
   | .bk ρ2=>some (.nx (yO is ρ2))
   | .rt t=>some (.rt t)
  else some (.nx (yO is ρ))
noncomputable def uN (n:Nat) (is:List Nat) (c:Ev->Option Bool) (b:Sm):Sm:=xl is c b n
theorem lD {R:Rk} [Lo R] {n:Nat}{is:List Nat}{c:Ev->Option Bool}{tc:yD}{b:Sm}{tb:yU}(hc:vj c tc) (hb:yW R b tb):yW R (uN n is c b) (nC tc tb):=λ S0 Z0 S Z δ ρ o E F e P=>by
 obtain⟨SB,b1,FB,b2⟩:=F.rebase;have lo:∀ S' d y,R SB S' Z0 y d->R S0 S' Z0 y d:=λ S' d y r=>Lo.lo b1 (λ _ z=>z) r;refine⟨λ m δ' S'=>∃ Z' ρ',FR SB Z0 S' Z' δ' ρ'/\xl is c b m ρ'=some o,⟨n,Z,ρ,FB,e⟩,λ m δ' S' ⟨Z',ρ',F',e'⟩=>?_⟩;cases m with
 | zero=>cases e'
 | succ m=>
  unfold xl at e';obtain⟨k,c1,e'⟩:=zOb e';have G:=F'.yO is;refine hc S' Z' δ' _ k _ G.er c1 λ S3 s3=>?_;cases k with
  | true=>
   rw[if_pos rfl] at e' ⊢;obtain⟨o1,g2,e'⟩:=zOb e';refine hb SB Z0 S3 Z' δ' _ o1 _ (G.grow s3) g2 ?_;cases o1 with
   | nx ρ2=>exact λ S3 Z3 δ3 F3=>⟨m,Nat.lt_succ_self m,Z3,ρ2,F3,e'⟩
   | ct ρ2=>exact λ S3 Z3 δ3 F3=>⟨m,Nat.lt_succ_self m,Z3,ρ2,F3,e'⟩
   | bk ρ2=>cases e';exact λ S3 Z3 δ3 F3=>P S3 Z3 δ3 ((F3.yO is).back b1 F.z0)
   | rt y=>cases e';exact λ d S3 s3 r3=>P d S3 (b1.trans s3) (lo _ _ _ r3)
  | false=>
   rw[if_neg (by decide)] at e' ⊢;cases e';exact P S3 Z' δ' ((G.grow s3).back b1 F.z0)
end L5
namespace ZP
open PySem PyProof.Rows
set_option maxRecDepth 100000
theorem T7 (k:Bool) (l:Addr) (xs:Array Value):Meets (Builtin.«enumerate.__new__» ⟨[.type "enumerate",.ref l],[]⟩) (λ _ R s=>SQ s.heap k l xs/\
   R (.ok (.ret (.ref (s.heap.push (vG k l)).objs.size))) { s with heap:=(s.heap.push (vG k l)).push { cls:=.type "enumerate",data:=.fields #[.none,.bool false,.ref s.heap.objs.size,rawInt 0,.none,.none] } }):=
 .of_wp λ prog w A R s h=>by
  obtain⟨hp,g,d,tk,os⟩:=s;obtain⟨q,h⟩:=h;have hsub:=sub_enumerate;have hL:SQ (Shared.heap ⟨hp,g,d,tk,os⟩) k l xs:=q;obtain⟨⟨c,ye,dt,sl⟩,hl,hc⟩:=q.cls;replace hc:c=.type (cond k "tuple" "list"):=hc;subst hc
  wp_walk using AutoSeq1.wpAny_loadPart' hl
  refine wpAny_stack_any λ st=>wpAny_pure ?_;split
  .rename_i c _ _ _ _ _;cases (c == Value.type "enumerate")
   .wp_walk using AutoSeq1.wpAny_loadPart' hl,made hL
    exact⟨_,rfl,h⟩
   .wp_walk using AutoSeq1.wpAny_loadPart' hl,made hL
    exact⟨_,rfl,h⟩
  .wp_walk using AutoSeq1.wpAny_loadPart' hl,made hL
   exact⟨_,rfl,h⟩
section
variable {prog:Program}{w:World}{A:Around}{E:Value->Shared->Prop}{s:Shared}
theorem RH {k:Bool}{l:Addr}{xs:Array Value}{Q:Value->Shared->Prop}(hL:SQ s.heap k l xs)
  (h:∀ h',IsEnum h' (s.heap.objs.size+1) s.heap.objs.size 0 .none->SI h' k s.heap.objs.size l 0->(∀ b o,s.heap.get? b=some o->h'.get? b=some o)->Q (.ref (s.heap.objs.size+1)) { s with heap:=h' }):
  wpAny (model prog w) A (call (.type "enumerate") [.ref l]) Q E s:=by
 refine callType_new F.called_enumerate (by decide) (F.typeCall_enumerate_1 _) (F.newCall_enumerate_1 _) (λ obj=>F.args_object_init_2 obj _) F.entry_enumerate_new (T7 k l xs) ⟨hL,?_⟩;have hz:(s.heap.push (vG k l)).objs.size=s.heap.objs.size+1:=Heap.size_push ..;show _/\_;rw[hz];have he:IsEnum ((s.heap.push (vG k l)).push { cls:=.type "enumerate",data:=.fields #[.none,.bool false,.ref s.heap.objs.size,rawInt 0,.none,.none] }) (s.heap.objs.size+1) s.heap.objs.size 0 .none:=by
  have:=Heap.get?_push_size (s.heap.push (vG k l)) (o:={ cls:=.type "enumerate",data:=.fields #[.none,.bool false,.ref s.heap.objs.size,rawInt 0,.none,.none] }) rfl;rw[hz] at this;exact this
 exact⟨⟨_,he,rfl⟩,h _ he ⟨_,zHp _ (Heap.get?_push_size _ rfl),rfl,rfl⟩ λ b o x=>zHp _ (zHp _ x)⟩
theorem RU (hh:A.handled=none) (k:Bool) (it l:Addr) (hne:l≠it) (xs:Array Value):Draws prog w A it [it,l] xs.size (λ i v=>xs[i]?=some v) (λ i h=>SI h k it l i/\SQ h k l xs) where
 live:=λ _ _ st=>let ⟨o,ho,_⟩:=st.1;⟨o,ho⟩
 frame:=λ _ _ _ st hk=>⟨st.1.on λ o e=>hk it (by simp) o e,st.2.on λ o e=>hk l (by simp) o e⟩
 item:=λ i s Q E hi st hQ=>draw st.1 st.2 (x:=xs[i]) (by simp[hi]) λ h' hit' hs'=>hQ _ h' s.toks (by simp[hi]) ⟨hit',st.2.on λ o e=>(hs'.2 l hne).trans e⟩ hs'
 done:=λ s Q E st hE=>kl hh st.1 st.2 (by simp) hE
end
end ZP
namespace L2
open PySem PySem.Spec PyProof.Rows ZP
section
variable {X:Cx}{pins:List (Addr×Obj)}{σ:St}{H:Hp}{s:Shared}
def ZG (K:PySem.W.Frag) (k:Bool) (a:Addr):It:=
 ⟨λ i H=>∃ xs x,wu K H k a xs/\xs[i]?=some x,
   λ i H v H'=>∃ p x,v=.ref p/\H p=none/\H'=upd H p (.tup [.int i,x])/\∀ xs,wu K H k a xs->xs[i]?=some x,
   λ i H=>∃ xs,wu K H k a xs/\xs.length<=i⟩
theorem Xa {P:Program}{w:World}{K:PySem.W.Frag}{es:List Expr}{kk} {pos:Pos}{k:Bool}{e it a:Addr}(hei:e≠it) (hea:e≠a) (hai:a≠it):
  Turn P w K (.Tuple es kk pos) (ZG K k a) [e,it] e (λ i h=>(∃ old,IsEnum h e it i old)/\SI h k it a i) where
 mem:=by simp
 obj:=λ i h st b hb=>by
  obtain⟨⟨old,q1⟩,o1,q2,_,d1⟩:=st;simp only[List.mem_cons,List.not_mem_nil,or_false] at hb;rcases hb with e | e <;> subst e
  .exact⟨_,q1,λ v z=>by cases z⟩
  .exact⟨_,q2,λ v z=>by rw[d1] at z;cases z⟩
 keep:=λ i h h' st k=>⟨let ⟨old,q⟩:=st.1;⟨old,k e (by simp) _ q⟩,st.2.on λ o q=>k it (by simp) o q⟩
 item:=by
  intro X hP hw hK hc i pins s σ H E I hf st hg;subst hP hw hK;obtain⟨xs,x,g1,hx⟩:=hg;obtain⟨its,rv,q1⟩:=g1.of I;obtain⟨u1,e1,r1⟩:=rv.get hx;obtain⟨⟨old,he⟩,si⟩:=st;have hlt:i<its.toArray.size:=by have:=(List.getElem?_eq_some_iff.mp e1).1;simpa using this
  have D:=RU (prog:=X.prog) (w:=X.w) (A:=X.A.in1) (show X.A.in1.handled=none from I.ok.hd hc) k it a hai its.toArray;refine wpAny_pyNext_enum_itemD D he ⟨si,q1⟩ hlt hei (by simp[hei,hea]) λ u h' tk hP ho hs' hT hsz hk=>⟨_,rfl,?_⟩;have hu:u=u1:=by simp only[List.getElem?_toArray,e1] at hP;exact (Option.some.inj hP).symm
  subst hu;have nT:s.heap.objs.size∉[e,it]:=λ hb=>by
   simp only[List.mem_cons,List.not_mem_nil,or_false] at hb;obtain⟨oi,qi,_⟩:=si;rcases hb with z | z
   .exact absurd (Heap.lt_size he) (by rw[<- z];exact Nat.lt_irrefl _)
   .exact absurd (Heap.lt_size qi) (by rw[<- z];exact Nat.lt_irrefl _)
  have ne:s.heap.objs.size≠e:=λ z=>nT (by simp[z]);refine wpAny_letOwnedTupleGo_enum ho λ h2 he2 sb=>?_;have fr:H s.heap.objs.size=none:=I.zB.fresh (Nat.le_refl _);have I1:Inv X pins σ (upd H s.heap.objs.size (.tup [.int i,x])) { s with heap:=s.heap.push { cls:=.type "tuple",data:=.seq [.int i tk,u].toArray },toks:=s.toks }:=
   I.laid (o:=.tup [.int i,x]) (λ b u q=>zHp _ q) (Nat.le_refl _) ⟨by show 2<=sizeLine;decide,[.int i tk,u],.cons ⟨tk,rfl⟩ (.cons r1 .nil),IsTup.new _ _⟩
  have hf':∀ b∈[e,it],upd H s.heap.objs.size (.tup [.int i,x]) b=none:=λ b hb=>by
   rw[yI (λ z=>nT (by rw[<- z];exact hb))];exact (hf b hb).1
  have kk:∀ b o,b∉[e,it]->(s.heap.push { cls:=.type "tuple",data:=.seq [.int i tk,u].toArray }).get? b=some o->h2.get? b=some o:=λ b o hb q=>by
   have hbe:b≠e:=λ z=>hb (by simp[z]);have hbi:b≠it:=λ z=>hb (by simp[z]);by_cases hbs:b=s.heap.objs.size
   .subst hbs;rw[Heap.get?_push_size _ rfl] at q;cases q;exact sb.extBut _ _ hbe hT
   .have q':s.heap.get? b=some o:=by rw[Heap.get?_push_ne _ _ _ hbs] at q;exact q
    exact sb.extBut _ _ hbe (hk b o hbe hbi q')
  have I2:=Inv.mI (h':=h2) (t':=tk+1) (fp:=[e,it]) I1 kk λ b hb=>⟨hf' b hb,(hf b hb).2⟩;refine⟨.ref s.heap.objs.size,_,I2,rfl,⟨_,x,rfl,fr,rfl,λ zs hz=>by rw[hz.inj I g1];exact hx⟩,⟨⟨_,by simpa using he2⟩,hs'.1.on λ o q=>(sb.2 it (Ne.symm hei)).trans q⟩,hf'⟩
 done:=by
  intro X hP hw hK hc i pins s σ H E I hf st hg;subst hP hw hK;obtain⟨xs,g1,hx⟩:=hg;obtain⟨its,rv,q1⟩:=g1.of I;have l1:=rv.length;obtain⟨⟨old,he⟩,si⟩:=st;have hT:s.TypeIs (.ref e) "enumerate":=⟨_,he,rfl⟩
  unfold pyNext;refine zWb (wpAny_attempt (wpAny_callSpecial?_slot (name:=Str.ofString "__next__") hT F.slot_enumerate_next
   (wpAny_call_entry F.slot_enumerate_next hT F.entry_enumerate_next ?_ (F.args_enumerate_next_1 _))))
  show wpAny _ _ (field (.ref e) 2 >>= _) _ _ _;refine zWb (wpAny_field he rfl (x:=.ref it) rfl ?_);refine zWb (kl (show X.A.in1.handled=none from I.ok.hd hc) si q1 (by simp;omega) λ h' x he' hx'=>?_);obtain⟨o,ho,hc⟩:=hx';refine zWb (wpAny_isInstance (T:="StopIteration") (b:=true) ⟨o,ho,hc⟩ isSubtype_stop ?_);exact wpAny_pure ⟨rfl,I.mI (t':=s.toks) (fp:=[e,it]) (λ b o hb q=>he' b o (λ z=>hb (by simp[z])) q) hf⟩
 self:=λ _ _ _ _ _ st h=>let ⟨_,q⟩:=st.1;wpAny_pyIter_enum q h
def Ra (K:PySem.W.Frag) (ta:TA):TI:=fun σ H R=>ta σ H λ vs H1=>∃ a k,vs=[.ref a]/\(∃ xs,wu K H1 k a xs)/\R (ZG K k a) H1
theorem WL {a:Expr}{ta:TA}{p pos pos':Pos}{es:List Expr}{kk} (hg:Gl X "enumerate") (hm:X.mg "enumerate"=none) (ha:PA X [a] ta) (hs:starEach [a] X.env=[(false,eval a X.env)]:=by rfl):
  PI X (.Tuple es kk pos') (.Call (.Name "enumerate" p) [a] [] pos) (Ra X.K ta):=by
 intro pins s σ H R I h;refine Call_ (p9 I hg hm boot_enumerate (PyProof.Rows.callWith_type1 (zK (ha pos pins s σ H _ I h) λ us s1 ⟨vs,H1,I1,r1,q1⟩=>?_) (by rw[hs];rfl) rfl));obtain⟨a1,k,rfl,⟨xs,g1⟩,q⟩:=q1;cases r1 with
 | cons r rr=>
  cases rr;cases r;obtain⟨it1,_,q1⟩:=g1.of I1;have la:=q1.lt;refine ZP.RH q1 λ h' E S up=>wpAny_pyIter_enum E ?_;have nw:∀ b∈[s1.heap.objs.size+1,s1.heap.objs.size],s1.heap.objs.size<=b:=λ b hb=>by
   simp only[List.mem_cons,List.not_mem_nil,or_false] at hb;rcases hb with z | z <;> rw[z]
   .exact Nat.le_succ _
   .exact Nat.le_refl _
  exact⟨_,[s1.heap.objs.size+1,s1.heap.objs.size],_,_,H1,rfl,I1.kept (t':=s1.toks) up,Xa (Nat.succ_ne_self _) (Nat.ne_of_gt (Nat.lt_succ_of_lt la)) (Nat.ne_of_lt la),⟨⟨_,E⟩,S⟩,λ b hb=>I1.ka (nw b hb) (I1.zB.fresh (nw b hb)),q⟩
end
end L2
namespace L5
open PySem PySem.Spec L2 L3
open PyProof.Rows hiding St
noncomputable def tp (k:Nat):List D->List D
 | []=>[]
 | d::ds=>.tup [.int k,d]::tp (k+1) ds
noncomputable def tY (k:Nat):List T->List T
 | []=>[]
 | d::ds=>.tup [.int k,d]::tY (k+1) ds
theorem av:∀ (ds:List D) (k i:Nat),(tp k ds)[i]?=(ds[i]?).map λ d=>D.tup [.int ((k+i:Nat):Int),d]
 | [],k,i=>by simp[tp]
 | d::ds,k,0=>by simp[tp]
 | d::ds,k,i+1=>by
  unfold tp;rw[List.getElem?_cons_succ,List.getElem?_cons_succ,av ds (k+1) i,show k+1+i=k+(i+1) from by omega]
theorem au:∀ (ds:List D) (k:Nat),(tp k ds).length=ds.length
 | [],k=>rfl
 | d::ds,k=>by unfold tp;rw[List.length_cons,au ds];rfl
theorem jn {S:SS}:∀ {ts:List T}{ds:List D}(k:Nat),zj S ts ds->zj S (tY k ts) (tp k ds)
 | [],ds,k,h=>by simp only[zj] at h;subst h;exact zj.nil
 | t::ts,ds,k,h=>by
  simp only[zj] at h;obtain⟨c,cs,rfl,h1,h2⟩:=h;exact zj.cons (qS (zj.cons (by simp only[Sn]) (zj.cons h1 zj.nil))) (jn (k+1) h2)
section
variable {X:Cx}{K:PySem.W.Frag}{a:Expr}{tA:yt}{pos p pos':Pos}{es:List Expr}{kk:Nat}
def iV (t:yt):wQ:=fun δ S R=>t δ S λ ds S1=>∃ d xs,ds=[d]/\zT d S1=some xs/\R ⟨tp 0 xs,λ S=>zT d S=some xs⟩ S1
theorem jX (hm:X.mg "enumerate"=none) (ha:xQ X [a] tA) (hg:Gl X "enumerate":=by rfl) (hs:starEach [a] X.env=[(false,eval a X.env)]:=by rfl):
  rF X (.Tuple es kk pos') (.Call (.Name "enumerate" p) [a] [] pos) (iV tA):=by
 refine⟨fun δ S Q Q' hq z=>ha.mo δ S _ _ (λ ds S1 ⟨d,xs,h1,h2,h4⟩=>⟨d,xs,h1,h2,hq _ _ h4⟩) z,PI.imp (WL hg hm ha.pa hs) fun σ H R hu=>?_⟩;obtain⟨δ,S,r1,r2,z⟩:=hu;refine wD.go ha.mo r1 r2 z λ ds S1 vs H1 h1 q1 e1 p1=>?_;obtain⟨d,xs,rfl,s1,h⟩:=h1;obtain⟨v,rfl,d1⟩:=q1.one;obtain⟨a1,us,rfl,g1,g2⟩:=zT.k d1 p1 s1;refine⟨a1,oP d,rfl,⟨us,g1⟩,h _ H1 e1 p1 λ i H2 S2 x1 x2 hk=>?_⟩;obtain⟨b1,us2,q1,m1,m2⟩:=zT.k (ze.ext x1 d d1) x2 hk;cases q1;have l1:=m2.length;refine⟨λ dd hd=>?_,λ hl=>⟨us2,m1,?_⟩⟩
 .rw[av,Nat.zero_add] at hd;obtain⟨dx,hx,rfl⟩:=zOm hd;obtain⟨x,hx',rx⟩:=m2.get hx;refine⟨⟨us2,x,m1,hx'⟩,λ v H' q=>?_⟩;obtain⟨pp,x',rfl,hp,rfl,f1⟩:=q;have ex:x'=x:=by have:=f1 _ m1;rw[hx'] at this;exact (Option.some.inj this).symm
  subst ex;refine⟨.new hp _,x2.new hp,?_⟩;simp only[ze];exact⟨pp,_,rfl,zZ.of yZ,zq.ext (.new hp _) _ (.cons (by simp only[ze]) (.cons rx .nil))⟩
 .have hl':(tp 0 xs).length<=i:=hl;rw[au] at hl';omega
@[simp] noncomputable def vN:List T->Option (List T)
 | [x]=>(xU x).map λ xs=>tY 0 xs
 | _=>none
theorem cH {g:Ev->Option (List T)}(h:rH g tA):rG false (vZ vN g) (iV tA):=λ S Z δ ρ ts Q hE e hq=>by
 obtain⟨ys,e1,e2⟩:=zOb e;refine h S Z δ ρ ys _ hE e1 λ ds S1 s1 r1=>?_;unfold vN at e2;split at e2
 .obtain⟨xs,e3,rfl⟩:=zOm e2;obtain⟨d,rfl,h1⟩:=uO r1;obtain⟨es,g1,g2⟩:=h1.seq e3;exact⟨d,es,rfl,g1,hq _ S1 s1 (jn 0 g2) λ S'' s=>zT.sx g1 s⟩
 .cases e2
theorem Uw {g:Ev->Option (List T)}(h:qB g tA):rG true (vZ vN g) (iV tA):=λ S Z δ ρ ts Q hE e hq=>by
 obtain⟨ys,e1,e2⟩:=zOb e;refine h S Z δ ρ ys _ hE e1 λ ds S1 s1 r1=>?_;unfold vN at e2;split at e2
 .obtain⟨xs,e3,rfl⟩:=zOm e2;simp only[zj] at r1;obtain⟨d,_,rfl,h1,rfl⟩:=r1;obtain⟨es,g1,g2⟩:=zT.zQ h1 e3;exact⟨d,es,rfl,zT.sx g1 (oV S1 Z),hq _ S1 s1 (jn 0 g2) λ S'' s=>zT.sx g1 s⟩
 .cases e2
end
end L5
namespace TM
open PySem PyProof.Rows
set_option maxRecDepth 100000
theorem Qc (i:Int) (t:Tok) (l:Addr) (items:Array Value) (n:Nat) (dd:Option Addr) (sl:Array (Option Value)):
  Meets (Builtin.«int.__rmul__» ⟨[.int i t,.ref l],[]⟩) (λ _ R s=>s.heap.get? l=some { cls:=.type "list",dict:=dd,data:=.seq items n,slots:=sl }/\R (.ok (.ret Value.notImplemented)) s):=
 .of_wp λ prog w A R s h=>by
  obtain⟨hp,g,d,tk,os⟩:=s;obtain⟨hl,h⟩:=h
  wp_walk
  exact⟨_,rfl,h⟩
theorem mulL (l:Addr) (items:Array Value) (n:Nat) (x:Int) (u:Tok) (dd:Option Addr) (sl:Array (Option Value)) (hc0:¬(!Builtin.List.listFitsIndex x)=true) (hc1:¬items.size*x.toNat>(2 ^ 63-1)/8) (hc2:¬Builtin.List.listTooLong (items.size*x.toNat)=true):
  Meets (Builtin.«list.__mul__» ⟨[.ref l,.int x u],[]⟩) (λ _ R s=>s.heap.get? l=some { cls:=.type "list",dict:=dd,data:=.seq items n,slots:=sl }/\R (.ok (.ret (Value.ref s.heap.objs.size))) { s with heap:=s.heap.push { cls:=.type "list",data:=.seq (List.foldl (λ x1 x2=>x1++x2) #[] (List.replicate (if items.isEmpty=true then 0 else x.toNat) items)) } }):=
 .of_wp λ prog w A R s h=>by
  obtain⟨hp,g,d,tk,os⟩:=s;obtain⟨hl,h⟩:=h;have hsz:=AutoListH.joined_fits hc2
  wp_walk;refine wpAny_ite_false (decide_eq_false (Nat.not_lt.mpr hsz)) ?_;wp_walk;exact⟨_,rfl,h⟩
section
variable {prog:Program}{w:World}{A:Around}{E:Value->Shared->Prop}{s:Shared}
theorem Xf {l:Addr}{its:List Value}{k:Int}{t:Tok}{Q:Value->Shared->Prop}(ht:PlainL s.heap l its.toArray) (hne:its≠[]) (h0:0<=k) (hz:its.length*k.toNat<=sizeLine)  (hk:k<=1000000)
  (more:Q (.ref s.heap.objs.size) { s with heap:=s.heap.push { cls:=.type "list",data:=.seq (List.replicate k.toNat its).flatten.toArray } }):
  wpAny (model prog w) A (binaryOp .Mult (.ref l) (.int k t)) Q E s:=by
 obtain⟨⟨cls,dd,data,sl⟩,n,ho,hc,he,hd⟩:=id ht;simp only at hc hd he;subst hc hd he;have hl:sizeLine=16777216:=rfl;have hem:its.toArray.isEmpty=false:=by cases its with
  | nil=>exact absurd rfl hne
  | cons a r=>rfl
 have hf:List.foldl (λ x1 x2=>x1++x2) #[] (List.replicate (if its.toArray.isEmpty=true then 0 else k.toNat) its.toArray)=(List.replicate k.toNat its).flatten.toArray:=by
  rw[hem,if_neg (by decide)];have:=gA its k.toNat #[];simpa using this
 refine wpAny_binaryOp_repeat_ref (T:="list") (U:="int") (by decide) ⟨_,ho,rfl⟩ (λ s'=>typeIs_int s' k t) noFill_list_mul F.fills_int_mul F.slot_int_rmul repeat_list F.slot_int_index.lookup
  (call_meets F.slot_int_rmul (typeIs_int s k t) F.entry_int_rmul (F.args_int_rmul_2 _ _) (Qc k t l its.toArray n none sl)
   ⟨ho,rfl,⟨_,ho,rfl⟩,call_meets F.slot_list_mul ⟨_,ho,rfl⟩ F.entry_list_mul (F.args_list_mul_2 _ _)
    (mulL l its.toArray n k t none sl (by simp[Builtin.List.listFitsIndex];omega) (by simp;omega) (by simp[Builtin.List.listTooLong];omega)) ⟨ho,?_⟩⟩)
 rw[hf];exact more
end
end TM
namespace L2
open PySem PySem.Spec PyProof.Rows
def jN (K:PySem.W.Frag):R2:=λ x y H Q=>∃ a k xs,x=.ref a/\y=.int k/\zV K H a xs/\xs≠[]/\0<=k/\k<=1000000/\xs.length*k.toNat<=sizeLine/\∀ p,H p=none->Q (.ref p) (upd H p (.lst (List.replicate k.toNat xs).flatten))
theorem VX {X:Cx}:yq X (binaryOp .Mult) (jN X.K):=by
 intro pins s σ H x y v u Q I rx ry h;obtain⟨a,k,xs,rfl,rfl,hx,hne,h1,h2,hz,q⟩:=h;cases rx;obtain⟨t,rfl⟩:=ry;obtain⟨its,r,ht,_⟩:=I.list hx;have hl:=r.length;refine TM.Xf ht (λ z=>hne (r.oI.mp z)) h1 (by rw[<- hl];exact hz) h2 ?_;have hlen:(List.replicate k.toNat xs).flatten.length<=sizeLine:=by
  have:(List.replicate k.toNat xs).flatten.length=k.toNat*xs.length:=by simp
  rw[this,Nat.mul_comm];exact hz
 exact⟨.ref _,_,I.laid (t':=s.toks) (o:=.lst (List.replicate k.toNat xs).flatten) (λ b ob q=>zHp _ q) (Nat.le_refl _) ⟨hlen,_,0,r.rep k.toNat,Heap.get?_push_size _ rfl⟩,rfl,q _ (I.zB.fresh (Nat.le_refl _))⟩
end L2
namespace L5
open PySem PySem.Spec L2 L3
open PyProof.Rows hiding St
section
variable {X:Cx}{K:PySem.W.Frag}{a b:Expr}{ta tb:zy}{pos:Pos}
noncomputable def SF:D->Bool
 | .tup _=>true
 | _=>false
def ke:yP:=λ x y S Q=>∃ k ds,y=.int k/\SF x=false/\zT x S=some ds/\(ds≠[]/\0<=k/\k<=1000000/\ds.length*k.toNat<=sizeLine)/\∀ p,S p=none->Q (.ref p) (ups S p (.lst (List.replicate k.toNat ds).flatten))
def rg:yP:=λ x y S Q=>tf x y S Q\/ke x y S Q
noncomputable def uA:T->T->Option T
 | .lst ts,.int k=>if ts≠[]/\0<=k/\k<=1000000/\ts.length*k.toNat<=sizeLine then some (.lst (List.replicate k.toNat ts).flatten) else none
 | x,y=>iC x y
theorem rg.mo:xI rg:=λ x y S Q Q' hq h=>by
 rcases h with h | ⟨k,ds,h1,h2,h3,h4,h5⟩
 .exact .inl (tf.mo x y S Q Q' hq h)
 .exact .inr ⟨k,ds,h1,h2,h3,h4,λ p hp=>hq _ _ (h5 p hp)⟩
theorem ke.fits:xC K ke (jN K):=λ x y d e H S Q h1 h2 h3 h=>by
 obtain⟨k,ds,rfl,ht,hs,⟨c1,c2,c3,c4⟩,h⟩:=h;simp only[ze] at h2;obtain⟨a,xs,rfl,g1,g2⟩:=qU h1 h3 hs λ ts z=>by subst z;cases ht
 have hl:=g2.length;refine⟨a,k,xs,rfl,h2,g1,λ z=>c1 (by subst z;cases ds with | nil=>rfl | cons _ _=>simp at hl),c2,c3,by rw[<- hl];exact c4,λ p hp=>?_⟩;exact h p (h3.none hp) _ _ (by simp only[ze]) (.new hp _) (h3.ups (.new hp _) ⟨_,yZ,zq.ext (.new hp _) _ (zq.rep g2 _)⟩)
theorem rg.fits:xC K rg (λ x y H Q=>(rI uL (λ i j=>.int (i*j)) x y H Q\/jM K x y H Q)\/jN K x y H Q):=λ x y d e H S Q h1 h2 h3 h=>by
 rcases h with h | h
 .exact .inl (tf.fits x y d e H S Q h1 h2 h3 h)
 .exact .inr (ke.fits x y d e H S Q h1 h2 h3 h)
theorem gf:Good2 zW uA rg:=λ S Z x y z d e Q hz hx hy ef hq=>by
 unfold uA at ef;split at ef
 .rename_i ts k;split at ef
  .rename_i hc;cases ef;obtain⟨ds,g1,g2⟩:=hx.seq (ts:=ts) rfl;cases hy.int;have hl:=g2.len;refine .inr ⟨_,ds,rfl,?_,g1,⟨λ q=>hc.1 (by subst q;simpa using hl.symm),hc.2.1,hc.2.2.1,by rw[hl];exact hc.2.2.2⟩,λ p hp=>hq _ _ (.new hp _) (rR hz hp (zj.rep g2 _))⟩;cases d with
   | tup es=>exact absurd hx (by
     intro q;rcases q with q | ⟨us,p,es',_,q,_⟩
     .simp only[Sn] at q;obtain⟨_,⟨q,_⟩ | ⟨_,q,_⟩,_⟩:=q <;> cases q
     .cases q)
   | _=>rfl
  .cases ef
 .exact .inl (Rl S Z x y z d e Q hz hx hy ef hq)
theorem ic (ha:PD X a ta) (hb:PD X b tb):PD X (.BinOp a .Mult b pos) (yx rg ta tb):=q_ ((VY.or VW).or VX) rg.fits rg.mo ha hb
end
end L5
namespace L3
open PySem PySem.Spec PyProof.Rows L2
section
variable {X:Cx}{K:PySem.W.Frag}{e o:Expr}{te to:zy}{apos cpos:Pos}
def rm (to te:zy):zy:=fun δ S Q=>to δ S λ x S1=>match x with
 | .ref p=>(∃ ds,S1 p=some (.lst ds))/\te δ S1 λ y S2=>∃ q ds es,y=.ref q/\S2 p=some (.lst ds)/\S2 q=some (.lst es)/\ds.length+es.length<=sizeLine/\Q .zh (ups S2 p (.lst (ds++es)))
 | _=>False
theorem rm.mo (h:ym to) (h':ym te):ym (rm to te):=fun δ S Q Q' hq z=>h δ S _ _ (λ x S1 z=>by
 cases x with
 | ref p=>exact⟨z.1,h' δ S1 _ _ (λ y S2 ⟨q,ds,es,a,b,c,d,w⟩=>⟨q,ds,es,a,b,c,d,hq _ _ w⟩) z.2⟩
 | _=>exact z) z
theorem VE {e0:Expr}(hpe:PE X e0 (ji X.K "list" dM (zS X.K to) (jh (zS X.K te) jf))) (h:ym to) (h':ym te):PD X e0 (rm to te):=by
 refine⟨rm.mo h h',PE.imp hpe fun σ H Q hu=>?_⟩;obtain⟨δ,S,r1,r2,z⟩:=hu;refine zS.go h r1 r2 z λ x S1 v H1 h1 q1 e1 p1=>?_;cases x with
 | ref p=>
  obtain⟨⟨ds,hd⟩,h1⟩:=h1;simp only[ze] at q1;subst q1;obtain⟨xs,g1,g2⟩:=p1 _ _ hd;refine⟨.inl ⟨rfl,xs,zV.of g1⟩,?_⟩;refine zS.go h' (r1.ext e1) p1 h1 λ y S2 w H2 h2 q2 e2 p2=>?_;obtain⟨q,ds',es,rfl,b1,b2,b3,b4⟩:=h2;simp only[ze] at q2;subst q2;obtain⟨xs',g3,g4⟩:=p2 _ _ b1;obtain⟨ys',g5,g6⟩:=p2 _ _ b2;refine⟨p,q,xs',ys',rfl,rfl,g3,g5,by rw[<- g4.length,<- g6.length];exact b3,?_⟩;have e4:Ext H2 (upd H2 p (.lst (xs'++ys'))):=.lst g3 _;exact b4 _ _ (by simp only[ze]) ((e1.trans e2).trans e4) (p2.ups e4 ⟨_,yZ,zq.ext e4 _ (g4.append g6)⟩)
 | zh=>exact h1.elim
 | bl _=>exact h1.elim
 | int _=>exact h1.elim
 | str _=>exact h1.elim
 | tup _=>exact h1.elim
 | yK _=>exact h1.elim
theorem V9 (ho:PD X o to) (he:PD X e te)
  (hbase:attributeBase o "extend" X.env (eval o X.env)=eval o X.env:=by rfl)
  (hfew:((backTo cpos (starEach [e] X.env)).all (λ x=>!x.1)&&(backToKw cpos (keywordEach [] X.env)).all (λ x=>x.1.isSome)
   && decide ([e].length+([]:List Keyword).length+(if ([]:List Keyword).isEmpty then 0 else 1)<30))=true:=by rfl)
  (hline:(apos.endLine == cpos.line)=true:=by rfl) (hs:starEach [e] X.env=(false,eval e X.env)::starEach [] X.env:=by rfl) (hplain:(backTo cpos (starEach [] X.env)).any (·.1)=false:=by rfl):
  PD X (.Call (.Attribute o "extend" apos) [e] [] cpos) (rm to te):=
 VE (cn PySem.F.plainAttrs_list PySem.F.slot_list_extend PySem.F.type_list_extend Tz ho.pe (qa he.pe ph hs) hbase hfew hline hs hplain) ho.mo he.mo
end
end L3
namespace L5
open PySem L2 L3
@[simp] noncomputable def gE (i:Nat) (f:Ev->Option T):Sm:=fun ρ=>match ρ[i]? with
 | some (some (.own (.lst ts)))=>(f ρ).bind λ y=>match y with
  | .lst us=>if ts.length+us.length<=sizeLine then some (.nx (ρ.set i (some (.own (.lst (ts++us)))))) else none
  | _=>none
 | _=>none
section
variable {R:Rk}{f:Ev->Option T}{te:zy}
theorem Us (i:Nat) (hf:xx f te):yW R (gE i f) (ko (rm (yC i) te)):=λ S0 Z0 S Z δ ρ o E F e P=>by
 unfold gE at e;split at e
 .rename_i ts h;obtain⟨y,e1,e2⟩:=zOb e;split at e2
  .rename_i us;split at e2
   .rename_i hl;cases e2;obtain⟨p,ob,h1,h2,h3,h4⟩:=F.er.ow i _ h;obtain⟨ds,rfl⟩:∃ ds,ob=.lst ds:=by
     cases ob with
     | lst ds=>exact⟨ds,rfl⟩
     | ye _=>exact h3.elim
    replace h3:zj (zQ S Z) ts ds:=h3;show rm (yC i) te δ S _;unfold rm yC;rw[h1];refine⟨⟨ds,h2⟩,hf S Z δ ρ _ _ F.er e1 λ d S1 s1 r1=>?_⟩;obtain⟨q,es,rfl,g1,g2,g3⟩:=r1.2 us rfl;have F1:=F.grow s1;have g4:zj (zQ S1 Z) us es:=zj.sx (ua λ a z=>.inl z) us g3;refine⟨q,ds,es,rfl,s1 _ _ h2,g2,by rw[h3.len,g4.len];exact hl,P _ Z δ (F1.mut (us:=.lst (ts++us)) (es:=.lst (ds++es)) i h h1 ((zj.sx (wM s1) ts h3).append g4))⟩
   .cases e2
  .cases e2
 .cases e
end
end L5
namespace L5
open PySem PySem.Spec L2 L3
open PyProof.Rows hiding St
section
variable {X:Cx}{K:PySem.W.Frag}{e:Expr}{es:List Expr}{tA:yt}{pos p:Pos}
end
end L5
namespace L2
open PySem PySem.Spec PyProof.Rows
section
variable {X:Cx}{e st:Expr}{te ts:TE}{pos p2:Pos}
end
end L2
namespace L5
open PySem PySem.Spec L2 L3
open PyProof.Rows hiding St
section
variable {X:Cx}{K:PySem.W.Frag}{e st:Expr}{te ts:zy}{pos p2:Pos}
end
end L5
namespace L5
section
variable {α:Type}{P:List α->Prop}
theorem qy (h:∀ a,P [a]) (us:List α) (hl:us.length=1):P us:=match us,hl with | [a],_=>h a
theorem t7 (h:∀ a b,P [a,b]) (us:List α) (hl:us.length=2):P us:=match us,hl with | [a,b],_=>h a b
theorem rB (h:∀ a b c,P [a,b,c]) (us:List α) (hl:us.length=3):P us:=match us,hl with | [a,b,c],_=>h a b c
theorem QV (h:∀ a b c d,P [a,b,c,d]) (us:List α) (hl:us.length=4):P us:=match us,hl with | [a,b,c,d],_=>h a b c d
theorem QU (h:∀ a b c d e,P [a,b,c,d,e]) (us:List α) (hl:us.length=5):P us:=match us,hl with | [a,b,c,d,e],_=>h a b c d e
theorem ar6 (h:∀ a b c d e f,P [a,b,c,d,e,f]) (us:List α) (hl:us.length=6):P us:=match us,hl with | [a,b,c,d,e,f],_=>h a b c d e f
theorem ar7 (h:∀ a b c d e f g,P [a,b,c,d,e,f,g]) (us:List α) (hl:us.length=7):P us:=match us,hl with | [a,b,c,d,e,f,g],_=>h a b c d e f g
theorem ar8 (h:∀ a b c d e f g i,P [a,b,c,d,e,f,g,i]) (us:List α) (hl:us.length=8):P us:=match us,hl with | [a,b,c,d,e,f,g,i],_=>h a b c d e f g i
end
end L5
namespace L5
open PySem PySem.Spec L2 L3
open PyProof.Rows hiding St
section
variable {P:Program}{w:World}{K:PySem.W.Frag}{mg:Str->Option Value}{base h:Heap}{x:Str}{st:Stmt}
def Fx (K:PySem.W.Frag) (x:Str) (st:Stmt):Prop:=∃ (f:Addr) (oc:Value) (od:Option Addr) (kV dc pm:Value) (an:Option Addr) (cd ct:Value) (sl:Array (Option Value)),
 PySem.W.nsIn K mainGlobals x=some (some (.ref f))/\K.lookup f=some ⟨oc,od,.func (PySem.W.fnOf x x (tZ st) (vt st) (zO st) .none kV dc pm an cd ct),sl⟩/\PySem.W.codeIn K cd x=true/\PySem.W.keepIn K (.ref f)=true
theorem Fx.i {f:Addr}{oc:Value}{od:Option Addr}{kV dc pm:Value}{an:Option Addr}{cd ct:Value}{sl:Array (Option Value)}(a:PySem.W.nsIn K mainGlobals x=some (some (.ref f))) (l:K.lookup f=some ⟨oc,od,.func (PySem.W.fnOf x x (tZ st) (vt st) (zO st) .none kV dc pm an cd ct),sl⟩) (c:PySem.W.codeIn K cd x=true) (k:PySem.W.keepIn K (.ref f)=true):Fx K x st:=⟨f,oc,od,kV,dc,pm,an,cd,ct,sl,a,l,c,k⟩
def Fy (K:PySem.W.Frag) (mg:Str->Option Value) (x:Str) (st:Stmt):Prop:=∃ (f:Addr) (fd:FuncData),uI K x x st f fd/\mg x=some (.ref f)
theorem Fx.mk (H:Fx K x st) (X:K.In h) (G:h.Ns mainGlobals mg):Fy K mg x st:=by
 obtain⟨f,oc,od,kV,dc,pm,an,cd,ct,sl,a,l,c,k⟩:=H;exact⟨f,_,b_ l c k,PySem.W.mg_of X G a⟩
theorem Fx.law {fa:Addr}{p:Str}(H:Fx K "law" st) (X:K.In h) (G:h.Ns mainGlobals mg) (hfa:mg "law"=some (.ref fa)) (hb:∀ (kV dc pm:Value) (an:Option Addr) (cd ct:Value) (s:Shared) (v:Value),BindsTo s (PySem.W.fnOf "law" "law" (tZ st) (vt st) (zO st) .none kV dc pm an cd ct) ⟨[v],[]⟩ [(p,v)]):∃ fd:FuncData,uI K "law" "law" st fa fd/\∀ (s:Shared) (v:Value),BindsTo s fd ⟨[v],[]⟩ [(p,v)]:=by
 obtain⟨f,oc,od,kV,dc,pm,an,cd,ct,sl,a,l,c,k⟩:=H;have e:=hfa.symm.trans (PySem.W.mg_of X G a);cases e;exact⟨_,b_ l c k,hb kV dc pm an cd ct⟩
def Cn (K:PySem.W.Frag) (x:Str) (t:V):Prop:=∃ u,PySem.W.nsIn K mainGlobals x=some (some u)/\L2.RelV t u
theorem Cn.i {t:V}{u:Value}(a:PySem.W.nsIn K mainGlobals x=some (some u)) (r:L2.RelV t u):Cn K x t:=⟨u,a,r⟩
theorem Cn.mk {t:V}(H:Cn K x t) (X:K.In h) (G:h.Ns mainGlobals mg):∃ u,mg x=some u/\L2.RelV t u:=by
 obtain⟨u,a,r⟩:=H;exact⟨u,PySem.W.mg_of X G a,r⟩
theorem xa {R:Rk} [Lo R] {N ps:List Str}{k n:Nat}{g:Sm}(F:Fy K mg x st) (Sc:yz N ps (zO st)) (hn:n=ps.length)
  (hb:∀ (kV doc pm:Value) (an:Option Addr) (cdv ct:Value) (us:List Value),us.length=ps.length->bindArgs (PySem.W.fnOf x x (tZ st) (vt st) (zO st) .none kV doc pm an cdv ct) ⟨us,[]⟩=pure (ps.zip us))
  (hbody:∀ (f:Addr) (cdv:Value) (A:Around) (outer:List Env) (s:Shared) (H:Hp) (E:XK),y8 k (A.deeper (envOfC x (zO st) s.heap.objs.size f cdv))->
   ∃ t,ur (tu vz P w K mg base N x (zO st) f cdv A outer s H E).sP (vt st) t/\yW R g t):FD P w K mg base x (k+1) ps (yc R (yw N n g)):=by
 obtain⟨f,fd,F,hm⟩:=F;exact R7 F hm Sc hn hb (hbody f)
end
end L5
namespace L5
open PySem PySem.Spec L2 L3
open PyProof.Rows hiding St
section
variable {X:Cx}{K:PySem.W.Frag}{e:Expr}{tA:yt}{pos pos2 p p2:Pos}
def o_:xW:=λ ds S Q=>∃ d,∃ ns:List Int,ds=[d]/\(∀ ts,d≠.tup ts)/\zT d S=some (ns.map D.int)/\ns.length<64/\∀ l,S l=none->Q (.ref l) (ups S l (.lst ((wY ns).map D.int)))
noncomputable def mP:List T->Option T
 | [.lst ts]=>match uW ts with
  | some ns=>if ns.length<64 then some (.lst ((wY ns).map T.int)) else none
  | none=>none
 | _=>none
theorem Rj:uH zW mP o_:=λ S Z ys z ds Q hz hv e hq=>by
 unfold mP at e;split at e
 .split at e
  .rename_i ns hns;split at e
   .rename_i hc;cases e;cases oT hns;obtain⟨d,rfl,h1⟩:=uO hv;obtain⟨es,h2,h3⟩:=h1.seq rfl;cases tK.mp h3;refine⟨d,ns,rfl,?_,h2,hc,λ l hl=>hq _ _ (.new hl _) (rR hz hl (tK.mpr rfl))⟩;obtain⟨_,q | ⟨a,q,_⟩,_⟩:=h1.lst <;> subst q <;> exact λ _=>nofun
   .cases e
  .cases e
 .cases e
theorem o_.mo:uG o_:=λ ds S Q Q' hq ⟨d,ns,h1,h2,h3,h4,h5⟩=>⟨d,ns,h1,h2,h3,h4,λ l hl=>hq _ _ (h5 l hl)⟩
theorem V6 {k:Nat}(hr:y8 k X.A) (hm:X.mg "sorted"=none) (hm2:X.mg "set"=none) (ha:xQ X [e] tA) (hc:X.calm=true:=by rfl) (hg:Gl X "sorted":=by rfl) (hg2:Gl X "set":=by rfl)
  (he2:starEach [e] X.env=(false,eval e X.env)::starEach [] X.env:=by rfl)
  (he:starEach [.Call (.Name "set" p2) [e] [] pos2] X.env=(false,eval (.Call (.Name "set" p2) [e] [] pos2) X.env)::starEach [] X.env:=by rfl) (hpl:(backTo pos (starEach [] X.env)).any (·.1)=false:=by rfl) (hpl2:(backTo pos2 (starEach [] X.env)).any (·.1)=false:=by rfl):
  PD X (.Call (.Name "sorted" p) [.Call (.Name "set" p2) [e] [] pos2] [] pos) (xM o_ tA):=by
 have h:=tN (p:=p) (ST.Q1 hc) hg hm boot_sorted (qa (o9 (ST.Q3 hc) hg2 hm2 PyProof.Rows.boot_set ha.pa (by decide) (by decide) he2 hpl2) ph he) (by decide) (by decide) he hpl;refine⟨xM.mo o_.mo ha.mo,PE.imp h fun σ H Q hu=>?_⟩;obtain⟨δ,S,r1,r2,z⟩:=hu;refine wD.go ha.mo r1 r2 z λ ds S1 xs H1 h1 q1 e1 p1=>?_;obtain⟨d,ns,rfl,c1,c2,c3,h1⟩:=h1;obtain⟨p,ns',a1,a2,a3,a4⟩:=Rz (w:=X.w) q1 p1 c1 c2 c3 (λ l hl=>(h1 l hl).ext e1);exact⟨p,ns',a1,a2,a3,λ l us ms b1 b2 b3 b4=>a4 l us ms b1 b2 b3 b4⟩
end
end L5
namespace RN
open L5
abbrev Bd:=List (Int×Int)
def xf (b c:Bd):Prop:=∀ q,zN b q=true->zN c q=true
theorem xf.refl (b:Bd):xf b b:=λ _ h=>h
theorem xf.of {b c:Bd}(h:∀ p∈b,∃ r∈c,r.1<=p.1/\r.2<=p.2):xf b c:=λ q x=>by
 obtain⟨p,hp,h1,h2⟩:=yG.mp x;obtain⟨r,hr,h3,h4⟩:=h p hp;exact yG.mpr ⟨r,hr,by omega,by omega⟩
theorem xf.at {b c:Bd}(h:xf b c) {p:Int×Int}(hp:p∈b):∃ r∈c,r.1<=p.1/\r.2<=p.2:=yG.mp (h p (yG.mpr ⟨p,hp,Int.le_refl _,Int.le_refl _⟩))
structure Gd (A B:Int) (b:Bd):Prop where
 lS:vy b
 x9:∀ p∈b,(0<=p.1/\p.1<=A)/\0<=p.2/\p.2<=B
noncomputable def xq:Bd:=[(0,0)]
theorem aU {q:Int×Int}:zN xq q=true↔0<=q.1/\0<=q.2:=by
 rw[yG];unfold xq;simp
theorem Gd.xq {A B:Int}(hA:0<=A) (hB:0<=B):Gd A B xq:=⟨by unfold RN.xq vy;simp,λ p hp=>by
 unfold RN.xq at hp;cases List.mem_singleton.mp hp;exact⟨⟨Int.le_refl _,hA⟩,Int.le_refl _,hB⟩⟩
theorem Gd.T_ {A B:Int}{b:Bd}(h:Gd A B b):xf b RN.xq:=xf.of λ p hp=>⟨(0,0),by unfold RN.xq;simp,(h.x9 p hp).1.1,(h.x9 p hp).2.1⟩
theorem Gd.eq {A B:Int}{b c:Bd}(h:Gd A B b) (h':Gd A B c) (x:xf b c) (y:xf c b):b=c:=vy.eq h.lS h'.lS λ q=>by
 rw[Bool.eq_iff_iff];exact⟨x q,y q⟩
theorem Gd.least {A B:Int}{ps:Bd}(h:∀ p∈ps,(0<=p.1/\p.1<=A)/\0<=p.2/\p.2<=B):Gd A B (ve ps):=⟨iQ ps,λ p hp=>h p (TY hp)⟩
theorem bp {ps qs:Bd}(h:∀ p∈ps,∃ r∈qs,r.1<=p.1/\r.2<=p.2):xf (ve ps) (ve qs):=λ q x=>by
 rw[p8] at x ⊢;exact xf.of h q x
theorem bD:∀ {b:Bd}{lo hi:Int},vy b->(∀ p∈b,lo<=p.1/\p.1<=hi)->(b.length:Int)<=hi+1-lo\/b=[]
 | [],_,_,_,_=>.inr rfl
 | p::b,lo,hi,h,hb=>by
  have h1:=List.pairwise_cons.mp h;have hp:=hb p zMc;refine .inl ?_;rcases bD (lo:=p.1+1) (hi:=hi) h1.2 (λ q hq=>⟨by have:=(h1.1 q hq).1;omega,(hb q (zMo _ hq)).2⟩) with x | x
  .rw[List.length_cons];omega
  .subst x;simp;omega
theorem bC:∀ {b:Bd}{lo hi:Int},vy b->(∀ p∈b,lo<=p.2/\p.2<=hi)->(b.length:Int)<=hi+1-lo\/b=[]
 | [],_,_,_,_=>.inr rfl
 | p::b,lo,hi,h,hb=>by
  have h1:=List.pairwise_cons.mp h;have hp:=hb p zMc;refine .inl ?_;rcases bC (lo:=lo) (hi:=p.2-1) h1.2 (λ q hq=>⟨(hb q (zMo _ hq)).1,by have:=(h1.1 q hq).2;omega⟩) with x | x
  .rw[List.length_cons];omega
  .subst x;simp;omega
theorem Gd.qg {A B:Int}{b:Bd}(h:Gd A B b) (hA:0<=A):(b.length:Int)<=A+1:=by
 rcases bD (lo:=0) (hi:=A) h.lS (λ p hp=>(h.x9 p hp).1) with x | x
 .omega
 .subst x;simp;omega
theorem Gd.TX {A B:Int}{b:Bd}(h:Gd A B b) (hB:0<=B):(b.length:Int)<=B+1:=by
 rcases bC (lo:=0) (hi:=B) h.lS (λ p hp=>(h.x9 p hp).2) with x | x
 .omega
 .subst x;simp;omega
noncomputable def yB (x:Int):Int:=if x>0 then x else 0
theorem lJ (x:Int):0<=yB x:=by unfold yB;split <;> omega
theorem iB {x y:Int}(h:x<=y):yB x<=yB y:=by unfold yB;split <;> split <;> omega
theorem Tr {x g:Int}(h:0<=x) (hg:0<=g):yB (x-g)<=x:=by unfold yB;split <;> omega
noncomputable def xk (a b:Int) (p:Int×Int):Int×Int:=(yB (p.1-a),yB (p.2-b))
noncomputable def vp (A B:Int) (p:Int×Int):Bool:=decide (p.1<=A)&&decide (p.2<=B)
noncomputable def sd (A B a b:Int) (bd:Bd):Bd:=ve ((bd.map (xk a b)).filter (vp A B))
theorem QX (A B a b:Int) (bd:Bd):Gd A B (sd A B a b bd):=Gd.least λ p hp=>by
 obtain⟨h1,h2⟩:=List.mem_filter.mp hp;obtain⟨q,_,rfl⟩:=List.mem_map.mp h1;have h3:(xk a b q).1<=A/\(xk a b q).2<=B:=by simpa [vp] using h2
 exact⟨⟨lJ _,h3.1⟩,lJ _,h3.2⟩
theorem Zv (A B a b:Int) {bd bd':Bd}(h:xf bd bd'):xf (sd A B a b bd) (sd A B a b bd'):=bp λ p hp=>by
 obtain⟨h1,h2⟩:=List.mem_filter.mp hp;obtain⟨q,hq,rfl⟩:=List.mem_map.mp h1;obtain⟨r,hr,r1,r2⟩:=h.at hq;have h3:(xk a b q).1<=A/\(xk a b q).2<=B:=by simpa [vp] using h2
 have m1:(xk a b r).1<=(xk a b q).1:=iB (by omega);have m2:(xk a b r).2<=(xk a b q).2:=iB (by omega);exact⟨xk a b r,List.mem_filter.mpr ⟨List.mem_map.mpr ⟨r,hr,rfl⟩,by simp[vp];omega⟩,m1,m2⟩
noncomputable def ug (b c:Bd):Bd:=ve (b++c)
theorem RP (b c:Bd) (q:Int×Int):zN (ug b c) q=(zN b q||zN c q):=by unfold ug;rw[p8,Ql]
theorem RO {A B:Int}{b c:Bd}(h:Gd A B b) (h':Gd A B c):Gd A B (ug b c):=Gd.least λ p hp=>by
 rcases List.mem_append.mp hp with x | x
 .exact h.x9 p x
 .exact h'.x9 p x
noncomputable def lN (p q:Int×Int):Int×Int:=(if q.1>p.1 then q.1 else p.1,if q.2>p.2 then q.2 else p.2)
noncomputable def vO (b c:Bd):Bd:=ve (b.flatMap λ p=>c.map (lN p))
theorem Zh (b c:Bd) (q:Int×Int):zN (vO b c) q=(zN b q&&zN c q):=by
 unfold vO;rw[p8,Bool.eq_iff_iff,Bool.and_eq_true,yG,yG,yG];constructor
 .rintro⟨p,hp,h1,h2⟩;obtain⟨x,hx,hp⟩:=List.mem_flatMap.mp hp;obtain⟨y,hy,rfl⟩:=List.mem_map.mp hp;unfold lN at h1 h2;dsimp only at h1 h2;refine⟨⟨x,hx,?_,?_⟩,⟨y,hy,?_,?_⟩⟩ <;> (first | (split at h1 <;> omega) | (split at h2 <;> omega))
 .rintro⟨⟨x,hx,h1,h2⟩,⟨y,hy,h3,h4⟩⟩;refine⟨lN x y,List.mem_flatMap.mpr ⟨x,hx,List.mem_map.mpr ⟨y,hy,rfl⟩⟩,?_,?_⟩
  .show (if y.1>x.1 then y.1 else x.1)<=q.1;split <;> omega
  .show (if y.2>x.2 then y.2 else x.2)<=q.2;split <;> omega
theorem QJ {A B:Int}{b c:Bd}(h:Gd A B b) (h':Gd A B c):Gd A B (vO b c):=Gd.least λ p hp=>by
 obtain⟨x,hx,hp⟩:=List.mem_flatMap.mp hp;obtain⟨y,hy,rfl⟩:=List.mem_map.mp hp;have a1:=h.x9 x hx;have a2:=h'.x9 y hy;unfold lN;dsimp only;refine⟨⟨?_,?_⟩,?_,?_⟩ <;> split <;> omega
noncomputable def wC (bs:List Bd):Bd:=bs.foldl ug []
noncomputable def pS (bs:List Bd):Bd:=bs.foldl vO xq
theorem ki:∀ (bs:List Bd) (b:Bd) (q:Int×Int),zN (bs.foldl ug b) q=true↔zN b q=true\/∃ c∈bs,zN c q=true
 | [],b,q=>by simp
 | c::bs,b,q=>by
  rw[List.foldl_cons,ki bs,RP,Bool.or_eq_true];constructor
  .rintro ((h | h) | ⟨d,hd,h⟩)
   .exact .inl h
   .exact .inr ⟨c,zMc,h⟩
   .exact .inr ⟨d,zMo _ hd,h⟩
  .rintro (h | ⟨d,hd,h⟩)
   .exact .inl (.inl h)
   .rcases List.mem_cons.mp hd with e | e
    .subst e;exact .inl (.inr h)
    .exact .inr ⟨d,e,h⟩
theorem nh {A B:Int}:∀ (bs:List Bd) (b:Bd),Gd A B b->(∀ c∈bs,Gd A B c)->Gd A B (bs.foldl ug b)
 | [],b,h,_=>h
 | c::bs,b,h,hb=>nh bs _ (RO h (hb c zMc)) λ d hd=>hb d (zMo _ hd)
theorem Gd.nil {A B:Int}:Gd A B []:=⟨by unfold vy;simp,λ p hp=>by cases hp⟩
theorem gX:∀ (bs:List Bd) (b:Bd) (q:Int×Int),zN (bs.foldl vO b) q=true↔zN b q=true/\∀ c∈bs,zN c q=true
 | [],b,q=>by simp
 | c::bs,b,q=>by
  rw[List.foldl_cons,gX bs,Zh,Bool.and_eq_true];constructor
  .rintro⟨⟨h1,h2⟩,h3⟩;exact⟨h1,λ d hd=>by
    rcases List.mem_cons.mp hd with e | e
    .subst e;exact h2
    .exact h3 d e⟩
  .rintro⟨h1,h2⟩;exact⟨⟨h1,h2 c zMc⟩,λ d hd=>h2 d (zMo _ hd)⟩
theorem gW {A B:Int}:∀ (bs:List Bd) (b:Bd),Gd A B b->(∀ c∈bs,Gd A B c)->Gd A B (bs.foldl vO b)
 | [],b,h,_=>h
 | c::bs,b,h,hb=>gW bs _ (QJ h (hb c zMc)) λ d hd=>hb d (zMo _ hd)
noncomputable def zw (pu:Bool) (g t:Int):Int×Int:=if pu=true then (t,g) else (g,t)
noncomputable def yM (pu:Bool) (p:Int×Int):Int:=if pu=true then p.2 else p.1
noncomputable def xo (pu:Bool) (p:Int×Int):Int:=if pu=true then p.1 else p.2
noncomputable def xN (pu:Bool) (yf give get:Int):Nat->Int->Int->Bd
 | 0,_,_=>[]
 | n+1,g,t=>if g<=yf then zw pu g t::xN pu yf give get n (g+give) (yB (t-get)) else []
theorem WC {pu:Bool}{g t g' t':Int}(h:g'<=g) (h':t'<=t):(zw pu g' t').1<=(zw pu g t).1/\(zw pu g' t').2<=(zw pu g t).2:=by
 cases pu
 .exact⟨h,h'⟩
 .exact⟨h',h⟩
theorem aZ (pu:Bool) (yf give get:Int):∀ (n:Nat) (g t g' t':Int),g'<=g->t'<=t->∀ e∈xN pu yf give get n g t,∃ r∈xN pu yf give get n g' t',r.1<=e.1/\r.2<=e.2
 | 0,_,_,_,_,_,_,e,he=>by cases he
 | n+1,g,t,g',t',h1,h2,e,he=>by
  unfold xN at he ⊢;split at he
  .rw[if_pos (by omega)];rcases List.mem_cons.mp he with x | x
   .subst x;exact⟨_,zMc,WC h1 h2⟩
   .obtain⟨r,hr,r1⟩:=aZ pu yf give get n _ _ (g' + give) (yB (t'-get)) (by omega) (iB (by omega)) e x;exact⟨r,zMo _ hr,r1⟩
  .cases he
theorem gT (pu:Bool) (yf give get most:Int) (hg:1<=give) (hgt:0<=get):∀ (n:Nat) (g t:Int),0<=g->0<=t->t<=most->∀ e∈xN pu yf give get n g t,(0<=yM pu e/\yM pu e<=yf)/\0<=xo pu e/\xo pu e<=most
 | 0,_,_,_,_,_,e,he=>by cases he
 | n+1,g,t,h1,h2,h3,e,he=>by
  unfold xN at he;split at he
  .rcases List.mem_cons.mp he with x | x
   .subst x;cases pu <;> exact⟨⟨h1,by assumption⟩,h2,h3⟩
   .exact gT pu yf give get most hg hgt n _ _ (by omega) (lJ _) (Int.le_trans (Tr h2 hgt) h3) e x
  .cases he
theorem a_ (pu:Bool) (yf give get:Int) (hg:1<=give):∀ (n:Nat) (g t:Int),g<=yf+1->((xN pu yf give get n g t).length:Int)<=yf+1-g
 | 0,g,t,h=>by simp[xN];omega
 | n+1,g,t,h=>by
  unfold xN;split
  .rw[List.length_cons];by_cases hh:g+give<=yf+1
   .have:=a_ pu yf give get hg n (g+give) (yB (t-get)) hh;omega
   .have e:xN pu yf give get n (g+give) (yB (t-get))=[]:=by
     cases n with
     | zero=>rfl
     | succ n=>unfold xN;rw[if_neg (by omega)]
    rw[e];simp;omega
  .simp;omega
end RN
namespace RN
open L5
structure Wy where
 f:Nat
 t:Nat
 a:Int
 b:Int
structure Sl where
 p:Nat
 pu:Bool
 gv:Int
 gt:Int
structure zL where
 A:Int
 B:Int
 os:List Bool
 ws:List Wy
 ss:List Sl
structure zL.Ok (F:zL):Prop where
 a0:0<=F.A
 a1:F.A<=12
 b0:0<=F.B
 b1:F.B<=12
 n1:1<=F.os.length
 n8:F.os.length<=8
 ws:∀ w∈F.ws,w.f<F.os.length/\w.t<F.os.length
 qN:F.ws.length<=60
 ss:∀ s∈F.ss,1<=s.gv/\0<=s.gt
 sl:F.ss=[]\/(F.A+1)*(F.B+1)<256
 s8:F.ss.length<=60
noncomputable def zL.yf (F:zL) (pu:Bool):Int:=if pu=true then F.B else F.A
noncomputable def xb (F:zL) (s:Sl) (p:Int×Int):Bd:=xN s.pu (F.yf s.pu) s.gv s.gt 100 (yM s.pu p) (xo s.pu p)
noncomputable def rq (F:zL) (s:Sl) (bd:Bd):Bd:=ve (bd.flatMap (xb F s))
theorem Qv (F:zL) (s:Sl) {b c:Bd}(h:xf b c):xf (rq F s b) (rq F s c):=bp λ p hp=>by
 obtain⟨x,hx,hp⟩:=List.mem_flatMap.mp hp;obtain⟨r,hr,r1,r2⟩:=h.at hx;obtain⟨e,he,e1⟩:=aZ s.pu (F.yf s.pu) s.gv s.gt 100 (yM s.pu x) (xo s.pu x) (yM s.pu r) (xo s.pu r) (by unfold yM;split <;> assumption) (by unfold xo;split <;> assumption) p hp;exact⟨e,List.mem_flatMap.mpr ⟨r,hr,he⟩,e1⟩
theorem Qu {F:zL}{s:Sl}(hs:1<=s.gv/\0<=s.gt) {p:Int×Int}(hp:(0<=p.1/\p.1<=F.A)/\0<=p.2/\p.2<=F.B):∀ e∈xb F s p,(0<=e.1/\e.1<=F.A)/\0<=e.2/\e.2<=F.B:=λ e he=>by
 obtain⟨p,pu,gv,gt⟩:=s;unfold xb zL.yf at he;cases pu with
 | true=>exact (gT true F.B gv gt F.A hs.1 hs.2 100 _ _ hp.2.1 hp.1.1 hp.1.2 e he).symm
 | false=>exact gT false F.A gv gt F.B hs.1 hs.2 100 _ _ hp.1.1 hp.2.1 hp.2.2 e he
theorem Qw {F:zL}{s:Sl}(hs:1<=s.gv/\0<=s.gt) {b:Bd}(h:Gd F.A F.B b):Gd F.A F.B (rq F s b):=Gd.least λ p hp=>by
 obtain⟨x,hx,hp⟩:=List.mem_flatMap.mp hp;exact Qu hs (h.x9 x hx) p hp
noncomputable def xr (F:zL) (last:List Bd) (p:Nat):List Bd:=(F.ws.filter λ w=>decide (w.f=p)).map λ w=>sd F.A F.B w.a w.b (last.getD w.t [])
noncomputable def zL.stall (F:zL) (p:Nat):Option Sl:=F.ss.find? λ s=>decide (s.p=p)
noncomputable def yY (F:zL) (last:List Bd) (p:Nat):Bd:=
 if F.os.getD p false=true then match F.stall p with
  | none=>wC (xr F last p)
  | some s=>rq F s (wC (xr F last p))
 else pS (xr F last p)
theorem kF (F:zL) (last:List Bd) (p:Nat):∀ c∈xr F last p,Gd F.A F.B c:=λ c hc=>by
 obtain⟨w,_,rfl⟩:=List.mem_map.mp hc;exact QX ..
theorem i7 {F:zL}(ok:F.Ok) (last:List Bd) (p:Nat):Gd F.A F.B (yY F last p):=by
 unfold yY;have h1:Gd F.A F.B (wC (xr F last p)):=nh _ _ Gd.nil (kF F last p);split
 .split
  .exact h1
  .rename_i s e;exact Qw (ok.ss s (List.mem_of_find?_eq_some e)) h1
 .exact gW _ _ (Gd.xq ok.a0 ok.b0) (kF F last p)
theorem Tp (F:zL) {l m:List Bd}(p:Nat) (h:∀ w∈F.ws,w.f=p->xf (l.getD w.t []) (m.getD w.t [])):xf (yY F l p) (yY F m p):=by
 have h1:xf (wC (xr F l p)) (wC (xr F m p)):=λ q hq=>by
  unfold wC at hq ⊢;rw[ki] at hq ⊢;rcases hq with x | ⟨c,hc,x⟩
  .exact .inl x
  .obtain⟨w,hw,rfl⟩:=List.mem_map.mp hc;obtain⟨w1,w2⟩:=List.mem_filter.mp hw;exact .inr ⟨_,List.mem_map.mpr ⟨w,hw,rfl⟩,Zv _ _ _ _ (h w w1 (by simpa using w2)) q x⟩
 unfold yY;split
 .split
  .exact h1
  .exact Qv F _ h1
 .intro q hq;unfold pS at hq ⊢;rw[gX] at hq ⊢;refine⟨hq.1,λ c hc=>?_⟩;obtain⟨w,hw,rfl⟩:=List.mem_map.mp hc;obtain⟨w1,w2⟩:=List.mem_filter.mp hw;exact Zv _ _ _ _ (h w w1 (by simpa using w2)) q (hq.2 _ (List.mem_map.mpr ⟨w,hw,rfl⟩))
theorem Tn (F:zL) {l m:List Bd}(p:Nat) (h:∀ w∈F.ws,w.f=p->l.getD w.t []=m.getD w.t []):yY F l p=yY F m p:=by
 have:xr F l p=xr F m p:=by
  unfold xr;refine List.map_congr_left λ w hw=>?_;obtain⟨w1,w2⟩:=List.mem_filter.mp hw;rw[h w w1 (by simpa using w2)]
 unfold yY;rw[this]
noncomputable def box:List (Int×Int):=(List.range 13).flatMap λ(i:Nat)=>(List.range 13).map λ(j:Nat)=>((i:Int),(j:Int))
noncomputable def mu (b:Bd):Nat:=box.countP (zN b)
theorem QI {p:Int×Int}(h:(0<=p.1/\p.1<=12)/\0<=p.2/\p.2<=12):p∈box:=by
 obtain⟨x,y⟩:=p;dsimp only at h;refine List.mem_flatMap.mpr ⟨x.toNat,List.mem_range.mpr (by omega),List.mem_map.mpr ⟨y.toNat,List.mem_range.mpr (by omega),?_⟩⟩;rw[Int.toNat_of_nonneg h.1.1,Int.toNat_of_nonneg h.2.1]
theorem aV {α:Type}{p q:α->Bool}:∀ {l:List α},(∀ x,q x=true->p x=true)->(∃ x∈l,p x=true/\q x=false)->l.countP q<l.countP p
 | [],_,⟨x,hx,_⟩=>by cases hx
 | a::l,h,⟨x,hx,h1,h2⟩=>by
  have hle:l.countP q<=l.countP p:=List.countP_mono_left λ y _=>h y;rw[List.countP_cons,List.countP_cons];rcases List.mem_cons.mp hx with e | e
  .subst e;rw[if_neg (by rw[h2];decide),if_pos h1];omega
  .have:=aV h ⟨x,e,h1,h2⟩;by_cases c:q a=true
   .rw[if_pos c,if_pos (h a c)];omega
   .rw[if_neg c];split <;> omega
theorem Tw {A B:Int}(hA:A<=12) (hB:B<=12) {b c:Bd}(hb:Gd A B b) (hc:Gd A B c) (h:xf b c) (hne:b≠c):mu b<mu c:=by
 refine aV h ?_;by_cases x:∃ p∈c,zN b p=false
 .obtain⟨p,hp,e⟩:=x;have q:=hc.x9 p hp;exact⟨p,QI ⟨⟨q.1.1,by omega⟩,q.2.1,by omega⟩,yG.mpr ⟨p,hp,Int.le_refl _,Int.le_refl _⟩,e⟩
 .exact absurd (hb.eq hc h (xf.of λ p hp=>by
   cases e:zN b p with
   | true=>exact yG.mp e
   | false=>exact absurd ⟨p,hp,e⟩ x)) hne
theorem Tx (b:Bd):mu b<=169:=by
 have:box.length=169:=by decide
 rw[<- this];exact List.countP_le_length
noncomputable def vE (l:List Bd):Nat:=(l.map mu).sum
theorem cU:∀ (l:List Bd),vE l<=169*l.length
 | []=>by simp[vE]
 | b::l=>by
  have h1:=cU l;have h2:=Tx b;unfold vE at h1 ⊢;rw[List.map_cons,List.sum_cons,List.length_cons];omega
theorem iD {A B:Int}(hA:A<=12) (hB:B<=12):∀ {l m:List Bd},l.length=m.length->(∀ b∈l,Gd A B b)->(∀ b∈m,Gd A B b)->(∀ i,xf (l.getD i []) (m.getD i []))->l≠m->vE l<vE m
 | [],[],_,_,_,_,h=>absurd rfl h
 | [],_::_,h,_,_,_,_=>by simp at h
 | _::_,[],h,_,_,_,_=>by simp at h
 | b::l,c::m,hl,gb,gc,h,hne=>by
  have hl':l.length=m.length:=by simpa using hl
  have h0:xf b c:=h 0;have hs:∀ i,xf (l.getD i []) (m.getD i []):=λ i=>by simpa using h (i+1)
  have key:vE l<=vE m:=by
   by_cases e:l=m
   .rw[e];exact Nat.le_refl _
   .exact Nat.le_of_lt (iD hA hB hl' (λ x hx=>gb x (zMo _ hx)) (λ x hx=>gc x (zMo _ hx)) hs e)
  show (List.map mu (b::l)).sum<(List.map mu (c::m)).sum;rw[List.map_cons,List.sum_cons,List.map_cons,List.sum_cons];by_cases e:b=c
  .subst e;have:l≠m:=λ q=>hne (by rw[q]);have:=iD hA hB hl' (λ x hx=>gb x (zMo _ hx)) (λ x hx=>gc x (zMo _ hx)) hs this;unfold vE at this;omega
  .have:=Tw hA hB (gb b zMc) (gc c zMc) h0 e;unfold vE at key;omega
noncomputable def uB (F:zL) (fresh:List Nat) (p:Nat):Bool:=F.ws.any λ w=>decide (w.f=p)&&fresh.contains w.t
noncomputable def yb (F:zL) (last:List Bd) (fresh:List Nat):List Bd:=(List.range last.length).map λ p=>if uB F fresh p=true then yY F last p else last.getD p []
noncomputable def xA (last following:List Bd):List Nat:=(List.range following.length).filter λ p=>decide (following.getD p []≠last.getD p [])
noncomputable def sJ (F:zL):Nat->List (List Bd)->List Bd->List Nat->Option (List (List Bd))
 | 0,_,_,_=>none
 | n+1,told,last,fresh=>if fresh=[] then some (told++[last]) else
   let fo:=yb F last fresh
   let fr:=xA last fo
   if fr=[] then some (told++[last]) else sJ F n (told++[last]) fo fr
structure St (F:zL) (last:List Bd) (fresh:List Nat):Prop where
 len:last.length=F.os.length
 gd:∀ b∈last,Gd F.A F.B b
 fr:∀ p<F.os.length,uB F fresh p=false->(∃ w∈F.ws,w.f=p)->yY F last p=last.getD p []
 le:∀ p<F.os.length,(∃ w∈F.ws,w.f=p)->xf (yY F last p) (last.getD p [])
theorem gr {α:Type}(f:Nat->α) (n p:Nat) (d:α) (h:p<n):((List.range n).map f).getD p d=f p:=by
 rw[List.getD_eq_getElem?_getD,List.getElem?_map,List.getElem?_range h];rfl
theorem sR (F:zL) (last:List Bd) (fresh:List Nat):(yb F last fresh).length=last.length:=by unfold yb;simp
theorem St.at {F:zL}{last:List Bd}{fresh:List Nat}(s:St F last fresh) {p:Nat}(hp:p<F.os.length) (hw:∃ w∈F.ws,w.f=p):(yb F last fresh).getD p []=yY F last p:=by
 unfold yb;rw[gr _ _ _ _ (by rw[s.len];exact hp)];split
 .rfl
 .rename_i h;exact (s.fr p hp (by simpa using h) hw).symm
theorem Rg {F:zL}{fresh:List Nat}{p:Nat}(h:uB F fresh p=true):∃ w∈F.ws,w.f=p:=by
 unfold uB at h;obtain⟨w,h1,h2⟩:=List.any_eq_true.mp h;exact⟨w,h1,by simp at h2;exact h2.1⟩
theorem St.no {F:zL}{last:List Bd}{fresh:List Nat}(s:St F last fresh) {p:Nat}(hp:p<F.os.length) (hw:¬ ∃ w∈F.ws,w.f=p):(yb F last fresh).getD p []=last.getD p []:=by
 unfold yb;rw[gr _ _ _ _ (by rw[s.len];exact hp),if_neg (λ h=>hw (Rg h))]
theorem St.aY {F:zL}{last:List Bd}{fresh:List Nat}(s:St F last fresh) (p:Nat):xf ((yb F last fresh).getD p []) (last.getD p []):=by
 by_cases hp:p<F.os.length
 .by_cases hw:∃ w∈F.ws,w.f=p
  .rw[s.at hp hw];exact s.le p hp hw
  .rw[s.no hp hw];exact xf.refl _
 .have h1:(yb F last fresh).getD p []=[]:=by
   rw[List.getD_eq_getElem?_getD,List.getElem?_eq_none (by rw[sR,s.len];omega)];rfl
  rw[h1];intro q x;cases x
theorem St.next {F:zL}(ok:F.Ok) {last:List Bd}{fresh:List Nat}(s:St F last fresh):St F (yb F last fresh) (xA last (yb F last fresh)) where
 len:=by rw[sR,s.len]
 gd:=λ b hb=>by
  unfold yb at hb;obtain⟨p,hp,rfl⟩:=List.mem_map.mp hb;split
  .exact i7 ok last p
  .have hlt:=List.mem_range.mp hp;rw[List.getD_eq_getElem?_getD,List.getElem?_eq_getElem hlt];exact s.gd _ (List.getElem_mem hlt)
 fr:=λ p hp hn hw=>by
  rw[s.at hp hw];refine Tn F p λ w w1 w2=>?_;have hwt:=(ok.ws w w1).2;by_cases e:(yb F last fresh).getD w.t []=last.getD w.t []
  .exact e
  .have:uB F (xA last (yb F last fresh)) p=true:=by
    unfold uB;refine List.any_eq_true.mpr ⟨w,w1,?_⟩;have:w.t∈xA last (yb F last fresh):=by
     unfold xA;exact List.mem_filter.mpr ⟨List.mem_range.mpr (by rw[sR,s.len];exact hwt),by simpa using e⟩
    simp[w2,this]
   rw[this] at hn;cases hn
 le:=λ p hp hw=>by
  rw[s.at hp hw];exact Tp F p λ w w1 w2=>s.aY w.t
theorem Ru {last fo:List Bd}(hl:fo.length=last.length) (h:xA last fo≠[]):fo≠last:=λ e=>h (by
 subst e;unfold xA;simp)
noncomputable def start (F:zL):List Bd:=List.replicate F.os.length xq
theorem St.start {F:zL}(ok:F.Ok):St F (start F) (List.range F.os.length) where
 len:=by unfold RN.start;simp
 gd:=λ b hb=>by rw[List.eq_of_mem_replicate hb];exact Gd.xq ok.a0 ok.b0
 fr:=λ p hp hn ⟨w,w1,w2⟩=>by
  have:uB F (List.range F.os.length) p=true:=by
   unfold uB;refine List.any_eq_true.mpr ⟨w,w1,?_⟩;have:=(ok.ws w w1).2;simp[w2,this]
  rw[this] at hn;cases hn
 le:=λ p hp hw=>by
  have e:(RN.start F).getD p []=xq:=by
   unfold RN.start;rw[List.getD_eq_getElem?_getD,List.getElem?_replicate,if_pos hp];rfl
  rw[e];exact (i7 ok _ p).T_
theorem d5 {F:zL}(ok:F.Ok):∀ (n:Nat) (told:List (List Bd)) (last:List Bd) (fresh:List Nat),St F last fresh->vE last<n->
  ∃ more last',sJ F n told last fresh=some (told++last::more)/\(∀ r∈last::more,r.length=F.os.length/\∀ b∈r,Gd F.A F.B b)/\(last::more).getLast?=some last'/\more.length<=vE last
 | 0,_,_,_,_,h=>by omega
 | n+1,told,last,fresh,s,h=>by
  unfold sJ;split
  .exact⟨[],last,rfl,λ r hr=>by cases List.mem_singleton.mp hr;exact⟨s.len,s.gd⟩,rfl,Nat.zero_le _⟩
  .dsimp only;split
   .exact⟨[],last,rfl,λ r hr=>by cases List.mem_singleton.mp hr;exact⟨s.len,s.gd⟩,rfl,Nat.zero_le _⟩
   .rename_i hf;have s':=s.next ok;have hlt:vE (yb F last fresh)<vE last:=iD ok.a1 ok.b1 (sR ..) s'.gd s.gd s.aY (Ru (sR ..) hf);obtain⟨more,last',e1,e2,e3,e4⟩:=d5 ok n (told++[last]) _ _ s' (by omega);refine⟨yb F last fresh::more,last',by rw[e1];simp,λ r hr=>?_,by rw[List.getLast?_cons_cons];exact e3,by rw[List.length_cons];omega⟩;rcases List.mem_cons.mp hr with e | e
    .subst e;exact⟨s.len,s.gd⟩
    .exact e2 r e
end RN
namespace RN
open L5
theorem QY {A B a b:Int}{bd:Bd}(h0:∀ p∈bd,0<=p.1/\0<=p.2) {q:Int×Int}(hq:(0<=q.1/\q.1<=A)/\0<=q.2/\q.2<=B):zN (sd A B a b bd) q=true↔zN bd (q.1+a,q.2+b)=true:=by
 unfold sd;rw[p8,yG,yG];constructor
 .rintro⟨p,hp,h1,h2⟩;obtain⟨hp,_⟩:=List.mem_filter.mp hp;obtain⟨r,hr,rfl⟩:=List.mem_map.mp hp;refine⟨r,hr,?_,?_⟩
  .unfold xk yB at h1;dsimp only at h1 ⊢;split at h1 <;> omega
  .unfold xk yB at h2;dsimp only at h2 ⊢;split at h2 <;> omega
 .rintro⟨r,hr,h1,h2⟩;dsimp only at h1 h2;have e1:(xk a b r).1<=q.1:=by unfold xk yB;dsimp only;split <;> omega
  have e2:(xk a b r).2<=q.2:=by unfold xk yB;dsimp only;split <;> omega
  refine⟨xk a b r,List.mem_filter.mpr ⟨List.mem_map.mpr ⟨r,hr,rfl⟩,?_⟩,e1,e2⟩;unfold vp;rw[decide_eq_true (by omega),decide_eq_true (by omega)];rfl
theorem gU (pu:Bool) (yf give get:Int) (hg:1<=give) (hgt:0<=get):∀ (n:Nat) (g t:Int),0<=t->yf-g<n->∀ (G T:Int),G<=yf->
  ((∃ e∈xN pu yf give get n g t,yM pu e<=G/\xo pu e<=T)↔∃ k:Nat,g+k*give<=G/\yB (t-k*get)<=T)
 | 0,g,t,ht,hn,G,T,hG=>by
  constructor
  .rintro⟨e,he,_⟩;cases he
  .rintro⟨k,h1,_⟩;exfalso;have:0<=(k:Int)*give:=Int.mul_nonneg (by omega) (by omega);omega
 | n+1,g,t,ht,hn,G,T,hG=>by
  have gv:∀ x y,yM pu (zw pu x y)=x:=λ x y=>by cases pu <;> rfl
  have gt:∀ x y,xo pu (zw pu x y)=y:=λ x y=>by cases pu <;> rfl
  have ih:=gU pu yf give get hg hgt n (g+give) (yB (t-get)) (lJ _) (by omega) G T hG;have mm:∀ k:Nat,yB (yB (t-get)-k*get)=yB (t-(k+1:Nat)*get):=λ k=>by
   have:0<=(k:Int)*get:=Int.mul_nonneg (by omega) hgt;have e:((k+1:Nat):Int)*get=k*get+get:=by rw[Int.natCast_succ,Int.add_mul];omega
   rw[e];unfold yB;split <;> split <;> (try split) <;> omega
  have gg:∀ k:Nat,g+give+k*give=g+(k+1:Nat)*give:=λ k=>by
   rw[Int.natCast_succ,Int.add_mul];omega
  unfold xN;split
  .rename_i hgb;constructor
   .rintro⟨e,he,h1,h2⟩;rcases List.mem_cons.mp he with rfl | he
    .rw[gv] at h1;rw[gt] at h2;refine⟨0,by simpa using h1,?_⟩;unfold yB;split <;> simp at * <;> omega
    .obtain⟨k,k1,k2⟩:=ih.mp ⟨e,he,h1,h2⟩;exact⟨k+1,by rw[<- gg];exact k1,by rw[<- mm];exact k2⟩
   .rintro⟨k,k1,k2⟩;cases k with
    | zero=>
     refine⟨_,zMc,by rw[gv];simpa using k1,?_⟩;rw[gt];unfold yB at k2;split at k2 <;> simp at * <;> omega
    | succ k=>
     obtain⟨e,he,h1⟩:=ih.mpr ⟨k,by rw[gg];exact k1,by rw[mm];exact k2⟩;exact⟨e,zMo _ he,h1⟩
  .rename_i hgb;constructor
   .rintro⟨e,he,_⟩;cases he
   .rintro⟨k,h1,_⟩;exfalso;have:0<=(k:Int)*give:=Int.mul_nonneg (by omega) (by omega);omega
theorem l_ {pu:Bool}{p q:Int×Int}:(p.1<=q.1/\p.2<=q.2)↔yM pu p<=yM pu q/\xo pu p<=xo pu q:=by
 cases pu
 .exact Iff.rfl
 .exact And.comm
theorem Qx {F:zL}{s:Sl}(hs:1<=s.gv/\0<=s.gt) (hA:F.A<=12) (hB:F.B<=12) {b:Bd}(hb:∀ p∈b,0<=p.1/\0<=p.2) {q:Int×Int}(hq:(0<=q.1/\q.1<=F.A)/\0<=q.2/\q.2<=F.B):
  zN (rq F s b) q=true↔∃ k:Nat,zN b (zw s.pu (yM s.pu q-k*s.gv) (xo s.pu q+k*s.gt))=true:=by
 have hbr:F.yf s.pu<=12:=by unfold zL.yf;split <;> assumption
 have hqb:yM s.pu q<=F.yf s.pu:=by unfold yM zL.yf;split <;> omega
 have hq0:0<=yM s.pu q/\0<=xo s.pu q:=by unfold yM xo;split <;> omega
 have gv:∀ x y,yM s.pu (zw s.pu x y)=x:=λ x y=>by cases s.pu <;> rfl
 have gt:∀ x y,xo s.pu (zw s.pu x y)=y:=λ x y=>by cases s.pu <;> rfl
 unfold rq;rw[p8,yG];constructor
 .rintro⟨e,he,h12⟩;obtain⟨p,hp,he⟩:=List.mem_flatMap.mp he;obtain⟨h1,h2⟩:=l_ (pu:=s.pu).mp h12;have p0:=hb p hp;have g0:0<=yM s.pu p/\0<=xo s.pu p:=by unfold yM xo;split <;> omega
  obtain⟨k,k1,k2⟩:=(gU s.pu (F.yf s.pu) s.gv s.gt hs.1 hs.2 100 _ _ g0.2 (by omega) _ _ hqb).mp ⟨e,he,h1,h2⟩;refine⟨k,yG.mpr ⟨p,hp,l_ (pu:=s.pu).mpr ⟨by rw[gv];omega,?_⟩⟩⟩;rw[gt];unfold yB at k2;split at k2 <;> omega
 .rintro⟨k,hk⟩;obtain⟨p,hp,h12⟩:=yG.mp hk;obtain⟨h1,h2⟩:=l_ (pu:=s.pu).mp h12;rw[gv] at h1;rw[gt] at h2;have p0:=hb p hp;have g0:0<=yM s.pu p/\0<=xo s.pu p:=by unfold yM xo;split <;> omega
  obtain⟨e,he,h3⟩:=(gU s.pu (F.yf s.pu) s.gv s.gt hs.1 hs.2 100 (yM s.pu p) (xo s.pu p) g0.2 (by omega) (yM s.pu q) (xo s.pu q) hqb).mpr ⟨k,by omega,by unfold yB;split <;> omega⟩;exact⟨e,List.mem_flatMap.mpr ⟨p,hp,he⟩,l_ (pu:=s.pu).mpr h3⟩
end RN
namespace RN
open L5
noncomputable def yh (F:zL):Nat->List Bd
 | 0=>start F
 | k+1=>(List.range F.os.length).map λ p=>yY F (yh F k) p
theorem iX (F:zL):∀ k,(yh F k).length=F.os.length
 | 0=>by unfold yh start;simp
 | k+1=>by unfold yh;simp
theorem Tj {F:zL}{last:List Bd}{fresh:List Nat}(s:St F last fresh) (hw:∀ p<F.os.length,∃ w∈F.ws,w.f=p):yb F last fresh=(List.range F.os.length).map λ p=>yY F last p:=by
 refine List.ext_getElem (by rw[sR,s.len];simp) λ i h1 h2=>?_;have hi:i<F.os.length:=by simpa using h2
 have e:=s.at hi (hw i hi);rw[List.getD_eq_getElem?_getD,List.getElem?_eq_getElem h1] at e;simpa using e
theorem Rv {last fo:List Bd}(hl:fo.length=last.length) (h:xA last fo=[]):fo=last:=by
 refine List.ext_getElem hl λ i h1 h2=>?_;have:i∉xA last fo:=by rw[h];simp
 unfold xA at this;rw[List.mem_filter] at this;have e:fo.getD i []=last.getD i []:=Classical.byContradiction λ hne=>this ⟨List.mem_range.mpr h1,by simpa using hne⟩;rw[List.getD_eq_getElem?_getD,List.getElem?_eq_getElem h1,List.getD_eq_getElem?_getD,List.getElem?_eq_getElem h2] at e;simpa using e
theorem d6 {F:zL}(ok:F.Ok) (hw:∀ p<F.os.length,∃ w∈F.ws,w.f=p):∀ (n:Nat) (told:List (List Bd)) (k:Nat) (fresh:List Nat) (res:List (List Bd)),St F (yh F k) fresh->fresh≠[]->told=(List.range k).map (yh F)->
  sJ F n told (yh F k) fresh=some res->∃ m,res=(List.range (m+1)).map (yh F)/\yh F (m+1)=yh F m
 | 0,_,_,_,_,_,_,_,h=>by cases h
 | n+1,told,k,fresh,res,s,hf,ht,h=>by
  unfold sJ at h;rw[if_neg hf] at h;dsimp only at h;have e:yb F (yh F k) fresh=yh F (k+1):=Tj s hw;have et:told++[yh F k]=(List.range (k+1)).map (yh F):=by rw[ht,List.range_succ,List.map_append];rfl
  rw[e,et] at h;split at h
  .rename_i hfr;cases h;exact⟨k,rfl,Rv (by rw[iX,iX]) hfr⟩
  .rename_i hfr;have s':=s.next ok;rw[e] at s';exact d6 ok hw n _ (k+1) _ res s' hfr rfl h
theorem b9 {F:zL}{m:Nat}(h:yh F (m+1)=yh F m):∀ k,yh F (m+k)=yh F m
 | 0=>rfl
 | k+1=>by
  have ih:=b9 h k;show (List.range F.os.length).map (λ p=>yY F (yh F (m+k)) p)=_;rw[ih];exact h
end RN
namespace RG
noncomputable def dst (m p x:Nat):Nat:=if p<=x then x-p else x+m-p
noncomputable def nx (m p:Nat):Nat:=if p+1<m then p+1 else 0
theorem lI {m p:Nat}(h:p<m):nx m p<m:=by unfold nx;split <;> omega
theorem qm (m p:Nat):dst m p p=0:=by unfold dst;simp
theorem gM {m p x:Nat}(hp:p<m) (hx:x<m):dst m p x<m:=by unfold dst;split <;> omega
theorem pO {m p x:Nat}(hp:p<m) (hx:x<m) (h:p≠x):dst m p x=dst m (nx m p) x+1:=by
 unfold dst nx;split <;> split <;> (try split) <;> omega
theorem ny {m p:Nat}(hp:p<m):dst m (nx m p) p=m-1:=by
 unfold dst nx;split <;> (try split) <;> omega
theorem RT {m p x:Nat}(hp:p<m) (hx:x<m) (h:dst m p x=0):p=x:=by
 unfold dst at h;split at h <;> omega
noncomputable def NN (m w:Nat) (st:Option (Nat×Nat)) (p D O:Nat):Nat:=match st with
 | none=>D
 | some (h,g)=>if 0<D\/dst m p h<=dst m p w then D+O*g else D
noncomputable def WW (m w:Nat) (st:Option (Nat×Nat)) (p D O:Nat):Nat:=dst m p w+m*NN m w st p D O+1
theorem Zx (m w:Nat) (st:Option (Nat×Nat)) (p D O:Nat):0<WW m w st p D O:=Nat.succ_pos _
section
variable {m w p:Nat}{st:Option (Nat×Nat)}
theorem Zy (hp:p<m) (hw:w<m) (hs:∀ h g,st=some (h,g)->h<m/\p≠h) (h:p≠w) (D O:Nat):WW m w st p D O=1+WW m w st (nx m p) D O:=by
 have e:NN m w st p D O=NN m w st (nx m p) D O:=by
  unfold NN
  match st,hs with
  | none,_=>rfl
  | some (a,g),hs=>
   have:=hs a g rfl;have e1:=pO hp this.1 this.2;have e2:=pO hp hw h;dsimp only;have:(0<D\/dst m p a<=dst m p w)↔(0<D\/dst m (nx m p) a<=dst m (nx m p) w):=by omega
   simp only[this]
 have e2:=pO hp hw h;unfold WW;rw[e,e2];omega
theorem Zw (hw:w<m) (hs:∀ h g,st=some (h,g)->h<m/\w≠h) (D O:Nat):WW m w st w (D+1) O=1+WW m w st (nx m w) D O:=by
 have e:NN m w st w (D+1) O=NN m w st (nx m w) D O+1:=by
  unfold NN
  match st,hs with
  | none,_=>rfl
  | some (a,g),hs=>
   have:=hs a g rfl;have e1:=gM (lI hw) this.1;have e2:=ny hw;dsimp only;rw[if_pos (.inl (Nat.succ_pos _)),if_pos (.inr (by omega))];omega
 unfold WW;rw[e,qm,ny hw,Nat.mul_succ];omega
theorem Zz (hw:w<m) (hs:∀ h g,st=some (h,g)->h<m/\w≠h) (O:Nat):WW m w st w 0 O=1:=by
 have e:NN m w st w 0 O=0:=by
  unfold NN
  match st,hs with
  | none,_=>rfl
  | some (a,g),hs=>
   have:=hs a g rfl;dsimp only;rw[if_neg];intro hc;rcases hc with hc | hc
   .omega
   .rw[qm] at hc;exact this.2 (RT hw this.1 (by omega))
 unfold WW;rw[e,qm];omega
variable {h g:Nat}
theorem nV (D O:Nat):NN m w (some (h,g)) h D O=D+O*g:=by
 unfold NN;dsimp only;rw[if_pos (.inr (by rw[qm];omega))]
theorem Z9 (hh:h<m) (hw:w<m) (hne:h≠w) (D O:Nat):NN m w (some (h,g)) (nx m h) D O=if 0<D then D+O*g else 0:=by
 have e1:=ny hh;have e2:=pO hh hw hne;have e3:=gM hh hw;unfold NN;dsimp only;by_cases hD:0<D
 .rw[if_pos (.inl hD),if_pos hD]
 .rw[if_neg (by omega),if_neg hD];omega
theorem Pc (hh:h<m) (hw:w<m) (hne:h≠w) {D O D' O':Nat}(hl:D' + O'*g<=D+O*g):1+WW m w (some (h,g)) (nx m h) D' O'<=WW m w (some (h,g)) h D O:=by
 unfold WW;rw[nV,Z9 hh hw hne,pO hh hw hne];have:m*(if 0<D' then D' + O'*g else 0)<=m*(D+O*g):=Nat.mul_le_mul_left m (by split <;> omega);omega
theorem nR (hh:h<m) (hw:w<m) (hne:h≠w) {D O D' O':Nat}(hl:D' + O'*g=D+O*g) (hz:0<D'\/D+O*g=0):WW m w (some (h,g)) h D O=1+WW m w (some (h,g)) (nx m h) D' O':=by
 unfold WW;rw[nV,Z9 hh hw hne,pO hh hw hne];by_cases hD:0<D'
 .rw[if_pos hD,hl];omega
 .rw[if_neg hD,hz.resolve_left hD];omega
theorem Z8 (hw:w<m) (D O:Nat):NN m w (some (w,g)) (nx m w) D O=D+O*g:=by
 unfold NN;dsimp only;rw[if_pos (.inr (Nat.le_refl _))]
theorem Pd (hw:w<m) {D O D' O':Nat}(hl:D' + 1+O'*g<=D+O*g):1+WW m w (some (w,g)) (nx m w) D' O'<=WW m w (some (w,g)) w D O:=by
 unfold WW;rw[nV,Z8 hw,qm,ny hw];have h1:m*(D' + O'*g+1)<=m*(D+O*g):=Nat.mul_le_mul_left m (by omega);rw[Nat.mul_succ] at h1;omega
theorem kG (hw:w<m) {D O D' O':Nat}(hl:D' + 1+O'*g=D+O*g):WW m w (some (w,g)) w D O=1+WW m w (some (w,g)) (nx m w) D' O':=by
 unfold WW;rw[nV,Z8 hw,qm,ny hw];have h1:m*(D' + O'*g+1)=m*(D+O*g):=by rw[<- hl];congr 1;omega
 rw[Nat.mul_succ] at h1;omega
theorem fk (D O:Nat) (h0:D+O*g=0):WW m w (some (w,g)) w D O=1:=by
 unfold WW;rw[nV,qm,h0];omega
end
end RG
namespace RG
open L5 RN
structure Ring (F:zL) (m w:Nat) (pu:Bool) (Bo Bd:Nat) (st:Option (Nat×Nat)):Prop where
 len:F.os.length=m
 m0:0<m
 wm:w<m
 bo:F.yf pu=Bo
 bd:F.yf (!pu)=Bd
 Tc:Bo<=12
 Qh:Bd<=12
 ws:∀ p<m,F.ws.filter (λ y=>decide (y.f=p))=[⟨p,nx m p,(zw pu 0 (if p=w then -1 else 0)).1,(zw pu 0 (if p=w then -1 else 0)).2⟩]
 ss:match st with
  | none=>F.ss=[]
  | some (h,g)=>F.ss=[⟨h,pu,1,(g:Int)⟩]/\h<m/\F.os.getD h false=true
noncomputable def yJ (Bd:Nat) (st:Option (Nat×Nat)):Option (Nat×Nat):=st.map λ x=>(x.1,min x.2 Bd)
theorem Ring.box {F:zL}{m w:Nat}{pu:Bool}{Bo Bd:Nat}{st:Option (Nat×Nat)}(R:Ring F m w pu Bo Bd st) {D O:Nat}(hO:O<=Bo) (hD:D<=Bd):
  (0<=(zw pu (O:Int) (D:Int)).1/\(zw pu (O:Int) (D:Int)).1<=F.A)/\0<=(zw pu (O:Int) (D:Int)).2/\(zw pu (O:Int) (D:Int)).2<=F.B:=by
 have h1:=R.bo;have h2:=R.bd;unfold zL.yf at h1 h2;cases pu with
 | true=>simp only[zw,if_true,Bool.not_true,Bool.false_eq_true,if_false] at *;omega
 | false=>simp only[zw,if_true,Bool.not_false,Bool.false_eq_true,if_false] at *;omega
theorem Qt {Bd D O t g:Nat}(hD:D<=Bd) (ht:t<=O):min (D+t*g) Bd+(O-t)*min g Bd<=D+O*min g Bd:=by
 have e:O*min g Bd=(O-t)*min g Bd+t*min g Bd:=by rw[<- Nat.add_mul];congr 1;omega
 have:min (D+t*g) Bd<=D+t*min g Bd:=by
  by_cases hg:g<=Bd
  .rw[Nat.min_eq_left hg];omega
  .rw[Nat.min_eq_right (show Bd<=g by omega)];cases t with
   | zero=>omega
   | succ t=>
    have:Bd<=(t+1)*Bd:=Nat.le_mul_of_pos_left Bd (Nat.succ_pos t);omega
 omega
theorem aR {b:Bd}(hb:∀ p∈b,0<=p.1/\0<=p.2) {q:Int×Int}(h:q.1<0\/q.2<0):zN b q=false:=by
 cases c:zN b q with
 | false=>rfl
 | true=>
  obtain⟨p,hp,h1,h2⟩:=yG.mp c;have:=hb p hp;omega
theorem Qk {A B:Int}{b:Bd}(hb:Gd A B b) (pu:Bool) (x y Y:Int) (hY:Y=(if pu=true then A else B)):zN b (zw pu x y)=zN b (zw pu x (min y Y)):=by
 rw[Bool.eq_iff_iff,yG,yG];constructor <;> rintro⟨p,hp,h1,h2⟩ <;> refine⟨p,hp,?_,?_⟩ <;> (have:=hb.x9 p hp;cases pu <;> simp only[zw,if_true,Bool.false_eq_true,if_false] at * <;> omega)
end RG
namespace RG
open L5 RN
section
variable {F:zL}{m w:Nat}{pu:Bool}{Bo Bd:Nat}{st:Option (Nat×Nat)}
theorem SA (ok:F.Ok):∀ k,∀ b∈yh F k,Gd F.A F.B b
 | 0,b,hb=>by
  unfold yh start at hb;rw[List.eq_of_mem_replicate hb];exact Gd.xq ok.a0 ok.b0
 | k+1,b,hb=>by
  unfold yh at hb;obtain⟨p,_,rfl⟩:=List.mem_map.mp hb;exact i7 ok _ p
theorem SD (ok:F.Ok) (k p:Nat) (hp:p<F.os.length):Gd F.A F.B ((yh F k).getD p []):=by
 have hl:p<(yh F k).length:=by rw[iX];exact hp
 rw[List.getD_eq_getElem?_getD,List.getElem?_eq_getElem hl];exact SA ok k _ (List.getElem_mem hl)
noncomputable def stepT (w p D:Nat):Option Nat:=if p=w then (match D with | 0=>none | D+1=>some D) else some D
theorem Zu (R:Ring F m w pu Bo Bd st) {l:List RN.Bd}{p:Nat}(hp:p<m) (hb:∀ b∈l.getD (nx m p) [],0<=b.1/\0<=b.2) {D O:Nat}(hO:O<=Bo) (hD:D<=Bd):
  zN (sd F.A F.B (zw pu 0 (if p=w then -1 else 0)).1 (zw pu 0 (if p=w then -1 else 0)).2 (l.getD (nx m p) [])) (zw pu (O:Int) (D:Int))=true↔∃ D',stepT w p D=some D'/\zN (l.getD (nx m p) []) (zw pu (O:Int) (D':Int))=true:=by
 rw[QY hb (R.box hO hD)];have e:∀ c:Int,((zw pu (O:Int) (D:Int)).1+(zw pu 0 c).1,(zw pu (O:Int) (D:Int)).2+(zw pu 0 c).2)=zw pu (O:Int) (D+c):=λ c=>by
  cases pu <;> simp[zw]
 rw[e];unfold stepT;by_cases hw:p=w
 .rw[if_pos hw,if_pos hw];cases D with
  | zero=>
   constructor
   .intro h;rw[aR hb (by cases pu <;> simp[zw])] at h;cases h
   .rintro⟨_,h,_⟩;cases h
  | succ D=>
   have:((D+1:Nat):Int) + -1=(D:Int):=by omega
   rw[this];exact⟨λ h=>⟨D,rfl,h⟩,λ⟨_,h1,h2⟩=>by cases h1;exact h2⟩
 .rw[if_neg hw,if_neg hw,Int.add_zero];exact⟨λ h=>⟨D,rfl,h⟩,λ⟨_,h1,h2⟩=>by cases h1;exact h2⟩
theorem eU {w p D D':Nat}(h:stepT w p D=some D'):D'<=D:=by
 unfold stepT at h;split at h
 .cases D with
  | zero=>cases h
  | succ D=>cases h;omega
 .cases h;omega
theorem d7 (R:Ring F m w pu Bo Bd st) (ok:F.Ok):∀ (k p:Nat),p<m->∀ (D O:Nat),O<=Bo->D<=Bd->(zN ((yh F k).getD p []) (zw pu (O:Int) (D:Int))=true↔k<WW m w (yJ Bd st) p D O)
 | 0,p,hp,D,O,hO,hD=>by
  have e:(yh F 0).getD p []=xq:=by
   unfold yh start;rw[List.getD_eq_getElem?_getD,List.getElem?_replicate,if_pos (by rw[R.len];exact hp)];rfl
  rw[e,aU];have:=R.box hO hD;exact⟨λ _=>Zx ..,λ _=>⟨this.1.1,this.2.1⟩⟩
 | k+1,p,hp,D,O,hO,hD=>by
  have hn:=lI hp;have ih:=d7 R ok k (nx m p) hn;have gd:=SD ok k (nx m p) (by rw[R.len];exact hn);have hb:∀ b∈(yh F k).getD (nx m p) [],0<=b.1/\0<=b.2:=λ b h=>⟨(gd.x9 b h).1.1,(gd.x9 b h).2.1⟩;have e:(yh F (k+1)).getD p []=yY F (yh F k) p:=gr _ _ _ _ (by rw[R.len];exact hp);rw[e];have ea:xr F (yh F k) p=[sd F.A F.B (zw pu 0 (if p=w then -1 else 0)).1 (zw pu 0 (if p=w then -1 else 0)).2 ((yh F k).getD (nx m p) [])]:=by
   unfold xr;rw[R.ws p hp];rfl
  have one:∀ {D O:Nat},O<=Bo->D<=Bd->(zN (wC (xr F (yh F k) p)) (zw pu (O:Int) (D:Int))=true↔∃ D',stepT w p D=some D'/\k<WW m w (yJ Bd st) (nx m p) D' O):=λ{D O} hO hD=>by
   unfold wC;rw[ki,ea];have c0:zN [] (zw pu (O:Int) (D:Int))=true↔False:=⟨λ h=>(by cases h),False.elim⟩
   rw[c0,false_or];constructor
   .rintro⟨c,hc,h⟩;rw[List.mem_singleton] at hc;subst hc;obtain⟨D',h1,h2⟩:=(Zu R hp hb hO hD).mp h;exact⟨D',h1,(ih D' O hO (Nat.le_trans (eU h1) hD)).mp h2⟩
   .rintro⟨D',h1,h2⟩;exact⟨_,List.mem_singleton.mpr rfl,(Zu R hp hb hO hD).mpr ⟨D',h1,(ih D' O hO (Nat.le_trans (eU h1) hD)).mpr h2⟩⟩
  have two:zN (pS (xr F (yh F k) p)) (zw pu (O:Int) (D:Int))=true↔zN (wC (xr F (yh F k) p)) (zw pu (O:Int) (D:Int))=true:=by
   unfold pS wC;rw[gX,ki,ea];have b0:=R.box hO hD;have c0:zN [] (zw pu (O:Int) (D:Int))=true↔False:=⟨λ h=>(by cases h),False.elim⟩
   have c1:zN xq (zw pu (O:Int) (D:Int))=true:=aU.mpr ⟨b0.1.1,b0.2.1⟩;rw[c0,false_or];exact⟨λ h=>⟨_,List.mem_singleton.mpr rfl,h.2 _ (List.mem_singleton.mpr rfl)⟩,λ⟨c,hc,h⟩=>⟨c1,λ c' hc'=>by rw[List.mem_singleton] at hc hc';rw[hc',<- hc];exact h⟩⟩
  have plain:(∀ h g,st=some (h,g)->h<m/\p≠h)->((∃ D',stepT w p D=some D'/\k<WW m w (yJ Bd st) (nx m p) D' O)↔k+1<WW m w (yJ Bd st) p D O):=λ hs=>by
   have hs':∀ h g,yJ Bd st=some (h,g)->h<m/\p≠h:=λ h g e=>by
    unfold yJ at e;obtain⟨x,hx,e⟩:=zOm e;cases e;exact hs x.1 x.2 hx
   unfold stepT;by_cases hw:p=w
   .subst hw;rw[if_pos rfl];cases D with
    | zero=>
     rw[Zz hp hs'];exact⟨λ⟨_,h,_⟩=>(by cases h),λ h=>(by omega)⟩
    | succ D=>
     rw[Zw hp hs'];exact⟨λ⟨_,h1,h2⟩=>by cases h1;omega,λ h=>⟨D,rfl,by omega⟩⟩
   .rw[if_neg hw,Zy hp R.wm hs' hw];exact⟨λ⟨_,h1,h2⟩=>by cases h1;omega,λ h=>⟨D,rfl,by omega⟩⟩
  have hss:=R.ss;have key:∀ h g,st=some (h,g)->p=h->(zN (rq F ⟨h,pu,1,(g:Int)⟩ (wC (xr F (yh F k) p))) (zw pu (O:Int) (D:Int))=true↔k+1<WW m w (yJ Bd st) p D O):=λ h g hst hph=>by
   subst hst;subst hph;have gb:Gd F.A F.B (wC (xr F (yh F k) p)):=nh _ _ Gd.nil (kF F _ p);have b0:∀ b∈wC (xr F (yh F k) p),0<=b.1/\0<=b.2:=λ b hb=>⟨(gb.x9 b hb).1.1,(gb.x9 b hb).2.1⟩;have gv:∀ x y,yM pu (zw pu x y)=x:=λ x y=>by cases pu <;> rfl
   have gt:∀ x y,xo pu (zw pu x y)=y:=λ x y=>by cases pu <;> rfl
   have hY:(Bd:Int)=(if pu=true then F.A else F.B):=by
    have:=R.bd;unfold zL.yf at this;cases pu <;> simp at this ⊢ <;> omega
   have at_:∀ t:Nat,zN (wC (xr F (yh F k) p)) (zw pu (((O:Int))-t*1) ((D:Int)+t*(g:Int)))=true↔t<=O/\∃ D',stepT w p (min (D+t*g) Bd)=some D'/\k<WW m w (yJ Bd (some (p,g))) (nx m p) D' (O-t):=λ t=>by
    by_cases ht:t<=O
    .have e1:((O:Int))-t*1=((O-t:Nat):Int):=by omega
     have e2:(D:Int)+t*(g:Int)=((D+t*g:Nat):Int):=by push_cast;rfl
     rw[e1,e2,Qk gb pu _ _ _ hY];have e3:min ((D+t*g:Nat):Int) (Bd:Int)=((min (D+t*g) Bd:Nat):Int):=by omega
     rw[e3,one (by omega) (Nat.min_le_right _ _)];exact⟨λ h=>⟨ht,h⟩,λ h=>h.2⟩
    .refine⟨λ h=>?_,λ h=>absurd h.1 ht⟩;rw[aR b0 (by cases pu <;> simp[zw] <;> omega)] at h;cases h
   rw[Qx (s:=⟨p,pu,1,(g:Int)⟩) ⟨by show (1:Int)<=1;omega,by simp⟩ ok.a1 ok.b1 b0 (R.box hO hD)];dsimp only;rw[gv,gt];constructor
   .rintro⟨t,ht⟩;obtain⟨ht,D',h1,h2⟩:=(at_ t).mp ht;have le:=Qt (g:=g) hD ht;show k+1<WW m w (some (p,min g Bd)) p D O;have h2:k<WW m w (some (p,min g Bd)) (nx m p) D' (O-t):=h2;unfold stepT at h1;by_cases hw:p=w
    .rw[if_pos hw] at h1;generalize hX:min (D+t*g) Bd=X at h1 le;cases X with
     | zero=>cases h1
     | succ X=>
      have h1:X=D':=Option.some.inj h1;subst h1;subst hw;have:=Pd (m:=m) (g:=min g Bd) hp (D:=D) (O:=O) (D':=X) (O':=O-t) (by omega);omega
    .rw[if_neg hw] at h1;cases h1;have:=Pc (g:=min g Bd) hp R.wm hw le;omega
   .intro hk;have hk:k+1<WW m w (some (p,min g Bd)) p D O:=hk;have pick:∃ t,t<=O/\∃ D',stepT w p (min (D+t*g) Bd)=some D'/\WW m w (some (p,min g Bd)) p D O=1+WW m w (some (p,min g Bd)) (nx m p) D' (O-t):=by
     by_cases hD0:0<D
     .refine⟨0,Nat.zero_le _,?_⟩;have e:min (D+0*g) Bd=D:=by rw[Nat.zero_mul];omega
      rw[e];unfold stepT;by_cases hw:p=w
      .rw[if_pos hw];obtain⟨d,rfl⟩:∃ d,D=d+1:=⟨D-1,by omega⟩
       subst hw;exact⟨d,rfl,kG hp (by rw[Nat.sub_zero])⟩
      .rw[if_neg hw];exact⟨D,rfl,nR hp R.wm hw (by rw[Nat.sub_zero]) (.inl hD0)⟩
     .have hD0:D=0:=by omega
      subst hD0;by_cases hz:0<O/\0<min g Bd
      .refine⟨1,hz.1,?_⟩;have e:min (0+1*g) Bd=min g Bd:=by rw[Nat.one_mul,Nat.zero_add]
       have hm:min g Bd+(O-1)*min g Bd=0+O*min g Bd:=by
        obtain⟨o,rfl⟩:∃ o,O=o+1:=⟨O-1,by omega⟩
        rw[Nat.add_sub_cancel,Nat.succ_mul];omega
       rw[e];unfold stepT;by_cases hw:p=w
       .rw[if_pos hw];subst hw;generalize hX:min g Bd=X at hz hm;cases X with
        | zero=>omega
        | succ X=>exact⟨X,rfl,kG hp hm⟩
       .rw[if_neg hw];exact⟨_,rfl,nR hp R.wm hw hm (.inl hz.2)⟩
      .have h0:0+O*min g Bd=0:=by
        rcases Nat.eq_zero_or_pos O with h | h
        .rw[h];simp
        .have:min g Bd=0:=by omega
         rw[this];simp
       refine⟨0,Nat.zero_le _,?_⟩;have e:min (0+0*g) Bd=0:=by rw[Nat.zero_mul];omega
       rw[e];unfold stepT;by_cases hw:p=w
       .subst hw;rw[fk 0 O h0] at hk;omega
       .rw[if_neg hw];exact⟨0,rfl,nR hp R.wm hw (by rw[Nat.sub_zero]) (.inr h0)⟩
    obtain⟨t,ht,D',h1,h2⟩:=pick;exact⟨t,(at_ t).mpr ⟨ht,D',h1,by show k<WW m w (some (p,min g Bd)) (nx m p) D' (O-t);omega⟩⟩
  unfold yY;cases st with
  | none=>
   have e0:F.stall p=none:=by unfold zL.stall;rw[show F.ss=[] from hss];rfl
   rw[e0];have pl:=plain (λ h g e=>by cases e);split
   .exact (one hO hD).trans pl
   .exact (two.trans (one hO hD)).trans pl
  | some x=>
   obtain⟨h,g⟩:=x;obtain⟨h1,h2,h3⟩:F.ss=[⟨h,pu,1,(g:Int)⟩]/\h<m/\F.os.getD h false=true:=hss;by_cases hph:p=h
   .have e0:F.stall p=some ⟨h,pu,1,(g:Int)⟩:=by unfold zL.stall;rw[h1];simp[hph]
    rw[e0,if_pos (by rw[hph];exact h3)];exact key h g rfl hph
   .have e0:F.stall p=none:=by unfold zL.stall;rw[h1];simp[Ne.symm hph]
    rw[e0];have pl:=plain (λ h' g' e=>by cases e;exact⟨h2,hph⟩);split
    .exact (one hO hD).trans pl
    .exact (two.trans (one hO hD)).trans pl
end
end RG
namespace yH
open PySem L2 L3 L5
def Yv:Sm:=
 (retS (kE (instS "int" (zb 0)) (cM (instS "bool" (zb 0)))))
def kR:List T->Option T:=yw ["thing"] 1 Yv
def Yk:Sm:=
 (retS (zJ qf (zc (zg zm (zb 0) (cS (.int 1))) zr)))
def qE:List T->Option T:=yw ["floor"] 1 Yk
def Y6:Sm:=
 (retS (kE (zg gw (zg zm (zb 0) (cS (.int 0))) (zg zm (zb 1) (cS (.int 0)))) (zg gw (zg zm (zb 0) (cS (.int 1))) (zg zm (zb 1) (cS (.int 1))))))
def om:List T->Option T:=yw ["pair","other"] 2 Y6
def nP:Sm:=
 (xV (kj (rj (xv (zb 1))) (y9 (zg vY (zg zm (zb 2) (cS (.int 1))) (zg zm (zg zm (zb 1) (i8 (cS (.int 1)))) (cS (.int 1)))))) (rC 1 (zx 2)) xT)
def Yo:Sm:=
 (zD (ui 1 (vd zr))
 (zD (vK [2] (xH (zJ qR (zc (zb 0) zr))) (zM 2) nP)
 (retS (zJ qO (zc (zb 1) zr)))))
def su:List T->Option T:=yw ["pairs","least","pair"] 1 Yo
def qx:Sm:=
 (zD (rC 4 (bO (y9 (zg (xp false) (zb 3) (cS (.int 0)))) (tupS (zc (zx 5) (zc (zx 6) zr))) (tupS (zc (zx 6) (zc (zx 5) zr)))))
 (zD (yr 5 (zg uk (zb 5) (zg zm (zb 1) (cS (.int 2)))))
 (yr 6 (zJ oM (zc (cS (.int 0)) (zc (zg xZ (zb 6) (zg zm (zb 1) (cS (.int 3)))) zr))))))
def Yl:Sm:=
 (zD (yr 3 (zg zm (zb 1) (cS (.int 1))))
 (zD (ui 4 (vd zr))
 (zD (yr 5 (zg zm (zb 2) (zb 3)))
 (zD (yr 6 (zg zm (zb 2) (zg xZ (cS (.int 1)) (zb 3))))
 (zD (uN 1000000 [] (y9 (zg qh (zb 5) (zg zm (zb 0) (zb 3)))) qx)
 (o6 4))))))
def nZ:List T->Option T:=yw ["brims","stall","pair","purse","pairs","given","got"] 3 Yl
def Yr:Sm:=
 (zD (xV (y9 (zg vY (zb 1) (zJ qf (zc (zb 0) zr)))) (retS (zg wJ (zg zm (zb 0) (zb 1)) (zg dY (cS (.int 10)) (cS (.int 40))))) xT)
 (retS (cS (.int 0))))
def wx:List T->Option T:=yw ["_law_script","_law_k"] 2 Yr
def Yq:Sm:=
 (retS (zg uA (zb 0) (zg uk (zg zm (zb 1) (zb 2)) (zg uA (zg zm (zb 1) (zg xZ (cS (.int 1)) (zb 2))) (zJ sV (zc (zb 3) (zc (zg zm (zb 1) (zb 2)) zr)))))))
def uJ:List T->Option T:=yw ["_law_many","_law_brims","_law_drained","_law_get"] 4 Yq
def nQ:Sm:=
 (xV (gK (y9 (zg (xp false) (zb 7) (zb 3))) (gK (y9 (zg (xp false) (zg zm (zb 5) (zb 1)) (cS (.int 0)))) (y9 (zg tU (zg zm (zb 5) (zg xZ (cS (.int 1)) (zb 1))) (cS (.int 0)))))) (zD (sW 5 (zg xZ (cS (.int 1)) (zb 1)) (zg xZ (zg zm (zb 5) (zg xZ (cS (.int 1)) (zb 1))) (cS (.int 1))))
 (sW 5 (zb 1) (zJ sV (zc (zb 10) (zc (zg zm (zg zm (zb 0) (cS (.int 0))) (zb 1)) zr))))) xT)
def nM:Sm:=
 (zD (vK [7,8,9,10] (xH (zg zm (zb 0) (cS (.int 3)))) (wA 4 (yv (zM 7) (yv (zM 8) (yv (zM 9) (yv (zM 10) vc))))) nQ)
 (zD (yr 6 (zg uk (zb 6) (cS (.int 1))))
 (zD (xV (y9 (zg (xp false) (zb 3) (zb 2))) (sW 5 (zb 1) (zg xZ (zg zm (zb 5) (zb 1)) (cS (.int 1)))) xT)
 (zD (xV (y9 (zg vY (zg zm (zb 5) (zb 1)) (cS (.int 0)))) (retS (zx 6)) xT)
 (yr 3 (zg zm (zg zm (zg zm (zb 0) (cS (.int 2))) (zb 3)) (cS (.int 1))))))))
def Yp:Sm:=
 (zD (ui 5 (zJ listS (zc (zb 4) zr)))
 (zD (yr 6 (cS (.int 0)))
 (uN 1000000 [7,8,9,10] (xv (cS (.bl true))) nM)))
def p_:List T->Option T:=yw ["_law_floor","_law_drained","_law_worn","_law_place","_law_pair","_law_held","_law_steps","_law_home","_law_purse","_law_give","_law_get"] 5 Yp
def Yu:Sm:=
 (retS (kE (zJ kR (zc (zx 0) zr)) (Za qh qh (zb 1) (zb 0) (zb 2))))
def ma:List T->Option T:=yw ["thing","least","most"] 3 Yu
def k4:Ev->Option T:=
 wL [none,some 1] (xH (zb 0)) (zM 0) r9 (zJ om (zc (zx 1) (zc (zx 0) zr)))
def Yx:Sm:=
 (retS (zJ (k6 λ bs=>bs.any id) (zc k4 zr)))
def me:List T->Option T:=yw ["border","pair"] 2 Yx
def Ze:Ev->Option T:=
 wL [none] (xH (zb 0)) (zM 0) r9 (tupS (zc (zg zm (zb 0) (cS (.int 0))) (zc (cS (.int 0)) (zc (zg zm (zb 0) (cS (.int 1))) zr))))
def Zd:Ev->Option T:=
 wL [none] (xH (zb 1)) (zM 0) r9 (tupS (zc (zg zm (zb 0) (cS (.int 0))) (zc (cS (.int 1)) (zc (zg zm (zb 0) (cS (.int 1))) zr))))
def kA:Sm:=
 (zD (aA 3 (zb 6) (zJ sV (zc (zb 7) (zc (aC 3 (zb 6) (zx 7)) zr))))
 (xV (y9 (zg (xp false) (gN 3) (cS (.int 2)))) (rC 4 (tupS (zc (zx 5) (zc (zJ oM (zc (gO 3 (cS (.int 0))) (zc (gO 3 (cS (.int 1))) zr))) zr)))) xT))
def Y2:Sm:=
 (zD (yr 2 (zg uk Ze Zd))
 (zD (aB 3)
 (zD (ui 4 (vd zr))
 (zD (vK [5,6,7] (xH (zJ qR (zc (zb 2) zr))) (wA 3 (yv (zM 5) (yv (zM 6) (yv (zM 7) vc)))) kA)
 (gz 4 (retS (zJ su (zc (zx 4) zr))))))))
def mj:List T->Option T:=yw ["border","other","steps","lows","shared","first","side","second"] 2 Y2
def Yz:Sm:=
 (retS (zJ su (zc (zg uk (zJ listS (zc (zb 0) zr)) (zJ listS (zc (zb 1) zr))) zr)))
def mh:List T->Option T:=yw ["border","other"] 2 Yz
def k5:Ev->Option T:=
 wL [none,some 1] (xH (zb 2)) (zM 0) r9 (tupS (zc (zJ oM (zc (cS (.int 0)) (zc (zg xZ (zg zm (zb 0) (cS (.int 0))) (zg zm (zb 1) (cS (.int 2)))) zr))) (zc (zJ oM (zc (cS (.int 0)) (zc (zg xZ (zg zm (zb 0) (cS (.int 1))) (zg zm (zb 1) (cS (.int 3)))) zr))) zr)))
def ku:Ev->Option T:=
 wL [none,some 0] (xH (zb 3)) (zM 0) (xv (zJ om (zc (zx 1) (zc (zx 0) zr)))) (zx 0)
def Y5:Sm:=
 (zD (yr 3 k5)
 (retS (zJ su (zc ku zr))))
def mr:List T->Option T:=yw ["brims","way","border","pairs"] 3 Y5
def pU:Sm:=
 (zD (rC 7 (zg zm (vd (zc (cS (.str "keeper")) (zc (cS (.str "taker")) zr))) (zg wJ (zb 8) (cS (.int 2)))))
 (yr 8 (zg tW (zb 8) (cS (.int 2)))))
def qw:Sm:=
 (sW 10 (zg xZ (cS (.int 1)) (zb 3)) (zg xZ (zg zm (zb 10) (zg xZ (cS (.int 1)) (zb 3))) (cS (.int 1))))
def pT:Sm:=
 (zD (ui 13 (vd (zc (cS (.int 0)) (zc (cS (.int 0)) zr))))
 (zD (xV (y9 (zg (xp false) (zb 9) (zb 11))) (sW 13 (zb 3) (zg xZ (cS (.int 0)) (cS (.int 1)))) xT)
 (rC 12 (tupS (zc (zx 9) (zc (zg wJ (zg uk (zb 9) (cS (.int 1))) (zb 2)) (zc (zg zm (zb 13) (cS (.int 0))) (zc (zg zm (zb 13) (cS (.int 1))) zr))))))))
def f_:Sm:=
 (zD (yr 1 (zJ wx (zc (zx 0) (zc (cS (.int 0)) zr))))
 (zD (yr 2 (zg uk (cS (.int 1)) (zg wJ (zb 1) (cS (.int 8)))))
 (zD (yr 3 (zg wJ (zg tW (zb 1) (cS (.int 8))) (cS (.int 2))))
 (zD (yr 4 (zg wJ (zJ wx (zc (zx 0) (zc (cS (.int 1)) zr))) (zb 2)))
 (zD (yr 5 (cS (.int 0)))
 (zD (yr 6 (tupS zr))
 (zD (ui 7 (vd zr))
 (zD (yr 8 (zJ wx (zc (zx 0) (zc (cS (.int 2)) zr))))
 (zD (vK [9] (vZ o4 (zc (zb 2) zr)) (zM 9) pU)
 (zD (xV (y9 (zg tU (zg wJ (zg tW (zb 1) (cS (.int 16))) (cS (.int 3))) (cS (.int 0)))) (zD (sW 7 (zb 4) (cS (.str "keeper")))
 (zD (yr 5 (zg zm (vd (zc (cS (.int 12)) (zc (cS (.int 12)) (zc (cS (.int 5)) (zc (cS (.int 1)) (zc (cS (.int 3)) (zc (cS (.int 0)) (zc (cS (.int 12)) (zc (cS (.int 2)) zr))))))))) (zg wJ (zg tW (zb 1) (cS (.int 48))) (cS (.int 8)))))
 (yr 6 (tupS (zc (tupS (zc (zx 4) (zc (zg xZ (cS (.int 1)) (zb 3)) (zc (cS (.int 1)) (zc (zx 5) zr))))) zr))))) xT)
 (zD (ui 10 (vd (zc (zg zm (vd (zc (cS (.int 12)) (zc (cS (.int 12)) (zc (cS (.int 7)) (zc (cS (.int 3)) zr))))) (zg wJ (zg tW (zb 1) (cS (.int 384))) (cS (.int 4)))) (zc (zg zm (vd (zc (cS (.int 12)) (zc (cS (.int 12)) (zc (cS (.int 9)) (zc (cS (.int 0)) zr))))) (zg wJ (zg tW (zb 1) (cS (.int 1536))) (cS (.int 4)))) zr))))
 (zD (uN 1000000 [] (y9 (zg tU (qu uJ (zc (zb 2) (zc (zb 10) (zc (zb 3) (zc (zb 5) zr))))) (cS (.int 480)))) qw)
 (zD (yr 11 (zg wJ (zJ wx (zc (zx 0) (zc (cS (.int 3)) zr))) (zb 2)))
 (zD (ui 12 (vd zr))
 (zD (vK [9,13] (vZ o4 (zc (zb 2) zr)) (zM 9) pT)
 (retS (tupS (zc (zx 3) (zc (zx 11) (zc (tupS (zc (zJ qO (zc (zb 10) zr)) (zc (zJ qO (zc (zb 7) zr)) (zc (zJ qO (zc (zb 12) zr)) (zc (zx 6) zr))))) zr))))))))))))))))))))
def oa:List T->Option T:=yw ["_law_script","_law_number","_law_many","_law_drained","_law_home","_law_get","_law_stalls","_law_owners","_law_bits","_law_place","_law_brims","_law_worn","_law_ways","_law_coins"] 1 f_
def k0:Ev->Option T:=
 wL [none,none] (vZ kW (zc (zb 0) (zc (zb 1) zr))) (wA 2 (yv (zM 0) (yv (zM 1) vc))) r9 (zJ ma (zc (zx 0) (zc (zg zm (zb 1) (cS (.int 0))) (zc (zg zm (zb 1) (cS (.int 1))) zr))))
def Yw:Sm:=
 (zD (xV (kj (rj (xv (instS "tuple" (zb 0)))) (y9 (zg (xp true) (zJ qf (zc (zb 0) zr)) (zJ qf (zc (zb 1) zr))))) (retS (cS (.bl false))) xT)
 (retS (zJ (k6 λ bs=>bs.all id) (zc k0 zr))))
def md:List T->Option T:=yw ["thing","bounds"] 2 Yw
def Y0:Sm:=
 (xV (rj (xv (zJ ma (zc (zx 1) (zc (cS (.int 0)) (zc (zg xZ (zJ qE (zc (zx 0) zr)) (cS (.int 1))) zr)))))) i5 xT)
def qG:List T->Option T:=yw ["floor","place"] 2 Y0
def kB:Sm:=
 (yr 1 (zJ mh (zc (zx 1) (zc (zx 2) zr))))
def Y3:Sm:=
 (zD (yr 1 (tupS zr))
 (zD (vK [2] (xH (zx 0)) (zM 2) kB)
 (retS (zx 1))))
def ml:List T->Option T:=yw ["borders","joined","border"] 1 Y3
def kC:Sm:=
 (yr 1 (zJ mj (zc (zx 1) (zc (zx 2) zr))))
def Y4:Sm:=
 (zD (yr 1 (tupS (zc (tupS (zc (cS (.int 0)) (zc (cS (.int 0)) zr))) zr)))
 (zD (vK [2] (xH (zx 0)) (zM 2) kC)
 (retS (zx 1))))
def mq:List T->Option T:=yw ["borders","joined","border"] 1 Y4
def k9:Sm:=
 (xV (rj (xv (zJ me (zc (zg zm (zb 4) (zb 1)) (zc (zx 2) zr))))) (retS (zx 3)) xT)
def Yy:Sm:=
 (zD (vK [3,4] (vZ vN (zc (zx 0) zr)) (wA 2 (yv (zM 3) (yv (zM 4) vc))) k9)
 (retS (cS .zh)))
def mf:List T->Option T:=yw ["told","place","pair","number","held"] 3 Yy
def Y1:Sm:=
 (xV (rj (xv (zJ md (zc (zx 1) (zc (tupS (zc (tupS (zc (cS (.int 0)) (zc (zg zm (zg zm (zb 0) (cS (.int 0))) (cS (.int 0))) zr))) (zc (tupS (zc (cS (.int 0)) (zc (zg zm (zg zm (zb 0) (cS (.int 0))) (cS (.int 1))) zr))) zr))) zr))))) i5 xT)
def mi:List T->Option T:=yw ["floor","pair"] 2 Y1
def kx:Ev->Option T:=
 wL [none,none,some 1] (vZ vN (zc (zg zm (zb 0) (cS (.int 2))) zr)) (wA 2 (yv (zM 0) (yv (zM 1) vc))) (y9 (zg (xp false) (zg zm (zb 1) (cS (.int 0))) (zb 2))) (zx 0)
def Yh:Sm:=
 (zD (nA (zJ qG (zc (zx 0) (zc (zx 1) zr))))
 (retS kx))
def nY:List T->Option T:=yw ["floor","place"] 2 Yh
def nN:Sm:=
 (xV (y9 (zg (xp false) (zg zm (zb 2) (cS (.int 0))) (zb 1))) (retS (zx 2)) xT)
def Yi:Sm:=
 (zD (nA (zJ qG (zc (zx 0) (zc (zx 1) zr))))
 (zD (vK [2] (xH (zg zm (zb 0) (cS (.int 3)))) (zM 2) nN)
 (retS (cS .zh))))
def qD:List T->Option T:=yw ["floor","place","stall"] 2 Yi
def kD:Sm:=
 (gE 4 (zJ nZ (zc (zg zm (zb 0) (cS (.int 0))) (zc (zx 3) (zc (zx 5) zr)))))
def ee:Sm:=
 (zD (yr 3 (zJ qD (zc (zx 0) (zc (zx 1) zr))))
 (zD (xV (y9 (zg (oS false) (zb 3) (cS .zh))) (retS (zx 2)) xT)
 (zD (ui 4 (vd zr))
 (zD (vK [5] (xH (zx 2)) (zM 5) kD)
 (gz 4 (retS (zJ su (zc (zx 4) zr))))))))
def oj:List T->Option T:=yw ["floor","place","border","stall","pairs","pair"] 3 ee
def kz:Ev->Option T:=
 wL [none,some 0] (xH (zJ nY (zc (zx 0) (zc (zx 1) zr)))) (zM 0) r9 (zg zm (zg zm (zb 1) (cS (.int 2))) (zb 0))
def kr:Ev->Option T:=
 wL [none,some 0,some 2] (xH (zb 3)) (zM 0) r9 (zJ mr (zc (zg zm (zb 1) (cS (.int 0))) (zc (zx 0) (zc (zg zm (zb 2) (zg zm (zb 0) (cS (.int 1)))) zr))))
def Yn:Sm:=
 (zD (yr 3 kz)
 (zD (yr 4 kr)
 (zD (xV (y9 (zg (xp false) (zg zm (zg zm (zb 0) (cS (.int 1))) (zb 1)) (cS (.str "keeper")))) (retS (zJ oj (zc (zx 0) (zc (zx 1) (zc (zJ ml (zc (zx 4) zr)) zr))))) xT)
 (retS (zJ mq (zc (zx 4) zr))))))
def n_:List T->Option T:=yw ["floor","place","last","ways","ahead"] 3 Yn
def ky:Ev->Option T:=
 wL [none,some 2] (xH (zg zm (zb 0) (cS (.int 2)))) (zM 0) (y9 (zg (pD false) (zg zm (zb 0) (cS (.int 1))) (zb 1))) (zg zm (zb 0) (cS (.int 0)))
def k8:Sm:=
 (sW 3 (zb 4) (zJ n_ (zc (zx 0) (zc (zx 4) (zc (zx 1) zr)))))
def Ym:Sm:=
 (zD (ui 3 (zJ listS (zc (zb 1) zr)))
 (zD (vK [4] (xH (zJ mP (zc ky zr))) (zM 4) k8)
 (o6 3)))
def pZ:List T->Option T:=yw ["floor","last","fresh","following","place"] 3 Ym
def nL:Ev->Option T:=
 wL [none,none,some 3] (vZ vN (zc (zb 4) zr)) (wA 2 (yv (zM 0) (yv (zM 1) vc))) (y9 (zg (xp true) (zb 1) (zg zm (zb 2) (zb 0)))) (zx 0)
def t4:Sm:=
 (zD (yr 3 (zg zm (zb 1) (i8 (cS (.int 1)))))
 (zD (yr 4 (zJ pZ (zc (zx 0) (zc (zx 3) (zc (zx 2) zr)))))
 (zD (yr 2 nL)
 (xV (xv (zb 2)) (rC 1 (zx 4)) xT))))
def Yj:Sm:=
 (zD (ui 1 (vd (zc (zg uA (vd (zc (tupS (zc (tupS (zc (cS (.int 0)) (zc (cS (.int 0)) zr))) zr)) zr)) (zJ qE (zc (zx 0) zr))) zr)))
 (zD (yr 2 (zJ oO (zc (zJ qE (zc (zx 0) zr)) zr)))
 (zD (uN 1000000 [3,4] (xv (zb 2)) t4)
 (o6 1))))
def pY:List T->Option T:=yw ["floor","told","fresh","last","following"] 1 Yj
def Yt:Sm:=
 (zD (nA (zJ qG (zc (zx 0) (zc (zx 1) zr))))
 (zD (nA (zJ mi (zc (zx 0) (zc (zx 2) zr))))
 (retS (zJ mf (zc (zJ pY (zc (zx 0) zr)) (zc (zx 1) (zc (zx 2) zr)))))))
def qF:List T->Option T:=yw ["floor","place","pair"] 3 Yt
def Ys:Sm:=
 (zD (eP (zJ oa (zc (zx 0) zr)) (wA 3 (yv (zM 1) (yv (zM 2) (yv (zM 3) vc)))))
 (zD (yr 4 (zg wJ (zJ wx (zc (zx 0) (zc (cS (.int 4)) zr))) (zJ qf (zc (zg zm (zb 3) (cS (.int 1))) zr))))
 (zD (yr 5 (zJ wx (zc (zx 0) (zc (cS (.int 5)) zr))))
 (zD (yr 6 (zg zm (zb 3) (cS (.int 0))))
 (zD (xV (y9 (zg (xp false) (zg wJ (zb 5) (cS (.int 2))) (cS (.int 1)))) (yr 6 (tupS (zc (zg wJ (zg tW (zb 5) (cS (.int 2))) (zg uk (zg zm (zg zm (zb 3) (cS (.int 0))) (cS (.int 0))) (cS (.int 1)))) (zc (zg wJ (zg tW (zb 5) (cS (.int 26))) (zg uk (zg zm (zg zm (zb 3) (cS (.int 0))) (cS (.int 1))) (cS (.int 1)))) zr)))) xT)
 (zD (yr 7 (zJ qF (zc (zx 3) (zc (zx 4) (zc (zx 6) zr)))))
 (zD (xV (kj (rj (xv (instS "int" (zb 7)))) (xv (instS "bool" (zb 7)))) (retS (cS (.bl false))) xT)
 (retS (zg (xp false) (zb 7) (zJ p_ (zc (zx 3) (zc (zx 1) (zc (zx 2) (zc (zx 4) (zc (zx 6) zr)))))))))))))))
def og:List T->Option T:=yw ["_law_script","_law_drained","_law_worn","_law_floor","_law_place","_law_cell_here","_law_pair","_law_found"] 1 Ys
end yH
namespace yH
open PySem L2 L3 L5
theorem X8 (ps:List (Int×Int)) (h:ps.length<256):qR [.lst (ps.map zt)]=some (.lst ((tJ ps).map zt)):=by
 show (uQ (ps.map zt)).bind _=_;rw[Wb,Option.bind_some,if_pos ⟨by simpa using h,λ r hr=>by obtain⟨p,_,rfl⟩:=List.mem_map.mp hr;simp[vB]⟩,<- eW,List.map_map];rfl
noncomputable def cell (ns:List Int) (k:Nat):Int:=if k<ns.length then ns.getD k 0%10 ^ 40 else 0
theorem oh (ns:List Int) (k:Nat):wx [x_ ns,.int (k:Int)]=some (.int (cell ns k)):=by
 unfold wx Yr cell x_;by_cases h:k<ns.length
 .have e:L2.yp (ns.map T.int) (k:Int)=some (.int (ns.getD k 0)):=t6 (by simp[h]);simp[h,e,qI,vY]
 .simp[h,vY]
theorem Rh {qs p:List (Int×Int)}{x:Int×Int}(hr:∀ r,qs++yN r (qs.getLast?.map (·.2))=yN (p++r) none) (hb:tw (qs.getLast?.map (·.2)) x.2=true) (r:List (Int×Int)):
  (qs++[x])++yN r ((qs++[x]).getLast?.map (·.2))=yN (p++[x]++r) none:=by
 have:=hr (x::r);rw[show yN (x::r) (qs.getLast?.map (·.2))=x::yN r (some x.2) by rw[yN,if_pos hb]] at this;simpa using this
theorem Ri {qs p:List (Int×Int)}{x:Int×Int}(hr:∀ r,qs++yN r (qs.getLast?.map (·.2))=yN (p++r) none) (hb:tw (qs.getLast?.map (·.2)) x.2=false) (r:List (Int×Int)):
  qs++yN r (qs.getLast?.map (·.2))=yN (p++[x]++r) none:=by
 have:=hr (x::r);rw[show yN (x::r) (qs.getLast?.map (·.2))=yN r (qs.getLast?.map (·.2)) by rw[yN,if_neg (by rw[hb];nofun)]] at this;simpa using this
theorem kQ (ps:List (Int×Int)) (hl:ps.length<256):su [.lst (ps.map zt)]=some (.tup ((ve ps).map zt)):=by
 obtain⟨ρ',h1,qs,h2,h3,h4⟩:=sX (is:=[2]) (g:=zM 2) (b:=nP) zt (λ p ρ=>∃ qs:List (Int×Int),ρ=[some (.im (.lst (ps.map zt))),some (.own (.lst (qs.map zt))),none]/\qs.length<=p.length/\
   ∀ r,qs++yN r (qs.getLast?.map (·.2))=yN (p++r) none) (tJ ps) [some (.im (.lst (ps.map zt))),some (.own (.lst [])),none] ⟨[],by simp,by simp,λ r=>by simp⟩ (by
  rintro p x q e ρ ⟨qs,rfl,hq,hr⟩;have hlen:p.length<256:=by
   have:=congrArg List.length e;rw[(jm ps).length_eq] at this;simp at this;omega
  have app:tw (qs.getLast?.map (·.2)) x.2=true->∃ qs':List (Int×Int),yO [2] [some (.im (.lst (ps.map zt))),some (.own (.lst (qs.map zt++[zt x]))),some (.im (zt x))]=[some (.im (.lst (ps.map zt))),some (.own (.lst (qs'.map zt))),none]/\qs'.length<=(p++[x]).length/\∀ r,qs'++yN r (qs'.getLast?.map (·.2))=yN (p++[x]++r) none:=λ hb=>
   ⟨qs++[x],by simp,by simp;omega,Rh hr hb⟩
  rcases List.eq_nil_or_concat qs with rfl | ⟨init,l,rfl⟩
  .refine⟨_,?_,app (by simp[tw])⟩;simp[turn,nP]
  .simp only[List.concat_eq_append] at *;by_cases hb:x.2<l.2
   .refine⟨_,?_,app (by simp[tw,hb])⟩;simp at hq;simp[turn,nP,zt,hb,vY];omega
   .refine⟨[some (.im (.lst (ps.map zt))),some (.own (.lst ((init++[l]).map zt))),some (.im (zt x))],?_,init++[l],by simp,by simp at hq ⊢;omega,Ri hr (by simp[tw];omega)⟩;simp[turn,nP,zt,hb,vY])
 have h5:=h4 [];simp[yN] at h5;unfold su Yo;simp[X8 ps hl,h1,h2,h5,ve]
theorem P0 (b o:List (Int×Int)) (hl:b.length+o.length<256):mh [.tup (b.map zt),.tup (o.map zt)]=some (.tup ((ve (b++o)).map zt)):=by
 have h:=kQ (b++o) (by simpa using hl);rw[List.map_append] at h;have:b.length+o.length<=16777216:=by omega
 unfold mh Yz;simp[h,this]
end yH
namespace yH
open PySem L2 L3 L5
noncomputable def r0 (p:Int×Int):List Int:=[p.1,0,p.2]
noncomputable def r1 (p:Int×Int):List Int:=[p.1,1,p.2]
noncomputable def xj (l:Option Int) (v:Int):Int:=match l with
 | none=>v
 | some m=>if m<v then m else v
noncomputable def vU (l:Option Int) (sh:List (Int×Int)) (f:Int->Int×Int):List (Int×Int):=match l with
 | some m=>sh++[f m]
 | none=>sh
structure Sw (b o:List (Int×Int)) (p:List (List Int)) (l0 l1:Option Int) (sh:List (Int×Int)):Prop where
 iJ:∀ x,r0 x∈p->∃ m,l0=some m/\m<=x.2
 iI:∀ x,r1 x∈p->∃ m,l1=some m/\m<=x.2
 fh:∀ m,l0=some m->∃ x,r0 x∈p/\x.2=m
 fg:∀ m,l1=some m->∃ x,r1 x∈p/\x.2=m
 len:sh.length<=p.length
 snd:∀ s∈sh,(∃ x,r0 x∈p/\x.1<=s.1/\x.2<=s.2)/\∃ x,r1 x∈p/\x.1<=s.1/\x.2<=s.2
 all:∀ x y,r0 x∈p->r1 y∈p->∃ s∈sh,(s.1<=x.1\/s.1<=y.1)/\(s.2<=x.2\/s.2<=y.2)
theorem ll {x y:Int×Int}(h:r0 x=r0 y):x=y:=by
 unfold r0 at h;injection h with h1 h2;injection h2 with _ h2;injection h2 with h2 _;exact Prod.ext h1 h2
theorem lj {x y:Int×Int}(h:r1 x=r1 y):x=y:=by
 unfold r1 at h;injection h with h1 h2;injection h2 with _ h2;injection h2 with h2 _;exact Prod.ext h1 h2
theorem qX {x y:Int×Int}(h:r0 x=r1 y):False:=by
 unfold r0 r1 at h;injection h with h1 h2;injection h2 with h2 _;omega
theorem uV {p:List (List Int)}{a x:List Int}(h:a∈p++[x]):a∈p\/a=x:=by simpa using h
theorem Sw.X2 {b o:List (Int×Int)}{p:List (List Int)}{l0 l1:Option Int}{sh:List (Int×Int)}(h:Sw b o p l0 l1 sh) (x:Int×Int) (hx:∀ y,r0 y∈p->y.1<=x.1) (hy:∀ y,r1 y∈p->y.1<=x.1):
  Sw b o (p++[r0 x]) (some (xj l0 x.2)) l1 (vU l1 sh λ m=>(x.1,if m>xj l0 x.2 then m else xj l0 x.2)):=by
 have lo:xj l0 x.2<=x.2/\∀ m,l0=some m->xj l0 x.2<=m:=by
  unfold xj;cases l0 with
  | none=>exact⟨Int.le_refl _,nofun⟩
  | some m=>dsimp only;split <;> refine⟨by omega,λ m' e=>?_⟩ <;> cases e <;> omega
 have la:∃ y,r0 y∈p++[r0 x]/\y.2=xj l0 x.2:=by
  unfold xj;cases l0 with
  | none=>exact⟨x,by simp,rfl⟩
  | some m=>
   dsimp only;split
   .obtain⟨y,h1,h2⟩:=h.fh m rfl;exact⟨y,by simp[h1],h2⟩
   .exact⟨x,by simp,rfl⟩
 have snd':∀ s∈sh,(∃ x',r0 x'∈p++[r0 x]/\x'.1<=s.1/\x'.2<=s.2)/\∃ x',r1 x'∈p++[r0 x]/\x'.1<=s.1/\x'.2<=s.2:=λ s hs=>by
  obtain⟨⟨a,a1,a2⟩,c,c1,c2⟩:=h.snd s hs;exact⟨⟨a,by simp[a1],a2⟩,c,by simp[c1],c2⟩
 refine⟨λ y hm=>?_,λ y hm=>?_,λ m e=>?_,λ m e=>?_,?_,λ s hs=>?_,λ y z hm hz=>?_⟩
 .rcases uV hm with q | q
  .obtain⟨m,e,q2⟩:=h.iJ y q;exact⟨_,rfl,by have:=lo.2 m e;omega⟩
  .cases ll q;exact⟨_,rfl,lo.1⟩
 .rcases uV hm with q | q
  .exact h.iI y q
  .exact (qX q.symm).elim
 .cases e;exact la
 .obtain⟨y,q1,q2⟩:=h.fg m e;exact⟨y,by simp[q1],q2⟩
 .have:=h.len;cases l1 <;> simp[vU] <;> omega
 .cases l1 with
  | none=>exact snd' s hs
  | some m=>
   rcases List.mem_append.mp hs with q | q
   .exact snd' s q
   .obtain rfl:s=_:=by simpa using q
    obtain⟨y,y1,y2⟩:=la;obtain⟨z,z1,z2⟩:=h.fg m rfl;have hzx:=hy z z1;refine⟨⟨y,y1,?_,by dsimp only;split <;> omega⟩,z,by simp[z1],hzx,by dsimp only;split <;> omega⟩;rcases uV y1 with w | w
    .exact hx y w
    .cases ll w;exact Int.le_refl _
 .have hz':r1 z∈p:=by
   rcases uV hz with q | q
   .exact q
   .exact (qX q.symm).elim
  rcases uV hm with q | q
  .obtain⟨s,s1,s2⟩:=h.all y z q hz';refine⟨s,?_,s2⟩;cases l1 <;> simp[vU,s1]
  .cases ll q;obtain⟨m,e,hm⟩:=h.iI z hz';subst e;refine⟨_,List.mem_append_right _ zMc,.inl (Int.le_refl _),?_⟩;have:=lo.1;dsimp only;split <;> omega
theorem Sw.swap {b o:List (Int×Int)}{p:List (List Int)}{l0 l1:Option Int}{sh:List (Int×Int)}(x:Int×Int) (h:Sw b o p l0 l1 sh) (hx:∀ y,r0 y∈p->y.1<=x.1) (hy:∀ y,r1 y∈p->y.1<=x.1):
  Sw b o (p++[r1 x]) l0 (some (xj l1 x.2)) (vU l0 sh λ m=>(x.1,if xj l1 x.2>m then xj l1 x.2 else m)):=by
 have lo:xj l1 x.2<=x.2/\∀ m,l1=some m->xj l1 x.2<=m:=by
  unfold xj;cases l1 with
  | none=>exact⟨Int.le_refl _,nofun⟩
  | some m=>dsimp only;split <;> refine⟨by omega,λ m' e=>?_⟩ <;> cases e <;> omega
 have la:∃ y,r1 y∈p++[r1 x]/\y.2=xj l1 x.2:=by
  unfold xj;cases l1 with
  | none=>exact⟨x,by simp,rfl⟩
  | some m=>
   dsimp only;split
   .obtain⟨y,h1,h2⟩:=h.fg m rfl;exact⟨y,by simp[h1],h2⟩
   .exact⟨x,by simp,rfl⟩
 have snd':∀ s∈sh,(∃ x',r0 x'∈p++[r1 x]/\x'.1<=s.1/\x'.2<=s.2)/\∃ x',r1 x'∈p++[r1 x]/\x'.1<=s.1/\x'.2<=s.2:=λ s hs=>by
  obtain⟨⟨a,a1,a2⟩,c,c1,c2⟩:=h.snd s hs;exact⟨⟨a,by simp[a1],a2⟩,c,by simp[c1],c2⟩
 refine⟨λ y hm=>?_,λ y hm=>?_,λ m e=>?_,λ m e=>?_,?_,λ s hs=>?_,λ y z hm hz=>?_⟩
 .rcases uV hm with q | q
  .exact h.iJ y q
  .exact (qX q).elim
 .rcases uV hm with q | q
  .obtain⟨m,e,q2⟩:=h.iI y q;exact⟨_,rfl,by have:=lo.2 m e;omega⟩
  .cases lj q;exact⟨_,rfl,lo.1⟩
 .obtain⟨y,q1,q2⟩:=h.fh m e;exact⟨y,by simp[q1],q2⟩
 .cases e;exact la
 .have:=h.len;cases l0 <;> simp[vU] <;> omega
 .cases l0 with
  | none=>exact snd' s hs
  | some m=>
   rcases List.mem_append.mp hs with q | q
   .exact snd' s q
   .obtain rfl:s=_:=by simpa using q
    obtain⟨y,y1,y2⟩:=la;obtain⟨z,z1,z2⟩:=h.fh m rfl;have hzx:=hx z z1;refine⟨⟨z,by simp[z1],hzx,by dsimp only;split <;> omega⟩,y,y1,?_,by dsimp only;split <;> omega⟩;rcases uV y1 with w | w
    .exact hy y w
    .cases lj w;exact Int.le_refl _
 .have hm':r0 y∈p:=by
   rcases uV hm with q | q
   .exact q
   .exact (qX q).elim
  rcases uV hz with q | q
  .obtain⟨s,s1,s2⟩:=h.all y z hm' q;refine⟨s,?_,s2⟩;cases l0 <;> simp[vU,s1]
  .cases lj q;obtain⟨m,e,hm⟩:=h.iJ y hm';subst e;refine⟨_,List.mem_append_right _ zMc,.inr (Int.le_refl _),?_⟩;have:=lo.1;dsimp only;split <;> omega
structure Lw (d:List (Key×T)) (l0 l1:Option Int):Prop where
 v0:xu d (.inl 0)=l0.map T.int
 v1:xu d (.inl 1)=l1.map T.int
 len:d.length=(if l0.isSome then 1 else 0)+if l1.isSome then 1 else 0
theorem Lw.Wv {d:List (Key×T)}{l0 l1:Option Int}(h:Lw d l0 l1) (v:Int):Lw (vT d (.inl 0) (.int v)) (some v) l1:=by
 refine⟨by rw[mE];simp,by rw[mE];simpa using h.v1,?_⟩;rw[bj,h.v0,h.len];cases l0 <;> cases l1 <;> simp
theorem Lw.Wu {d:List (Key×T)}{l0 l1:Option Int}(h:Lw d l0 l1) (v:Int):Lw (vT d (.inl 1) (.int v)) l0 (some v):=by
 refine⟨by rw[mE];simpa using h.v0,by rw[mE];simp,?_⟩;rw[bj,h.v1,h.len];cases l0 <;> cases l1 <;> simp
end yH
namespace yH
open PySem L2 L3 L5
theorem kd {rows p q:List (List Int)}{x:List Int}(e:L4.vk rows=p++x::q) {a:List Int}(ha:a∈p) {i j:Int}{as xs:List Int}(h1:a=i::as) (h2:x=j::xs):i<=j:=by
 have h:=L4.jl rows;rw[e,List.pairwise_append] at h;have:=h.2.2 a ha x zMc;subst h1 h2;rw[HT.sY] at this;by_cases c:j=i
 .omega
 .rw[if_neg c] at this;have:=of_decide_eq_false this;omega
theorem PL (b o:List (Int×Int)) (hl:b.length+o.length<256):∃ sh:List (Int×Int),mj [.tup (b.map zt),.tup (o.map zt)]=some (.tup ((ve sh).map zt))/\sh.length<256/\∀ q,zN sh q=(zN b q&&zN o q):=by
 let a0:W:=.im (.tup (b.map zt))
 let a1:W:=.im (.tup (o.map zt))
 let rows:=b.map r0++o.map r1
 let a2:W:=.im (.lst (rows.map xJ))
 have hlen:rows.length<256:=by simp[rows];exact hl
 have hs:qR [.lst (rows.map xJ)]=some (.lst ((L4.vk rows).map xJ)):=by
  show ((uQ (rows.map xJ)).bind λ rs=>_)=_;rw[dv,Option.bind_some,if_pos ⟨hlen,λ r hr=>by
   rcases List.mem_append.mp hr with h | h <;> obtain⟨_,_,rfl⟩:=List.mem_map.mp h <;> simp[r0,r1]⟩]
 have plen:(L4.vk rows).length=rows.length:=(L4.rN rows).length_eq;obtain⟨ρ1,h1,d,l0,l1,sh,e1,w1,s1⟩:=sX (is:=[5,6,7]) (g:=wA 3 (yv (zM 5) (yv (zM 6) (yv (zM 7) vc)))) (b:=kA) xJ (λ p ρ=>∃ d l0 l1 sh,ρ=[some a0,some a1,some a2,some (.own (.ye d)),some (.own (.lst (sh.map zt))),none,none,none]/\Lw d l0 l1/\Sw b o p l0 l1 sh) (L4.vk rows) [some a0,some a1,some a2,some (.own (.ye [])),some (.own (.lst [])),none,none,none]
  ⟨[],none,none,[],by simp,⟨rfl,rfl,rfl⟩,⟨nofun,nofun,nofun,nofun,by simp,nofun,nofun⟩⟩ (by
  rintro p x q e ρ ⟨d,l0,l1,sh,rfl,hw,hsw⟩;have hx:x∈rows:=(L4.rN rows).mem_iff.mp (by rw[e];simp);have hpl:p.length<256:=by
   have:=congrArg List.length e;rw[plen] at this;simp at this;omega
  have hsl:sh.length<16777216:=by have:=hsw.len;omega
  have hdl:d.length<16777216:=by rw[hw.len];split <;> split <;> omega
  rcases List.mem_append.mp hx with hm | hm
  .obtain⟨y,_,rfl⟩:=List.mem_map.mp hm;have st:=hsw.X2 y (λ z hz=>kd e hz rfl rfl) (λ z hz=>kd e hz rfl rfl);have hw':=hw.Wv (xj l0 y.2);refine⟨[some a0,some a1,some a2,some (.own (.ye (vT d (.inl 0) (.int (xj l0 y.2))))),some (.own (.lst ((vU l1 sh λ m=>(y.1,if m>xj l0 y.2 then m else xj l0 y.2)).map zt))),some (.im (.int y.1)),some (.im (.int 0)),some (.im (.int y.2))],?_,_,_,_,_,(by simp),hw',st⟩;have hr:xJ (r0 y)=.tup [.int y.1,.int 0,.int y.2]:=rfl;have v0:=hw'.v0;have v1:=hw'.v1;have ln:=hw'.len;cases l0 <;> cases l1 <;> simp[turn,kA,hr,hw.v0,hdl,hsl,xj,vU,xp,dep,eqT] at v0 v1 ln ⊢ <;> simp[v0,v1,ln,zt,vU]
  .obtain⟨y,_,rfl⟩:=List.mem_map.mp hm;have st:=hsw.swap y (λ z hz=>kd e hz rfl rfl) (λ z hz=>kd e hz rfl rfl);have hw':=hw.Wu (xj l1 y.2);refine⟨[some a0,some a1,some a2,some (.own (.ye (vT d (.inl 1) (.int (xj l1 y.2))))),some (.own (.lst ((vU l0 sh λ m=>(y.1,if xj l1 y.2>m then xj l1 y.2 else m)).map zt))),some (.im (.int y.1)),some (.im (.int 1)),some (.im (.int y.2))],?_,_,_,_,_,(by simp),hw',st⟩;have hr:xJ (r1 y)=.tup [.int y.1,.int 1,.int y.2]:=rfl;have v0:=hw'.v0;have v1:=hw'.v1;have ln:=hw'.len;cases l0 <;> cases l1 <;> simp[turn,kA,hr,hw.v1,hdl,hsl,xj,vU,xp,dep,eqT] at v0 v1 ln ⊢ <;> simp[v0,v1,ln,zt,vU])
 have hsh:sh.length<256:=by have:=s1.len;omega
 refine⟨sh,?_,hsh,λ q=>?_⟩
 .subst e1;have hc1:Ze [some a0,some a1,none,none,none,none,none,none]=some (.lst ((b.map r0).map xJ)):=by
   rw[List.map_map];exact qj zt (xJ ∘ r0) b (by simp[a0]) (by omega) λ y _=>by simp[zt,xJ,r0]
  have hc2:Zd [some a0,some a1,none,none,none,none,none,none]=some (.lst ((o.map r1).map xJ)):=by
   rw[List.map_map];exact qj zt (xJ ∘ r1) o (by simp[a1]) (by omega) λ y _=>by simp[zt,xJ,r1]
  have hF:=kQ sh hsh;have z:b.length+o.length<=16777216:=by omega
  simp only[a0,a1,a2,rows,List.map_append] at hc1 hc2 hs h1;unfold mj Y2;simp[hc1,hc2,z,hs,h1,hF] at hc1 hc2 hs h1 ⊢;simp[hc1,hc2,z,hs,h1,hF]
 .have m0:∀ x,r0 x∈L4.vk rows↔x∈b:=λ x=>by
   rw[(L4.rN rows).mem_iff];constructor
   .intro h;rcases List.mem_append.mp h with h | h <;> obtain⟨y,hy,e⟩:=List.mem_map.mp h
    .cases ll e;exact hy
    .exact (qX e.symm).elim
   .exact λ h=>List.mem_append_left _ (List.mem_map_of_mem h)
  have m1:∀ x,r1 x∈L4.vk rows↔x∈o:=λ x=>by
   rw[(L4.rN rows).mem_iff];constructor
   .intro h;rcases List.mem_append.mp h with h | h <;> obtain⟨y,hy,e⟩:=List.mem_map.mp h
    .exact (qX e).elim
    .cases lj e;exact hy
   .exact λ h=>List.mem_append_right _ (List.mem_map_of_mem h)
  rw[Bool.eq_iff_iff,Bool.and_eq_true,yG,yG,yG];constructor
  .rintro⟨s,hs,g1,g2⟩;obtain⟨⟨x,x1,x2,x3⟩,y,y1,y2,y3⟩:=s1.snd s hs;exact⟨⟨x,(m0 x).mp x1,by omega,by omega⟩,y,(m1 y).mp y1,by omega,by omega⟩
  .rintro⟨⟨x,x1,x2,x3⟩,y,y1,y2,y3⟩;obtain⟨s,s1,g1,g2⟩:=s1.all x y ((m0 x).mpr x1) ((m1 y).mpr y1);exact⟨s,s1,by omega,by omega⟩
end yH
namespace yH
open PySem L2 L3 L5
theorem gP {α:Type}(enc:α->T) (n:Nat) (h:∀ x,dep (enc x)<=n):∀ xs:List α,yF (xs.map enc)<=n
 | []=>by simp[yF]
 | x::xs=>by
  have:=h x;have:=gP enc n h xs;simp only[List.map_cons,yF];omega
theorem Qb (p:Int×Int):dep (zt p)<=1:=by simp[zt,dep,yF]
theorem aE (ps:List (Int×Int)):dep (.tup (ps.map zt))<=60:=by
 have:=gP zt 1 Qb ps;simp only[dep];omega
end yH
namespace yH
open PySem L2 L3 L5 RN
noncomputable def bT (b:Bd):T:=.tup (b.map zt)
noncomputable def rT (r:List Bd):T:=.lst (r.map bT)
noncomputable def kt (b:Bool):T:=if b=true then .str "keeper" else .str "taker"
noncomputable def yn (w:Wy):T:=.tup [.int w.f,.int w.t,.int w.a,.int w.b]
noncomputable def zX (b:Bool):Int:=if b=true then 1 else 0
noncomputable def xS (s:Sl):T:=.tup [.int s.p,.int (zX s.pu),.int s.gv,.int s.gt]
noncomputable def zC (F:zL):T:=.tup [.tup [.int F.A,.int F.B],.tup (F.os.map kt),.tup (F.ws.map yn),.tup (F.ss.map xS)]
theorem eq_int (i j:Int) (neg:Bool):xp neg (.int i) (.int j)=some (.bl (cond neg (!decide (i=j)) (decide (i=j)))):=by
 simp[xp,dep,eqT];cases neg <;> simp[Bool.beq_eq_decide_eq]
theorem ZK (F:zL):qE [zC F]=some (.int F.os.length):=by
 simp[qE,Yk,zC]
theorem ZL (q p:Int×Int):om [zt q,zt p]=some (.bl (wN q p)):=by
 by_cases h1:p.1<=q.1 <;> by_cases h2:p.2<=q.2 <;> simp[om,Y6,zt,wN,h1,h2]
theorem QL {α:Type}(g:α->Bool) (xs:List α):rA (xs.map λ x=>T.bl (g x))=some (xs.map g):=by
 have:=QM (xs.map g)
 rwa [List.map_map] at this
theorem Pw (ps:List (Int×Int)) (q:Int×Int) (hl:ps.length<=10000):me [bT ps,zt q]=some (.bl (zN ps q)):=by
 have hc:k4 [some (.im (bT ps)),some (.im (zt q))]=some (.lst (ps.map λ p=>T.bl (wN q p))):=by
  unfold k4;refine qj zt _ ps (by simp[bT]) (by omega) λ p _=>?_;simp[ZL]
 unfold me Yx;generalize k4=cc at hc ⊢;simp[hc,QL];rfl
theorem PM (A B:Int) (w:Wy) (bd:Bd) (hl:bd.length<256):mr [.tup [.int A,.int B],yn w,bT bd]=some (bT (sd A B w.a w.b bd)):=by
 have h1:k5 [some (.im (.tup [.int A,.int B])),some (.im (yn w)),some (.im (bT bd)),none]=some (.lst ((bd.map (xk w.a w.b)).map zt)):=by
  rw[List.map_map];unfold k5;refine qj zt _ bd (by simp[bT]) (by omega) λ p _=>?_;simp[zt,yn,xk,yB,rb]
 have h2:ku [some (.im (.tup [.int A,.int B])),some (.im (yn w)),some (.im (bT bd)),some (.im (.lst ((bd.map (xk w.a w.b)).map zt)))]=some (.lst (((bd.map (xk w.a w.b)).filter (vp A B)).map zt)):=by
  have:=lP zt (λ p=>if vp A B p=true then some (zt p) else none) (pick:=[none,some 0]) (it:=xH (zb 3)) (g:=zM 0) (c:=xv (zJ om (zc (zx 1) (zc (zx 0) zr)))) (f:=zx 0) (ρ:=[some (.im (.tup [.int A,.int B])),some (.im (yn w)),some (.im (bT bd)),some (.im (.lst ((bd.map (xk w.a w.b)).map zt)))]) (bd.map (xk w.a w.b)) (by simp) (by simp;omega) (λ p _=>by
   have e:T.tup [.int A,.int B]=zt (A,B):=rfl;have ga:wN (A,B) p=vp A B p:=rfl;simp only[pA,e];simp[ZL,ga];cases vp A B p <;> simp)
  unfold ku;rw[this,show ∀ l:List (Int×Int),l.filterMap (λ p=>if vp A B p=true then some (zt p) else none)=(l.filter (vp A B)).map zt from λ l=>by
   induction l with
   | nil=>rfl
   | cons a l ih=>by_cases h:vp A B a=true <;> simp[List.filterMap_cons,h,ih]]
 have h3:=kQ ((bd.map (xk w.a w.b)).filter (vp A B)) (Nat.lt_of_le_of_lt (List.length_filter_le _ _) (by simpa using hl));unfold mr Y5;generalize k5=d1 at h1 ⊢;generalize ku=d2 at h2 ⊢;generalize su=ff at h3 ⊢;generalize (bd.map (xk w.a w.b)).map zt=L1 at h1 h2;generalize (((bd.map (xk w.a w.b)).filter (vp A B)).map zt)=L2 at h2 h3;simp[h1,h2,h3];rfl
theorem Pz (b c:Bd) (hl:b.length+c.length<256):mh [bT b,bT c]=some (bT (ug b c)):=P0 b c hl
theorem PK (b c:Bd) (hl:b.length+c.length<256):mj [bT b,bT c]=some (bT (vO b c)):=by
 obtain⟨sh,h1,_,h2⟩:=PL b c hl;have:ve sh=vO b c:=vy.eq (iQ _) (iQ _) λ q=>by
  rw[p8,h2,<- Zh]
 rw[<- this];exact h1
theorem Py {A B:Int}(hA:0<=A/\A<=12) (bs:List Bd) (h:∀ b∈bs,Gd A B b):ml [.lst (bs.map bT)]=some (bT (wC bs)):=by
 obtain⟨ρ',h1,h2⟩:=sX (is:=[2]) (g:=zM 2) (b:=kB) bT (λ p ρ=>ρ=[some (.im (.lst (bs.map bT))),some (.im (bT (p.foldl ug []))),none]) bs [some (.im (.lst (bs.map bT))),some (.im (bT [])),none] rfl (by
  rintro p x q e ρ rfl;have g1:Gd A B (p.foldl ug []):=nh p [] Gd.nil λ c hc=>h c (by rw[e];simp[hc]);have g2:Gd A B x:=h x (by rw[e];simp);have l1:=g1.qg hA.1;have l2:=g2.qg hA.1;refine⟨[some (.im (.lst (bs.map bT))),some (.im (bT (ug (p.foldl ug []) x))),some (.im (bT x))],?_,by simp⟩;simp[turn,kB,Pz (p.foldl ug []) x (by omega)])
 subst h2;unfold ml Y3;generalize kB=bb at h1 ⊢;have e:bT []=.tup []:=rfl;rw[e] at h1;simp[h1,wC]
theorem PJ {A B:Int}(hA:0<=A/\A<=12) (hB:0<=B) (bs:List Bd) (h:∀ b∈bs,Gd A B b):mq [.lst (bs.map bT)]=some (bT (pS bs)):=by
 obtain⟨ρ',h1,h2⟩:=sX (is:=[2]) (g:=zM 2) (b:=kC) bT (λ p ρ=>ρ=[some (.im (.lst (bs.map bT))),some (.im (bT (p.foldl vO xq))),none]) bs [some (.im (.lst (bs.map bT))),some (.im (bT xq)),none] rfl (by
  rintro p x q e ρ rfl;have g1:Gd A B (p.foldl vO xq):=gW p xq (Gd.xq hA.1 hB) λ c hc=>h c (by rw[e];simp[hc]);have g2:Gd A B x:=h x (by rw[e];simp);have l1:=g1.qg hA.1;have l2:=g2.qg hA.1;refine⟨[some (.im (.lst (bs.map bT))),some (.im (bT (vO (p.foldl vO xq) x))),some (.im (bT x))],?_,by simp⟩;simp[turn,kC,PK (p.foldl vO xq) x (by omega)])
 subst h2;unfold mq Y4;generalize kC=bb at h1 ⊢;have e:bT xq=.tup [.tup [.int 0,.int 0]]:=rfl;rw[e] at h1;simp[h1,pS]
end yH
namespace yH
open PySem L2 L3 L5 RN
theorem iK {α:Type}{is:List Nat}{g:T->Ev->Option Ev}{b:Sm}(enc ret:α->T) (test:α->Bool) (ρ0:Ev):∀ (xs:List α) (ρ:Ev),yO is ρ=ρ0->
  (∀ x∈xs,∃ ρ',yO is ρ'=ρ0/\turn g b (enc x) ρ0=some (if test x=true then .rt (ret x) else .nx ρ'))->
  x8 is g b (xs.map enc) ρ=some (match xs.find? test with | some x=>.rt (ret x) | none=>.nx ρ0)
 | [],ρ,h,_=>by rw[List.map_nil,List.find?_nil,x8,h]
 | x::xs,ρ,h,ht=>by
  rw[List.map_cons,cZ,h];obtain⟨ρ',h1,h2⟩:=ht x zMc;rw[h2,List.find?_cons];by_cases c:test x=true
  .rw[if_pos c,c];rfl
  .rw[if_neg c];rw[Bool.not_eq_true] at c;rw[c];exact iK enc ret test ρ0 xs ρ' h1 λ y hy=>ht y (zMo _ hy)
theorem ZJ (i a b:Int):ma [.int i,.int a,.int b]=some (.bl (decide (a<=i)&&decide (i<=b))):=by
 have h:kR [.int i]=some (.bl true):=by simp[kR,Yv,v_]
 by_cases h1:a<=i <;> by_cases h2:i<=b <;> simp[ma,Yu,h,h1,h2]
theorem fU (F:zL) (p:Nat) (h:p<F.os.length):qG [zC F,.int p]=some .zh:=by
 have h1:=ZJ p 0 ((F.os.length:Int)-1);rw[show decide ((0:Int)<=p)=true from decide_eq_true (by omega),show decide ((p:Int)<=(F.os.length:Int)-1)=true from decide_eq_true (by omega)] at h1;have h2:=ZK F;unfold qG Y0;generalize zC F=fl at *;simp[h1,h2]
theorem Qs (pu:Bool) (A B:Int) (sp gv gt:Int) (x y:Int) (hg:1<=gv) (b0 b1:T) (hb:zm b0 (.int (zX pu))=some (.int (if pu=true then B else A))) (hs2:zm b1 (.int 2)=some (.int gv)) (hs3:zm b1 (.int 3)=some (.int gt)) (pr:T):
  ∀ (n m:Nat) (g t:Int) (acc:Bd),(if pu=true then B else A)+1-g<=n->n<m->acc.length+n<=1000->
  ∃ g' t',xl [] (y9 (zg qh (zb 5) (zg zm (zb 0) (zb 3)))) qx m [some (.im b0),some (.im b1),some (.im pr),some (.im (.int (zX pu))),some (.own (.lst (acc.map zt))),some (.im (.int g)),some (.im (.int t))]
   = some (.nx [some (.im b0),some (.im b1),some (.im pr),some (.im (.int (zX pu))),some (.own (.lst ((acc++xN pu (if pu=true then B else A) gv gt n g t).map zt))),some (.im (.int g')),some (.im (.int t'))]):=by
 have hend:∀ (m:Nat) (g t:Int) (acc:Bd),¬ g<=(if pu=true then B else A)->xl [] (y9 (zg qh (zb 5) (zg zm (zb 0) (zb 3)))) qx (m+1) [some (.im b0),some (.im b1),some (.im pr),some (.im (.int (zX pu))),some (.own (.lst (acc.map zt))),some (.im (.int g)),some (.im (.int t))]
   = some (.nx [some (.im b0),some (.im b1),some (.im pr),some (.im (.int (zX pu))),some (.own (.lst (acc.map zt))),some (.im (.int g)),some (.im (.int t))]):=λ m g t acc hn=>by
  unfold xl;simp only[zm] at hb;simp[hb,hn]
 intro n
 induction n with
 | zero=>
  intro m g t acc h1 h2 h3;obtain⟨m,rfl⟩:∃ k,m=k+1:=⟨m-1,by omega⟩
  refine⟨g,t,?_⟩;rw[hend m g t acc (by omega)];simp[xN]
 | succ n ih=>
  intro m g t acc h1 h2 h3;obtain⟨m,rfl⟩:∃ k,m=k+1:=⟨m-1,by omega⟩
  by_cases hc:g<=(if pu=true then B else A)
  .obtain⟨g',t',e⟩:=ih m (g+gv) (yB (t-gt)) (acc++[zw pu g t]) (by omega) (by omega) (by simp;omega);refine⟨g',t',?_⟩;have hb1:qx [some (.im b0),some (.im b1),some (.im pr),some (.im (.int (zX pu))),some (.own (.lst (acc.map zt))),some (.im (.int g)),some (.im (.int t))]=some (.nx [some (.im b0),some (.im b1),some (.im pr),some (.im (.int (zX pu))),some (.own (.lst ((acc++[zw pu g t]).map zt))),some (.im (.int (g+gv))),some (.im (.int (yB (t-gt))))]):=by
    simp only[zm] at hs2 hs3;have hl:acc.length<16777216:=by omega
    unfold qx;cases pu <;> simp[zX,eq_int,hs2,hs3,hl,rb,yB,zw,zt]
   unfold xl;simp only[zm] at hb;generalize qx=bb at *;have e2:xN pu (if pu=true then B else A) gv gt (n+1) g t=zw pu g t::xN pu (if pu=true then B else A) gv gt n (g+gv) (yB (t-gt)):=by
    rw[xN,if_pos hc]
   rw[e2];simp only[List.append_assoc,List.singleton_append] at e;simp[hb,hc,hb1];simpa using e
  .refine⟨g,t,?_⟩;rw[hend m g t acc hc,xN,if_neg hc,List.append_nil]
theorem PC {F:zL}(ok:F.Ok) (s:Sl) (hs:1<=s.gv/\0<=s.gt) (p:Int×Int) (h0:0<=p.1/\0<=p.2):nZ [.tup [.int F.A,.int F.B],xS s,zt p]=some (.lst ((xb F s p).map zt)):=by
 obtain⟨sp,pu,gv,gt⟩:=s;have a1:=ok.a1;have b1:=ok.b1;obtain⟨g',t',h⟩:=Qs pu F.A F.B sp gv gt p.1 p.2 hs.1 (.tup [.int F.A,.int F.B]) (xS ⟨sp,pu,gv,gt⟩) (by cases pu <;> simp[zX]) (by simp[xS]) (by simp[xS]) (zt p) 100 1000000 (yM pu p) (xo pu p) [] (by cases pu <;> simp[yM] <;> omega) (by decide) (by simp);unfold nZ Yl uN;generalize hb:qx=bb at h ⊢;unfold xb zL.yf;simp only[List.map_nil,List.nil_append] at h;cases pu <;> simp[xS,zX,zt,yM,xo] at h ⊢ <;> simp[h]
theorem Pl (F:zL) (p:Nat) (h:p<F.os.length) (hl:F.ss.length<=60):qD [zC F,.int p]=some (match F.stall p with | some s=>xS s | none=>.zh):=by
 have hl':=iK (is:=[2]) (g:=zM 2) (b:=nN) xS xS (λ s=>decide (s.p=p)) [some (.im (zC F)),some (.im (.int p)),none] F.ss [some (.im (zC F)),some (.im (.int p)),none] (by simp) λ s _=>⟨[some (.im (zC F)),some (.im (.int p)),some (.im (xS s))],by simp,by
  by_cases c:s.p=p
  .simp[turn,nN,xS,eq_int,c]
  .have c':¬ ((s.p:Int)=(p:Int)):=by omega
   simp[turn,nN,xS,eq_int,c,c']⟩
 have h1:=fU F p h;have h2:zm (zC F) (.int 3)=some (.tup (F.ss.map xS)):=by simp[zC]
 unfold qD Yi;generalize nN=bb at *;generalize zC F=fl at *;simp only[zm] at h2;unfold zL.stall;generalize F.ss.find? _=o at *;simp[h1,h2,hl'];cases o <;> simp
theorem ar:∀ (ws:List Wy) (k:Nat),tY k (ws.map yn)=(ws.zipIdx k).map λ wi=>T.tup [.int (wi.2:Int),yn wi.1]
 | [],k=>rfl
 | w::ws,k=>by
  rw[List.map_cons,tY,ar ws (k+1),List.zipIdx_cons,List.map_cons]
theorem kU (f:Wy->Bool):∀ (ws:List Wy) (k:Nat),((ws.zipIdx k).filter λ wi=>f wi.1).map (λ wi=>wi.1)=ws.filter f
 | [],k=>rfl
 | w::ws,k=>by
  rw[List.zipIdx_cons,List.filter_cons,List.filter_cons];by_cases c:f w=true
  .rw[if_pos (by exact c),if_pos c,List.map_cons,kU f ws]
  .rw[if_neg (by exact c),if_neg c,kU f ws]
theorem Pj (F:zL) (p:Nat) (h:p<F.os.length) (hl:F.ws.length<=60):nY [zC F,.int p]=some (.lst (((F.ws.zipIdx).filter λ wi=>decide (wi.1.f=p)).map λ wi=>T.int (wi.2:Int))):=by
 have hc:kx [some (.im (zC F)),some (.im (.int p))]=some (.lst (((F.ws.zipIdx).filter λ wi=>decide (wi.1.f=p)).map λ wi=>T.int (wi.2:Int))):=by
  have:=lP (λ wi:Wy×Nat=>T.tup [.int (wi.2:Int),yn wi.1]) (λ wi=>if wi.1.f=p then some (T.int (wi.2:Int)) else none) (pick:=[none,none,some 1]) (it:=vZ vN (zc (zg zm (zb 0) (cS (.int 2))) zr)) (g:=wA 2 (yv (zM 0) (yv (zM 1) vc))) (c:=y9 (zg (xp false) (zg zm (zb 1) (cS (.int 0))) (zb 2))) (f:=zx 0) (ρ:=[some (.im (zC F)),some (.im (.int p))]) (F.ws.zipIdx) (by
   rw[<- ar];simp[zC]) (by simp;omega) (λ wi _=>by
   by_cases c:wi.1.f=p
   .simp[yn,eq_int,c]
   .have c':¬ ((wi.1.f:Int)=(p:Int)):=by omega
    simp[yn,eq_int,c,c'])
  unfold kx;rw[this];congr 2
  induction F.ws.zipIdx with
  | nil=>rfl
  | cons a l ih=>by_cases c:a.1.f=p <;> simp[List.filterMap_cons,c,ih]
 have h1:=fU F p h;unfold nY Yh;generalize kx=cc at *;generalize zC F=fl at *;generalize List.map (λ wi:Wy×Nat=>T.int (wi.2:Int)) _=LL at *;simp[h1,hc]
end yH
namespace yH
open PySem L2 L3 L5 RN
theorem ak:∀ (b c:Bd),wq (b.map zt) (c.map zt)=decide (b=c)
 | [],[]=>by simp[wq]
 | [],_::_=>by simp[wq]
 | _::_,[]=>by simp[wq]
 | p::b,q::c=>by
  have h:=ak b c;have e:eqT (zt p) (zt q)=decide (p=q):=by
   obtain⟨p1,p2⟩:=p;obtain⟨q1,q2⟩:=q;by_cases h1:p1=q1 <;> by_cases h2:p2=q2 <;> simp[zt,eqT,wq,h1,h2]
  rw[List.map_cons,List.map_cons,wq,e,h];by_cases h1:p=q <;> by_cases h2:b=c <;> simp[h1,h2]
theorem Tq (b c:Bd):xp true (bT b) (bT c)=some (.bl (decide (b≠c))):=by
 have h1:dep (bT b)<=60:=aE b;have h2:dep (bT c)<=60:=aE c;unfold xp;rw[if_pos ⟨h1,h2⟩];show some (T.bl (!(wq (b.map zt) (c.map zt))))=_;rw[ak];by_cases h:b=c <;> simp[h]
theorem iW (l:List Bd) (p:Nat) (h:p<l.length):zm (rT l) (.int p)=some (bT (l.getD p [])):=by
 show L2.yp (l.map bT) (p:Int)=_;refine t6 ?_;rw[List.getElem?_map,List.getElem?_eq_getElem h,List.getD_eq_getElem?_getD,List.getElem?_eq_getElem h];rfl
theorem PB {F:zL}(ok:F.Ok) (p:Nat) (hp:p<F.os.length) (b:Bd) (hb:Gd F.A F.B b):oj [zC F,.int p,bT b]=some (bT (match F.stall p with | none=>b | some s=>rq F s b)):=by
 have h1:=Pl F p hp ok.s8;cases hs:F.stall p with
 | none=>
  rw[hs] at h1;unfold oj ee;generalize qD=f1 at h1 ⊢;generalize zC F=fl at *;generalize bT b=bb at *;have is1:oS false .zh .zh=some (.bl true):=rfl;simp[h1,is1]
 | some s=>
  rw[hs] at h1;replace h1:qD [zC F,.int p]=some (xS s):=h1;have hmem:s∈F.ss:=List.mem_of_find?_eq_some hs;have hsz:=ok.ss s hmem;have h64:(F.A+1)*(F.B+1)<256:=by
   rcases ok.sl with x | x
   .rw[x] at hmem;cases hmem
   .exact x
  have a0:=ok.a0;have b0:=ok.b0;have hone:∀ x∈b,((xb F s x).length:Int)<=F.yf s.pu+1:=λ x hx=>by
   have q:=hb.x9 x hx;have:=a_ s.pu (F.yf s.pu) s.gv s.gt hsz.1 100 (yM s.pu x) (xo s.pu x) (by unfold zL.yf yM;split <;> omega);have g0:0<=yM s.pu x:=by unfold yM;split <;> omega
   unfold xb;omega
  have hall:∀ q:Bd,(∀ x∈q,x∈b)->((q.flatMap (xb F s)).length:Int)<=q.length*(F.yf s.pu+1):=λ q=>by
   induction q with
   | nil=>intro _;simp
   | cons x q ih=>
    intro hq;have i1:=ih λ y hy=>hq y (zMo _ hy);have i2:=hone x (hq x zMc);rw[List.flatMap_cons,List.length_append,List.length_cons,Int.natCast_add,Int.natCast_add,Int.add_mul];omega
  have hlen:(b.flatMap (xb F s)).length<256:=by
   have h2:=hall b λ _ h=>h;have l1:=hb.qg a0;have l2:=hb.TX b0;have:((b.flatMap (xb F s)).length:Int)<256:=by
    refine Int.lt_of_le_of_lt h2 (Int.lt_of_le_of_lt ?_ h64);unfold zL.yf;split
    .exact Int.mul_le_mul_of_nonneg_right l1 (by omega)
    .rw[Int.mul_comm (F.A+1)];exact Int.mul_le_mul_of_nonneg_right l2 (by omega)
   omega
  have hbr:zm (zC F) (.int 0)=some (.tup [.int F.A,.int F.B]):=by simp[zC]
  obtain⟨ρ',h2,h3⟩:=sX (is:=[5]) (g:=zM 5) (b:=kD) zt (λ q ρ=>ρ=[some (.im (zC F)),some (.im (.int p)),some (.im (bT b)),some (.im (xS s)),some (.own (.lst ((q.flatMap (xb F s)).map zt))),none]) b [some (.im (zC F)),some (.im (.int p)),some (.im (bT b)),some (.im (xS s)),some (.own (.lst [])),none] rfl (by
   rintro q x r e ρ rfl;have hx:x∈b:=by rw[e];simp
   have q1:=hb.x9 x hx;have hF:=PC ok s hsz x ⟨q1.1.1,q1.2.1⟩;have hl2:(q.flatMap (xb F s)).length+(xb F s x).length<=16777216:=by
    have e2:(b.flatMap (xb F s)).length=(q.flatMap (xb F s)).length+((xb F s x).length+(r.flatMap (xb F s)).length):=by rw[e];simp
    omega
   refine⟨[some (.im (zC F)),some (.im (.int p)),some (.im (bT b)),some (.im (xS s)),some (.own (.lst (((q++[x]).flatMap (xb F s)).map zt))),some (.im (zt x))],?_,by simp⟩;have e3:((q++[x]).flatMap (xb F s)).map zt=(q.flatMap (xb F s)).map zt++(xb F s x).map zt:=by simp
   rw[e3];unfold turn kD;have l3:((q.flatMap (xb F s)).map zt).length+((xb F s x).map zt).length<=16777216:=by simpa using hl2
   generalize nZ=ff at *;generalize (q.flatMap (xb F s)).map zt=L1 at *;generalize (xb F s x).map zt=L2 at *;generalize zC F=fl at *;simp only[zm] at hbr;simp[hbr,hF,l3])
  subst h3;have hF:=kQ (b.flatMap (xb F s)) hlen;have nn:oS false (xS s) .zh=some (.bl false):=rfl;unfold oj ee;generalize kD=bb at *;generalize su=ff at *;generalize qD=f1 at *;generalize (b.flatMap (xb F s)).map zt=L1 at *;have hbT:xU (bT b)=some (b.map zt):=rfl;generalize bT b=bt at *;generalize zC F=fl at *;generalize xS s=st at *;simp[h1,nn,hbT,h2,hF];rfl
theorem Pq {F:zL}(ok:F.Ok) (p:Nat) (hp:p<F.os.length) (l:List Bd) (hl:l.length=F.os.length) (hg:∀ b∈l,Gd F.A F.B b):n_ [zC F,.int p,rT l]=some (bT (yY F l p)):=by
 have h1:=Pj F p hp ok.qN;have hw2:zm (zC F) (.int 2)=some (.tup (F.ws.map yn)):=by simp[zC]
 have hw0:zm (zC F) (.int 0)=some (.tup [.int F.A,.int F.B]):=by simp[zC]
 have hw1:zm (zC F) (.int 1)=some (.tup (F.os.map kt)):=by simp[zC]
 have c1:kz [some (.im (zC F)),some (.im (.int p)),some (.im (rT l)),none,none]=some (.lst ((F.ws.filter λ w=>decide (w.f=p)).map yn)):=by
  rw[<- kU (λ w=>decide (w.f=p)) F.ws 0,List.map_map];unfold kz;refine qj (λ wi:Wy×Nat=>T.int (wi.2:Int)) _ ((F.ws.zipIdx).filter λ wi=>decide (wi.1.f=p)) ?_ (Nat.le_trans (List.length_filter_le _ _) (by rw[List.length_zipIdx];have:=ok.qN;omega)) λ wi hwi=>?_
  .generalize nY=ff at *;simp[h1]
  .have hm:=(List.mem_filter.mp hwi).1;have hg:=List.mem_zipIdx_iff_getElem?.mp hm;have:L2.yp (F.ws.map yn) (wi.2:Int)=some (yn wi.1):=by
    exact t6 (by rw[List.getElem?_map,hg];rfl)
   generalize zC F=fl at *;simp only[zm] at hw2;simp[hw2,this]
 have c2:kr [some (.im (zC F)),some (.im (.int p)),some (.im (rT l)),some (.im (.lst ((F.ws.filter λ w=>decide (w.f=p)).map yn))),none]=some (.lst ((xr F l p).map bT)):=by
  unfold xr;rw[List.map_map];unfold kr;refine qj yn _ (F.ws.filter λ w=>decide (w.f=p)) (by simp) (Nat.le_trans (List.length_filter_le _ _) (by have:=ok.qN;omega)) λ w hw=>?_;have hm:=(List.mem_filter.mp hw).1;have ht:w.t<l.length:=by rw[hl];exact (ok.ws w hm).2
  have e1:=iW l w.t ht;have gb:Gd F.A F.B (l.getD w.t []):=by
   rw[List.getD_eq_getElem?_getD,List.getElem?_eq_getElem ht];exact hg _ (List.getElem_mem ht)
  have l13:=gb.qg ok.a0;have a12:=ok.a1;have hF:=PM F.A F.B w (l.getD w.t []) (by omega);have e2:zm (yn w) (.int 1)=some (.int (w.t:Int)):=by simp[yn]
  obtain⟨bd,hbd⟩:∃ bd,l.getD w.t []=bd:=⟨_,rfl⟩
  rw[hbd] at e1 gb hF;have hbd':(l[w.t]?).getD []=bd:=by rw[<- hbd,List.getD_eq_getElem?_getD]
  generalize mr=ff at *;generalize zC F=fl at *;generalize rT l=rt at *;generalize yn w=wt at *;simp only[zm] at hw0 e1 e2;simp[hw0,e1,e2,hF,hbd']
 have gah:=kF F l p;have c3:=Py ⟨ok.a0,ok.a1⟩ (xr F l p) gah;have c4:=PJ ⟨ok.a0,ok.a1⟩ ok.b0 (xr F l p) gah;have c5:=PB ok p hp (wC (xr F l p)) (nh _ _ Gd.nil gah);have ho:L2.yp (F.os.map kt) (p:Int)=some (kt (F.os.getD p false)):=by
  refine t6 ?_;rw[List.getElem?_map,List.getElem?_eq_getElem hp,List.getD_eq_getElem?_getD,List.getElem?_eq_getElem hp];rfl
 have hk:∀ b:Bool,xp false (kt b) (.str "keeper")=some (.bl b):=λ b=>by cases b <;> rfl
 unfold n_ Yn;generalize kz=d1 at *;generalize kr=d2 at *;generalize ml=f1 at *;generalize mq=f2 at *;generalize oj=f3 at *;generalize ((F.ws.filter λ w=>decide (w.f=p)).map yn)=L1 at *;generalize zC F=fl at *;generalize rT l=rt at *;unfold yY;have hk':=hk (F.os.getD p false);generalize F.os.getD p false=kb at *;generalize kt kb=ktb at *;generalize (T.str "keeper")=ks at *;simp only[zm] at hw1;cases kb with
 | true=>
  simp[c1,c2,hw1,ho,hk',c3,c5]
  all_goals (cases F.stall p <;> rfl)
 | false=>simp[c1,c2,hw1,ho,hk',c4]
end yH
namespace yH
open PySem L2 L3 L5 RN
theorem gB {α β:Type}(c:α->Bool) (g:α->β):∀ l:List α,l.filterMap (λ x=>if c x=true then some (g x) else none)=(l.filter c).map g
 | []=>rfl
 | a::l=>by by_cases h:c a=true <;> simp[List.filterMap_cons,h,gB c g l]
theorem SW (t:Nat) (fr:List Nat):pD false (.int t) (.lst (fr.map λ(k:Nat)=>T.int (k:Int)))=some (.bl (fr.contains t)):=by
 have d1:yF (fr.map λ(k:Nat)=>T.int (k:Int))<=60:=by
  refine gP _ 60 (λ x=>?_) fr;simp[dep]
 have d0:dep (.int (t:Int))<=60:=by simp[dep]
 unfold pD;show (if dep (.int (t:Int))<=60/\yF (fr.map λ(k:Nat)=>T.int (k:Int))<=60 then _ else _)=_;rw[if_pos ⟨d0,d1⟩];show some (T.bl ((fr.map λ(k:Nat)=>T.int (k:Int)).any λ x=>eqT x (.int t)))=_;congr 2;rw[Bool.eq_iff_iff,List.any_eq_true,List.contains_iff_mem];constructor
 .rintro⟨x,hx,h⟩;obtain⟨k,hk,rfl⟩:=List.mem_map.mp hx;have:(k:Int)=(t:Int):=by simpa [eqT] using h
  have:k=t:=by omega
  subst this;exact hk
 .intro h;exact⟨_,List.mem_map.mpr ⟨t,h,rfl⟩,by simp[eqT]⟩
theorem Pp {F:zL}(ok:F.Ok) (last:List Bd) (fr:List Nat) (hl:last.length=F.os.length) (hg:∀ b∈last,Gd F.A F.B b):
  pZ [zC F,rT last,.lst (fr.map λ(k:Nat)=>T.int (k:Int))]=some (rT (yb F last fr)):=by
 have hw2:zm (zC F) (.int 2)=some (.tup (F.ws.map yn)):=by simp[zC]
 have c1:ky [some (.im (zC F)),some (.im (rT last)),some (.im (.lst (fr.map λ(k:Nat)=>T.int (k:Int)))),some (.own (.lst (last.map bT))),none]=some (.lst (((F.ws.filter λ w=>fr.contains w.t).map λ w=>(w.f:Int)).map T.int)):=by
  have:=lP yn (λ w=>if fr.contains w.t=true then some (T.int (w.f:Int)) else none) (pick:=[none,some 2]) (it:=xH (zg zm (zb 0) (cS (.int 2)))) (g:=zM 0) (c:=y9 (zg (pD false) (zg zm (zb 0) (cS (.int 1))) (zb 1))) (f:=zg zm (zb 0) (cS (.int 0))) (ρ:=[some (.im (zC F)),some (.im (rT last)),some (.im (.lst (fr.map λ(k:Nat)=>T.int (k:Int)))),some (.own (.lst (last.map bT))),none]) F.ws (by
    generalize zC F=fl at *;simp only[zm] at hw2;simp[hw2]) (by have:=ok.qN;omega) (λ w _=>by
   have hi:=SW w.t fr;generalize (T.lst (fr.map λ(k:Nat)=>T.int (k:Int)))=ft at *;generalize fr.contains w.t=cb at *;cases cb <;> simp[yn,hi])
  unfold ky;rw[this];rw[gB (λ w:Wy=>fr.contains w.t) (λ w:Wy=>T.int (w.f:Int)),List.map_map];rfl
 have hss:mP [.lst (((F.ws.filter λ w=>fr.contains w.t).map λ w=>(w.f:Int)).map T.int)]=some (.lst ((wY ((F.ws.filter λ w=>fr.contains w.t).map λ w=>(w.f:Int))).map T.int)):=by
  show (match uW (((F.ws.filter λ w=>fr.contains w.t).map λ w=>(w.f:Int)).map T.int) with | some ns=>_ | none=>_)=_;rw[bK];refine if_pos ?_;have:=List.length_filter_le (λ w:Wy=>fr.contains w.t) F.ws;have:=ok.qN;simp only[List.length_map];omega
 have hmem:∀ k∈wY ((F.ws.filter λ w=>fr.contains w.t).map λ w=>(w.f:Int)),∃ p:Nat,k=(p:Int)/\p<F.os.length/\uB F fr p=true:=λ k hk=>by
  obtain⟨w,hw,rfl⟩:=List.mem_map.mp (lK.mp hk);obtain⟨w1,w2⟩:=List.mem_filter.mp hw;exact⟨w.f,rfl,(ok.ws w w1).1,List.any_eq_true.mpr ⟨w,w1,by simpa using w2⟩⟩
 have hway:∀ p:Nat,uB F fr p=true->(p:Int)∈wY ((F.ws.filter λ w=>fr.contains w.t).map λ w=>(w.f:Int)):=λ p h=>by
  obtain⟨w,w1,w2⟩:=List.any_eq_true.mp h;have w3:w.f=p/\fr.contains w.t=true:=by simpa using w2
  exact lK.mpr (List.mem_map.mpr ⟨w,List.mem_filter.mpr ⟨w1,w3.2⟩,by rw[w3.1]⟩)
 generalize wY ((F.ws.filter λ w=>fr.contains w.t).map λ w=>(w.f:Int))=up at *;have ft:∃ t,(T.lst (fr.map λ(k:Nat)=>T.int (k:Int)))=t:=⟨_,rfl⟩
 obtain⟨ρ',h1,h2⟩:=sX (is:=[4]) (g:=zM 4) (b:=k8) T.int (λ pre ρ=>ρ=[some (.im (zC F)),some (.im (rT last)),some (.im (.lst (fr.map λ(k:Nat)=>T.int (k:Int)))),some (.own (.lst (((List.range last.length).map λ(p:Nat)=>if (p:Int)∈pre then yY F last p else last.getD p []).map bT))),none]) up
   [some (.im (zC F)),some (.im (rT last)),some (.im (.lst (fr.map λ(k:Nat)=>T.int (k:Int)))),some (.own (.lst (last.map bT))),none] (by
  have e:(List.range last.length).map (λ(p:Nat)=>if (p:Int)∈([]:List Int) then yY F last p else last.getD p [])=last:=by
   refine List.ext_getElem (by simp) λ i h1 h2=>?_;simp[h2]
  rw[e];rfl) (by
  rintro pre k q e ρ rfl;obtain⟨p,rfl,hp,hw⟩:=hmem k (by rw[e];simp);have hF:=Pq ok p hp last hl hg;refine⟨[some (.im (zC F)),some (.im (rT last)),some (.im (.lst (fr.map λ(k:Nat)=>T.int (k:Int)))),some (.own (.lst (((List.range last.length).map λ(i:Nat)=>if (i:Int)∈pre++[(p:Int)] then yY F last i else last.getD i []).map bT))),some (.im (.int p))],?_,by simp⟩;have hset:(((List.range last.length).map λ(i:Nat)=>if (i:Int)∈pre then yY F last i else last.getD i []).map bT).set p (bT (yY F last p))=((List.range last.length).map λ(i:Nat)=>if (i:Int)∈pre++[(p:Int)] then yY F last i else last.getD i []).map bT:=by
   refine List.ext_getElem (by simp) λ i h1 h2=>?_;rw[List.getElem_set];simp only[List.getElem_map,List.getElem_range,List.mem_append,List.mem_singleton];by_cases c:p=i
   .subst c;simp
   .have c':¬ ((i:Int)=(p:Int)):=by omega
    simp[c,c']
  have hix:xm (((List.range last.length).map λ(i:Nat)=>if (i:Int)∈pre then yY F last i else last.getD i []).map bT).length (p:Int)=some p:=by
   unfold xm;simp only[List.length_map,List.length_range];rw[if_pos (by omega),if_pos (by omega),Int.toNat_natCast]
  rw[<- hset];unfold turn k8;generalize n_=ff at *;generalize (((List.range last.length).map λ(i:Nat)=>if (i:Int)∈pre then yY F last i else last.getD i []).map bT)=LL at *;generalize zC F=fl at *;generalize rT last=rl at *;generalize (T.lst (fr.map λ(k:Nat)=>T.int (k:Int)))=ftt at *;simp[hF,hix])
 subst h2;have fin:((List.range last.length).map λ(p:Nat)=>if (p:Int)∈up then yY F last p else last.getD p [])=yb F last fr:=by
  unfold yb;refine List.map_congr_left λ p hp=>?_;by_cases c:uB F fr p=true
  .rw[if_pos c,if_pos (hway p c)]
  .rw[if_neg c,if_neg λ h=>c (by obtain⟨p',e,_,h'⟩:=hmem _ h;exact (show p'=p by omega)▸h')]
 rw[fin] at h1;have hlist:listS [rT last]=some (.lst (last.map bT)):=rfl;unfold pZ Ym;generalize ky=cc at *;generalize k8=bb at *;generalize (((F.ws.filter λ w=>fr.contains w.t).map λ w=>(w.f:Int)).map T.int)=L1 at *;generalize hup:up.map T.int=L2 at *;generalize last.map bT=L3 at *;generalize zC F=fl at *;have hsq:xU (rT last)=some L3:=by simpa using hlist
 generalize rT last=rl at *;generalize (T.lst (fr.map λ(k:Nat)=>T.int (k:Int)))=ftt at *;simp[hsq,c1,hss,h1,rT]
end yH
namespace yH
open PySem L2 L3 L5 RN
theorem gI {α:Type}(enc:α->T) (d:α) (fo:List α):∀ (l:List α) (k:Nat),(∀ i,l.getD i d=fo.getD (k+i) d)->tY k (l.map enc)=(List.range l.length).map λ(p:Nat)=>T.tup [.int ((k+p:Nat):Int),enc (fo.getD (k+p) d)]
 | [],k,_=>rfl
 | b::l,k,h=>by
  have h0:=h 0;rw[List.map_cons,tY,gI enc d fo l (k+1) λ i=>by have:=h (i+1);rw[show k+1+i=k+(i+1) from by omega];simpa using this];rw[List.length_cons,List.range_succ_eq_map,List.map_cons,List.map_map];have e:b=fo.getD k d:=by simpa using h0
  congr 1
  .rw[e];rfl
  .refine List.map_congr_left λ p _=>?_;simp only[Function.comp];rw[show k+1+p=k+Nat.succ p from by omega]
noncomputable def xw (fr:List Nat):T:=.lst (fr.map λ(k:Nat)=>T.int (k:Int))
theorem QH (a:T) (b c:Option L5.W) (last fo:List Bd) (hl:fo.length=last.length) (h16:fo.length<=10000):nL [some (.im a),b,c,some (.im (rT last)),some (.im (rT fo))]=some (xw (xA last fo)):=by
 have:=lP (λ p:Nat=>T.tup [.int (p:Int),bT (fo.getD p [])]) (λ p=>if decide (fo.getD p []≠last.getD p [])=true then some (T.int (p:Int)) else none) (pick:=[none,none,some 3]) (it:=vZ vN (zc (zb 4) zr)) (g:=wA 2 (yv (zM 0) (yv (zM 1) vc))) (c:=y9 (zg (xp true) (zb 1) (zg zm (zb 2) (zb 0)))) (f:=zx 0) (ρ:=[some (.im a),b,c,some (.im (rT last)),some (.im (rT fo))]) (List.range fo.length) (by
   have:=gI bT [] fo fo 0 λ i=>by rw[Nat.zero_add]
   simp only[Nat.zero_add] at this;have e:vN [rT fo]=some (tY 0 (fo.map bT)):=rfl;rw[<- this];generalize vN=en at *;simp[e]) (by simp;omega) (λ p hp=>by
  have hp':p<last.length:=by rw[<- hl];exact List.mem_range.mp hp
  have h1:=iW last p hp';have h2:=Tq (fo.getD p []) (last.getD p []);generalize fo.getD p []=x at *;generalize last.getD p []=y at *;generalize rT last=rl at *;generalize decide (x≠y)=d at *;simp only[zm] at h1;cases d <;> simp[h1,h2])
 unfold nL;rw[this,gB (λ p:Nat=>decide (fo.getD p []≠last.getD p [])) (λ p:Nat=>T.int (p:Int))];rfl
theorem dw {F:zL}(ok:F.Ok):∀ (n:Nat) (pre:List (List Bd)) (last:List Bd) (fr:List Nat) (res:List (List Bd)),St F last fr->sJ F n pre last fr=some res->pre.length+n<=10000->∀ (m:Nat),n<m->∀ x3 x4:Option L5.W,
  ∃ fr',xl [3,4] (xv (zb 2)) t4 m [some (.im (zC F)),some (.own (.lst ((pre++[last]).map rT))),some (.im (xw fr)),x3,x4]=some (.nx [some (.im (zC F)),some (.own (.lst (res.map rT))),some (.im fr'),none,none])
 | 0,_,_,_,_,_,h,_,_,_,_,_=>by cases h
 | n+1,pre,last,fr,res,s,h,hn,m,hm,x3,x4=>by
  have hend:∀ (m:Nat) (told:List (List Bd)) (x3 x4:Option L5.W),xl [3,4] (xv (zb 2)) t4 (m+1) [some (.im (zC F)),some (.own (.lst (told.map rT))),some (.im (xw [])),x3,x4]=some (.nx [some (.im (zC F)),some (.own (.lst (told.map rT))),some (.im (xw [])),none,none]):=λ m told x3 x4=>by
   unfold xl;simp[xw]
  obtain⟨m,rfl⟩:∃ k,m=k+1:=⟨m-1,by omega⟩
  unfold sJ at h;by_cases hfr:fr=[]
  .rw[if_pos hfr] at h;cases h;subst hfr;exact⟨_,hend m _ x3 x4⟩
  .rw[if_neg hfr] at h;dsimp only at h;have hlen:=s.len;have n8:=ok.n8;have hF:=Pp ok last fr s.len s.gd;have hlast:zm (.lst ((pre++[last]).map rT)) (.int (-1))=some (rT last):=by
    show L2.yp ((pre++[last]).map rT) (-1)=_;rw[List.map_append];exact Zp _ _
   have hc:=λ b c=>QH (zC F) b c last (yb F last fr) (sR ..) (by rw[sR,s.len];omega);have hne:sF (xw fr)=some true:=by
    cases fr with
    | nil=>exact absurd rfl hfr
    | cons a l=>rfl
   have hb:∃ told',t4 [some (.im (zC F)),some (.own (.lst ((pre++[last]).map rT))),some (.im (xw fr)),none,none]=some (.nx [some (.im (zC F)),some (.own (.lst (told'.map rT))),some (.im (xw (xA last (yb F last fr)))),some (.im (rT last)),some (.im (rT (yb F last fr)))])/\told'=if xA last (yb F last fr)=[] then pre++[last] else pre++[last]++[yb F last fr]:=by
    have hl2:((pre++[last]).map rT).length<16777216:=by simp;omega
    by_cases hf:xA last (yb F last fr)=[]
    .refine⟨pre++[last],?_,by rw[if_pos hf]⟩;have ht:sF (xw (xA last (yb F last fr)))=some false:=by rw[hf];rfl
     unfold t4;generalize nL=cc at *;generalize pZ=ff at *;generalize (pre++[last]).map rT=L1 at *;generalize xw (xA last (yb F last fr))=f2 at *;unfold xw at *;simp only[zm] at hlast;generalize (T.lst (fr.map λ(k:Nat)=>T.int (k:Int)))=f1 at *;generalize rT (yb F last fr)=r2 at *;generalize rT last=r1 at *;simp only[xU] at hlast;simp[-sF,hlast,hF,hc,ht]
    .refine⟨pre++[last]++[yb F last fr],?_,by rw[if_neg hf]⟩;have ht:sF (xw (xA last (yb F last fr)))=some true:=by
      cases e:xA last (yb F last fr) with
      | nil=>exact absurd e hf
      | cons a l=>rfl
     have e2:(pre++[last]++[yb F last fr]).map rT=(pre++[last]).map rT++[rT (yb F last fr)]:=by simp
     rw[e2];unfold t4;generalize nL=cc at *;generalize pZ=ff at *;generalize (pre++[last]).map rT=L1 at *;generalize xw (xA last (yb F last fr))=f2 at *;unfold xw at *;simp only[zm] at hlast;generalize (T.lst (fr.map λ(k:Nat)=>T.int (k:Int)))=f1 at *;generalize rT (yb F last fr)=r2 at *;generalize rT last=r1 at *;simp only[xU] at hlast;simp[-sF,hlast,hF,hc,ht,hl2]
   obtain⟨told',hb1,hb2⟩:=hb;have key:∀ R,xl [3,4] (xv (zb 2)) t4 m [some (.im (zC F)),some (.own (.lst (told'.map rT))),some (.im (xw (xA last (yb F last fr)))),some (.im (rT last)),some (.im (rT (yb F last fr)))]=R->xl [3,4] (xv (zb 2)) t4 (m+1) [some (.im (zC F)),some (.own (.lst ((pre++[last]).map rT))),some (.im (xw fr)),x3,x4]=R:=λ R e=>by
    rw[xl];generalize hbb:t4=bb at *;generalize hlw:xl [3,4] (xv (zb 2)) bb m=lw at *;have hf:yO [3,4] [some (.im (zC F)),some (.own (.lst ((pre++[last]).map rT))),some (.im (xw fr)),x3,x4]=[some (.im (zC F)),some (.own (.lst ((pre++[last]).map rT))),some (.im (xw fr)),none,none]:=rfl;rw[hf];have ht:xv (zb 2) [some (.im (zC F)),some (.own (.lst ((pre++[last]).map rT))),some (.im (xw fr)),none,none]=some true:=by
     generalize xw fr=f1 at *;simp[-sF,hne]
    rw[ht,Option.bind_some,if_pos rfl,hb1,Option.bind_some];exact e
   by_cases hf:xA last (yb F last fr)=[]
   .rw[if_pos hf] at h hb2;cases h;subst hb2;rw[hf] at key;obtain⟨m,rfl⟩:∃ k,m=k+1:=⟨m-1,by omega⟩
    exact⟨_,key _ (hend m _ _ _)⟩
   .rw[if_neg hf] at h hb2;subst hb2;obtain⟨fr',e⟩:=dw ok n (pre++[last]) (yb F last fr) (xA last (yb F last fr)) res (s.next ok) h (by simp;omega) m (by omega) (some (.im (rT last))) (some (.im (rT (yb F last fr))));exact⟨fr',key _ e⟩
theorem Pn {F:zL}(ok:F.Ok):∃ more,pY [zC F]=some (.lst ((RN.start F::more).map rT))/\(∀ r∈RN.start F::more,r.length=F.os.length/\∀ b∈r,Gd F.A F.B b)/\more.length<=2000/\sJ F 2000 [] (RN.start F) (List.range F.os.length)=some (RN.start F::more):=by
 have hmu:=cU (RN.start F);have hsl:(RN.start F).length=F.os.length:=by unfold RN.start;simp
 have n8:=ok.n8;have n1:=ok.n1;obtain⟨more,last',e1,e2,_,e4⟩:=d5 ok 2000 [] (RN.start F) (List.range F.os.length) (St.start ok) (by omega);obtain⟨fr',e⟩:=dw ok 2000 [] (RN.start F) (List.range F.os.length) _ (St.start ok) e1 (by simp) 1000000 (by decide) none none;refine⟨more,?_,e2,by omega,e1⟩;have hp:=ZK F;have hst:rT (RN.start F)=.lst (List.replicate F.os.length (.tup [.tup [.int 0,.int 0]])):=by
  unfold rT RN.start;rw[List.map_replicate];rfl
 have hmul:uA (.lst [.tup [.tup [.int 0,.int 0]]]) (.int F.os.length)=some (rT (RN.start F)):=by
  rw[hst];unfold uA;dsimp only;rw[if_pos ⟨by simp,by omega,by omega,TQ (by simp;omega)⟩];have:∀ n:Nat,(List.replicate n [T.tup [.tup [.int 0,.int 0]]]).flatten=List.replicate n (.tup [.tup [.int 0,.int 0]]):=λ n=>by
   induction n with
   | zero=>rfl
   | succ n ih=>rw[List.replicate_succ,List.replicate_succ,List.flatten_cons,ih];rfl
  rw[Int.toNat_natCast,this]
 have hrg:oO [.int F.os.length]=some (xw (List.range F.os.length)):=by
  show (if 0<=(F.os.length:Int)/\(F.os.length:Int)<=16777216 then some (T.lst (rangeT 0 (F.os.length:Int).toNat)) else none)=_;rw[if_pos ⟨by omega,by omega⟩];show some (T.lst ((List.range (F.os.length:Int).toNat).map λ(k:Nat)=>T.int (0+(k:Int))))=_;rw[Int.toNat_natCast];unfold xw;simp
 unfold pY Yj uN;generalize t4=bb at *;generalize qE=ff at *;generalize oO=lr at *;simp only[List.nil_append,List.map_cons,List.map_nil] at e;generalize xw (List.range F.os.length)=f1 at *;rw[List.map_cons];generalize rT (RN.start F)=r0 at *;generalize zC F=fl at *;generalize hlw:xl [3,4] (xv (zb 2)) bb 1000000=lw at *;generalize uA=mw at *;simp[hp,hmul,hrg,e]
end yH
namespace RG
noncomputable def xO (st:Option (Nat×Nat)) (p D O:Nat):Nat×Nat:=match st with
 | none=>(D,O)
 | some (h,g)=>if p=h/\D=0/\0<O then (g,O-1) else (D,O)
theorem Pb {m w p:Nat}{st:Option (Nat×Nat)}(hp:p<m) (hw:w<m) (hs:∀ h g,st=some (h,g)->h<m) (D O:Nat):
  WW m w st p D O=if p=w/\(xO st p D O).1=0 then 1 else 1+WW m w st (nx m p) ((xO st p D O).1-(if p=w then 1 else 0)) (xO st p D O).2:=by
 have plain:(∀ h g,st=some (h,g)->h<m/\p≠h)->WW m w st p D O=if p=w/\D=0 then 1 else 1+WW m w st (nx m p) (D-(if p=w then 1 else 0)) O:=λ hs'=>by
  by_cases hpw:p=w
  .subst hpw;cases D with
   | zero=>rw[Zz hp hs',if_pos ⟨rfl,rfl⟩]
   | succ D=>rw[Zw hp hs',if_neg (by simp),if_pos rfl,Nat.add_sub_cancel]
  .rw[if_neg (λ h=>hpw h.1),if_neg hpw,Nat.sub_zero];exact Zy hp hw hs' hpw D O
 cases st with
 | none=>exact plain (λ h g e=>by cases e)
 | some x=>
  obtain⟨h,g⟩:=x;by_cases hph:p=h
  .subst hph;by_cases hc:D=0/\0<O
   .obtain⟨rfl,hO⟩:=hc;have e:xO (some (p,g)) p 0 O=(g,O-1):=by unfold xO;simp[hO]
    rw[e];have hm:g+(O-1)*g=0+O*g:=by
     obtain⟨o,rfl⟩:∃ o,O=o+1:=⟨O-1,by omega⟩
     rw[Nat.add_sub_cancel,Nat.succ_mul];omega
    by_cases hpw:p=w
    .subst hpw;by_cases hg:g=0
     .subst hg;rw[if_pos ⟨rfl,rfl⟩];exact fk 0 O (by simp)
     .rw[if_neg (λ h=>hg h.2),if_pos rfl];exact kG hp (by dsimp only;omega)
    .rw[if_neg (λ h=>hpw h.1),if_neg hpw];refine nR hp hw hpw (by dsimp only;omega) ?_;by_cases hg:g=0
     .subst hg;exact .inr (by simp)
     .exact .inl (by dsimp only;omega)
   .have e:xO (some (p,g)) p D O=(D,O):=by unfold xO;simp only[true_and,if_neg hc]
    rw[e];have hz:0<D\/D+O*g=0:=by
     by_cases hD:0<D
     .exact .inl hD
     .have h1:D=0:=by omega
      have h2:O=0:=by omega
      subst h1;subst h2;exact .inr (by simp)
    by_cases hpw:p=w
    .subst hpw;by_cases hD:D=0
     .subst hD;rw[if_pos ⟨rfl,rfl⟩];exact fk 0 O (by omega)
     .rw[if_neg (λ h=>hD h.2),if_pos rfl];exact kG hp (by dsimp only;omega)
    .rw[if_neg (λ h=>hpw h.1),if_neg hpw];exact nR hp hw hpw (by dsimp only;omega) (by dsimp only;omega)
  .have e:xO (some (h,g)) p D O=(D,O):=by unfold xO;simp only[if_neg (λ x:p=h/\D=0/\0<O=>hph x.1)]
   rw[e];exact plain (λ h' g' e=>by cases e;exact⟨hs _ _ rfl,hph⟩)
end RG
namespace yH
open PySem L2 L3 L5 RN RG
noncomputable def y_ (pu:Bool) (D O:Nat):List T:=[.int (zw pu (O:Int) (D:Int)).1,.int (zw pu (O:Int) (D:Int)).2]
noncomputable def wy (fl:T) (pu:Bool) (w p:Nat) (pr:T) (D O st:Nat):Ev:=[some (.im fl),some (.im (.int (1-zX pu))),some (.im (.int w)),some (.im (.int p)),some (.im pr),some (.own (.lst (y_ pu D O))),some (.im (.int st)),none,none,none,none]
noncomputable def rS (pu:Bool) (h g:Nat):T:=.tup [.int h,.int (zX pu),.int 1,.int g]
noncomputable def rO (pu:Bool) (st:Option (Nat×Nat)):List T:=match st with
 | none=>[]
 | some (h,g)=>[rS pu h g]
theorem YM (fl:T) (pu:Bool) (w p:Nat) (pr br:T) (D O k Bd:Nat) (st:Option (Nat×Nat)) (h0:zm fl (.int 0)=some br) (h1:zm br (.int (1-zX pu))=some (.int Bd)):
  x8 [7,8,9,10] (wA 4 (yv (zM 7) (yv (zM 8) (yv (zM 9) (yv (zM 10) vc))))) nQ (rO pu st) (wy fl pu w p pr D O k)
   = some (.nx (wy fl pu w p pr (xO (yJ Bd st) p D O).1 (xO (yJ Bd st) p D O).2 k)):=by
 cases st with
 | none=>rfl
 | some x=>
  obtain⟨h,g⟩:=x;have mn:(if Bd<g then (Bd:Int) else g)=((min g Bd:Nat):Int):=by split <;> omega
  have e:yJ Bd (some (h,g))=some (h,min g Bd):=rfl;rw[e];by_cases hc:p=h/\D=0/\0<O
  .obtain⟨rfl,rfl,hO⟩:=hc;have e2:xO (some (p,min g Bd)) p 0 O=(min g Bd,O-1):=by unfold xO;simp[hO]
   have e3:((O:Int)-1)=((O-1:Nat):Int):=by omega
   rw[e2];unfold nQ wy y_ rO rS;generalize ((min g Bd:Nat):Int)=mg at *;have n0:xm 2 0=some 0:=rfl;have n1:xm 2 1=some 1:=rfl;simp only[zm] at h0;cases pu <;> simp only[zX,zm,if_true,Bool.false_eq_true,if_false,Int.sub_self,Int.sub_zero] at h1 <;> simp[x8,zX,zw,eq_int,hO,n0,n1,h0,h1,sV,rb] <;> first | exact⟨e3,mn⟩ | exact⟨mn,e3⟩
  .have e2:xO (some (h,min g Bd)) p D O=(D,O):=by unfold xO;simp only[if_neg hc]
   rw[e2];unfold nQ wy y_ rO rS;by_cases q1:p=h
   .by_cases q2:D=0
    .have q3:¬ 0<O:=by omega
     subst q1;subst q2;cases pu <;> simp[x8,zX,zw,eq_int,q3]
    .have q3:¬ (D:Int)=0:=by omega
     subst q1;cases pu <;> simp[x8,zX,zw,eq_int,q2]
   .have q3:¬ (h:Int)=p:=by omega
    cases pu <;> simp[x8,zX,zw,eq_int,Ne.symm q1,q3]
theorem YN (fl:T) (pu:Bool) (w p:Nat) (pr br ws row:T) (D O k Bd m:Nat) (st:Option (Nat×Nat)) (h0:zm fl (.int 0)=some br) (h1:zm br (.int (1-zX pu))=some (.int Bd))
  (h2:zm fl (.int 2)=some ws) (h3:zm ws (.int p)=some row) (h4:zm row (.int 1)=some (.int (nx m p))) (h5:zm fl (.int 3)=some (.tup (rO pu st))):
  nM (wy fl pu w p pr D O k)=some (if p=w/\(xO (yJ Bd st) p D O).1=0 then .rt (.int ((k+1:Nat):Int)) else .nx (wy fl pu w (nx m p) pr ((xO (yJ Bd st) p D O).1-(if p=w then 1 else 0)) (xO (yJ Bd st) p D O).2 (k+1))):=by
 have hf:=YM fl pu w p pr br D O k Bd st h0 h1;generalize xO (yJ Bd st) p D O=z at *;obtain⟨D1,O1⟩:=z;unfold nM;generalize nQ=bb at *;generalize rO pu st=ss at *;have hs:vK [7,8,9,10] (xH (zg zm (zb 0) (cS (.int 3)))) (wA 4 (yv (zM 7) (yv (zM 8) (yv (zM 9) (yv (zM 10) vc))))) bb (wy fl pu w p pr D O k)=some (.nx (wy fl pu w p pr D1 O1 k)):=by
  rw[<- hf];simp only[zm] at h5;simp[wy,h5]
 dsimp only[zD];rw[hs];have n0:xm 2 0=some 0:=rfl;have n1:xm 2 1=some 1:=rfl;simp only[zm] at h2 h3 h4;by_cases hpw:p=w
 .subst hpw;cases D1 with
  | zero=>cases pu <;> simp[wy,y_,zX,zw,eq_int,n0,n1,vY]
  | succ D1=>
   have q:¬ ((D1:Int)<0):=by omega
   cases pu <;> simp[wy,y_,zX,zw,eq_int,n0,n1,vY,h2,h3,h4,q]
 .have q:¬ ((D1:Int)<0):=by omega
  have q2:¬ (p:Int)=w:=by omega
  cases pu <;> simp[wy,y_,zX,zw,eq_int,n0,n1,vY,h2,h3,h4,q,hpw,q2]
theorem YL (fl:T) (pu:Bool) (w:Nat) (pr br ws:T) (Bd m:Nat) (st:Option (Nat×Nat)) (hw:w<m) (hst:∀ h g,st=some (h,g)->h<m) (h0:zm fl (.int 0)=some br) (h1:zm br (.int (1-zX pu))=some (.int Bd))
  (h2:zm fl (.int 2)=some ws) (h3:∀ p<m,∃ row,zm ws (.int p)=some row/\zm row (.int 1)=some (.int (nx m p))) (h5:zm fl (.int 3)=some (.tup (rO pu st))):
  ∀ (n f p D O k:Nat),p<m->WW m w (yJ Bd st) p D O=n->n<=f->xl [7,8,9,10] (xv (cS (.bl true))) nM f (wy fl pu w p pr D O k)=some (.rt (.int ((k+n:Nat):Int))):=by
 intro n
 induction n with
 | zero=>intro f p D O k hp hn;exact absurd hn (Nat.ne_of_gt (Zx _ _ _ _ _ _))
 | succ n ih=>
  intro f p D O k hp hn hf;obtain⟨f,rfl⟩:∃ j,f=j+1:=⟨f-1,by omega⟩
  obtain⟨row,r1,r2⟩:=h3 p hp;have hb:=YN fl pu w p pr br ws row D O k Bd m st h0 h1 h2 r1 r2 h5;have hs:∀ h g,yJ Bd st=some (h,g)->h<m:=λ h g e=>by
   cases st with
   | none=>cases e
   | some x=>cases e;exact hst _ _ rfl
  have e:=Pb hp hw hs D O;rw[hn] at e;have fr:yO [7,8,9,10] (wy fl pu w p pr D O k)=wy fl pu w p pr D O k:=rfl;have c:xv (cS (.bl true)) (wy fl pu w p pr D O k)=some true:=rfl;unfold xl;rw[fr,c,Option.bind_some,if_pos rfl,hb,Option.bind_some];by_cases hq:p=w/\(xO (yJ Bd st) p D O).1=0
  .rw[if_pos hq] at e ⊢;dsimp only;have:n=0:=by omega
   subst this;rfl
  .rw[if_neg hq] at e ⊢;dsimp only;rw[ih f _ _ _ (k+1) (lI hp) (by omega) (by omega)];rw[show k+1+n=k+(n+1) by omega]
theorem Pk (fl:T) (pu:Bool) (w p:Nat) (br ws:T) (Bd m D O:Nat) (st:Option (Nat×Nat)) (hw:w<m) (hp:p<m) (hst:∀ h g,st=some (h,g)->h<m) (h0:zm fl (.int 0)=some br) (h1:zm br (.int (1-zX pu))=some (.int Bd))
  (h2:zm fl (.int 2)=some ws) (h3:∀ p<m,∃ row,zm ws (.int p)=some row/\zm row (.int 1)=some (.int (nx m p))) (h5:zm fl (.int 3)=some (.tup (rO pu st))) (hn:WW m w (yJ Bd st) p D O<=1000000):
  p_ [fl,.int (1-zX pu),.int w,.int p,zt (zw pu (O:Int) (D:Int))]=some (.int (WW m w (yJ Bd st) p D O:Nat)):=by
 have h:=YL fl pu w (zt (zw pu (O:Int) (D:Int))) br ws Bd m st hw hst h0 h1 h2 h3 h5 _ 1000000 p D O 0 hp rfl hn;rw[Nat.zero_add] at h;generalize WW m w (yJ Bd st) p D O=n at *;unfold p_ Yp uN;generalize nM=bb at *;have e:xU (zt (zw pu (O:Int) (D:Int)))=some (y_ pu D O):=rfl;generalize hq:zt (zw pu (O:Int) (D:Int))=q at *;unfold wy at h;generalize (1-zX pu)=d at *;generalize y_ pu D O=hh at *;replace h:xl [7,8,9,10] (xv (cS (.bl true))) bb 1000000 [some (.im fl),some (.im (.int d)),some (.im (.int w)),some (.im (.int p)),some (.im q),some (.own (.lst hh)),some (.im (.int 0)),none,none,none,none]=some (.rt (.int n)):=h;generalize 1000000=M at *;simp[e,h]
end yH
namespace yH
open PySem L2 L3 L5 RN RG
theorem Zc (ns:List Int) (k:Nat):0<=cell ns k:=by
 unfold cell;split
 .exact Int.emod_nonneg _ (by decide)
 .exact Int.le_refl _
theorem jR {L:List T}{P:Int->Prop}(hP:∀ y∈L,∃ v,y=.int v/\P v) {i:Int}(h0:0<=i) (h1:i<L.length):∃ v,L2.yp L i=some (.int v)/\P v:=by
 have hl:i.toNat<L.length:=by omega
 have e:L2.yp L i=some L[i.toNat]:=by
  have:=t6 (k:=i.toNat) (List.getElem?_eq_getElem hl);rw[Int.toNat_of_nonneg h0] at this;exact this
 obtain⟨v,e2,hv⟩:=hP _ (List.getElem_mem hl);exact⟨v,by rw[e,e2],hv⟩
theorem VQ (v0 v1 v2 v3 v4 v5 v6:Option L5.W) (many:Nat) (hm:many<=8) (num:Int):∃ (c:Int) (os:List Bool),
  x8 [9] (zM 9) pU ((List.range many).map λ(k:Nat)=>T.int (0+(k:Int))) [v0,v1,v2,v3,v4,v5,v6,some (.own (.lst [])),some (.im (.int num)),none,none,none,none,none]
   = some (.nx [v0,v1,v2,v3,v4,v5,v6,some (.own (.lst (os.map kt))),some (.im (.int c)),none,none,none,none,none])/\os.length=many:=by
 obtain⟨ρ',h1,c,os,h2,h3⟩:=sX (is:=[9]) (g:=zM 9) (b:=pU) (λ k:Nat=>T.int (0+(k:Int))) (λ p ρ=>∃ (c:Int) (os:List Bool),ρ=[v0,v1,v2,v3,v4,v5,v6,some (.own (.lst (os.map kt))),some (.im (.int c)),none,none,none,none,none]/\os.length=p.length)
   (List.range many) [v0,v1,v2,v3,v4,v5,v6,some (.own (.lst [])),some (.im (.int num)),none,none,none,none,none] ⟨num,[],rfl,rfl⟩ (by
  rintro p k q e ρ ⟨c,os,rfl,r1⟩;have hp:p.length<many:=by have:=congrArg List.length e;simp at this;omega
  have hl:(os.map kt).length<16777216:=by simp;omega
  have d2:xR c 2:=⟨by decide,by decide⟩
  have pk:∃ b:Bool,L2.yp [T.str "keeper",T.str "taker"] (c%2)=some (kt b):=by
   rcases Int.emod_two_eq c with h | h <;> rw[h]
   .exact⟨true,rfl⟩
   .exact⟨false,rfl⟩
  obtain⟨b,hb⟩:=pk;refine⟨[v0,v1,v2,v3,v4,v5,v6,some (.own (.lst ((os++[b]).map kt))),some (.im (.int (c/2))),some (.im (.int (0+(k:Int)))),none,none,none,none],?_,c/2,os++[b],by simp,by simp[r1]⟩;have e2:(os++[b]).map kt=os.map kt++[kt b]:=by simp
  rw[e2];unfold turn pU;generalize (T.str "keeper")=s1 at *;generalize (T.str "taker")=s2 at *;generalize kt b=kb at *;generalize os.map kt=L at *;generalize (0+(k:Int))=kk at *;simp[hb,hl,d2])
 subst h2;exact⟨c,os,h1,by simpa using h3⟩
theorem Tt {i j:Int}(h:uL i j):uA (.int i) (.int j)=some (.int (i*j)):=by
 show (if uL i j then some (T.int (i*j)) else none)=_;rw[if_pos h]
theorem T2 (Bd g:Nat):sV [.int g,.int Bd]=some (.int ((min g Bd:Nat):Int)):=by
 have:(if Bd<g then (Bd:Int) else g)=((min g Bd:Nat):Int):=by split <;> omega
 simp[sV,rb,this]
theorem cT (a b:Nat) (ho:a<=12):uA (.int a) (.int (b:Int))=some (.int ((a*b:Nat):Int)):=by
 rw[Tt (.inl ⟨by omega,by omega⟩),Int.natCast_mul]
theorem Pr (mw:T->T->Option T) (ms:List T->Option T) (pu:Bool) (m Bo Bd g:Nat) (mg bm r:Int) (hb:Yq=(retS (zg mw (zb 0) (zg uk (zg zm (zb 1) (zb 2)) (zg mw (zg zm (zb 1) (zg xZ (cS (.int 1)) (zb 2))) (zJ ms (zc (zb 3) (zc (zg zm (zb 1) (zb 2)) zr)))))))) (mn:ms [.int g,.int Bd]=some (.int mg)) (c1:mw (.int Bo) (.int mg)=some (.int bm)) (c2:mw (.int m) (.int ((Bd:Int)+bm))=some (.int r)):uJ [.int m,.lst (y_ pu Bd Bo),.int (1-zX pu),.int g]=some (.int r):=by
 unfold uJ;rw[hb];unfold y_;cases pu <;> simp[zX,zw,mn,c1,c2]
theorem Pt (m Bd Bo g:Nat) (pu:Bool) (hm:m<=8) (ho:Bo<=12):uJ [.int m,.lst (y_ pu Bd Bo),.int (1-zX pu),.int g]=some (.int ((m*(Bd+Bo*min g Bd):Nat):Int)):=
 Pr uA sV pu m Bo Bd g _ _ _ rfl (T2 Bd g) (cT Bo _ ho) (by
  have:=cT m (Bd+Bo*min g Bd) (by omega);rw[Int.natCast_add] at this;exact this)
theorem af (p:Nat):∀ m,p<m->(List.range m).filter (λ x=>decide (x=p))=[p]
 | 0,h=>absurd h (Nat.not_lt_zero _)
 | m+1,h=>by
  rw[List.range_succ,List.filter_append];by_cases hp:p=m
  .subst hp;have:(List.range p).filter (λ x=>decide (x=p))=[]:=by
    rw[List.filter_eq_nil_iff];intro a ha;have:=List.mem_range.mp ha;simp;omega
   rw[this];simp
  .rw[af p m (by omega)];simp[Ne.symm hp]
noncomputable def vi (sc nu:T) (m:Nat) (pu:Bool) (ho:T) (g:Nat) (v6 v7 v8:Option L5.W) (Bd Bo:Nat):Ev:=[some (.im sc),some (.im nu),some (.im (.int m)),some (.im (.int (1-zX pu))),some (.im ho),some (.im (.int g)),v6,v7,v8,none,some (.own (.lst (y_ pu Bd Bo))),none,none,none]
theorem QQ (sc nu:T) (m:Nat) (pu:Bool) (ho:T) (g:Nat) (v6 v7 v8:Option L5.W) (Bd Bo:Nat):qw (vi sc nu m pu ho g v6 v7 v8 Bd (Bo+1))=some (.nx (vi sc nu m pu ho g v6 v7 v8 Bd Bo)):=by
 have n0:xm 2 0=some 0:=rfl;have n1:xm 2 1=some 1:=rfl;unfold qw vi y_;cases pu <;> simp[zX,zw,n0,n1]
theorem Zf (sc nu:T) (m:Nat) (pu:Bool) (ho:T) (g:Nat) (v6 v7 v8:Option L5.W) (Bd Bo:Nat) (hm:m<=8) (hb:Bo<=12):
  y9 (zg tU (qu uJ (zc (zb 2) (zc (zb 10) (zc (zb 3) (zc (zb 5) zr))))) (cS (.int 480))) (vi sc nu m pu ho g v6 v7 v8 Bd Bo)=some (decide (480<m*(Bd+Bo*min g Bd))):=by
 have hF:=Pt m Bd Bo g pu hm hb;generalize uJ=ff at *;generalize m*(Bd+Bo*min g Bd)=n at *;unfold vi;generalize y_ pu Bd Bo=hh at *;generalize (1-zX pu)=d at *;have:(480:Int)<n↔480<n:=by omega
 simp[hF,plainT,this]
theorem Zg (sc nu:T) (m:Nat) (pu:Bool) (ho:T) (g:Nat) (v6 v7 v8:Option L5.W) (Bd:Nat) (hm:m<=8) (hd:Bd<=12):
  ∀ (Bo f:Nat),Bo<=12->Bo<f->∃ Bo',Bo'<=12/\m*(Bd+Bo'*min g Bd)<=480/\
   xl [] (y9 (zg tU (qu uJ (zc (zb 2) (zc (zb 10) (zc (zb 3) (zc (zb 5) zr))))) (cS (.int 480)))) qw f (vi sc nu m pu ho g v6 v7 v8 Bd Bo)=some (.nx (vi sc nu m pu ho g v6 v7 v8 Bd Bo')):=by
 have stop:∀ (Bo f:Nat),Bo<=12->m*(Bd+Bo*min g Bd)<=480->xl [] (y9 (zg tU (qu uJ (zc (zb 2) (zc (zb 10) (zc (zb 3) (zc (zb 5) zr))))) (cS (.int 480)))) qw (f+1) (vi sc nu m pu ho g v6 v7 v8 Bd Bo)=some (.nx (vi sc nu m pu ho g v6 v7 v8 Bd Bo)):=λ Bo f hb hl=>by
  unfold xl;have fr:yO [] (vi sc nu m pu ho g v6 v7 v8 Bd Bo)=vi sc nu m pu ho g v6 v7 v8 Bd Bo:=rfl;rw[fr,Zf sc nu m pu ho g v6 v7 v8 Bd Bo hm hb,Option.bind_some,if_neg (by simp;omega)]
 intro Bo
 induction Bo with
 | zero=>
  intro f h1 h2;obtain⟨f,rfl⟩:∃ j,f=j+1:=⟨f-1,by omega⟩
  have hl:m*(Bd+0*min g Bd)<=480:=by
   have:m*(Bd+0*min g Bd)<=8*12:=Nat.mul_le_mul hm (by rw[Nat.zero_mul];omega);omega
  exact⟨0,Nat.zero_le _,hl,stop 0 f h1 hl⟩
 | succ Bo ih=>
  intro f h1 h2;obtain⟨f,rfl⟩:∃ j,f=j+1:=⟨f-1,by omega⟩
  by_cases hl:m*(Bd+(Bo+1)*min g Bd)<=480
  .exact⟨Bo+1,h1,hl,stop (Bo+1) f h1 hl⟩
  .obtain⟨B',q1,q2,q3⟩:=ih f (by omega) (by omega);refine⟨B',q1,q2,?_⟩;unfold xl;have fr:yO [] (vi sc nu m pu ho g v6 v7 v8 Bd (Bo+1))=vi sc nu m pu ho g v6 v7 v8 Bd (Bo+1):=rfl;rw[fr,Zf sc nu m pu ho g v6 v7 v8 Bd (Bo+1) hm h1,Option.bind_some,if_pos (by simp;omega),QQ];exact q3
noncomputable def xy (m w:Nat) (pu:Bool) (p:Nat):Wy:=⟨p,nx m p,(zw pu 0 (if p=w then -1 else 0)).1,(zw pu 0 (if p=w then -1 else 0)).2⟩
theorem ei (v0 v1 v4 v5 v6 v7 v8 v10:Option L5.W) (m w:Nat) (pu:Bool) (hm:m<=8):
  x8 [9,13] (zM 9) pT ((List.range m).map λ(k:Nat)=>T.int (0+(k:Int))) [v0,v1,some (.im (.int m)),some (.im (.int (1-zX pu))),v4,v5,v6,v7,v8,none,v10,some (.im (.int w)),some (.own (.lst [])),none]
   = some (.nx [v0,v1,some (.im (.int m)),some (.im (.int (1-zX pu))),v4,v5,v6,v7,v8,none,v10,some (.im (.int w)),some (.own (.lst (((List.range m).map (xy m w pu)).map yn))),none]):=by
 obtain⟨ρ',h1,h2⟩:=sX (is:=[9,13]) (g:=zM 9) (b:=pT) (λ k:Nat=>T.int (0+(k:Int))) (λ p ρ=>ρ=[v0,v1,some (.im (.int m)),some (.im (.int (1-zX pu))),v4,v5,v6,v7,v8,none,v10,some (.im (.int w)),some (.own (.lst ((p.map (xy m w pu)).map yn))),none])
   (List.range m) [v0,v1,some (.im (.int m)),some (.im (.int (1-zX pu))),v4,v5,v6,v7,v8,none,v10,some (.im (.int w)),some (.own (.lst [])),none] rfl (by
  rintro p k q e ρ rfl;have hp:p.length<m:=by have:=congrArg List.length e;simp at this;omega
  have hk:k<m:=by
   have:k∈List.range m:=by rw[e];simp
   exact List.mem_range.mp this
  have hl:((p.map (xy m w pu)).map yn).length<16777216:=by simp;omega
  have hm0:0<m:=by omega
  have dm:xR ((k:Int)+1) (m:Int):=⟨by omega,by omega⟩
  have hx:((k:Int)+1)%(m:Int)=(nx m k:Nat):=by
   unfold nx;split
   .rw[Int.emod_eq_of_lt (by omega) (by omega)];omega
   .have:(k:Int)+1=m:=by omega
    rw[this,Int.emod_self];rfl
  refine⟨[v0,v1,some (.im (.int m)),some (.im (.int (1-zX pu))),v4,v5,v6,v7,v8,some (.im (.int (0+(k:Int)))),v10,some (.im (.int w)),some (.own (.lst (((p++[k]).map (xy m w pu)).map yn))),some (.own (.lst [.int (xy m w pu k).a,.int (xy m w pu k).b]))],?_,rfl⟩;have e2:((p++[k]).map (xy m w pu)).map yn=(p.map (xy m w pu)).map yn++[yn (xy m w pu k)]:=by simp
  rw[e2];generalize (p.map (xy m w pu)).map yn=L at *;have n0:xm 2 0=some 0:=rfl;have n1:xm 2 1=some 1:=rfl;unfold turn pT yn xy;by_cases hw:k=w
  .subst hw;cases pu <;> simp[zX,zw,eq_int,n0,n1,hl,hm0,dm,hx]
  .have hw':¬ (k:Int)=w:=by omega
   cases pu <;> simp[zX,zw,eq_int,n0,n1,hl,hm0,dm,hx,hw,hw'])
 subst h2;exact h1
end yH
namespace yH
open PySem L2 L3 L5 RN RG
noncomputable def uz (m w:Nat) (pu:Bool) (Bo Bd:Nat) (st:Option (Nat×Nat)) (os:List Bool):zL:=⟨(zw pu (Bo:Int) (Bd:Int)).1,(zw pu (Bo:Int) (Bd:Int)).2,os,(List.range m).map (xy m w pu),match st with | none=>[] | some (h,g)=>[⟨h,pu,1,(g:Int)⟩]⟩
theorem oK (x:Int) {m:Nat}(hm:0<m):∃ h:Nat,h<m/\x%(m:Int)=h:=by
 have h0:=Int.emod_nonneg x (show (m:Int)≠0 by omega);have h1:=Int.emod_lt_of_pos x (show (0:Int)<m by omega);exact⟨(x%(m:Int)).toNat,by omega,by omega⟩
theorem i9 {x:Int}(h0:0<=x) (h:x<=12):∃ n:Nat,n<=12/\x=n:=⟨x.toNat,by omega,by omega⟩
theorem Po (ns:List Int):∃ (m w:Nat) (pu:Bool) (Bo Bd:Nat) (st:Option (Nat×Nat)) (os:List Bool),oa [x_ ns]=some (.tup [.int (1-zX pu),.int w,zC (uz m w pu Bo Bd st os)])/\
  0<m/\m<=8/\w<m/\Bo<=12/\Bd<=12/\os.length=m/\∀ h g,st=some (h,g)->h<m/\os.getD h false=true/\m*(Bd+Bo*min g Bd)<=480:=by
 have hc0:wx [x_ ns,.int 0]=some (.int (cell ns 0)):=oh ns 0;have hc1:wx [x_ ns,.int 1]=some (.int (cell ns 1)):=oh ns 1;have hc2:wx [x_ ns,.int 2]=some (.int (cell ns 2)):=oh ns 2;have hc3:wx [x_ ns,.int 3]=some (.int (cell ns 3)):=oh ns 3;have N0:=Zc ns 0;generalize cell ns 0=N at *;generalize cell ns 1=c1 at *;generalize cell ns 2=c2 at *;generalize cell ns 3=c3 at *;have d8:xR N 8:=⟨by decide,by decide⟩
 have d16:xR N 16:=⟨by decide,by decide⟩
 have d48:xR N 48:=⟨by decide,by decide⟩
 have d384:xR N 384:=⟨by decide,by decide⟩
 have d1536:xR N 1536:=⟨by decide,by decide⟩
 obtain⟨m,hm8,em⟩:∃ m:Nat,(0<m/\m<=8)/\1+N%8=(m:Int):=⟨(1+N%8).toNat,by omega,by omega⟩
 obtain⟨pu,epu⟩:∃ pu:Bool,N/8%2=1-zX pu:=by
  rcases Int.emod_two_eq (N/8) with h | h <;> rw[h]
  .exact⟨true,rfl⟩
  .exact⟨false,rfl⟩
 obtain⟨h,hh,eh⟩:=oK c1 hm8.1;obtain⟨w,hw,ew⟩:=oK c3 hm8.1;obtain⟨gi,hgi,g0,g1⟩:=jR (L:=[T.int 12,.int 12,.int 5,.int 1,.int 3,.int 0,.int 12,.int 2]) (P:=λ v=>0<=v/\v<=12) (by intro y hy;simp only[List.mem_cons,List.mem_nil_iff,or_false] at hy;rcases hy with rfl | rfl | rfl | rfl | rfl | rfl | rfl | rfl <;> exact⟨_,rfl,by decide,by decide⟩) (i:=N/48%8) (by omega) (by simp;omega);obtain⟨xi,hxi,x0,x1⟩:=jR (L:=[T.int 12,.int 12,.int 7,.int 3]) (P:=λ v=>0<=v/\v<=12) (by intro y hy;simp only[List.mem_cons,List.mem_nil_iff,or_false] at hy;rcases hy with rfl | rfl | rfl | rfl <;> exact⟨_,rfl,by decide,by decide⟩) (i:=N/384%4) (by omega) (by simp;omega);obtain⟨yi,hyi,y0,y1⟩:=jR (L:=[T.int 12,.int 12,.int 9,.int 0]) (P:=λ v=>0<=v/\v<=12) (by intro y hy;simp only[List.mem_cons,List.mem_nil_iff,or_false] at hy;rcases hy with rfl | rfl | rfl | rfl <;> exact⟨_,rfl,by decide,by decide⟩) (i:=N/1536%4) (by omega) (by simp;omega);obtain⟨g,g2,rfl⟩:=i9 g0 g1;obtain⟨x,x2,rfl⟩:=i9 x0 x1;obtain⟨y,y2,rfl⟩:=i9 y0 y1;obtain⟨Bd,Bo,hBd,hBo,eB⟩:∃ Bd Bo:Nat,Bd<=12/\Bo<=12/\[T.int x,.int y]=y_ pu Bd Bo:=by
  cases pu
  .exact⟨y,x,y2,x2,rfl⟩
  .exact⟨x,y,x2,y2,rfl⟩
 have dm1:xR c1 (m:Int):=⟨by omega,by omega⟩
 have dm3:xR c3 (m:Int):=⟨by omega,by omega⟩
 obtain⟨c',os,hown,los⟩:=VQ (some (.im (x_ ns))) (some (.im (.int N))) (some (.im (.int m))) (some (.im (.int (1-zX pu)))) (some (.im (.int h))) (some (.im (.int 0))) (some (.im (.tup []))) m hm8.2 c2;have hr:=Wc m (by omega);have hH:(y_ pu Bd Bo).length<=16777216:=by simp[y_]
 by_cases hs:N/16%3>0
 .obtain⟨Bo',hBo',hms,hbr⟩:=Zg (x_ ns) (.int N) m pu (.int h) g (some (.im (.tup [rS pu h g]))) (some (.own (.lst ((os.set h true).map kt)))) (some (.im (.int c'))) Bd hm8.2 hBd Bo 1000000 hBo (by omega);have hwy:=ei (some (.im (x_ ns))) (some (.im (.int N))) (some (.im (.int h))) (some (.im (.int g))) (some (.im (.tup [rS pu h g]))) (some (.own (.lst ((os.set h true).map kt)))) (some (.im (.int c'))) (some (.own (.lst (y_ pu Bd Bo')))) m w pu hm8.2;refine⟨m,w,pu,Bo',Bd,some (h,g),os.set h true,?_,hm8.1,hm8.2,hw,hBo',hBd,by simp[los],λ h' g' e=>?_⟩
  .have hix:xm (os.map kt).length (h:Int)=some h:=by
    unfold xm;rw[List.length_map,los,if_pos (by omega),if_pos (by omega)];rfl
   have hset:(os.map kt).set h (.str "keeper")=(os.set h true).map kt:=by rw[List.map_set];rfl
   have hfl:zC (uz m w pu Bo' Bd (some (h,g)) (os.set h true))=.tup [.tup (y_ pu Bd Bo'),.tup ((os.set h true).map kt),.tup (((List.range m).map (xy m w pu)).map yn),.tup [rS pu h g]]:=rfl;have hpu:(1:Int)-(1-zX pu)=zX pu:=by omega
   rw[hfl];unfold oa f_ uN;unfold vi at hbr;generalize y9 (zg tU (qu uJ (zc (zb 2) (zc (zb 10) (zc (zb 3) (zc (zb 5) zr))))) (cS (.int 480)))=cd at *;generalize pU=b1 at *;generalize qw=b2 at *;generalize pT=b3 at *;generalize wx=fc at *;generalize x_ ns=sc at *;generalize ((List.range m).map (xy m w pu)).map yn=WS at *;generalize (List.range m).map (λ(k:Nat)=>T.int (0+(k:Int)))=R at *;generalize y_ pu Bd Bo'=H' at *;generalize y_ pu Bd Bo=H at *;generalize (os.set h true).map kt=OS' at *;generalize os.map kt=OS at *;generalize (T.str "keeper")=kk at *;generalize 1000000=M at *;unfold rS at *;generalize zX pu=q at *;simp[hc0,hc1,hc2,hc3,em,epu,eh,ew,hown,hr,hs,hm8.1,d8,d16,d48,d384,d1536,dm1,dm3,hgi,hxi,hyi,eB,hH,hix,hset,hpu,hbr,hwy]
  .cases e;exact⟨hh,by simp[List.getD_eq_getElem?_getD,los,hh],hms⟩
 .obtain⟨Bo',hBo',hms,hbr⟩:=Zg (x_ ns) (.int N) m pu (.int h) 0 (some (.im (.tup []))) (some (.own (.lst (os.map kt)))) (some (.im (.int c'))) Bd hm8.2 hBd Bo 1000000 hBo (by omega);have hwy:=ei (some (.im (x_ ns))) (some (.im (.int N))) (some (.im (.int h))) (some (.im (.int 0))) (some (.im (.tup []))) (some (.own (.lst (os.map kt)))) (some (.im (.int c'))) (some (.own (.lst (y_ pu Bd Bo')))) m w pu hm8.2;refine⟨m,w,pu,Bo',Bd,none,os,?_,hm8.1,hm8.2,hw,hBo',hBd,los,λ h' g' e=>by cases e⟩;have hfl:zC (uz m w pu Bo' Bd none os)=.tup [.tup (y_ pu Bd Bo'),.tup (os.map kt),.tup (((List.range m).map (xy m w pu)).map yn),.tup []]:=rfl;rw[hfl];unfold oa f_ uN;unfold vi at hbr;generalize y9 (zg tU (qu uJ (zc (zb 2) (zc (zb 10) (zc (zb 3) (zc (zb 5) zr))))) (cS (.int 480)))=cd at *;generalize pU=b1 at *;generalize qw=b2 at *;generalize pT=b3 at *;generalize wx=fc at *;generalize x_ ns=sc at *;generalize ((List.range m).map (xy m w pu)).map yn=WS at *;generalize (List.range m).map (λ(k:Nat)=>T.int (0+(k:Int)))=R at *;generalize y_ pu Bd Bo'=H' at *;generalize y_ pu Bd Bo=H at *;generalize os.map kt=OS at *;generalize 1000000=M at *;generalize zX pu=q at *;have hs':¬ 0<N/16%3:=hs;have hbr:xl [] cd b2 M [some (.im sc),some (.im (.int N)),some (.im (.int m)),some (.im (.int (1-q))),some (.im (.int h)),some (.im (.int 0)),some (.im (.tup [])),some (.own (.lst OS)),some (.im (.int c')),none,some (.own (.lst H)),none,none,none]=some (.nx [some (.im sc),some (.im (.int N)),some (.im (.int m)),some (.im (.int (1-q))),some (.im (.int h)),some (.im (.int 0)),some (.im (.tup [])),some (.own (.lst OS)),some (.im (.int c')),none,some (.own (.lst H')),none,none,none]):=hbr;simp[hc0,hc1,hc2,hc3,em,epu,eh,ew,hown,hr,hs',hm8.1,d8,d16,d384,d1536,dm1,dm3,hxi,hyi,eB,hH,hbr,hwy]
end yH
namespace yH
open PySem L2 L3 L5 RN RG
theorem Pm (A B:Int) (q:Int×Int) (h:(0<=q.1/\q.1<=A)/\0<=q.2/\q.2<=B):md [zt q,.tup [.tup [.int 0,.int A],.tup [.int 0,.int B]]]=some (.bl true):=by
 have hc:k0 [some (.im (zt q)),some (.im (.tup [.tup [.int 0,.int A],.tup [.int 0,.int B]]))]=some (.lst ([(q.1,A),(q.2,B)].map λ x:Int×Int=>T.bl true)):=by
  unfold k0;refine qj (λ x:Int×Int=>T.tup [.int x.1,.tup [.int 0,.int x.2]]) _ [(q.1,A),(q.2,B)] (by simp[zt]) (by simp) λ x hx=>?_;have hx':0<=x.1/\x.1<=x.2:=by
   simp only[List.mem_cons,List.mem_nil_iff,or_false] at hx;rcases hx with rfl | rfl
   .exact h.1
   .exact h.2
  simp[ZJ,hx']
 unfold md Yw;have it:v_ "tuple" "tuple"=true:=by decide
 generalize k0=cc at *;simp[zt] at hc;simp[zt,it,eq_int,hc,rA]
theorem PH (F:zL) (q:Int×Int) (h:(0<=q.1/\q.1<=F.A)/\0<=q.2/\q.2<=F.B):mi [zC F,zt q]=some .zh:=by
 have h1:=Pm F.A F.B q h;have hw0:zm (zC F) (.int 0)=some (.tup [.int F.A,.int F.B]):=by simp[zC]
 unfold mi Y1;generalize md=ff at *;generalize zC F=fl at *;generalize zt q=pq at *;simp only[zm] at hw0;simp[hw0,h1]
noncomputable def tH (told:List (List Bd)):T:=.lst (told.map rT)
noncomputable def nr (told:List (List Bd)) (p:Nat) (q:Int×Int):Option Nat:=(List.range told.length).find? λ k=>!zN ((told.getD k []).getD p []) q
noncomputable def gL (o:Option Nat):T:=match o with
 | some k=>.int (k:Int)
 | none=>.zh
theorem Xe {told:List (List Bd)}{n:Nat}(h:∀ r∈told,r.length=n) {k:Nat}(hk:k<told.length):(told.getD k []).length=n:=by
 rw[List.getD_eq_getElem?_getD,List.getElem?_eq_getElem hk];exact h _ (List.getElem_mem hk)
theorem Px (told:List (List Bd)) (n p:Nat) (q:Int×Int) (hn:∀ r∈told,r.length=n) (hb:∀ r∈told,∀ b∈r,b.length<=100) (hp:p<n):mf [tH told,.int p,zt q]=some (gL (nr told p q)):=by
 have hl:=iK (is:=[3,4]) (g:=wA 2 (yv (zM 3) (yv (zM 4) vc))) (b:=k9) (λ k:Nat=>T.tup [.int (k:Int),rT (told.getD k [])]) (λ k:Nat=>T.int (k:Int)) (λ k=>!zN ((told.getD k []).getD p []) q) [some (.im (tH told)),some (.im (.int p)),some (.im (zt q)),none,none] (List.range told.length) [some (.im (tH told)),some (.im (.int p)),some (.im (zt q)),none,none] (by simp) λ k hk=>⟨[some (.im (tH told)),some (.im (.int p)),some (.im (zt q)),some (.im (.int (k:Int))),some (.im (rT (told.getD k [])))],by simp,by
  have hk':=List.mem_range.mp hk;have hlen:=Xe hn hk';have e1:=iW (told.getD k []) p (by omega);have e2:=Pw ((told.getD k []).getD p []) q (by
   have hm:told.getD k []∈told:=by rw[List.getD_eq_getElem?_getD,List.getElem?_eq_getElem hk'];exact List.getElem_mem hk'
   have hb2:(told.getD k []).getD p []∈told.getD k []:=by
    have:p<(told.getD k []).length:=by omega
    rw[List.getD_eq_getElem?_getD (l:=told.getD k []),List.getElem?_eq_getElem this];exact List.getElem_mem this
   have:=hb _ hm _ hb2;omega)
  unfold turn k9;generalize (told.getD k []).getD p []=bd at *;generalize rT (told.getD k [])=rk at *;generalize me=ff at *;generalize tH told=tt at *;generalize zt q=pq at *;simp only[zm] at e1;cases hc:zN bd q <;> rw[hc] at e2 <;> simp[e1,e2]⟩
 have he:vN [tH told]=some ((List.range told.length).map λ k:Nat=>T.tup [.int (k:Int),rT (told.getD k [])]):=by
  have:=gI rT [] told told 0 λ i=>by rw[Nat.zero_add]
  simp only[Nat.zero_add] at this;show some (tY 0 (told.map rT))=_;rw[this]
 unfold mf Yy nr gL;generalize k9=bb at *;generalize vN=en at *;generalize tH told=tt at *;generalize zt q=pq at *;generalize (List.range told.length).map (λ k:Nat=>T.tup [.int (k:Int),rT (told.getD k [])])=LL at *;generalize (List.range told.length).find? _=o at *;simp[he,hl];cases o <;> simp
theorem Pu {F:zL}(ok:F.Ok) (told:List (List Bd)) (hr:pY [zC F]=some (tH told)) (hn:∀ r∈told,r.length=F.os.length/\∀ b∈r,Gd F.A F.B b) (x:Nat×(Int×Int)) (hx:x.1<F.os.length/\(0<=x.2.1/\x.2.1<=F.A)/\0<=x.2.2/\x.2.2<=F.B):
  qF [zC F,.int (x.1:Int),zt x.2]=some (gL (nr told x.1 x.2)):=by
 have h1:=fU F x.1 hx.1;have h2:=PH F x.2 hx.2;have h3:=Px told F.os.length x.1 x.2 (λ r h=>(hn r h).1) (λ r h b hb=>by have:=((hn r h).2 b hb).qg ok.a0;have:=ok.a1;omega) hx.1;unfold qF Yt;generalize qG=f1 at *;generalize mi=f2 at *;generalize mf=f3 at *;generalize pY=f4 at *;generalize tH told=tt at *;generalize zC F=fl at *;generalize zt x.2=pq at *;simp[h1,h2,h3,hr]
theorem We {m w:Nat}{pu:Bool}{Bo Bd:Nat}{st:Option (Nat×Nat)}{os:List Bool}(m0:0<m) (hw:w<m) (hBo:Bo<=12) (hBd:Bd<=12) (los:os.length=m) (hst:∀ h g,st=some (h,g)->h<m/\os.getD h false=true):Ring (uz m w pu Bo Bd st os) m w pu Bo Bd st where
 len:=los
 m0:=m0
 wm:=hw
 bo:=by cases pu <;> rfl
 bd:=by cases pu <;> rfl
 Tc:=hBo
 Qh:=hBd
 ws:=λ p hp=>by
  show ((List.range m).map (xy m w pu)).filter (λ y=>decide (y.f=p))=_;rw[List.filter_map];have:((λ y:Wy=>decide (y.f=p)) ∘ xy m w pu)=λ x=>decide (x=p):=rfl;rw[this,af p m hp];rfl
 ss:=by
  cases st with
  | none=>rfl
  | some x=>obtain⟨h,g⟩:=x;exact⟨rfl,(hst h g rfl).1,(hst h g rfl).2⟩
theorem U4 {m w:Nat}{pu:Bool}{Bo Bd:Nat}{st:Option (Nat×Nat)}{os:List Bool}(m0:0<m) (m8:m<=8) (hw:w<m) (hBo:Bo<=12) (hBd:Bd<=12) (los:os.length=m):(uz m w pu Bo Bd st os).Ok where
 a0:=by show 0<=(zw pu (Bo:Int) (Bd:Int)).1;cases pu <;> simp[zw]
 a1:=by show (zw pu (Bo:Int) (Bd:Int)).1<=12;cases pu <;> simp[zw] <;> omega
 b0:=by show 0<=(zw pu (Bo:Int) (Bd:Int)).2;cases pu <;> simp[zw]
 b1:=by show (zw pu (Bo:Int) (Bd:Int)).2<=12;cases pu <;> simp[zw] <;> omega
 n1:=by show 1<=os.length;omega
 n8:=by show os.length<=8;omega
 ws:=λ y hy=>by
  obtain⟨p,hp,rfl⟩:=List.mem_map.mp hy;have:=List.mem_range.mp hp;show p<os.length/\nx m p<os.length;have:=lI this;omega
 qN:=by show ((List.range m).map (xy m w pu)).length<=60;simp;omega
 ss:=λ s hs=>by
  cases st with
  | none=>cases hs
  | some x=>
   obtain⟨h,g⟩:=x;have:s=⟨h,pu,1,(g:Int)⟩:=by simpa [uz] using hs
   subst this;exact⟨by show (1:Int)<=1;omega,by show (0:Int)<=g;omega⟩
 sl:=.inr (by
  have h1:(zw pu (Bo:Int) (Bd:Int)).1<=12:=by cases pu <;> simp[zw] <;> omega
  have h2:(zw pu (Bo:Int) (Bd:Int)).2<=12:=by cases pu <;> simp[zw] <;> omega
  have h3:0<=(zw pu (Bo:Int) (Bd:Int)).2:=by cases pu <;> simp[zw]
  show ((zw pu (Bo:Int) (Bd:Int)).1+1)*((zw pu (Bo:Int) (Bd:Int)).2+1)<256;have:((zw pu (Bo:Int) (Bd:Int)).1+1)*((zw pu (Bo:Int) (Bd:Int)).2+1)<=13*13:=Int.mul_le_mul (by omega) (by omega) (by omega) (by decide);omega)
 s8:=by
  cases st with
  | none=>show ([]:List Sl).length<=60;simp
  | some x=>obtain⟨h,g⟩:=x;show ([_]:List Sl).length<=60;simp
theorem RQ {F:zL}{m w:Nat}{pu:Bool}{Bo Bd:Nat}{st:Option (Nat×Nat)}(ok:F.Ok) (R:Ring F m w pu Bo Bd st) {p D O:Nat}(hp:p<m) (hO:O<=Bo) (hD:D<=Bd):
  qF [zC F,.int (p:Int),zt (zw pu (O:Int) (D:Int))]=some (.int (WW m w (yJ Bd st) p D O:Nat)):=by
 obtain⟨more,h1,h2,_,h3⟩:=Pn ok;have hw:∀ p<F.os.length,∃ y∈F.ws,y.f=p:=λ p hp=>by
  have e:=R.ws p (by rw[<- R.len];exact hp);have:(⟨p,nx m p,(zw pu 0 (if p=w then -1 else 0)).1,(zw pu 0 (if p=w then -1 else 0)).2⟩:Wy)∈F.ws.filter (λ y=>decide (y.f=p)):=by rw[e];simp
  exact⟨_,(List.mem_filter.mp this).1,rfl⟩
 have n1:=ok.n1;obtain⟨M,e1,e2⟩:=d6 ok hw 2000 [] 0 (List.range F.os.length) _ (St.start ok) (by intro h;have h:=congrArg List.length h;rw[List.length_range] at h;rw[h] at n1;exact absurd n1 (by decide)) rfl h3;have hl:=Pu ok (RN.start F::more) h1 h2 (p,zw pu (O:Int) (D:Int)) ⟨by rw[R.len];exact hp,R.box hO hD⟩;have key:nr (RN.start F::more) p (zw pu (O:Int) (D:Int))=some (WW m w (yJ Bd st) p D O):=by
  have cv:=λ k=>d7 R ok k p hp D O hO hD;have hle:WW m w (yJ Bd st) p D O<=M:=Classical.byContradiction λ hn=>by
   have a:=(cv M).mpr (by omega);have b:=b9 e2 (WW m w (yJ Bd st) p D O-M);rw[show M+(WW m w (yJ Bd st) p D O-M)=WW m w (yJ Bd st) p D O by omega] at b;rw[<- b] at a;have:=(cv _).mp a;omega
  have gt:∀ k,k<=M->(RN.start F::more).getD k []=yh F k:=λ k hk=>by
   rw[e1,List.getD_eq_getElem?_getD,List.getElem?_map,List.getElem?_range (by omega)];rfl
  have hlen:(RN.start F::more).length=M+1:=by rw[e1];simp
  unfold nr;rw[List.find?_range_eq_some];refine⟨?_,List.mem_range.mpr (by omega),λ j hj=>?_⟩
  .rw[gt _ hle];cases c:zN ((yh F (WW m w (yJ Bd st) p D O)).getD p []) (zw pu (O:Int) (D:Int)) with
   | false=>rfl
   | true=>have:=(cv _).mp c;omega
  .rw[gt j (by omega),(cv j).mpr hj];rfl
 rw[key] at hl;exact hl
theorem Sf (ns:List Int) (_:ns.length<=63):og [x_ ns]=some (.bl true):=by
 obtain⟨m,w,pu,Bo,Bd,st,os,hR,m0,m8,hw,hBo,hBd,los,hst⟩:=Po ns;have hst':∀ h g,st=some (h,g)->h<m/\os.getD h false=true:=λ h g e=>⟨(hst h g e).1,(hst h g e).2.1⟩;have R:=We (pu:=pu) m0 hw hBo hBd los hst';have ok:=U4 (pu:=pu) (st:=st) m0 m8 hw hBo hBd los;have hc4:wx [x_ ns,.int 4]=some (.int (cell ns 4)):=oh ns 4;have hc5:wx [x_ ns,.int 5]=some (.int (cell ns 5)):=oh ns 5;have c50:=Zc ns 5;generalize cell ns 4=c4 at *;generalize cell ns 5=c5 at *;obtain⟨p,hp,ep⟩:=oK c4 m0;have d4:xR c4 (m:Int):=⟨by omega,by omega⟩
 obtain⟨A,B,hA,hB,eA⟩:∃ A B:Nat,A<=12/\B<=12/\zw pu (Bo:Int) (Bd:Int)=((A:Int),(B:Int)):=by
  cases pu
  .exact⟨Bo,Bd,hBo,hBd,rfl⟩
  .exact⟨Bd,Bo,hBd,hBo,rfl⟩
 have dA:xR (c5/2) ((A:Int)+1):=⟨by omega,by omega⟩
 have dB:xR (c5/26) ((B:Int)+1):=⟨by omega,by omega⟩
 have d2:xR c5 2:=⟨by decide,by decide⟩
 have d26:xR c5 26:=⟨by decide,by decide⟩
 obtain⟨a,ha,ea⟩:=oK (c5/2) (Nat.succ_pos A);obtain⟨b,hb,eb⟩:=oK (c5/26) (Nat.succ_pos B);rw[Nat.succ_eq_add_one,Int.natCast_add,Int.natCast_one] at ea eb;have last:∀ q:Nat×Nat,q.1<=A->q.2<=B->∃ n:Nat,qF [zC (uz m w pu Bo Bd st os),.int p,.tup [.int q.1,.int q.2]]=some (.int n)/\p_ [zC (uz m w pu Bo Bd st os),.int (1-zX pu),.int w,.int p,.tup [.int q.1,.int q.2]]=some (.int n):=λ q q1 q2=>by
  obtain⟨D,O,hD,hO,e⟩:∃ D O:Nat,D<=Bd/\O<=Bo/\T.tup [.int q.1,.int q.2]=zt (zw pu (O:Int) (D:Int)):=by
   cases pu
   .cases eA;exact⟨q.2,q.1,by omega,by omega,rfl⟩
   .cases eA;exact⟨q.1,q.2,by omega,by omega,rfl⟩
  rw[e];refine⟨_,RQ ok R hp hO hD,Pk _ pu w p (.tup (y_ pu Bd Bo)) (.tup (((List.range m).map (xy m w pu)).map yn)) Bd m D O st hw hp (λ h g e=>(hst h g e).1) rfl ?_ rfl ?_ ?_ ?_⟩
  .cases pu <;> simp[y_,zX,zw]
  .intro p hp;refine⟨yn (xy m w pu p),?_,by simp[yn,xy]⟩;exact t6 (by rw[List.getElem?_map,List.getElem?_map,List.getElem?_range hp];rfl)
  .cases st with
   | none=>rfl
   | some x=>obtain⟨h,g⟩:=x;rfl
  .have h1:=gM hp hw;have h2:NN m w (yJ Bd st) p D O<=12+12*12:=by
    unfold NN;cases st with
    | none=>show D<=_;omega
    | some x=>
     obtain⟨h,g⟩:=x;have:O*min g Bd<=12*12:=Nat.mul_le_mul (by omega) (by omega);have hz:D+O*min g Bd<=12+12*12:=Nat.add_le_add (by omega) this;show (if _ then D+O*min g Bd else D)<=_;split
     .exact hz
     .omega
   have h3:m*NN m w (yJ Bd st) p D O<=8*(12+12*12):=Nat.mul_le_mul m8 h2;unfold WW;omega
 have f0:zm (zC (uz m w pu Bo Bd st os)) (.int 0)=some (.tup [.int A,.int B]):=by
  show some (T.tup [.int (zw pu (Bo:Int) (Bd:Int)).1,.int (zw pu (Bo:Int) (Bd:Int)).2])=_;rw[eA]
 have f1:zm (zC (uz m w pu Bo Bd st os)) (.int 1)=some (.tup (os.map kt)):=rfl;have hln:(os.map kt).length=m:=by rw[List.length_map,los]
 have t1:v_ "int" "int"=true:=by decide
 have t2:v_ "int" "bool"=false:=by decide
 unfold og Ys;generalize zC (uz m w pu Bo Bd st os)=fl at *;generalize os.map kt=OS at *;generalize wx=fc at *;generalize qF=f3 at *;generalize p_=f4 at *;generalize oa=f5 at *;generalize x_ ns=sc at *;generalize 1-zX pu=d at *;simp only[zm] at f0 f1;by_cases h5:c5%2=1
 .obtain⟨n,l1,l2⟩:=last (a,b) (by show a<=A;omega) (by show b<=B;omega);dsimp only at l1 l2;simp[hR,hc4,hc5,f0,f1,hln,d4,ep,eq_int,h5,ea,eb,dA,dB,d2,d26,l1,l2,m0,t1,t2]
 .obtain⟨n,l1,l2⟩:=last (A,B) (Nat.le_refl _) (Nat.le_refl _);dsimp only at l1 l2;simp[hR,hc4,hc5,f0,f1,hln,d4,ep,eq_int,h5,d2,d26,l1,l2,m0,t1,t2]
end yH
theorem PySem.W.Fast.tw162384857196609222:True:=trivial
theorem PySem.W.Fast.tw5830913041808676943:True:=trivial
theorem PySem.W.Fast.tw15339978099257379990:True:=trivial
theorem PySem.W.Fast.tw11898217985418385914:True:=trivial
theorem PySem.W.Fast.tw16665190477671748111:True:=trivial
theorem PySem.W.Fast.tw16626892943996087720:True:=trivial
theorem PySem.W.Fast.tw10415914400212014554:True:=trivial
theorem PySem.W.Fast.tw12566214628009499652:True:=trivial
theorem PySem.W.Fast.tw8551076424230657249:True:=trivial
theorem PySem.W.Fast.tw9578072409422778595:True:=trivial
theorem PySem.W.Fast.tw16517187440563677416:True:=trivial
theorem PySem.W.Fast.tw14469929693741442445:True:=trivial
theorem PySem.W.Fast.tw14465123903280302133:True:=trivial
theorem PySem.W.Fast.tw3020984765800358905:True:=trivial
theorem PySem.W.Fast.tw5283316888830906540:True:=trivial
theorem PySem.W.Fast.tw11903419274109830035:True:=trivial
theorem PySem.W.Fast.tw10111203592496261914:True:=trivial
theorem PySem.W.Fast.tw15588338985010025767:True:=trivial
theorem PySem.W.Fast.tw33333123000041575:True:=trivial
theorem PySem.W.Fast.tw7708032021765912288:True:=trivial
theorem PySem.W.Fast.tw6045786949244916244:True:=trivial
theorem PySem.W.Fast.tw10372196049487229890:True:=trivial
theorem PySem.W.Fast.tw8436771556039684221:True:=trivial
theorem PySem.W.Fast.tw15829752237639081788:True:=trivial
theorem PySem.W.Fast.tw5479608328760324136:True:=trivial
theorem PySem.W.Fast.tw9916790898948887295:True:=trivial
theorem PySem.W.Fast.tw11186482416676960940:True:=trivial
theorem PySem.W.Fast.tw12289296330421519938:True:=trivial
theorem PySem.W.Fast.tw3264855125304153082:True:=trivial
theorem PySem.W.Fast.tw8537897140004730076:True:=trivial
theorem PySem.W.Fast.tw9568514329877573102:True:=trivial
theorem PySem.W.Fast.tw16666019028399653617:True:=trivial
theorem PySem.W.Fast.tw12531002451212965919:True:=trivial
theorem PySem.W.Fast.tw10111092602849781672:True:=trivial
theorem PySem.W.Fast.tw5454914891890669164:True:=trivial
theorem PySem.W.Fast.tw10496937244969879525:True:=trivial
theorem PySem.W.Fast.tw7706845750328100553:True:=trivial
theorem PySem.W.Fast.tw12190459170751350526:True:=trivial
theorem PySem.W.Fast.tw10836899194836220750:True:=trivial
theorem PySem.W.Fast.tw5359374090940143211:True:=trivial
theorem PySem.W.Fast.tw6082341558085523051:True:=trivial
theorem PySem.W.Fast.tw7078139149635792181:True:=trivial
theorem PySem.W.Fast.tw18207953901553349537:True:=trivial
theorem PySem.W.Fast.tw6773131850407518104:True:=trivial
theorem PySem.W.Fast.tw14291681475680554046:True:=trivial
theorem PySem.W.Fast.tw17186445737751934172:True:=trivial
theorem PySem.W.Fast.tw13112705531216267251:True:=trivial
theorem PySem.W.Fast.tw8897586175642758557:True:=trivial
theorem PySem.W.Fast.tw2191864000095364234:True:=trivial
theorem PySem.W.Fast.tw7692336737346123295:True:=trivial
theorem PySem.W.Fast.tw4239325218355697504:True:=trivial
theorem PySem.W.Fast.tw14948544891118626882:True:=trivial
theorem PySem.W.Fast.tw16276470871725449585:True:=trivial
theorem PySem.W.Fast.tw10811856611211419824:True:=trivial
theorem PySem.W.Fast.tw11009266726232330226:True:=trivial
theorem PySem.W.Fast.tw4957869241704339702:True:=trivial
theorem PySem.W.Fast.tw2273289910766508106:True:=trivial
theorem PySem.W.Fast.tw546164621661202590:True:=trivial
theorem PySem.W.Fast.tw10191559732524896745:True:=trivial
theorem PySem.W.Fast.tw2492100072690260196:True:=trivial
theorem PySem.W.Fast.tw12797053248444224338:True:=trivial
theorem PySem.W.Fast.tw6289219627938338227:True:=trivial
theorem PySem.W.Fast.tw15811236437364715455:True:=trivial
theorem PySem.W.Fast.tw17972373170161159699:True:=trivial
theorem PySem.W.Fast.tw16289672535494890489:True:=trivial
theorem PySem.W.Fast.tw13088438700224542610:True:=trivial
theorem PySem.W.Fast.tw13353783717622506271:True:=trivial
theorem PySem.W.Fast.tw17434200739018985258:True:=trivial
theorem PySem.W.Fast.tw7796508430383288249:True:=trivial
theorem PySem.W.Fast.tw16578555515370117057:True:=trivial
theorem PySem.W.Fast.tw17741949207701475365:True:=trivial
theorem PySem.W.Fast.tw15695556300273184083:True:=trivial
theorem PySem.W.Fast.tw8551902678144614582:True:=trivial
theorem PySem.W.Fast.tw5843555204694947894:True:=trivial
theorem PySem.W.Fast.tw1795798626134814944:True:=trivial
theorem PySem.W.Fast.tw10905898785409616244:True:=trivial
theorem PySem.W.Fast.tw11754976281419144449:True:=trivial
theorem PySem.W.Fast.tw15822145735599163940:True:=trivial
theorem PySem.W.Fast.tw2072950516359577322:True:=trivial
theorem PySem.W.Fast.tw4545867515205653886:True:=trivial
theorem PySem.W.Fast.tw16741086274460051105:True:=trivial
theorem PySem.W.Fast.tw11645683016067226127:True:=trivial
theorem PySem.W.Fast.tw9837246499767716914:True:=trivial
theorem PySem.W.Fast.tw16373814712730809033:True:=trivial
theorem PySem.W.Fast.tw572665792052523438:True:=trivial
theorem PySem.W.Fast.te6947321929629508478:True:=trivial
theorem PySem.W.Fast.tw12241092592708142585:True:=trivial
theorem PySem.W.Fast.tw3999290685273252409:True:=trivial
theorem PySem.W.Fast.tw2372158187932277451:True:=trivial
theorem PySem.W.Fast.tw11641927921698520293:True:=trivial
theorem PySem.W.Fast.tw5807977814825779688:True:=trivial
theorem PySem.W.Fast.tw18318119367259578253:True:=trivial
theorem PySem.W.Fast.tw1312306118386013504:True:=trivial
theorem PySem.W.Fast.tw14813703210072163069:True:=trivial
theorem PySem.W.Fast.tw13913647420855966183:True:=trivial
theorem PySem.W.Fast.tw9925717096194880827:True:=trivial
theorem PySem.W.Fast.tw9676471756180478044:True:=trivial
theorem PySem.W.Fast.tw10023572869806401734:True:=trivial
theorem PySem.W.Fast.tw11252929311402912610:True:=trivial
theorem PySem.W.Fast.tw12364944398490896693:True:=trivial
theorem PySem.W.Fast.tw11123934286441274615:True:=trivial
theorem PySem.W.Fast.tw4110860561768780798:True:=trivial
theorem PySem.W.Fast.tw9602037320069177669:True:=trivial
theorem PySem.W.Fast.tw10259879230498261190:True:=trivial
theorem PySem.W.Fast.tw14713315850344040448:True:=trivial
theorem PySem.W.Fast.tw13722975517619161539:True:=trivial
theorem PySem.W.Fast.tw3669460575550185422:True:=trivial
theorem PySem.W.Fast.tw3978337065133398273:True:=trivial
theorem PySem.W.Fast.tw12555151732697370747:True:=trivial
theorem PySem.W.Fast.tw7574829586657595456:True:=trivial
theorem PySem.W.Fast.tw3538278128069715317:True:=trivial
theorem PySem.W.Fast.tw15618016627694993989:True:=trivial
theorem PySem.W.Fast.tw15733141487485495266:True:=trivial
theorem PySem.W.Fast.tw11625969193577130409:True:=trivial
theorem PySem.W.Fast.tw5055011426908300463:True:=trivial
theorem PySem.W.Fast.tw7992787479807807765:True:=trivial
theorem PySem.W.Fast.tw8144944758500277631:True:=trivial
theorem PySem.W.Fast.tw9820222206058169689:True:=trivial
theorem PySem.W.Fast.tw5046567264238226291:True:=trivial
theorem PySem.W.Fast.tw2551932285716695668:True:=trivial
theorem PySem.W.Fast.tw4767354200505670239:True:=trivial
theorem PySem.W.Fast.tw14930640390846850500:True:=trivial
theorem PySem.W.Fast.tw14775159881733176352:True:=trivial
theorem PySem.W.Fast.tw3293684039133210616:True:=trivial
theorem PySem.W.Fast.tw16778317492547232914:True:=trivial
theorem PySem.W.Fast.tw2527249095738108427:True:=trivial
theorem PySem.W.Fast.tw3291742983870058365:True:=trivial
theorem PySem.W.Fast.tw6857636951807933376:True:=trivial
theorem PySem.W.Fast.tw10812465470749055509:True:=trivial
theorem PySem.W.Fast.tw10652865803936724460:True:=trivial
theorem PySem.W.Fast.tw15108061507363073569:True:=trivial
theorem PySem.W.Fast.tw6859098775520754918:True:=trivial
theorem PySem.W.Fast.tw5758656324337254131:True:=trivial
theorem PySem.W.Fast.tw1474101463896526926:True:=trivial
theorem PySem.W.Fast.tw15603980233297399090:True:=trivial
theorem PySem.W.Fast.tw9041817149037920011:True:=trivial
theorem PySem.W.Fast.tw7792104952228556559:True:=trivial
theorem PySem.W.Fast.tw4453027549417105387:True:=trivial
theorem PySem.W.Fast.tw3733818103375950945:True:=trivial
theorem PySem.W.Fast.tw2590752573614199232:True:=trivial
theorem PySem.W.Fast.tw7978193541016807404:True:=trivial
theorem PySem.W.Fast.tw6702323762357821738:True:=trivial
theorem PySem.W.Fast.tw695570247004665524:True:=trivial
theorem PySem.W.Fast.tw13625960485889113497:True:=trivial
theorem PySem.W.Fast.tw6464890830934030544:True:=trivial
theorem PySem.W.Fast.tw573793915133114910:True:=trivial
theorem PySem.W.Fast.tw9187089630505276704:True:=trivial
theorem PySem.W.Fast.tw4256992106683351035:True:=trivial
theorem PySem.W.Fast.tw9034082382238961208:True:=trivial
theorem PySem.W.Fast.tw2995890380262410135:True:=trivial
theorem PySem.W.Fast.tw3526225056888173844:True:=trivial
theorem PySem.W.Fast.tw7605841322149995530:True:=trivial
theorem PySem.W.Fast.tw4129442813617376552:True:=trivial
theorem PySem.W.Fast.tw4838525629823270069:True:=trivial
theorem PySem.W.Fast.tw4054613515265293806:True:=trivial
theorem PySem.W.Fast.tw3160131585826555634:True:=trivial
theorem PySem.W.Fast.tw13824835625805772387:True:=trivial
theorem PySem.W.Fast.tw12853896385517898043:True:=trivial
theorem PySem.W.Fast.tw17342559069096851391:True:=trivial
theorem PySem.W.Fast.tw289927416020941339:True:=trivial
theorem PySem.W.Fast.tw14122835094238229901:True:=trivial
theorem PySem.W.Fast.tw9853340703719117278:True:=trivial
theorem PySem.W.Fast.tw9923409671357158244:True:=trivial
theorem PySem.W.Fast.tw8205979620170004663:True:=trivial
theorem PySem.W.Fast.tw17264891663846718811:True:=trivial
theorem PySem.W.Fast.tw765137250955575597:True:=trivial
theorem PySem.W.Fast.tw618098901706523391:True:=trivial
theorem PySem.W.Fast.tw14242570444355519396:True:=trivial
theorem PySem.W.Fast.tw12986863542736968486:True:=trivial
theorem PySem.W.Fast.tw3427493151088346641:True:=trivial
theorem PySem.W.Fast.tw15476198401567169430:True:=trivial
theorem PySem.W.Fast.tw15115489324166373034:True:=trivial
theorem PySem.W.Fast.tw9288558122638585458:True:=trivial
theorem PySem.W.Fast.tw2357219960728892851:True:=trivial
theorem PySem.W.Fast.tw4220295846616603834:True:=trivial
theorem PySem.W.Fast.tw17002747522515548117:True:=trivial
theorem PySem.W.Fast.tw2210191780508521992:True:=trivial
theorem PySem.W.Fast.tw764481403279269409:True:=trivial
theorem PySem.W.Fast.tw16504000745029383104:True:=trivial
theorem PySem.W.Fast.tw10448320578371756706:True:=trivial
theorem PySem.W.Fast.tw16635722031631064658:True:=trivial
theorem PySem.W.Fast.tw13489607229379080508:True:=trivial
theorem PySem.W.Fast.tw1369515735093144210:True:=trivial
theorem PySem.W.Fast.tw15655469687796825668:True:=trivial
theorem PySem.W.Fast.tw9112700185498325815:True:=trivial
theorem PySem.W.Fast.tw8673563361022036912:True:=trivial
theorem PySem.W.Fast.tw4168632220185793831:True:=trivial
theorem PySem.W.Fast.tw12285707716525639537:True:=trivial
theorem PySem.W.Fast.tw8249385189151192930:True:=trivial
theorem PySem.W.Fast.tw8780652150677609381:True:=trivial
theorem PySem.W.Fast.tw3665580894620459392:True:=trivial
theorem PySem.W.Fast.tw14737181642318841712:True:=trivial
theorem PySem.W.Fast.tw16133874104362084773:True:=trivial
theorem PySem.W.Fast.tw9938882128225921733:True:=trivial
theorem PySem.W.Fast.tw2026755204209560987:True:=trivial
theorem PySem.W.Fast.tw8591743152098017433:True:=trivial
theorem PySem.W.Fast.tw8668722173314498683:True:=trivial
theorem PySem.W.Fast.tw6832962181194473105:True:=trivial
theorem PySem.W.Fast.tw13592521265894714762:True:=trivial
theorem PySem.W.Fast.tw886134447393968622:True:=trivial
theorem PySem.W.Fast.tw13069705509828849253:True:=trivial
theorem PySem.W.Fast.tw16950582771052499635:True:=trivial
theorem PySem.W.Fast.tw14773444067790268589:True:=trivial
theorem PySem.W.Fast.tw12581401530736746182:True:=trivial
theorem PySem.W.Fast.tw16238699386335632933:True:=trivial
theorem PySem.W.Fast.tw8709317619086749074:True:=trivial
theorem PySem.W.Fast.tw7637709004898426422:True:=trivial
theorem PySem.W.Fast.tw5251635241419675880:True:=trivial
theorem PySem.W.Fast.tw3309439453879147365:True:=trivial
theorem PySem.W.Fast.tw11437337830119391283:True:=trivial
theorem PySem.W.Fast.tw2455143508862811967:True:=trivial
theorem PySem.W.Fast.tw12483315853566843170:True:=trivial
theorem PySem.W.Fast.tw13689933015550971453:True:=trivial
theorem PySem.W.Fast.tw8004161693705195566:True:=trivial
theorem PySem.W.Fast.tw14294534223834456183:True:=trivial
theorem PySem.W.Fast.tw14634748933778780262:True:=trivial
theorem PySem.W.Fast.tw10039777174889632307:True:=trivial
theorem PySem.W.Fast.tw10225036645784187999:True:=trivial
theorem PySem.W.Fast.tw11869757649464073944:True:=trivial
theorem PySem.W.Fast.tw13154569441635469050:True:=trivial
theorem PySem.W.Fast.tw13893766142388643654:True:=trivial
theorem PySem.W.Fast.tw5764462051992182979:True:=trivial
namespace yH
open PySem L2 L3 L5
open PyProof.Rows hiding St
def yE (i:Nat):Stmt:=PySem.Challenge.pw_purseborder_k35_slow_drains.main.body.getD i (.Pass ⟨0,0,0,0⟩)
abbrev j6:Stmt:=yE 6
abbrev j5:Stmt:=yE 7
abbrev mY:Stmt:=yE 8
abbrev ju:Stmt:=yE 9
abbrev j9:Stmt:=yE 10
abbrev jA:Stmt:=yE 11
abbrev mV:Stmt:=yE 12
abbrev jt:Stmt:=yE 13
abbrev jE:Stmt:=yE 15
abbrev jw:Stmt:=yE 16
abbrev mZ:Stmt:=yE 17
abbrev oz:Stmt:=yE 18
abbrev j8:Stmt:=yE 19
abbrev o3:Stmt:=yE 21
abbrev jv:Stmt:=yE 22
abbrev jD:Stmt:=yE 23
abbrev jB:Stmt:=yE 24
abbrev jC:Stmt:=yE 25
abbrev oy:Stmt:=yE 26
abbrev mX:Stmt:=yE 27
abbrev mW:Stmt:=yE 28
abbrev j7:Stmt:=yE 29
abbrev j4:Stmt:=yE 30
abbrev j0:Stmt:=yE 32
abbrev jz:Stmt:=yE 33
abbrev jy:Stmt:=yE 34
abbrev jx:Stmt:=yE 35
abbrev j3:Stmt:=yE 36
theorem XQ:yz ["thing"] ["thing"] (zO j6):=⟨rfl,rfl,rfl,by decide +kernel,rfl,by decide +kernel,by decide +kernel⟩
theorem XI:yz ["floor"] ["floor"] (zO ju):=⟨rfl,rfl,rfl,by decide +kernel,rfl,by decide +kernel,by decide +kernel⟩
theorem XX:yz ["pair","other"] ["pair","other"] (zO jE):=⟨rfl,rfl,rfl,by decide +kernel,rfl,by decide +kernel,by decide +kernel⟩
theorem jr:yz ["pairs","least","pair"] ["pairs"] (zO jw):=⟨rfl,rfl,rfl,by decide +kernel,rfl,by decide +kernel,by decide +kernel⟩
theorem rP:yz ["brims","stall","pair","purse","pairs","given","got"] ["brims","stall","pair"] (zO jv):=⟨rfl,rfl,rfl,by decide +kernel,rfl,by decide +kernel,by decide +kernel⟩
theorem XM:yz ["_law_script","_law_k"] ["_law_script","_law_k"] (zO j0):=⟨rfl,rfl,rfl,by decide +kernel,rfl,by decide +kernel,by decide +kernel⟩
theorem XJ:yz ["_law_many","_law_brims","_law_drained","_law_get"] ["_law_many","_law_brims","_law_drained","_law_get"] (zO jz):=⟨rfl,rfl,rfl,by decide +kernel,rfl,by decide +kernel,by decide +kernel⟩
theorem tL:yz ["_law_floor","_law_drained","_law_worn","_law_place","_law_pair","_law_held","_law_steps","_law_home","_law_purse","_law_give","_law_get"] ["_law_floor","_law_drained","_law_worn","_law_place","_law_pair"] (zO jx):=⟨rfl,rfl,rfl,by decide +kernel,rfl,by decide +kernel,by decide +kernel⟩
theorem XO:yz ["thing","least","most"] ["thing","least","most"] (zO j5):=⟨rfl,rfl,rfl,by decide +kernel,rfl,by decide +kernel,by decide +kernel⟩
theorem XS:yz ["border","pair"] ["border","pair"] (zO mZ):=⟨rfl,rfl,rfl,by decide +kernel,rfl,by decide +kernel,by decide +kernel⟩
theorem rQ:yz ["border","other","steps","lows","shared","first","side","second"] ["border","other"] (zO oz):=⟨rfl,rfl,rfl,by decide +kernel,rfl,by decide +kernel,by decide +kernel⟩
theorem XT:yz ["border","other"] ["border","other"] (zO j8):=⟨rfl,rfl,rfl,by decide +kernel,rfl,by decide +kernel,by decide +kernel⟩
theorem dn:yz ["brims","way","border","pairs"] ["brims","way","border"] (zO o3):=⟨rfl,rfl,rfl,by decide +kernel,rfl,by decide +kernel,by decide +kernel⟩
theorem wa:yz ["_law_script","_law_number","_law_many","_law_drained","_law_home","_law_get","_law_stalls","_law_owners","_law_bits","_law_place","_law_brims","_law_worn","_law_ways","_law_coins"] ["_law_script"] (zO jy):=⟨rfl,rfl,rfl,by decide +kernel,rfl,by decide +kernel,by decide +kernel⟩
theorem XR:yz ["thing","bounds"] ["thing","bounds"] (zO mY):=⟨rfl,rfl,rfl,by decide +kernel,rfl,by decide +kernel,by decide +kernel⟩
theorem XU:yz ["floor","place"] ["floor","place"] (zO j9):=⟨rfl,rfl,rfl,by decide +kernel,rfl,by decide +kernel,by decide +kernel⟩
theorem mS:yz ["borders","joined","border"] ["borders"] (zO jB):=⟨rfl,rfl,rfl,by decide +kernel,rfl,by decide +kernel,by decide +kernel⟩
theorem mT:yz ["borders","joined","border"] ["borders"] (zO jC):=⟨rfl,rfl,rfl,by decide +kernel,rfl,by decide +kernel,by decide +kernel⟩
theorem js:yz ["told","place","pair","number","held"] ["told","place","pair"] (zO j7):=⟨rfl,rfl,rfl,by decide +kernel,rfl,by decide +kernel,by decide +kernel⟩
theorem XW:yz ["floor","pair"] ["floor","pair"] (zO jA):=⟨rfl,rfl,rfl,by decide +kernel,rfl,by decide +kernel,by decide +kernel⟩
theorem XH:yz ["floor","place"] ["floor","place"] (zO mV):=⟨rfl,rfl,rfl,by decide +kernel,rfl,by decide +kernel,by decide +kernel⟩
theorem di:yz ["floor","place","stall"] ["floor","place"] (zO jt):=⟨rfl,rfl,rfl,by decide +kernel,rfl,by decide +kernel,by decide +kernel⟩
theorem mU:yz ["floor","place","border","stall","pairs","pair"] ["floor","place","border"] (zO jD):=⟨rfl,rfl,rfl,by decide +kernel,rfl,by decide +kernel,by decide +kernel⟩
theorem jq:yz ["floor","place","last","ways","ahead"] ["floor","place","last"] (zO oy):=⟨rfl,rfl,rfl,by decide +kernel,rfl,by decide +kernel,by decide +kernel⟩
theorem jo:yz ["floor","last","fresh","following","place"] ["floor","last","fresh"] (zO mX):=⟨rfl,rfl,rfl,by decide +kernel,rfl,by decide +kernel,by decide +kernel⟩
theorem qV:yz ["floor","told","fresh","last","following"] ["floor"] (zO mW):=⟨rfl,rfl,rfl,by decide +kernel,rfl,by decide +kernel,by decide +kernel⟩
theorem XN:yz ["floor","place","pair"] ["floor","place","pair"] (zO j4):=⟨rfl,rfl,rfl,by decide +kernel,rfl,by decide +kernel,by decide +kernel⟩
theorem tM:yz ["_law_script","_law_drained","_law_worn","_law_floor","_law_place","_law_cell_here","_law_pair","_law_found"] ["_law_script"] (zO j3):=⟨rfl,rfl,rfl,by decide +kernel,rfl,by decide +kernel,by decide +kernel⟩
section
variable (P:Program) (w:World) (K:PySem.W.Frag) (mg:Str->Option Value) (base:Heap)
abbrev ZX:=FD P w K mg base "is_whole" 1 ["thing"] (yc zW kR)
abbrev fV:=FD P w K mg base "places_of" 1 ["floor"] (yc zW qE)
abbrev fY:=FD P w K mg base "at_or_above" 1 ["pair","other"] (yc zW om)
abbrev mz:=FD P w K mg base "least_pairs" 1 ["pairs"] (yc zW su)
abbrev ZQ:=FD P w K mg base "pairs_ahead_of_changes" 1 ["brims","stall","pair"] (yc zW nZ)
abbrev fW:=FD P w K mg base "_law_cell" 1 ["_law_script","_law_k"] (yc zW wx)
abbrev ZV:=FD P w K mg base "_law_lasting_most" 1 ["_law_many","_law_brims","_law_drained","_law_get"] (yc zW uJ)
abbrev ZT:=FD P w K mg base "_law_walked" 1 ["_law_floor","_law_drained","_law_worn","_law_place","_law_pair"] (yc vv p_)
abbrev fX:=FD P w K mg base "is_whole_within" 2 ["thing","least","most"] (yc zW ma)
abbrev ZZ:=FD P w K mg base "holds" 2 ["border","pair"] (yc zW me)
abbrev Yc:=FD P w K mg base "both" 2 ["border","other"] (yc zW mj)
abbrev Ya:=FD P w K mg base "either" 2 ["border","other"] (yc zW mh)
abbrev Yf:=FD P w K mg base "border_ahead_of_way" 2 ["brims","way","border"] (yc zW mr)
abbrev ZU:=FD P w K mg base "_law_ring" 2 ["_law_script"] (yc zW oa)
abbrev ZY:=FD P w K mg base "is_row_within" 3 ["thing","bounds"] (yc zW md)
abbrev kT:=FD P w K mg base "check_place" 3 ["floor","place"] (yc zW qG)
abbrev Yd:=FD P w K mg base "border_of_either" 3 ["borders"] (yc vv ml)
abbrev Ye:=FD P w K mg base "border_of_all" 3 ["borders"] (yc vv mq)
abbrev Z_:=FD P w K mg base "first_without" 3 ["told","place","pair"] (yc vv mf)
abbrev Yb:=FD P w K mg base "check_pair" 4 ["floor","pair"] (yc zW mi)
abbrev ZM:=FD P w K mg base "ways_from" 4 ["floor","place"] (yc zW nY)
abbrev ZN:=FD P w K mg base "stall_at" 4 ["floor","place"] (yc vv qD)
abbrev Yg:=FD P w K mg base "border_ahead_of_changes" 5 ["floor","place","border"] (yc vv oj)
abbrev ZS:=FD P w K mg base "next_border" 6 ["floor","place","last"] (yc vv n_)
abbrev ZR:=FD P w K mg base "next_round" 7 ["floor","last","fresh"] (yc zW pZ)
abbrev ZO:=FD P w K mg base "rounds" 8 ["floor"] (yc zW pY)
abbrev ZW:=FD P w K mg base "lasts" 9 ["floor","place","pair"] (yc vv qF)
variable {K mg} (T:Bt mg) (U:Bq mg)
include T U
theorem UI (F:Fy K mg "is_whole" j6):ZX P w K mg base:=
 xa (k:=0) F XQ rfl (λ _ _ _ _ _ _=>qy λ _=>rfl) λ f cdv A outer s H E hr=>⟨_,
  (zP (y7 (ik (cz T (za 0 (pv 0))) (jZ (V8 (c6 T (za 0 (pv 0)))))))),
  (yL (i3 ((oG (zi 0))).fr (U5 ((oG (zi 0))).fr)))⟩
theorem U1 (F:Fy K mg "places_of" ju):fV P w K mg base:=
 xa (k:=0) F XI rfl (λ _ _ _ _ _ _=>qy λ _=>rfl) λ f cdv A outer s H E hr=>⟨_,
  (zP (y7 (oA T.len (zf (zH (za 0 (pv 0)) zo) zv)))),
  (yL (xh oX (yd ((zu zI (zi 0) ((zp _)).fr)).er yA)))⟩
theorem U_ (F:Fy K mg "at_or_above" jE):fY P w K mg base:=
 xa (k:=0) F XX rfl (λ _ _ _ _ _ _=>t7 λ _ _=>rfl) λ f cdv A outer s H E hr=>⟨_,
  (zP (y7 (ik (c7 (zH (za 0 (pv 0)) zo) (zH (za 1 (pv 1)) zo)) (jZ (c7 (zH (za 0 (pv 0)) zo) (zH (za 1 (pv 1)) zo)))))),
  (yL (i3 ((cJ ((zu zI (zi 0) ((zp _)).fr)).er ((zu zI (zi 1) ((zp _)).fr)).er)).fr (cJ ((zu zI (zi 0) ((zp _)).fr)).er ((zu zI (zi 1) ((zp _)).fr)).er)))⟩
theorem U8 (F:Fy K mg "least_pairs" jw):mz P w K mg base:=
 xa (k:=0) F jr rfl (λ _ _ _ _ _ _=>qy λ _=>rfl) λ f cdv A outer s H E hr=>⟨_,
  (zE (ya 1 jr.nd (vm zv))
  (zE (u3 PassesOwn.never rfl (wG (cx T.sorted (zf (za 0 (pv 0)) zv))) (y4 2 jr.nd) (zP (wc (uq.pt (jU (qZ (u0 (za 1 (pv 1)))) (jT (jV hr (zH (za 2 (pv 2)) zo) (zH (zH (za 1 (pv 1)) (cy zo)) zo))))) (zP (u4 (pd (za 1 (pv 1)) (za 2 (pv 2))))) wb)))
  (zP (y7 (l7 T.tuple (zf (za 1 (pv 1)) zv)))))),
  (zF (u6 1 (vo zG))
  (zF (u5 (sN ((xh bR (yd (zi 0) yA))).fe) (xK 2) (wj (iz (pz (u7 (zi 1))) (xG (zu gj ((zu zI (zi 2) ((zp _)).fr)).er ((zu zI ((zu zI (zi 1) ((cI ((zp _)).fr)).fr)).er ((zp _)).fr)).er).fr)) (pj 1 (zA 2)) wg))
  (yL (xh lW (yd (zi 1) yA)))))⟩
theorem U3 (F:Fy K mg "pairs_ahead_of_changes" jv):ZQ P w K mg base:=
 xa (k:=0) F rP rfl (λ _ _ _ _ _ _=>rB λ _ _ _=>rfl) λ f cdv A outer s H E hr=>⟨_,
  (zE (ya 3 rP.nd (zH (za 1 (pv 1)) zo))
  (zE (ya 4 rP.nd (vm zv))
  (zE (ya 5 rP.nd (zH (za 2 (pv 2)) (za 3 (pv 3))))
  (zE (ya 6 rP.nd (zH (za 2 (pv 2)) (wH zo (za 3 (pv 3)))))
  (zE (lu PassesOwn.never (Vv (za 5 (pv 5)) (zH (za 0 (pv 0)) (za 3 (pv 3)))) (zE (u4 (pd (za 4 (pv 4)) (VC (uU hr (za 3 (pv 3)) zo) (xE (zf (za 5 (pv 5)) (zf (za 6 (pv 6)) zv))) (xE (zf (za 6 (pv 6)) (zf (za 5 (pv 5)) zv))))))
  (zE (ya 5 rP.nd (tQ (za 5 (pv 5)) (zH (za 1 (pv 1)) zo)))
  (zP (ya 6 rP.nd (l8 T.max (zf zo (zf (wH (za 6 (pv 6)) (zH (za 1 (pv 1)) zo)) zv))))))))
  (zP (y7 (za 4 (pv 4))))))))),
  (zF (yu 3 (zu zI (zi 1) ((zp _)).fr))
  (zF (u6 4 (vo zG))
  (zF (yu 5 (zu zI (zi 2) (zi 3)))
  (zF (yu 6 (zu zI (zi 2) ((wI ((zp _)).fr (zi 3))).fr))
  (zF (lD (xG (U9 (zi 5) ((zu zI (zi 0) (zi 3))).er).fr) (zF (pj 4 (UK (xG (zu vI (zi 3) ((zp _)).fr).fr) ((xF (zk (zA 5) (zk (zA 6) zG)))).fe ((xF (zk (zA 6) (zk (zA 5) zG)))).fe))
  (zF (yu 5 ((zu good_add (zi 5) ((zu zI (zi 1) ((zp _)).fr)).er)).fe)
  (yu 6 ((xh lY (yd ((zp _)).fr (yd ((wI (zi 6) ((zu zI (zi 1) ((zp _)).fr)).er)).fr yA)))).fe))))
  (ir 4))))))⟩
theorem UD (F:Fy K mg "_law_cell" j0):fW P w K mg base:=
 xa (k:=0) F XM rfl (λ _ _ _ _ _ _=>t7 λ _ _=>rfl) λ f cdv A outer s H E hr=>⟨_,
  (zE (wc (jV hr (za 1 (pv 1)) (oA T.len (zf (za 0 (pv 0)) zv))) (zP (y7 (va (zH (za 0 (pv 0)) (za 1 (pv 1))) (V7 zo zo)))) wb)
  (zP (y7 zo))),
  (zF (wj (xG (zu gj (zi 1) ((xh oX (yd (zi 0) yA))).fr).fr) (yL (vb ((zu zI (zi 0) (zi 1))).er ((U0 ((zp _)).fr ((zp _)).fr)).fr)) wg)
  (yL (zp _)))⟩
theorem UC (F:Fy K mg "_law_lasting_most" jz):ZV P w K mg base:=
 xa (k:=0) F XJ rfl (λ _ _ _ _ _ _=>QV λ _ _ _ _=>rfl) λ f cdv A outer s H E hr=>⟨_,
  (zP (y7 (ic (za 0 (pv 0)) (tQ (zH (za 1 (pv 1)) (za 2 (pv 2))) (ic (zH (za 1 (pv 1)) (wH zo (za 2 (pv 2)))) (ie T.min (zf (za 3 (pv 3)) (zf (zH (za 1 (pv 1)) (za 2 (pv 2))) zv)))))))),
  (yL (zu gf (zi 0) ((zu good_add ((zu zI (zi 1) (zi 2))).er ((zu gf ((zu zI (zi 1) ((wI ((zp _)).fr (zi 2))).fr)).er ((xh gh (yd (zi 3) (yd ((zu zI (zi 1) (zi 2))).er yA)))).fr)).fr)).fr))⟩
theorem UA (F:Fy K mg "_law_walked" jx):ZT P w K mg base:=
 xa (k:=0) F tL rfl (λ _ _ _ _ _ _=>QU λ _ _ _ _ _=>rfl) λ f cdv A outer s H E hr=>⟨_,
  (zE (ya 5 tL.nd (l9 T.list (zf (za 4 (pv 4)) zv)))
  (zE (ya 6 tL.nd zo)
  (zP (lu PassesOwn.never (u0 ij) (zE (u3 PassesOwn.never rfl (wG (zH (za 0 (pv 0)) zo)) (rY (n:=4) (we (y4 7 tL.nd) (we (y4 8 tL.nd) (we (y4 9 tL.nd) (we (y4 10 tL.nd) rX))))) (zP (wc (uq.pt (cp (uU hr (za 7 (pv 7)) (za 3 (pv 3))) (cp (uU hr (zH (za 5 (pv 5)) (za 1 (pv 1))) zo) (Vu (jW (zH (za 5 (pv 5)) (wH zo (za 1 (pv 1)))) zo))))) (zE (rW (za 5 (pv 5)) (wH zo (za 1 (pv 1))) (wH (zH (za 5 (pv 5)) (wH zo (za 1 (pv 1)))) zo))
  (zP (rW (za 5 (pv 5)) (za 1 (pv 1)) (ie T.min (zf (za 10 (pv 10)) (zf (zH (zH (za 0 (pv 0)) zo) (za 1 (pv 1))) zv)))))) wb)))
  (zE (ya 6 tL.nd (tQ (za 6 (pv 6)) zo))
  (zE (wc (uU hr (za 3 (pv 3)) (za 2 (pv 2))) (zP (rW (za 5 (pv 5)) (za 1 (pv 1)) (wH (zH (za 5 (pv 5)) (za 1 (pv 1))) zo))) wb)
  (zE (wc (jV hr (zH (za 5 (pv 5)) (za 1 (pv 1))) zo) (zP (y7 (za 6 (pv 6)))) wb)
  (zP (ya 3 tL.nd (zH (zH (zH (za 0 (pv 0)) zo) (za 3 (pv 3))) zo))))))))))),
  (zF (u6 5 (xh lZ (yd (zi 4) yA)))
  (zF (yu 6 ((zp _)).fe)
  (lD (u7 ((i0 _)).fr) (zF (u5 (sN (zu zI (zi 0) ((zp _)).fr)) (lG (vX (xK 7) (vX (xK 8) (vX (xK 9) (vX (xK 10) lF))))) (wj (cK (xG (zu vI (zi 7) (zi 3)).fr) (cK (xG (zu vI ((zu zI (zi 5) (zi 1))).er ((zp _)).fr).fr) (xG (iy ((zu zI (zi 5) ((wI ((zp _)).fr (zi 1))).fr)).er ((zp _)).fr).fr))) (zF (qb 5 ((wI ((zp _)).fr (zi 1))).fr ((wI ((zu zI (zi 5) ((wI ((zp _)).fr (zi 1))).fr)).er ((zp _)).fr)).fe)
  (qb 5 (zi 1) ((xh gh (yd (zi 10) (yd ((zu zI ((zu zI (zi 0) ((zp _)).fr)).er (zi 1))).er yA)))).fe)) wg))
  (zF (yu 6 ((zu good_add (zi 6) ((zp _)).fr)).fe)
  (zF (wj (xG (zu vI (zi 3) (zi 2)).fr) (qb 5 (zi 1) ((wI ((zu zI (zi 5) (zi 1))).er ((zp _)).fr)).fe) wg)
  (zF (wj (xG (zu gj ((zu zI (zi 5) (zi 1))).er ((zp _)).fr).fr) (yL (zA 6)) wg)
  (yu 3 (zu zI ((zu zI ((zu zI (zi 0) ((zp _)).fr)).er (zi 3))).er ((zp _)).fr)))))))))⟩
theorem UH (F:Fy K mg "is_whole_within" j5) (fJ:ZX P w K mg base):fX P w K mg base:=
 xa (k:=1) F XO rfl (λ _ _ _ _ _ _=>rB λ _ _ _=>rfl) λ f cdv A outer s H E hr=>⟨_,
  (zP (y7 (ik (yg fJ (hr.mono (by decide)) (zf (za 0 (pv 0)) zv)) (jZ (VJ ip ip fit_le fit_le xB.mo xB.mo (za 1 (pv 1)) (za 0 (pv 0)) (za 2 (pv 2))))))),
  (yL (i3 ((yo (zk (zA 0) zG))).fr (US bS bS (zi 1) (zi 0) (zi 2))))⟩
theorem UL (F:Fy K mg "holds" mZ) (pX:fY P w K mg base):ZZ P w K mg base:=
 xa (k:=1) F XS rfl (λ _ _ _ _ _ _=>t7 λ _ _=>rfl) λ f cdv A outer s H E hr=>⟨_,
  (zP (y7 (VN T.any (zf (r_ (N':=["own","pair"]) (pick:=[none,some 1]) (uE (N:=["border","pair"]) (esc:=zO mZ)) rfl (wG (za 0 (pv 0))) (λ _ _ _ _ _=>(y4 0 (by decide +kernel:List.Nodup (α:=Str) ["own","pair"]))) (λ _ _ _ _ _=>rZ) (λ _ _ _ _ _=>(yg pX (hr.mono (by decide)) (zf (za 1 (pv 1)) (zf (za 0 (pv 0)) zv))))) zv)))),
  (yL (xh bV (yd ((u9 (sM (zi 0)) (vn 0) qc ((yo (zk (zA 1) (zk (zA 0) zG)))).fe)).fr yA)))⟩
theorem UU (F:Fy K mg "both" oz) (uu:mz P w K mg base):Yc P w K mg base:=
 xa (k:=1) F rQ rfl (λ _ _ _ _ _ _=>t7 λ _ _=>rfl) λ f cdv A outer s H E hr=>⟨_,
  (zE (ya 2 rQ.nd (tQ (r_ (N':=["pair"]) (pick:=[none]) (uE (N:=["border","other","steps","lows","shared","first","side","second"]) (esc:=zO oz)) rfl (wG (za 0 (pv 0))) (λ _ _ _ _ _=>(y4 0 (by decide +kernel:List.Nodup (α:=Str) ["pair"]))) (λ _ _ _ _ _=>rZ) (λ _ _ _ _ _=>(xE (zf (zH (za 0 (pv 0)) zo) (zf zo (zf (zH (za 0 (pv 0)) zo) zv)))))) (r_ (N':=["pair"]) (pick:=[none]) (uE (N:=["border","other","steps","lows","shared","first","side","second"]) (esc:=zO oz)) rfl (wG (za 1 (pv 1))) (λ _ _ _ _ _=>(y4 0 (by decide +kernel:List.Nodup (α:=Str) ["pair"]))) (λ _ _ _ _ _=>rZ) (λ _ _ _ _ _=>(xE (zf (zH (za 0 (pv 0)) zo) (zf zo (zf (zH (za 0 (pv 0)) zo) zv))))))))
  (zE (ya 3 rQ.nd VH)
  (zE (ya 4 rQ.nd (vm zv))
  (zE (u3 PassesOwn.never rfl (wG (cx T.sorted (zf (za 2 (pv 2)) zv))) (rY (n:=3) (we (y4 5 rQ.nd) (we (y4 6 rQ.nd) (we (y4 7 rQ.nd) rX)))) (zE (V0 hr (za 3 (pv 3)) (za 6 (pv 6)) (ie T.min (zf (za 7 (pv 7)) (zf (VI hr (za 3 (pv 3)) (za 6 (pv 6)) (za 7 (pv 7))) zv))))
  (zP (wc (uU hr (VG T.len (zf (za 3 (pv 3)) zv)) zo) (zP (u4 (pd (za 4 (pv 4)) (xE (zf (za 5 (pv 5)) (zf (l8 T.max (zf (c8 hr (za 3 (pv 3)) zo) (zf (c8 hr (za 3 (pv 3)) zo) zv))) zv)))))) wb))))
  (zP (y7 (yg uu (hr.mono (by decide)) (zf (za 4 (pv 4)) zv)))))))),
  (zF (yu 2 ((zu good_add ((u9 (sM (zi 0)) (vn 0) qc ((xF (zk (zu zI (zi 0) ((zp _)).fr) (zk ((zp _)).fe (zk (zu zI (zi 0) ((zp _)).fr) zG))))).fe)).fr ((u9 (sM (zi 1)) (vn 0) qc ((xF (zk (zu zI (zi 0) ((zp _)).fr) (zk ((zp _)).fe (zk (zu zI (zi 0) ((zp _)).fr) zG))))).fe)).fr)).fe)
  (zF (Uu 3)
  (zF (u6 4 (vo zG))
  (zF (u5 (sN ((xh bR (yd (zi 2) yA))).fe) (lG (vX (xK 5) (vX (xK 6) (vX (xK 7) lF)))) (zF (Ut 3 (zi 6) ((xh gh (yd (zi 7) (yd ((UP 3 (zi 6) (zA 7))).er yA)))).fe)
  (wj (xG (zu vI ((UO 3)).fr ((zp _)).fr).fr) (pj 4 ((xF (zk (zA 5) (zk ((xh lY (yd ((cL 3 ((zp _)).fr)).er (yd ((cL 3 ((zp _)).fr)).er yA)))).fe zG)))).fe) wg)))
  (cF 4 (yL (yo (zk (zA 4) zG))))))))⟩
theorem UN (F:Fy K mg "either" j8) (uu:mz P w K mg base):Ya P w K mg base:=
 xa (k:=1) F XT rfl (λ _ _ _ _ _ _=>t7 λ _ _=>rfl) λ f cdv A outer s H E hr=>⟨_,
  (zP (y7 (yg uu (hr.mono (by decide)) (zf (tQ (l9 T.list (zf (za 0 (pv 0)) zv)) (l9 T.list (zf (za 1 (pv 1)) zv))) zv)))),
  (yL (yo (zk ((zu good_add ((xh lZ (yd (zi 0) yA))).fr ((xh lZ (yd (zi 1) yA))).fr)).fe zG)))⟩
theorem UY (F:Fy K mg "border_ahead_of_way" o3) (uu:mz P w K mg base) (pX:fY P w K mg base):Yf P w K mg base:=
 xa (k:=1) F dn rfl (λ _ _ _ _ _ _=>rB λ _ _ _=>rfl) λ f cdv A outer s H E hr=>⟨_,
  (zE (ly (i:=3) (N':=["pair","way"]) (pick:=[none,some 1]) (uE (N:=["brims","way","border","pairs"]) (esc:=zO o3)) rfl (wG (za 2 (pv 2))) (λ _ _ _ _ _=>(y4 0 (by decide +kernel:List.Nodup (α:=Str) ["pair","way"]))) (λ _ _ _ _ _=>rZ) (λ _ _ _ _ _=>(xE (zf (l8 T.max (zf zo (zf (wH (zH (za 0 (pv 0)) zo) (zH (za 1 (pv 1)) zo)) zv))) (zf (l8 T.max (zf zo (zf (wH (zH (za 0 (pv 0)) zo) (zH (za 1 (pv 1)) zo)) zv))) zv)))) dn.nd rfl (by first | exact Or.inl rfl | exact Or.inr rfl))
  (zP (y7 (yg uu (hr.mono (by decide)) (zf (r_ (N':=["pair","brims"]) (pick:=[none,some 0]) (uE (N:=["brims","way","border","pairs"]) (esc:=zO o3)) rfl (wG (za 3 (pv 3))) (λ _ _ _ _ _=>(y4 0 (by decide +kernel:List.Nodup (α:=Str) ["pair","brims"]))) (λ _ _ _ _ _=>l6 (u0 (yg pX (hr.mono (by decide)) (zf (za 1 (pv 1)) (zf (za 0 (pv 0)) zv))))) (λ _ _ _ _ _=>(za 0 (pv 0)))) zv))))),
  (zF (yu 3 ((u9 (sM (zi 2)) (vn 0) qc ((xF (zk ((xh lY (yd ((zp _)).fr (yd ((wI ((zu zI (zi 0) ((zp _)).fr)).er ((zu zI (zi 1) ((zp _)).fr)).er)).fr yA)))).fe (zk ((xh lY (yd ((zp _)).fr (yd ((wI ((zu zI (zi 0) ((zp _)).fr)).er ((zu zI (zi 1) ((zp _)).fr)).er)).fr yA)))).fe zG)))).fe)).fe)
  (yL (yo (zk ((u9 (sM (zi 3)) (vn 0) (u7 ((yo (zk (zA 1) (zk (zA 0) zG)))).fr) (zA 0))).fe zG))))⟩
theorem UB (F:Fy K mg "_law_ring" jy) (tE:fW P w K mg base) (fG:ZV P w K mg base):ZU P w K mg base:=
 xa (k:=1) F wa rfl (λ _ _ _ _ _ _=>qy λ _=>rfl) λ f cdv A outer s H E hr=>⟨_,
  (zE (ya 1 wa.nd (yg tE (hr.mono (by decide)) (zf (za 0 (pv 0)) (zf zo zv))))
  (zE (ya 2 wa.nd (tQ zo (va (za 1 (pv 1)) zo)))
  (zE (ya 3 wa.nd (va (sL (za 1 (pv 1)) zo) zo))
  (zE (ya 4 wa.nd (va (yg tE (hr.mono (by decide)) (zf (za 0 (pv 0)) (zf zo zv))) (za 2 (pv 2))))
  (zE (ya 5 wa.nd zo)
  (zE (ya 6 wa.nd (xE zv))
  (zE (ya 7 wa.nd (vm zv))
  (zE (ya 8 wa.nd (yg tE (hr.mono (by decide)) (zf (za 0 (pv 0)) (zf zo zv))))
  (zE (u3 PassesOwn.never rfl (cw T.range (zf (za 2 (pv 2)) zv)) (y4 9 wa.nd) (zE (u4 (pd (za 7 (pv 7)) (zH (vm (zf jY (zf jY zv))) (va (za 8 (pv 8)) zo))))
  (zP (ya 8 wa.nd (sL (za 8 (pv 8)) zo)))))
  (zE (wc (jW (va (sL (za 1 (pv 1)) zo) zo) zo) (zE (rW (za 7 (pv 7)) (za 4 (pv 4)) jY)
  (zE (ya 5 wa.nd (zH (vm (zf zo (zf zo (zf zo (zf zo (zf zo (zf zo (zf zo (zf zo zv))))))))) (va (sL (za 1 (pv 1)) zo) zo)))
  (zP (ya 6 wa.nd (xE (zf (xE (zf (za 4 (pv 4)) (zf (wH zo (za 3 (pv 3))) (zf zo (zf (za 5 (pv 5)) zv))))) zv)))))) wb)
  (zE (ya 10 wa.nd (vm (zf (zH (vm (zf zo (zf zo (zf zo (zf zo zv))))) (va (sL (za 1 (pv 1)) zo) zo)) (zf (zH (vm (zf zo (zf zo (zf zo (zf zo zv))))) (va (sL (za 1 (pv 1)) zo) zo)) zv))))
  (zE (lu PassesOwn.never (jW (yg fG (hr.mono (by decide)) (zf (za 2 (pv 2)) (zf (za 10 (pv 10)) (zf (za 3 (pv 3)) (zf (za 5 (pv 5)) zv))))) zo) (zP (rW (za 10 (pv 10)) (wH zo (za 3 (pv 3))) (wH (zH (za 10 (pv 10)) (wH zo (za 3 (pv 3)))) zo))))
  (zE (ya 11 wa.nd (va (yg tE (hr.mono (by decide)) (zf (za 0 (pv 0)) (zf zo zv))) (za 2 (pv 2))))
  (zE (ya 12 wa.nd (vm zv))
  (zE (u3 PassesOwn.never rfl (cw T.range (zf (za 2 (pv 2)) zv)) (y4 9 wa.nd) (zE (ya 13 wa.nd (vm (zf zo (zf zo zv))))
  (zE (wc (uU hr (za 9 (pv 9)) (za 11 (pv 11))) (zP (rW (za 13 (pv 13)) (za 3 (pv 3)) (wH zo zo))) wb)
  (zP (u4 (pd (za 12 (pv 12)) (xE (zf (za 9 (pv 9)) (zf (va (tQ (za 9 (pv 9)) zo) (za 2 (pv 2))) (zf (zH (za 13 (pv 13)) zo) (zf (zH (za 13 (pv 13)) zo) zv)))))))))))
  (zP (y7 (xE (zf (za 3 (pv 3)) (zf (za 11 (pv 11)) (zf (xE (zf (l7 T.tuple (zf (za 10 (pv 10)) zv)) (zf (l7 T.tuple (zf (za 7 (pv 7)) zv)) (zf (l7 T.tuple (zf (za 12 (pv 12)) zv)) (zf (za 6 (pv 6)) zv))))) zv))))))))))))))))))))),
  (zF (yu 1 ((yo (zk (zA 0) (zk ((zp _)).fe zG)))).fe)
  (zF (yu 2 ((zu good_add ((zp _)).fr ((vb (zi 1) ((zp _)).fr)).fr)).fe)
  (zF (yu 3 ((vb ((sO (zi 1) ((zp _)).fr)).fr ((zp _)).fr)).fe)
  (zF (yu 4 ((vb ((yo (zk (zA 0) (zk ((zp _)).fe zG)))).fr (zi 2))).fe)
  (zF (yu 5 ((zp _)).fe)
  (zF (yu 6 ((xF zG)).fe)
  (zF (u6 7 (vo zG))
  (zF (yu 8 ((yo (zk (zA 0) (zk ((zp _)).fe zG)))).fe)
  (zF (u5 (cG (b:=true) (yd (zi 2) yA)) (xK 9) (zF (pj 7 (zu zI ((vo (zk ((lH _)).fe (zk ((lH _)).fe zG)))).fr ((vb (zi 8) ((zp _)).fr)).fr))
  (yu 8 ((sO (zi 8) ((zp _)).fr)).fe)))
  (zF (wj (xG (iy ((vb ((sO (zi 1) ((zp _)).fr)).fr ((zp _)).fr)).fr ((zp _)).fr).fr) (zF (qb 7 (zi 4) ((lH _)).fe)
  (zF (yu 5 (zu zI ((vo (zk ((zp _)).fe (zk ((zp _)).fe (zk ((zp _)).fe (zk ((zp _)).fe (zk ((zp _)).fe (zk ((zp _)).fe (zk ((zp _)).fe (zk ((zp _)).fe zG)))))))))).fr ((vb ((sO (zi 1) ((zp _)).fr)).fr ((zp _)).fr)).fr))
  (yu 6 ((xF (zk ((xF (zk (zA 4) (zk ((wI ((zp _)).fr (zi 3))).fe (zk ((zp _)).fe (zk (zA 5) zG)))))).fe zG))).fe))) wg)
  (zF (u6 10 (vo (zk (zu zI ((vo (zk ((zp _)).fe (zk ((zp _)).fe (zk ((zp _)).fe (zk ((zp _)).fe zG)))))).fr ((vb ((sO (zi 1) ((zp _)).fr)).fr ((zp _)).fr)).fr) (zk (zu zI ((vo (zk ((zp _)).fe (zk ((zp _)).fe (zk ((zp _)).fe (zk ((zp _)).fe zG)))))).fr ((vb ((sO (zi 1) ((zp _)).fr)).fr ((zp _)).fr)).fr) zG))))
  (zF (lD (xG (iy ((UT (yd (zi 2) (yd (zi 10) (yd (zi 3) (yd (zi 5) yA)))))).fr ((zp _)).fr).fr) (qb 10 ((wI ((zp _)).fr (zi 3))).fr ((wI ((zu zI (zi 10) ((wI ((zp _)).fr (zi 3))).fr)).er ((zp _)).fr)).fe))
  (zF (yu 11 ((vb ((yo (zk (zA 0) (zk ((zp _)).fe zG)))).fr (zi 2))).fe)
  (zF (u6 12 (vo zG))
  (zF (u5 (cG (b:=true) (yd (zi 2) yA)) (xK 9) (zF (u6 13 (vo (zk ((zp _)).fe (zk ((zp _)).fe zG))))
  (zF (wj (xG (zu vI (zi 9) (zi 11)).fr) (qb 13 (zi 3) ((wI ((zp _)).fr ((zp _)).fr)).fe) wg)
  (pj 12 ((xF (zk (zA 9) (zk ((vb ((zu good_add (zi 9) ((zp _)).fr)).fr (zi 2))).fe (zk (zu zI (zi 13) ((zp _)).fr) (zk (zu zI (zi 13) ((zp _)).fr) zG)))))).fe))))
  (yL (xF (zk (zA 3) (zk (zA 11) (zk ((xF (zk ((xh lW (yd (zi 10) yA))).fe (zk ((xh lW (yd (zi 7) yA))).fe (zk ((xh lW (yd (zi 12) yA))).fe (zk (zA 6) zG)))))).fe zG))))))))))))))))))))⟩
theorem UJ (F:Fy K mg "is_row_within" mY) (pW:fX P w K mg base):ZY P w K mg base:=
 xa (k:=2) F XR rfl (λ _ _ _ _ _ _=>t7 λ _ _=>rfl) λ f cdv A outer s H E hr=>⟨_,
  (zE (wc (uq.pt (jU (qZ (u0 (VB T (za 0 (pv 0))))) (jT (cq hr (oA T.len (zf (za 0 (pv 0)) zv)) (oA T.len (zf (za 1 (pv 1)) zv)))))) (zP (y7 ij)) wb)
  (zP (y7 (VO T.all (zf (r_ (N':=["number","bound"]) (pick:=[none,none]) (uE (N:=["thing","bounds"]) (esc:=zO mY)) rfl (V2 U.zip (zf (za 0 (pv 0)) (zf (za 1 (pv 1)) zv))) (λ _ _ _ _ _=>(rY (n:=2) (we (y4 0 (by decide +kernel:List.Nodup (α:=Str) ["number","bound"])) (we (y4 1 (by decide +kernel:List.Nodup (α:=Str) ["number","bound"])) rX)))) (λ _ _ _ _ _=>rZ) (λ _ _ _ _ _=>(yg pW (hr.mono (by decide)) (zf (za 0 (pv 0)) (zf (zH (za 1 (pv 1)) zo) (zf (zH (za 1 (pv 1)) zo) zv)))))) zv))))),
  (zF (wj (iz (pz (u7 ((oG (zi 0))).fr)) (xG (zu vI ((xh oX (yd (zi 0) yA))).fr ((xh oX (yd (zi 1) yA))).fr).fr)) (yL (i0 _)) wg)
  (yL (xh bV (yd ((u9 (Uv (yd (zi 0) (yd (zi 1) yA))) (iw (px (vn 0) (px (vn 1) iu))) qc ((yo (zk (zA 0) (zk (zu zI (zi 1) ((zp _)).fr) (zk (zu zI (zi 1) ((zp _)).fr) zG))))).fe)).fr yA))))⟩
theorem UQ (F:Fy K mg "check_place" j9) (pW:fX P w K mg base) (qC:fV P w K mg base):kT P w K mg base:=
 xa (k:=2) F XU rfl (λ _ _ _ _ _ _=>t7 λ _ _=>rfl) λ f cdv A outer s H E hr=>⟨_,
  (zP (wc (qZ (u0 (yg pW (hr.mono (by decide)) (zf (za 1 (pv 1)) (zf zo (zf (wH (yg qC (hr.mono (by decide)) (zf (za 0 (pv 0)) zv)) zo) zv)))))) (zP cu) wb)),
  (wj (pz (u7 ((yo (zk (zA 1) (zk ((zp _)).fe (zk ((wI ((yo (zk (zA 0) zG))).fr ((zp _)).fr)).fe zG))))).fr)) cE wg)⟩
theorem UW (F:Fy K mg "border_of_either" jB) (fN:Ya P w K mg base):Yd P w K mg base:=
 xa (k:=2) F mS rfl (λ _ _ _ _ _ _=>qy λ _=>rfl) λ f cdv A outer s H E hr=>⟨_,
  (zE (ya 1 mS.nd (xE zv))
  (zE (u3 PassesOwn.never rfl (wG (za 0 (pv 0))) (y4 2 mS.nd) (zP (ya 1 mS.nd (yg fN (hr.mono (by decide)) (zf (za 1 (pv 1)) (zf (za 2 (pv 2)) zv))))))
  (zP (y7 (za 1 (pv 1)))))),
  (zF (yu 1 ((xF zG)).fe)
  (zF (u5 (sN (zA 0)) (xK 2) (yu 1 ((yo (zk (zA 1) (zk (zA 2) zG)))).fe))
  (yL (zA 1))))⟩
theorem UX (F:Fy K mg "border_of_all" jC) (fP:Yc P w K mg base):Ye P w K mg base:=
 xa (k:=2) F mT rfl (λ _ _ _ _ _ _=>qy λ _=>rfl) λ f cdv A outer s H E hr=>⟨_,
  (zE (ya 1 mT.nd (xE (zf (xE (zf zo (zf zo zv))) zv)))
  (zE (u3 PassesOwn.never rfl (wG (za 0 (pv 0))) (y4 2 mT.nd) (zP (ya 1 mT.nd (yg fP (hr.mono (by decide)) (zf (za 1 (pv 1)) (zf (za 2 (pv 2)) zv))))))
  (zP (y7 (za 1 (pv 1)))))),
  (zF (yu 1 ((xF (zk ((xF (zk ((zp _)).fe (zk ((zp _)).fe zG)))).fe zG))).fe)
  (zF (u5 (sN (zA 0)) (xK 2) (yu 1 ((yo (zk (zA 1) (zk (zA 2) zG)))).fe))
  (yL (zA 1))))⟩
theorem UM (F:Fy K mg "first_without" j7) (fL:ZZ P w K mg base):Z_ P w K mg base:=
 xa (k:=2) F js rfl (λ _ _ _ _ _ _=>rB λ _ _ _=>rfl) λ f cdv A outer s H E hr=>⟨_,
  (zE (u3 PassesOwn.never rfl (jX U.enumerate (zf (za 0 (pv 0)) zv)) (rY (n:=2) (we (y4 3 js.nd) (we (y4 4 js.nd) rX))) (zP (wc (qZ (u0 (yg fL (hr.mono (by decide)) (zf (zH (za 4 (pv 4)) (za 1 (pv 1))) (zf (za 2 (pv 2)) zv))))) (zP (y7 (za 3 (pv 3)))) wb)))
  (zP (y7 j_))),
  (zF (u5 (Uw (zk (zA 0) zG)) (lG (vX (xK 3) (vX (xK 4) lF))) (wj (pz (u7 ((yo (zk (zu zI (zi 4) (zi 1)) (zk (zA 2) zG)))).fr)) (yL (zA 3)) wg))
  (yL (ix).fe))⟩
theorem UR (F:Fy K mg "check_pair" jA) (fK:ZY P w K mg base):Yb P w K mg base:=
 xa (k:=3) F XW rfl (λ _ _ _ _ _ _=>t7 λ _ _=>rfl) λ f cdv A outer s H E hr=>⟨_,
  (zP (wc (qZ (u0 (yg fK (hr.mono (by decide)) (zf (za 1 (pv 1)) (zf (xE (zf (xE (zf zo (zf (zH (zH (za 0 (pv 0)) zo) zo) zv))) (zf (xE (zf zo (zf (zH (zH (za 0 (pv 0)) zo) zo) zv))) zv))) zv))))) (zP cu) wb)),
  (wj (pz (u7 ((yo (zk (zA 1) (zk ((xF (zk ((xF (zk ((zp _)).fe (zk (zu zI ((zu zI (zi 0) ((zp _)).fr)).er ((zp _)).fr) zG)))).fe (zk ((xF (zk ((zp _)).fe (zk (zu zI ((zu zI (zi 0) ((zp _)).fr)).er ((zp _)).fr) zG)))).fe zG)))).fe zG)))).fr)) cE wg)⟩
theorem Ux (F:Fy K mg "ways_from" mV) (sm:kT P w K mg base):ZM P w K mg base:=
 xa (k:=3) F XH rfl (λ _ _ _ _ _ _=>t7 λ _ _=>rfl) λ f cdv A outer s H E hr=>⟨_,
  (zE (u4 (yg sm (hr.mono (by decide)) (zf (za 0 (pv 0)) (zf (za 1 (pv 1)) zv))))
  (zP (y7 (r_ (N':=["number","way","place"]) (pick:=[none,none,some 1]) (uE (N:=["floor","place"]) (esc:=zO mV)) rfl (jX U.enumerate (zf (zH (za 0 (pv 0)) zo) zv)) (λ _ _ _ _ _=>(rY (n:=2) (we (y4 0 (by decide +kernel:List.Nodup (α:=Str) ["number","way","place"])) (we (y4 1 (by decide +kernel:List.Nodup (α:=Str) ["number","way","place"])) rX)))) (λ _ _ _ _ _=>l6 (uU hr (zH (za 1 (pv 1)) zo) (za 2 (pv 2)))) (λ _ _ _ _ _=>(za 0 (pv 0))))))),
  (zF (lE ((yo (zk (zA 0) (zk (zA 1) zG)))).fr)
  (yL (u9 (cH (yd ((zu zI (zi 0) ((zp _)).fr)).er yA)) (iw (px (vn 0) (px (vn 1) iu))) (xG (zu vI ((zu zI (zi 1) ((zp _)).fr)).er (zi 2)).fr) (zA 0))))⟩
theorem Uy (F:Fy K mg "stall_at" jt) (sm:kT P w K mg base):ZN P w K mg base:=
 xa (k:=3) F di rfl (λ _ _ _ _ _ _=>t7 λ _ _=>rfl) λ f cdv A outer s H E hr=>⟨_,
  (zE (u4 (yg sm (hr.mono (by decide)) (zf (za 0 (pv 0)) (zf (za 1 (pv 1)) zv))))
  (zE (u3 PassesOwn.never rfl (wG (zH (za 0 (pv 0)) zo)) (y4 2 di.nd) (zP (wc (uU hr (zH (za 2 (pv 2)) zo) (za 1 (pv 1))) (zP (y7 (za 2 (pv 2)))) wb)))
  (zP (y7 j_)))),
  (zF (lE ((yo (zk (zA 0) (zk (zA 1) zG)))).fr)
  (zF (u5 (sN (zu zI (zi 0) ((zp _)).fr)) (xK 2) (wj (xG (zu vI ((zu zI (zi 2) ((zp _)).fr)).er (zi 1)).fr) (yL (zA 2)) wg))
  (yL (ix).fe)))⟩
theorem UZ (F:Fy K mg "border_ahead_of_changes" jD) (f9:ZN P w K mg base) (uu:mz P w K mg base) (fB:ZQ P w K mg base):Yg P w K mg base:=
 xa (k:=4) F mU rfl (λ _ _ _ _ _ _=>rB λ _ _ _=>rfl) λ f cdv A outer s H E hr=>⟨_,
  (zE (ya 3 mU.nd (yg f9 (hr.mono (by decide)) (zf (za 0 (pv 0)) (zf (za 1 (pv 1)) zv))))
  (zE (wc (Vx (za 3 (pv 3)) j_) (zP (y7 (za 2 (pv 2)))) wb)
  (zE (ya 4 mU.nd (vm zv))
  (zE (u3 PassesOwn.never rfl (wG (za 2 (pv 2))) (y4 5 mU.nd) (zP (u4 (V9 (za 4 (pv 4)) (yg fB (hr.mono (by decide)) (zf (zH (za 0 (pv 0)) zo) (zf (za 3 (pv 3)) (zf (za 5 (pv 5)) zv))))))))
  (zP (y7 (yg uu (hr.mono (by decide)) (zf (za 4 (pv 4)) zv)))))))),
  (zF (yu 3 (yo (zk (zA 0) (zk (zA 1) zG))))
  (zF (wj (xG (zu Rn (zi 3) (ix).fr).fr) (yL (zA 2)) wg)
  (zF (u6 4 (vo zG))
  (zF (u5 (sN (zA 2)) (xK 5) (Us 4 (yo (zk (zu zI (zi 0) ((zp _)).fr) (zk (zA 3) (zk (zA 5) zG))))))
  (cF 4 (yL ((yo (zk (zA 4) zG))).fe))))))⟩
theorem U7 {jc:Value}(F:Fy K mg "next_border" oy) (oZ:mg "KEEPER"=some jc) (jL:L2.RelV (.str "keeper") jc) (fR:Ye P w K mg base) (fS:Yf P w K mg base) (fT:Yg P w K mg base) (f7:ZM P w K mg base) (fQ:Yd P w K mg base):ZS P w K mg base:=
 xa (k:=5) F jq rfl (λ _ _ _ _ _ _=>rB λ _ _ _=>rfl) λ f cdv A outer s H E hr=>⟨_,
  (zE (ly (i:=3) (N':=["number","floor"]) (pick:=[none,some 0]) (uE (N:=["floor","place","last","ways","ahead"]) (esc:=zO oy)) rfl (wG (yg f7 (hr.mono (by decide)) (zf (za 0 (pv 0)) (zf (za 1 (pv 1)) zv)))) (λ _ _ _ _ _=>(y4 0 (by decide +kernel:List.Nodup (α:=Str) ["number","floor"]))) (λ _ _ _ _ _=>rZ) (λ _ _ _ _ _=>(zH (zH (za 1 (pv 1)) zo) (za 0 (pv 0)))) jq.nd rfl (by first | exact Or.inl rfl | exact Or.inr rfl))
  (zE (ly (i:=4) (N':=["way","floor","last"]) (pick:=[none,some 0,some 2]) (uE (N:=["floor","place","last","ways","ahead"]) (esc:=zO oy)) rfl (wG (za 3 (pv 3))) (λ _ _ _ _ _=>(y4 0 (by decide +kernel:List.Nodup (α:=Str) ["way","floor","last"]))) (λ _ _ _ _ _=>rZ) (λ _ _ _ _ _=>(yg fS (hr.mono (by decide)) (zf (zH (za 1 (pv 1)) zo) (zf (za 0 (pv 0)) (zf (zH (za 2 (pv 2)) (zH (za 0 (pv 0)) zo)) zv))))) jq.nd rfl (by first | exact Or.inl rfl | exact Or.inr rfl))
  (zE (wc (uU hr (zH (zH (za 0 (pv 0)) zo) (za 1 (pv 1))) (VD oZ jL)) (zP (y7 (yg fT (hr.mono (by decide)) (zf (za 0 (pv 0)) (zf (za 1 (pv 1)) (zf (yg fQ (hr.mono (by decide)) (zf (za 4 (pv 4)) zv)) zv)))))) wb)
  (zP (y7 (yg fR (hr.mono (by decide)) (zf (za 4 (pv 4)) zv))))))),
  (zF (yu 3 ((u9 (sM ((yo (zk (zA 0) (zk (zA 1) zG)))).fr) (vn 0) qc (zu zI ((zu zI (zi 1) ((zp _)).fr)).er (zi 0)))).fe)
  (zF (yu 4 ((u9 (sM (zi 3)) (vn 0) qc ((yo (zk (zu zI (zi 1) ((zp _)).fr) (zk (zA 0) (zk (zu zI (zi 2) ((zu zI (zi 0) ((zp _)).fr)).er) zG))))).fe)).fe)
  (zF (wj (xG (zu vI ((zu zI ((zu zI (zi 0) ((zp _)).fr)).er (zi 1))).er ((lH _)).fr).fr) (yL (yo (zk (zA 0) (zk (zA 1) (zk (yo (zk (zA 4) zG)) zG))))) wg)
  (yL (yo (zk (zA 4) zG))))))⟩
theorem U6 (F:Fy K mg "next_round" mX) (fD:ZS P w K mg base):ZR P w K mg base:=
 xa (k:=6) F jo rfl (λ _ _ _ _ _ _=>rB λ _ _ _=>rfl) λ f cdv A outer s H E hr=>⟨_,
  (zE (ya 3 jo.nd (l9 T.list (zf (za 1 (pv 1)) zv)))
  (zE (u3 PassesOwn.never rfl (wG (V6 hr T.sorted U.set (zf (r_ (N':=["way","fresh"]) (pick:=[none,some 2]) (uE (N:=["floor","last","fresh","following","place"]) (esc:=zO mX)) rfl (wG (zH (za 0 (pv 0)) zo)) (λ _ _ _ _ _=>(y4 0 (by decide +kernel:List.Nodup (α:=Str) ["way","fresh"]))) (λ _ _ _ _ _=>l6 (Vy hr (zH (za 0 (pv 0)) zo) (za 1 (pv 1)))) (λ _ _ _ _ _=>(zH (za 0 (pv 0)) zo))) zv))) (y4 4 jo.nd) (zP (rW (za 3 (pv 3)) (za 4 (pv 4)) (yg fD (hr.mono (by decide)) (zf (za 0 (pv 0)) (zf (za 4 (pv 4)) (zf (za 1 (pv 1)) zv)))))))
  (zP (y7 (za 3 (pv 3)))))),
  (zF (u6 3 (xh lZ (yd (zi 1) yA)))
  (zF (u5 (sN ((xh Rj (yd ((u9 (sM ((zu zI (zi 0) ((zp _)).fr)).er) (vn 0) (xG (zu Ro ((zu zI (zi 0) ((zp _)).fr)).er (zi 1)).fr) (zu zI (zi 0) ((zp _)).fr))).fr yA))).fe) (xK 4) (qb 3 (zi 4) (yo (zk (zA 0) (zk (zA 4) (zk (zA 1) zG))))))
  (ir 3)))⟩
theorem Uz (F:Fy K mg "rounds" mW) (fC:ZR P w K mg base) (qC:fV P w K mg base):ZO P w K mg base:=
 xa (k:=7) F qV rfl (λ _ _ _ _ _ _=>qy λ _=>rfl) λ f cdv A outer s H E hr=>⟨_,
  (zE (ya 1 qV.nd (vm (zf (ic (vm (zf (xE (zf (xE (zf zo (zf zo zv))) zv)) zv)) (yg qC (hr.mono (by decide)) (zf (za 0 (pv 0)) zv))) zv)))
  (zE (ya 2 qV.nd (VA T.list T.range (zf (yg qC (hr.mono (by decide)) (zf (za 0 (pv 0)) zv)) zv)))
  (zE (lu PassesOwn.never (u0 (za 2 (pv 2))) (zE (ya 3 qV.nd (zH (za 1 (pv 1)) (cy zo)))
  (zE (ya 4 qV.nd (yg fC (hr.mono (by decide)) (zf (za 0 (pv 0)) (zf (za 3 (pv 3)) (zf (za 2 (pv 2)) zv)))))
  (zE (ly (i:=2) (N':=["place","border","last"]) (pick:=[none,none,some 3]) (uE (N:=["floor","told","fresh","last","following"]) (esc:=zO mW)) rfl (jX U.enumerate (zf (za 4 (pv 4)) zv)) (λ _ _ _ _ _=>(rY (n:=2) (we (y4 0 (by decide +kernel:List.Nodup (α:=Str) ["place","border","last"])) (we (y4 1 (by decide +kernel:List.Nodup (α:=Str) ["place","border","last"])) rX)))) (λ _ _ _ _ _=>l6 (cq hr (za 1 (pv 1)) (zH (za 2 (pv 2)) (za 0 (pv 0))))) (λ _ _ _ _ _=>(za 0 (pv 0))) qV.nd rfl (by first | exact Or.inl rfl | exact Or.inr rfl))
  (zP (wc (u0 (za 2 (pv 2))) (zP (u4 (pd (za 1 (pv 1)) (za 4 (pv 4))))) wb))))))
  (zP (y7 (za 1 (pv 1))))))),
  (zF (u6 1 (vo (zk ((zu gf ((vo (zk ((xF (zk ((xF (zk ((zp _)).fe (zk ((zp _)).fe zG)))).fe zG))).fe zG))).fr ((yo (zk (zA 0) zG))).fr)).fe zG)))
  (zF (yu 2 ((xh Rm (yd ((yo (zk (zA 0) zG))).fr yA))).fe)
  (zF (lD (u7 (zi 2)) (zF (yu 3 (zu zI (zi 1) ((cI ((zp _)).fr)).fr))
  (zF (yu 4 ((yo (zk (zA 0) (zk (zA 3) (zk (zA 2) zG))))).fe)
  (zF (yu 2 ((u9 (cH (yd (zi 4) yA)) (iw (px (vn 0) (px (vn 1) iu))) (xG (zu vI (zi 1) ((zu zI (zi 2) (zi 0))).er).fr) (zA 0))).fe)
  (wj (u7 (zi 2)) (pj 1 (zA 4)) wg)))))
  (ir 1))))⟩
theorem UG (F:Fy K mg "lasts" j4) (sm:kT P w K mg base) (fO:Yb P w K mg base) (fM:Z_ P w K mg base) (fA:ZO P w K mg base):ZW P w K mg base:=
 xa (k:=8) F XN rfl (λ _ _ _ _ _ _=>rB λ _ _ _=>rfl) λ f cdv A outer s H E hr=>⟨_,
  (zE (u4 (yg sm (hr.mono (by decide)) (zf (za 0 (pv 0)) (zf (za 1 (pv 1)) zv))))
  (zE (u4 (yg fO (hr.mono (by decide)) (zf (za 0 (pv 0)) (zf (za 2 (pv 2)) zv))))
  (zP (y7 (yg fM (hr.mono (by decide)) (zf (yg fA (hr.mono (by decide)) (zf (za 0 (pv 0)) zv)) (zf (za 1 (pv 1)) (zf (za 2 (pv 2)) zv)))))))),
  (zF (lE ((yo (zk (zA 0) (zk (zA 1) zG)))).fr)
  (zF (lE ((yo (zk (zA 0) (zk (zA 2) zG)))).fr)
  (yL (yo (zk ((yo (zk (zA 0) zG))).fe (zk (zA 1) (zk (zA 2) zG)))))))⟩
theorem UE {f:Addr}{fd:FuncData}(F:uI K "law" "law" j3 f fd) (fF:ZU P w K mg base) (tE:fW P w K mg base) (fH:ZW P w K mg base) (fE:ZT P w K mg base):uv P w K mg base vz 10 f fd ["_law_script"] (tG K (yc zW og)):=
 ab (k:=9) F tM rfl λ cdv A outer s H E hr=>⟨_,
  (zE (V1 (yg fF (hr.mono (by decide)) (zf (za 0 (pv 0)) zv)) (rY (n:=3) (we (y4 1 tM.nd) (we (y4 2 tM.nd) (we (y4 3 tM.nd) rX)))))
  (zE (ya 4 tM.nd (va (yg tE (hr.mono (by decide)) (zf (za 0 (pv 0)) (zf zo zv))) (oA T.len (zf (zH (za 3 (pv 3)) zo) zv))))
  (zE (ya 5 tM.nd (yg tE (hr.mono (by decide)) (zf (za 0 (pv 0)) (zf zo zv))))
  (zE (ya 6 tM.nd (zH (za 3 (pv 3)) zo))
  (zE (wc (uU hr (va (za 5 (pv 5)) zo) zo) (zP (ya 6 tM.nd (xE (zf (va (sL (za 5 (pv 5)) zo) (tQ (zH (zH (za 3 (pv 3)) zo) zo) zo)) (zf (va (sL (za 5 (pv 5)) zo) (tQ (zH (zH (za 3 (pv 3)) zo) zo) zo)) zv))))) wb)
  (zE (ya 7 tM.nd (yg fH (hr.mono (by decide)) (zf (za 3 (pv 3)) (zf (za 4 (pv 4)) (zf (za 6 (pv 6)) zv)))))
  (zE (wc (uq.pt (jU (qZ (u0 (cz T (za 7 (pv 7))))) (jT (u0 (c6 T (za 7 (pv 7))))))) (zP (y7 ij)) wb)
  (zP (y7 (VF hr (za 7 (pv 7)) (yg fE (hr.mono (by decide)) (zf (za 3 (pv 3)) (zf (za 1 (pv 1)) (zf (za 2 (pv 2)) (zf (za 4 (pv 4)) (zf (za 6 (pv 6)) zv)))))))))))))))),
  (zF (Ur ((yo (zk (zA 0) zG))).fe (lG (vX (xK 1) (vX (xK 2) (vX (xK 3) lF)))))
  (zF (yu 4 ((vb ((yo (zk (zA 0) (zk ((zp _)).fe zG)))).fr ((xh oX (yd ((zu zI (zi 3) ((zp _)).fr)).er yA))).fr)).fe)
  (zF (yu 5 ((yo (zk (zA 0) (zk ((zp _)).fe zG)))).fe)
  (zF (yu 6 (zu zI (zi 3) ((zp _)).fr))
  (zF (wj (xG (zu vI ((vb (zi 5) ((zp _)).fr)).fr ((zp _)).fr).fr) (yu 6 ((xF (zk ((vb ((sO (zi 5) ((zp _)).fr)).fr ((zu good_add ((zu zI ((zu zI (zi 3) ((zp _)).fr)).er ((zp _)).fr)).er ((zp _)).fr)).fr)).fe (zk ((vb ((sO (zi 5) ((zp _)).fr)).fr ((zu good_add ((zu zI ((zu zI (zi 3) ((zp _)).fr)).er ((zp _)).fr)).er ((zp _)).fr)).fr)).fe zG)))).fe) wg)
  (zF (yu 7 (yo (zk (zA 3) (zk (zA 4) (zk (zA 6) zG)))))
  (zF (wj (iz (pz (u7 ((oG (zi 7))).fr)) (u7 ((oG (zi 7))).fr)) (yL (i0 _)) wg)
  (yL (zu vI (zi 7) ((yo (zk (zA 3) (zk (zA 1) (zk (zA 2) (zk (zA 4) (zk (zA 6) zG))))))).er)))))))))⟩
end
theorem QW {l:PySem.W.OpenLaw}{w:World}{K:PySem.W.Frag}{h:Heap}{mg:Str->Option Value}{fa:Addr}(X:K.In h) (G:h.Ns mainGlobals mg) (hfa:mg "law"=some (.ref fa))
  (h0:Fx K "is_whole" j6) (h1:Fx K "is_whole_within" j5) (h2:Fx K "is_row_within" mY) (h3:Fx K "places_of" ju) (h4:Fx K "check_place" j9) (h5:Fx K "check_pair" jA) (h6:Fx K "ways_from" mV) (h7:Fx K "stall_at" jt) (h8:Fx K "at_or_above" jE) (h9:Fx K "least_pairs" jw) (h10:Fx K "holds" mZ) (h11:Fx K "both" oz) (h12:Fx K "either" j8) (h13:Fx K "border_ahead_of_way" o3) (h14:Fx K "pairs_ahead_of_changes" jv) (h15:Fx K "border_ahead_of_changes" jD) (h16:Fx K "border_of_either" jB) (h17:Fx K "border_of_all" jC) (h18:Fx K "next_border" oy) (h19:Fx K "next_round" mX) (h20:Fx K "rounds" mW) (h21:Fx K "first_without" j7) (h22:Fx K "lasts" j4) (h23:Fx K "_law_cell" j0) (h24:Fx K "_law_lasting_most" jz) (h25:Fx K "_law_ring" jy) (h26:Fx K "_law_walked" jx) (h27:Fx K "law" j3)
  (oZ:Cn K "KEEPER" (.str "keeper"))
  (y0:PySem.W.nsIn K mainGlobals "set"=some none) (y1:PySem.W.nsIn K mainGlobals "zip"=some none) (y2:PySem.W.nsIn K mainGlobals "enumerate"=some none)
  (z0:PySem.W.nsIn K mainGlobals "len"=some none) (z1:PySem.W.nsIn K mainGlobals "range"=some none) (z2:PySem.W.nsIn K mainGlobals "any"=some none) (z3:PySem.W.nsIn K mainGlobals "all"=some none) (z4:PySem.W.nsIn K mainGlobals "sorted"=some none) (z5:PySem.W.nsIn K mainGlobals "isinstance"=some none) (z6:PySem.W.nsIn K mainGlobals "bool"=some none) (z7:PySem.W.nsIn K mainGlobals "int"=some none) (z8:PySem.W.nsIn K mainGlobals "str"=some none) (z9:PySem.W.nsIn K mainGlobals "list"=some none) (z10:PySem.W.nsIn K mainGlobals "tuple"=some none) (z11:PySem.W.nsIn K mainGlobals "max"=some none) (z12:PySem.W.nsIn K mainGlobals "min"=some none):
  ∃ fd:FuncData,(∀ (s:Shared) (v:Value),BindsTo s fd ⟨[v],[]⟩ [("_law_script",v)])/\∀ base:Heap,K.In base->base.Ns mainGlobals mg->uv l.prog w K mg base vz 10 fa fd ["_law_script"] (tG K (yc zW og)):=by
 have T:Bt mg:=⟨PySem.W.mg_none_of X G z0,PySem.W.mg_none_of X G z1,PySem.W.mg_none_of X G z2,PySem.W.mg_none_of X G z3,PySem.W.mg_none_of X G z4,PySem.W.mg_none_of X G z5,PySem.W.mg_none_of X G z6,PySem.W.mg_none_of X G z7,PySem.W.mg_none_of X G z8,PySem.W.mg_none_of X G z9,PySem.W.mg_none_of X G z10,PySem.W.mg_none_of X G z11,PySem.W.mg_none_of X G z12⟩
 have U:Bq mg:=⟨PySem.W.mg_none_of X G y0,PySem.W.mg_none_of X G y1,PySem.W.mg_none_of X G y2⟩
 obtain⟨jc,oZ,jL⟩:=oZ.mk X G;obtain⟨fd,Fl,hb⟩:=h27.law X G hfa λ _ _ _ _ _ _ _ _=>.of_eq rfl;refine⟨fd,hb,λ base _ _=>?_⟩;have fJ:=UI l.prog w base T U (h0.mk X G);have qC:=U1 l.prog w base T U (h3.mk X G);have pX:=U_ l.prog w base T U (h8.mk X G);have uu:=U8 l.prog w base T U (h9.mk X G);have fB:=U3 l.prog w base T U (h14.mk X G);have tE:=UD l.prog w base T U (h23.mk X G);have fG:=UC l.prog w base T U (h24.mk X G);have fE:=UA l.prog w base T U (h26.mk X G);have pW:=UH l.prog w base T U (h1.mk X G) fJ;have fL:=UL l.prog w base T U (h10.mk X G) pX;have fP:=UU l.prog w base T U (h11.mk X G) uu;have fN:=UN l.prog w base T U (h12.mk X G) uu;have fS:=UY l.prog w base T U (h13.mk X G) uu pX;have fF:=UB l.prog w base T U (h25.mk X G) tE fG;have fK:=UJ l.prog w base T U (h2.mk X G) pW;have sm:=UQ l.prog w base T U (h4.mk X G) pW qC;have fQ:=UW l.prog w base T U (h16.mk X G) fN;have fR:=UX l.prog w base T U (h17.mk X G) fP;have fM:=UM l.prog w base T U (h21.mk X G) fL;have fO:=UR l.prog w base T U (h5.mk X G) fK;have f7:=Ux l.prog w base T U (h6.mk X G) sm;have f9:=Uy l.prog w base T U (h7.mk X G) sm;have fT:=UZ l.prog w base T U (h15.mk X G) f9 uu fB;have fD:=U7 l.prog w base T U (h18.mk X G) oZ jL fR fS fT f7 fQ;have fC:=U6 l.prog w base T U (h19.mk X G) fD;have fA:=Uz l.prog w base T U (h20.mk X G) fC qC;have fH:=UG l.prog w base T U (h22.mk X G) sm fO fM fA;exact UE l.prog w base T U Fl fF tE fH fE
theorem YO {l:PySem.W.OpenLaw}{q:Program}{loose:List Str}{XP:(Str->Option Value)->Heap->Prop}{YP:World->Heap->Prop}{d:DefRec}{K:Params->PySem.W.Frag}(hn:l.most=some 63) (hdf:d.params.defaults=[])
  (hY:∀ (w:World) (h:Heap),YP w h->(K w.params).In h)
  (F:∀ (w:World) (mg:Str->Option Value) (fa:Addr) (h:Heap),(K w.params).In h->h.Ns mainGlobals mg->mg d.name=some (.ref fa)->
   ∃ fd:FuncData,(∀ (s:Shared) (u:Value),BindsTo s fd ⟨[u],[]⟩ [("_law_script",u)])/\∀ base:Heap,(K w.params).In base->base.Ns mainGlobals mg->uv l.prog w (K w.params) mg base vz 10 fa fd ["_law_script"] (tG (K w.params) (yc zW og))):
  PySem.W.WalkO q loose XP YP l.row.toRowW d [] (λ f vs=>PySem.call f vs):=
 L2.YK (n:=63) (k:=10) (x:="_law_script") (CX:=λ _=>vz) (sp:=λ w=>tG (K w.params) (yc zW og)) hn (by decide) hdf ⟨rfl,by decide,by decide⟩ hY F (λ _ _ a ns hl hO hS=>Sh Sf hO hS hl) λ _ _ _ _ _ z=>z
end yH
open PySem PySem.W PyProof.Rows
set_option maxRecDepth 100000 in
set_option maxHeartbeats 0 in
theorem PySem.Challenge.cw_purseborder_k35_slow_drains_holds : PySem.Challenge.rw_purseborder_k35_slow_drains.Holds := by
 w_on;o_law;k_head;(case hw=>w_witness2)
 k_fill
 refine yH.YO (l:=PySem.Challenge.rw_purseborder_k35_slow_drains) rfl rfl (λ w h Y=>PySem.W.kIn_of Y) ?F
 case F=>
  intro w mg fa h KX G hmg;refine' yH.QW KX G hmg ?_ ?_ ?_ ?_ ?_ ?_ ?_ ?_ ?_ ?_ ?_ ?_ ?_ ?_ ?_ ?_ ?_ ?_ ?_ ?_ ?_ ?_ ?_ ?_ ?_ ?_ ?_ ?_ ?_ ?_ ?_ ?_ ?_ ?_ ?_ ?_ ?_ ?_ ?_ ?_ ?_ ?_ ?_ ?_ ?_
  all_goals first | exact L5.Fx.i (by k_is) (by k_is) (by k_is) (by k_is) | k_is | exact L5.Cn.i (by k_is) (by exact⟨_,rfl⟩)
