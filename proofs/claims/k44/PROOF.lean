import PyProof.Rows.All
import Wide.All
import OpenK.AllK
import Wide.FinOn
import Lean
import PyProof.EqAt
import PyProof.EqKinds
import PyProof.TupleCall
import PySem.SetOps
import PyProof.SetScanFacts
import PyProof.TupleKey
import PyProof.SetKind
import PyProof.SetRoads
import PyProof.IsRules
import PyProof.ZipIter
import PyProof.TupleIter
import PyProof.ListMulRoad
import PyProof.FactsAll.tuple
import PyProof.ListRange
import PyProof.Draws
import PyProof.EnumFor
import PyProof.Rows.ListMul
import PyProof.AutoListH
import PySem.Challenge.RW_purseborder_k44_whole_enough_for_ever
set_option Elab.async false
set_option linter.all false
set_option maxRecDepth 100000
noncomputable section
def zA0:=@List.size_toArray
def zA1:=@List.getElem?_eq_getElem
def zA2:=@List.getElem?_eq_some_iff
def zA3:=@List.getElem?_map
def zA4:=@Nat.le_refl
def zA5:=@List.mem_cons
def zA6:=@List.map_cons
def zA7:=@List.length_map
def zA8:=@PySem.Heap.lt_size
def zA9:=@PySem.Heap.get?_push_size
def zB0:=@List.mem_map
def zB1:=@List.getD_eq_getElem?_getD
def zB2:=@Bool.not_false
def zB3:=@Nat.ne_of_lt
def zB4:=@List.mem_append_right
def zB5:=@Bool.not_true
def zB6:=@List.mem_singleton
def zB7:=@List.mem_of_getElem?
def zB8:=@Array.getElem?_eq_getElem
def zB9:=@List.mem_append
def zC0:=@List.length_cons
def zC1:=@List.mem_range
def zC2:=@PySem.W.mg_none_of
def zC3:=@Nat.lt_of_lt_of_le
def zC4:=@Bool.false_eq_true
def zC5:=@List.length_range
def zC6:=@Int.le_refl
def zC7:=@Bool.eq_iff_iff
def zC8:=@List.mem_filter
def zC9:=@Option.bind_some
def zD0:=@List.any_eq_true
def zD1:=@PySem.wpAny_pure
def zD2:=@Array.length_toList
def zD3:=@Array.getElem?_toList
def zD4:=@Nat.zero_le
def zD5:=@Option.some.inj
def zD6:=@List.map_map
def zD7:=@List.length_append
def zD8:=@List.getElem_mem
def zD9:=@List.length_pos_iff
def zE0:=@Nat.le_trans
def zE1:=@Nat.lt_irrefl
def zE2:=@Nat.lt_succ_self
def zE3:=@Nat.le_of_lt
def zE4:=@List.all_eq_true
def zE5:=@Bool.and_eq_true
def zE7:=@List.map_append
def zE9:=@Bool.not_eq_true
def zF0:=@Int.emod_nonneg
def zF1:=@Int.emod_lt_of_pos
def zF2:=@Int.toNat_of_nonneg
abbrev zFr:=PySem.W.Frag
noncomputable def zWb:=@PySem.wpAny_bind
noncomputable def zHp:=@PySem.Heap.get?_push_of_some
def zOb {α β:Type}{x:Option α}{f:α->Option β}{b:β} (h:x.bind f=some b):∃ a,x=some a/\f a=some b:=Option.bind_eq_some_iff.mp h
def zOm {α β:Type}{x:Option α}{f:α->β}{b:β} (h:x.map f=some b):∃ a,x=some a/\f a=b:=Option.map_eq_some_iff.mp h
def zMc {α:Type}{a:α}{l:List α}:a∈a::l:=List.mem_cons_self
def zMo {α:Type} (y:α) {a:α}{l:List α} (h:a∈l):a∈y::l:=List.mem_cons_of_mem y h
namespace L2
open PySem PySem.Spec PyProof.Rows
abbrev Key:=Sum Int Str
noncomputable def ni:Key->Value->Bool
 | .inl k,v=>Value.isInt k v
 | .inr x,v=>Value.isStrOf x v
noncomputable def Q_ (w:World):Key->Int
 | .inl k=>hashInt k
 | .inr x=>hashStr w x
theorem rO:∀ {k:Key}{v:Value},ni k v=true->(∃ i t,k=Sum.inl i/\v=Value.int i t)\/(∃ x t,k=Sum.inr x/\v=Value.str x t)
 | .inl i,v,h=>by
  obtain⟨t,e⟩:=Value.isInt_shape (k:=i) (v:=v) h;exact .inl ⟨i,t,rfl,e⟩
 | .inr x,v,h=>by
  obtain⟨t,e⟩:=Value.isStrOf_shape (x:=x) (v:=v) h;exact .inr ⟨x,t,rfl,e⟩
def QZ (i:Int) (t:Tok):ni (.inl i) (.int i t)=true:=by simp[ni,Value.isInt]
def QY (x:Str) (t:Tok):ni (.inr x) (.str x t)=true:=by simp[ni,Value.isStrOf]
def QX (a b:Int):decide ((Sum.inl a:Key)=Sum.inl b)=(a == b):=by
 by_cases e:a=b
 .subst e;simp
 .have h:¬ (Sum.inl a:Key)=Sum.inl b:=λ q=>e (Sum.inl.inj q);rw[decide_eq_false h];exact (beq_eq_false_iff_ne.mpr e).symm
def QU (a b:Str):decide ((Sum.inr a:Key)=Sum.inr b)=decide (a=b):=by
 by_cases e:a=b
 .subst e;simp
 .have h:¬ (Sum.inr a:Key)=Sum.inr b:=λ q=>e (Sum.inr.inj q);rw[decide_eq_false h,decide_eq_false e]
def QW (a:Int) (b:Str):decide ((Sum.inl a:Key)=Sum.inr b)=false:=decide_eq_false (λ q=>nomatch q)
def QV (a:Str) (b:Int):decide ((Sum.inr a:Key)=Sum.inl b)=false:=decide_eq_false (λ q=>nomatch q)
noncomputable def vF (prog:Program) (w:World):PySem.KeyKind prog w Key where
 is:=ni
 hash:=Q_ w
 inj:=λ v a b ha hb=>by
  rcases rO ha with ⟨i,t,rfl,rfl⟩ | ⟨x,t,rfl,rfl⟩
  .rcases rO hb with ⟨j,u,rfl,e⟩ | ⟨y,u,rfl,e⟩
   .injection e with e1 _;rw[e1]
   .exact nomatch e
  .rcases rO hb with ⟨j,u,rfl,e⟩ | ⟨y,u,rfl,e⟩
   .exact nomatch e
   .injection e with e1 _;rw[e1]
 byValue:=λ k v h=>by
  rcases rO h with ⟨i,t,rfl,rfl⟩ | ⟨x,t,rfl,rfl⟩ <;> rfl
 pyHash:=λ hv h=>by
  rcases rO hv with ⟨i,t,rfl,rfl⟩ | ⟨x,t,rfl,rfl⟩
  .exact wpAny_pyHash_int h
  .exact wpAny_pyHash_str h
 eqBool:=λ hu hv h=>by
  rcases rO hu with ⟨i,t,rfl,rfl⟩ | ⟨x,t,rfl,rfl⟩
  .rcases rO hv with ⟨j,u,rfl,rfl⟩ | ⟨y,u,rfl,rfl⟩
   .rw[QX] at h;exact wpAny_eqBool_int h
   .rw[QW] at h;exact SeqAt.EqAt.int_str i t y u _ _ _ _ h
  .rcases rO hv with ⟨j,u,rfl,rfl⟩ | ⟨y,u,rfl,rfl⟩
   .rw[QV] at h;exact SeqAt.EqAt.str_int x t j u _ _ _ _ h
   .rw[QU] at h;exact wpAny_eqBool_str h
 «strs»:=λ k x t v h=>by
  rcases rO h with ⟨i,u,rfl,e⟩ | ⟨y,u,rfl,e⟩
  .exact nomatch e
  .injection e with e1 _
   subst e1;cases v <;> rfl
def Q3 (prog:Program) (w:World) (i:Int) (t:Tok):(vF prog w).is (.inl i) (.int i t)=true:=QZ i t
def Q2 (prog:Program) (w:World) (x:Str) (t:Tok):(vF prog w).is (.inr x) (.str x t)=true:=QY x t
inductive V where
 | zp | bl (b:Bool) | int (i:Int) | str (x:Str) | n9 (b:Array UInt8) | j9 (b:UInt64) | ref (a:Addr) | ty (n:String)
 deriving DecidableEq
noncomputable def RelV:V->Value->Prop
 | .zp,u=>u=Value.none
 | .bl b,u=>u=Value.bool b
 | .int i,u=>∃ t,u=Value.int i t
 | .str x,u=>∃ t,u=Value.str x t
 | .n9 b,u=>∃ t,u=Value.bytes b t
 | .j9 b,u=>∃ t,u=Value.float b t
 | .ref a,u=>u=Value.ref a
 | .ty n,u=>u=Value.type n
abbrev Vals:List V->List Value->Prop:=Paired RelV
theorem Vals.length {xs:List V}{us:List Value}(r:Vals xs us):xs.length=us.length:=Paired.length r
theorem Vals.get:∀ {xs:List V}{us:List Value}{i:Nat}{x:V},Vals xs us->xs[i]?=some x->∃ u,us[i]?=some u/\RelV x u
 | _,_,_,_,.nil,e=>by simp at e
 | _,_,0,_,.cons r _,e=>by simp at e;subst e;exact⟨_,rfl,r⟩
 | _,_,i+1,x,.cons _ t,e=>by
  obtain⟨u,h1,h2⟩:=Vals.get (i:=i) (x:=x) t (by simpa using e);exact⟨u,by simpa using h1,h2⟩
theorem Vals.set {x:V}{u:Value}(r:RelV x u):∀ {xs:List V}{us:List Value}(i:Nat),Vals xs us->Vals (xs.set i x) (us.set i u)
 | _,_,_,.nil=>.nil
 | _,_,0,.cons _ t=>.cons r t
 | _,_,i+1,.cons q t=>.cons q (Vals.set r i t)
theorem Vals.append:∀ {xs ys:List V}{us ws:List Value},Vals xs us->Vals ys ws->Vals (xs++ys) (us++ws)
 | _,_,_,_,.nil,s=>s
 | _,_,_,_,.cons r t,s=>.cons r (Vals.append t s)
theorem Vals.take:∀ {xs:List V}{us:List Value}(n:Nat),Vals xs us->Vals (xs.take n) (us.take n)
 | _,_,0,_=>.nil
 | _,_,_+1,.nil=>.nil
 | _,_,n+1,.cons r t=>.cons r (Vals.take n t)
theorem Vals.drop:∀ {xs:List V}{us:List Value}(n:Nat),Vals xs us->Vals (xs.drop n) (us.drop n)
 | _,_,0,r=>r
 | _,_,_+1,.nil=>.nil
 | _,_,n+1,.cons _ t=>Vals.drop n t
noncomputable def t4:Option V->Option Value->Prop
 | some v,some u=>RelV v u
 | none,none=>True
 | _,_=>False
def KV {κ:Type}:List (κ × V)->List (κ × Value)->Prop:=Paired λ(p:κ × V) (q:κ × Value)=>p.1=q.1/\RelV p.2 q.2
noncomputable def kV:Key->V
 | .inl i=>.int i
 | .inr x=>.str x
inductive HO where
  | lst (xs:List V)
  | tup (xs:List V)
  | dK (kvs:List (Key×V)) | dT (kvs:List (List Key×V))
  | set (S:Int->Bool) (n:Nat)
  | ins (C dx:Addr) (fs:List (Str×V))
  | own (x:Addr)
  | xd (fs:List (Str×V))
  | met (f x:Addr)
  | gT (lo hi:Int)
  | vm (o:Obj) (u:HO)
  | p8 (ps:Array Value)
  | ext (φ:Heap->Prop)
abbrev Hp:=Addr->Option HO
noncomputable def upd (H:Hp) (a:Addr) (o:HO):Hp:=λ b=>if b=a then some o else H b
def xl {H:Hp}{a:Addr}{o:HO}:upd H a o a=some o:=by unfold upd;rw[if_pos rfl]
def xo {H:Hp}{a b:Addr}{o:HO}(h:b≠a):upd H a o b=H b:=by unfold upd;rw[if_neg h]
def mW {H:Hp}{a b:Addr}{o u:HO}(h:H a=some o) (h':H b=some u) (d:o≠u):a≠b:=by
 intro e;subst e;rw[h] at h';exact d (zD5 h')
def qG {H:Hp}{a b:Addr}{o:HO}(h:H a=some o) (h':H b=none):a≠b:=by
 intro e;subst e;rw[h] at h';cases h'
section
variable (P:Program) (w:World)
noncomputable def xS (H:Hp) (h:Heap) (a:Addr):HO->Prop
 | .lst xs=>xs.length<=sizeLine/\∃ (its:List Value) (n:Nat),Vals xs its/\h.get? a=some { cls:=.type "list",data:=.seq its.toArray n }
 | .tup xs=>xs.length<=sizeLine/\∃ its:List Value,Vals xs its/\IsTup h a its.toArray
 | .dK kvs=>kvs.length<=sizeLine/\(a == sysModules)=false/\∃ vs,KV kvs vs/\h.DictOf (vF P w) a vs
 | .dT kvs=>kvs.length<=sizeLine/\(a == sysModules)=false/\∃ xs:List (List Key×Addr×Value),
   Paired (λ(p:List Key×V) (q:List Key×Addr×Value)=>p.1=q.1/\H q.2.1=some (.tup (p.1.map kV))/\RelV p.2 q.2.2) kvs xs/\
   ∃ o es ep,h.get? a=some o/\o.ExactDict/\o.data=.dict es ep/\es.toList=xs.map (entryOfKey (tupleKind (vF P w)))/\(xs.map (·.1)).Nodup
 | .set S n=>h.SetOf (intKind P w) a S n
 | .ins C dx fs=>H dx=some (.own a)/\fs.length<=1000/\dx≠a/\h.get? a=some (PySem.W.instObj C dx)/\
   ∃ mA,h.Ns1 dx mA/\(∀ f,t4 (fs.lookup f) (mA f))/\PySem.Within mA (fs.map (·.1))
 | .own _=>∃ o,h.get? a=some o
 | .xd fs=>∃ mA,h.Ns1 a mA/\∀ f,t4 (fs.lookup f) (mA f)
 | .gT lo hi=>∃ t u v,h.get? a=some { cls:=.type "range",data:=.fields #[.int lo t,.int hi u,.int 1 v] }
 | .vm o u=>h.get? a=some o/\xS H h a u
 | .p8 ps=>h.get? a=some { cls:=.none,data:=.fields ps }
 | .met f x=>h.get? a=some (PySem.W.methodObj (.ref f) (.ref x))
 | .ext φ=>φ h/\(∃ o,h.get? a=some o)/\∀ h1 h2:Heap,φ h1->(∀ o,h1.get? a=some o->h2.get? a=some o)->φ h2
def xE (H:Hp) (h:Heap):Prop:=∀ a o,H a=some o->xS P w H h a o
end
section
variable {P:Program}{w:World}{H H':Hp}{h h':Heap}{a:Addr}{o:HO}
theorem xS.lt (x:xS P w H h a o):a<h.objs.size:=by
 cases o with
 | lst xs=>obtain⟨_,_,_,_,e⟩:=x;exact zA8 e
 | tup xs=>obtain⟨_,_,_,p⟩:=x;exact p.lt
 | dK kvs=>obtain⟨_,_,_,_,o,_,_,e,_⟩:=x;exact zA8 e
 | dT kvs=>obtain⟨_,_,_,_,o,_,_,e,_⟩:=x;exact zA8 e
 | set S n=>obtain⟨o,_,_,_,e,_⟩:=x;exact zA8 e
 | ins C dx fs=>obtain⟨_,_,_,e,_⟩:=x;exact zA8 e
 | own y=>obtain⟨_,e⟩:=x;exact zA8 e
 | xd fs=>obtain⟨_,⟨_,_,_,e,_⟩,_⟩:=x;exact zA8 e
 | gT lo hi=>obtain⟨_,_,_,e⟩:=x;exact zA8 e
 | vm ob u=>obtain⟨e,_⟩:=x;exact zA8 e
 | p8 ps=>exact zA8 (show h.get? a=some _ from x)
 | met f y=>exact zA8 (show h.get? a=some _ from x)
 | ext φ=>obtain⟨_,⟨_,e⟩,_⟩:=x;exact zA8 e
theorem Paired.ju {α β:Type}{F G:α->β->Prop}:∀ {l₁:List α}{l₂:List β},Paired F l₁ l₂->(∀ a b,F a b->G a b)->Paired G l₁ l₂
 | _,_,.nil,_=>.nil
 | _,_,.cons r t,f=>.cons (f _ _ r) (Paired.ju t f)
def xS.rq (x:xS P w H h a o) (k:∀ b u,(b=a\/H b=some (.own a))->h.get? b=some u->h'.get? b=some u)
  (ho:∀ b,H b=some (.own a)->H' b=some (.own a)) (ht:∀ b xs,H b=some (.tup xs)->H' b=some (.tup xs)):xS P w H' h' a o:=by
 induction o with
 | lst xs=>obtain⟨z,its,n,r,e⟩:=x;exact⟨z,its,n,r,k _ _ (.inl rfl) e⟩
 | tup xs=>obtain⟨z,its,r,ob,e,c⟩:=x;exact⟨z,its,r,ob,k _ _ (.inl rfl) e,c⟩
 | dK kvs=>obtain⟨z,y,vs,r,ob,es,ep,e,c⟩:=x;exact⟨z,y,vs,r,ob,es,ep,k _ _ (.inl rfl) e,c⟩
 | dT kvs=>
  obtain⟨z,y,xs,r,ob,es,ep,e,c⟩:=x;exact⟨z,y,xs,Paired.ju r λ p q z=>⟨z.1,ht _ _ z.2.1,z.2.2⟩,ob,es,ep,k _ _ (.inl rfl) e,c⟩
 | set S n=>obtain⟨ob,es,ep,t,e,c⟩:=x;exact⟨ob,es,ep,t,k _ _ (.inl rfl) e,c⟩
 | ins C dx fs=>
  obtain⟨d,z,ne,e,mA,⟨od,es,ep,e2,c⟩,r⟩:=x;exact⟨ho _ d,z,ne,k _ _ (.inl rfl) e,mA,⟨od,es,ep,k _ _ (.inr d) e2,c⟩,r⟩
 | own y=>obtain⟨ob,e⟩:=x;exact⟨ob,k _ _ (.inl rfl) e⟩
 | xd fs=>obtain⟨mA,⟨od,es,ep,e,c⟩,r⟩:=x;exact⟨mA,⟨od,es,ep,k _ _ (.inl rfl) e,c⟩,r⟩
 | gT lo hi=>obtain⟨t,u,v,e⟩:=x;exact⟨t,u,v,k _ _ (.inl rfl) e⟩
 | vm ob u ih=>obtain⟨e,q⟩:=x;exact⟨k _ _ (.inl rfl) e,ih q⟩
 | p8 ps=>
  have e:h.get? a=some { cls:=.none,data:=.fields ps }:=x;show h'.get? a=some { cls:=.none,data:=.fields ps };exact k a _ (.inl rfl) e
 | met f y=>
  have e:h.get? a=some (PySem.W.methodObj (.ref f) (.ref y)):=x;show h'.get? a=some (PySem.W.methodObj (.ref f) (.ref y));exact k a _ (.inl rfl) e
 | ext φ=>obtain⟨p,⟨o,e⟩,st⟩:=x;exact⟨st _ _ p λ o q=>k _ _ (.inl rfl) q,⟨o,k _ _ (.inl rfl) e⟩,st⟩
theorem xE.lt (x:xE P w H h) (e:H a=some o):a<h.objs.size:=(x a o e).lt
def xE.fresh (x:xE P w H h) (e:h.objs.size<=a):H a=none:=by
 cases q:H a with
 | none=>rfl
 | some u=>exact absurd (zC3 (x.lt q) e) (zE1 _)
def xE.kept (x:xE P w H h) (k:∀ b u,h.get? b=some u->h'.get? b=some u):xE P w H h':=λ a o e=>
 (x a o e).rq (λ b u _ q=>k b u q) (λ _ q=>q) λ _ _ q=>q
def xE.laid (x:xE P w H h) (k:∀ b u,h.get? b=some u->h'.get? b=some u) (hp:h.objs.size<=a) (new:xS P w (upd H a o) h' a o):xE P w (upd H a o) h':=λ b u e=>by
 have hn:=x.fresh hp;by_cases hb:b=a
 .subst hb;rw[xl] at e;cases e;exact new
 .rw[xo hb] at e;exact (x b u e).rq (λ c v _ q=>k c v q) (λ c q=>by rw[xo (qG q hn)];exact q) λ c xs q=>by rw[xo (qG q hn)];exact q
end
def Rd (H:Hp) (a:Addr) (u:HO):Prop:=H a=some u\/∃ o,H a=some (.vm o u)
def Rd.ok {P:Program}{w:World}{H:Hp}{h:Heap}{a:Addr}{u:HO}(r:Rd H a u) (x:xE P w H h):xS P w H h a u:=by
 rcases r with r | ⟨o,r⟩
 .exact x a u r
 .obtain⟨_,q⟩:=x a _ r;exact q
noncomputable def lZ:Option HO->Prop
 | some (.lst _)=>True
 | some (.dK _)=>True
 | some (.dT _)=>True
 | some (.set _ _)=>True
 | some (.ins _ _ _)=>True
 | some (.ext _)=>True
 | _=>False
section
variable {P:Program}{w:World}{H:Hp}{h h':Heap}{x e:Addr}{o':HO}
def xE.write (ok:xE P w H h) (mu:lZ (H x)) (he:e=x\/H e=some (.own x)) (k:∀ b u,b≠e->h.get? b=some u->h'.get? b=some u) (heo:∃ u,h'.get? e=some u)
  (new:xS P w (upd H x o') h' x o'):xE P w (upd H x o') h':=λ b u q=>by
 have nown:∀ c y,H c=some (.own y)->c≠x:=λ c y r z=>by subst z;rw[r] at mu;exact mu
 have ntup:∀ c xs,H c=some (.tup xs)->c≠x:=λ c xs r z=>by subst z;rw[r] at mu;exact mu
 by_cases hb:b=x
 .subst hb;rw[xl] at q;cases q;exact new
 .rw[xo hb] at q;by_cases hbe:b=e
  .have q':H b=some (.own x):=by
    rcases he with z | z
    .exact absurd (hbe.trans z) hb
    .rw[hbe];exact z
   rw[q] at q';cases q';obtain⟨v,hv⟩:=heo;exact⟨v,by rw[hbe];exact hv⟩
  .refine (ok b u q).rq (λ c v hc r=>k c v ?_ r) (λ c r=>by rw[xo (nown c b r)];exact r) λ c xs r=>by rw[xo (ntup c xs r)];exact r
   rcases hc with rfl | hc
   .exact hbe
   .rintro rfl;rcases he with z | z
    .exact nown c b hc z
    .rw[hc] at z;cases z;exact hb rfl
end
structure Un (fs ex:List Addr) (H H':Hp) (h h':Heap):Prop where
 keep:∀ b o,h.get? b=some o->H b=none->b∉fs->b∉ex->h'.get? b=some o
 slot:∀ b o,h.get? b=some o->H b=none->b∈fs->b∉ex->∃ sl,h'.get? b=some { o with slots:=sl }
 free:∀ b o,h.get? b=some o->H b=none->b∉ex->H' b=none
 there:∀ b o,h.get? b=some o->b∉ex->∃ o',h'.get? b=some o'
 tZ:∀ b xs,H b=some (.tup xs)->H' b=some (.tup xs)
 rS:∀ b o u,H b=some (.vm o u)->H' b=some (.vm o u)
 qt:∀ b ps,H b=some (.p8 ps)->∃ more,H' b=some (.p8 (ps++more))
section
variable {fs fs' ex ex':List Addr}{H H1 H2:Hp}{h h1 h2 h':Heap}{a x e:Addr}{o:HO}
def Un.any (u:Un fs ex H H1 h h1) {b:Addr}{ob:Obj}(q:h.get? b=some ob) (n:H b=none) (hx:b∉ex):∃ sl,h1.get? b=some { ob with slots:=sl }:=by
 by_cases hb:b∈fs
 .exact u.slot b ob q n hb hx
 .exact⟨ob.slots,u.keep b ob q n hb hx⟩
def Un.kept (k:∀ b u,h.get? b=some u->h'.get? b=some u):Un fs ex H H h h':=
 ⟨λ b ob q _ _ _=>k b ob q,λ b ob q _ _ _=>⟨ob.slots,k b ob q⟩,λ _ _ _ n _=>n,λ b ob q _=>⟨ob,k b ob q⟩,λ _ _ q=>q,λ _ _ _ q=>q,λ _ ps q=>⟨#[],by rw[q];simp⟩⟩
def Un.refl:Un fs ex H H h h:=Un.kept λ _ _ q=>q
def Un.laid (k:∀ b u,h.get? b=some u->h'.get? b=some u) (hp:h.objs.size<=a) (hn:H a=none):Un fs ex H (upd H a o) h h' where
 keep:=λ b u q _ _ _=>k b u q
 slot:=λ b u q _ _ _=>⟨u.slots,k b u q⟩
 free:=λ b u q n _=>by rw[xo (zB3 (zC3 (zA8 q) hp))];exact n
 there:=λ b u q _=>⟨u,k b u q⟩
 tZ:=λ b xs q=>by rw[xo (qG q hn)];exact q
 rS:=λ b u xs q=>by rw[xo (qG q hn)];exact q
 qt:=λ b ps q=>⟨#[],by rw[xo (qG q hn),q];simp⟩
def Un.write (mu:lZ (H x)) (he:e=x\/H e=some (.own x)) (k:∀ b u,b≠e->h.get? b=some u->h'.get? b=some u) (heo:∃ u,h'.get? e=some u):Un fs ex H (upd H x o) h h':=by
 have hx:∀ b,H b=none->b≠x:=λ b n z=>by subst z;rw[n] at mu;exact mu
 have hb:∀ b,H b=none->b≠e:=λ b n z=>by
  subst z;rcases he with r | r
  .exact hx b n r
  .rw[n] at r;cases r
 have hm:∀ b u,H b=some u->¬ lZ (some u)->b≠x:=λ b u q nm z=>by subst z;rw[q] at mu;exact nm mu
 refine⟨λ b u q n _ _=>k b u (hb b n) q,λ b u q n _ _=>⟨u.slots,k b u (hb b n) q⟩,λ b u q n _=>by rw[xo (hx b n)];exact n,λ b u q _=>?_,
  λ b xs q=>by rw[xo (hm b _ q λ z=>z)];exact q,λ b u xs q=>by rw[xo (hm b _ q λ z=>z)];exact q,λ b ps q=>⟨#[],by rw[xo (hm b _ q λ z=>z),q];simp⟩⟩
 by_cases hbe:b=e
 .subst hbe;exact heo
 .exact⟨u,k b u hbe q⟩
end
noncomputable def kA (h:Heap) (H:Hp):List Addr:=(List.range h.objs.size).filter λ a=>(H a).isSome
noncomputable def rQ (h:Heap) (H:Hp):Heap:=PySem.W.hideAll h (kA h H)
def Py (h:Heap) (H:Hp):(rQ h H).objs.size=h.objs.size:=PySem.W.hideAll_size _ _
def Pz {h:Heap}{H:Hp}{b:Addr}{o:Obj}(e:h.get? b=some o) (n:H b=none):(rQ h H).get? b=some o:=
 PySem.W.hideAll_get _ e λ hm=>by
  have q:(H b).isSome=true:=(zC8.mp hm).2;rw[n] at q;simp at q
def Ql {h:Heap}{H:Hp}{b:Addr}{o:Obj}(e:(rQ h H).get? b=some o):h.get? b=some o/\H b=none:=by
 have e':h.get? b=some o:=PySem.W.of_hideAll (kA h H) e;refine⟨e',?_⟩;cases q:H b with
 | none=>rfl
 | some x=>
  have hm:b∈kA h H:=zC8.mpr ⟨zC1.mpr (zA8 e'),by simp[q]⟩;have z:(rQ h H).get? b=none:=PySem.W.hideAll_none (kA h H) hm;rw[z] at e;cases e
structure Mod (K:zFr) (mg:Str->Option Value) (base:Heap):Prop where
 fY:K.In base
 glob:base.Ns mainGlobals mg
 blt:∃ mb,base.Ns builtinsNs mb/\∀ x:Str,x≠"__name__"->mb x=bootBuiltins x
 nolimit:base.NoLimit
structure Cx where
 prog:Program
 w:World
 K:zFr
 mg:Str->Option Value
 base:Heap
 A:Around
 N:List Str
 s₀:Shared
 H₀:Hp
 env:Env
 outer:List Env
 stack:List Env
 ex:List Addr
 fn:Str->Bool
 calm:Bool
 pn:List (Addr×Obj)
 xe:Value->Shared->Prop
noncomputable def uD (l:List Env):List Addr:=l.filterMap (·.frame)
abbrev Cx.fs (X:Cx):List Addr:=uD X.outer
def dE (sc:Scope) (x:Str):Prop:=sc.names.lookup x=some .local\/sc.names.lookup x=some .cell\/sc.names.lookup x=some .free
def Loc (sc:Scope) (x:Str):Prop:=sc.names.lookup x=some .local\/sc.names.lookup x=some .cell
def Look (env:Env) (h:Heap) (m:Str->Option Value) (x:Str) (u:Value):Prop:=
 (env.kindOf x=some .local/\m x=some u)\/((env.kindOf x=some .cell\/env.kindOf x=some .free)/\∃ c,env.cells.lookup x=some c/\h.IsCell c (some u))
structure Cx.Ok (X:Cx):Prop where
 mod:Mod X.K X.mg X.base
 kind:X.env.scope.kind=.function
 glob:X.env.globals=mainGlobals
 blt:X.env.builtins=builtinsNs
 above:X.s₀.heap.objs.size<=X.env.locals
 inj:∀ x y c,X.env.cells.lookup x=some c->X.env.cells.lookup y=some c->x=y
 has:∀ x,(X.env.kindOf x=some .cell\/X.env.kindOf x=some .free)->∃ c,X.env.cells.lookup x=some c
 lJ:∀ x c,X.fn x=true->X.env.cells.lookup x=some c->X.s₀.heap.objs.size<=c
 hd:X.calm=true->X.A.handled=none
 frames:X.A.frames=some X.stack
 kC:X.stack=X.outer\/(X.stack=X.env::X.outer/\X.env.frame=some X.env.locals)
 eP:∀ b∈X.ex,b≠X.env.locals/\∀ x c,X.env.cells.lookup x=some c->c≠b
 bs:∀ b o,X.base.get? b=some o->X.s₀.heap.get? b=some o/\X.H₀ b=none
 og:X.base.objs.size<=X.s₀.heap.objs.size
 mU:∀ b o,X.base.get? b=some o->b∉X.ex
 l5:∀ b∈X.ex,b∉X.fs
 tL:X.s₀.heap.FunFrames X.base X.outer
 nv:∀ b∈X.fs,X.H₀ b=none
structure Inv (X:Cx) (pins:List (Addr×Obj)) (B:List (Option V)) (H:Hp) (s:Shared):Prop where
 ok:X.Ok
 os:s.os=X.s₀.os
 bare:AllBare s.gens
 base:Un X.fs X.ex X.H₀ H X.s₀.heap s.heap
 loc:∃ m,s.heap.Ns X.env.locals m/\∀ (i:Nat) (x:Str) (v:V),X.N[i]?=some x->B[i]?=some (some v)->dE X.env.scope x->∃ u,RelV v u/\Look X.env s.heap m x u
 cell:∀ x c,X.env.cells.lookup x=some c->∃ v,s.heap.IsCell c v
 free:H X.env.locals=none
 sI:∀ x c,X.env.cells.lookup x=some c->H c=none
 pin:∀ p∈X.pn++pins,s.heap.get? p.1=some p.2/\H p.1=none/\p.1≠X.env.locals/\p.1∉X.fs/\∀ v,p.2.data≠.cell v
 zM:xE X.prog X.w H s.heap
 len:B.length=X.N.length
section
variable {X:Cx}{pins:List (Addr×Obj)}{B:List (Option V)}{H H':Hp}{s:Shared}{h':Heap}
def Cx.Ok.Qp (ok:X.Ok) {b:Addr}{o:Obj}(e:X.base.get? b=some o):b∉X.fs:=λ hb=>by
 have:=(ok.tL.mem hb).1;rw[e] at this;cases this
theorem Inv.bs (I:Inv X pins B H s):∀ b o,X.base.get? b=some o->s.heap.get? b=some o/\H b=none:=λ b o e=>
 ⟨I.base.keep b o (I.ok.bs b o e).1 (I.ok.bs b o e).2 (I.ok.Qp e) (I.ok.mU b o e),I.base.free b o (I.ok.bs b o e).1 (I.ok.bs b o e).2 (I.ok.mU b o e)⟩
def Inv.bk (I:Inv X pins B H s):∀ b o,X.base.get? b=some o->s.heap.get? b=some o:=λ b o e=>(I.bs b o e).1
theorem Inv.mod (I:Inv X pins B H s):Mod X.K X.mg X.base:=I.ok.mod
def Inv.uB (I:Inv X pins B H s):X.K.In s.heap:=I.ok.mod.fY.keeps I.bk
theorem Inv.lt (I:Inv X pins B H s):X.env.locals<s.heap.objs.size:=let ⟨_,hn,_⟩:=I.loc;hn.lt
def Inv.sz (I:Inv X pins B H s):X.s₀.heap.objs.size<=s.heap.objs.size:=zE0 I.ok.above (zE3 I.lt)
def Inv.Zi (I:Inv X pins B H s) {a:Addr}(h:s.heap.objs.size<=a):a∉X.fs:=λ hb=>by
 obtain⟨_,o,ho,_⟩:=I.ok.tL.mem hb;exact absurd (zC3 (zA8 ho) (zE0 I.sz h)) (zE1 _)
def Inv.p_ (I:Inv X pins B H s):∀ x c,X.env.cells.lookup x=some c->c≠X.env.locals:=λ x c e z=>by
 obtain⟨v,o,ho,hd⟩:=I.cell x c e;obtain⟨m,⟨o',es,ep,ho',hd',_⟩,_⟩:=I.loc;rw[z,ho'] at ho;cases ho;rw[hd'] at hd;cases hd
theorem Inv.tL (I:Inv X pins B H s):s.heap.FunFrames X.base X.outer:=by
 have all:∀ (l:List Env),(∀ b∈uD l,b∈X.fs)->X.s₀.heap.FunFrames X.base l->s.heap.FunFrames X.base l:=by
  intro l
  induction l with
  | nil=>intro _ _;trivial
  | cons env r ih=>
   intro hs hl;obtain⟨hk,⟨L,o,hf,hn,ho,hd⟩,hr⟩:=hl;have hL:L∈X.fs:=hs L (by unfold uD;rw[List.filterMap_cons,hf];exact zMc);obtain⟨sl,e⟩:=I.base.slot L o ho (I.ok.nv L hL) hL λ z=>I.ok.l5 L z hL;exact⟨hk,⟨L,_,hf,hn,e,hd⟩,ih (λ b hb=>hs b (by unfold uD;rw[List.filterMap_cons,hf];exact zMo _ hb)) hr⟩
 exact all X.outer (λ _ hb=>hb) I.ok.tL
theorem Inv.stack (I:Inv X pins B H s):s.heap.FunFrames X.base X.stack:=by
 rcases I.ok.kC with e | ⟨e,hf⟩
 .rw[e];exact I.tL
 .rw[e];obtain⟨m,hn,_⟩:=I.loc;refine .cons (by rw[I.ok.kind];decide) hf hn ?_ I.tL;exact Heap.get?_none_of_le (zE0 I.ok.og I.ok.above)
def Inv.iY (I:Inv X pins B H s):∀ b∈uD X.stack,b∈X.env.locals::X.fs:=λ b hb=>by
 rcases I.ok.kC with e | ⟨e,hf⟩
 .rw[e] at hb;exact zMo _ hb
 .rw[e] at hb;unfold uD at hb;rw[List.filterMap_cons,hf] at hb;exact hb
def Inv.b6 (I:Inv X pins B H s):∀ b∈uD X.stack,H b=none:=λ b hb=>by
 rcases zA5.mp (I.iY b hb) with e | hb
 .rw[e];exact I.free
 .obtain⟨_,o,ho,_⟩:=I.ok.tL.mem hb;exact I.base.free b o ho (I.ok.nv b hb) λ z=>I.ok.l5 b z hb
def Inv.step {g':Array GenState}{t':Nat}{d':Drawn}{ch:List Addr}(I:Inv X pins B H s)
  (hch:∀ b∈ch,(b∈X.ex\/X.s₀.heap.objs.size<=b)/\b≠X.env.locals/\(∀ x c,X.env.cells.lookup x=some c->c≠b)/\∀ p∈X.pn++pins,p.1≠b)
  (keep:∀ b o,b≠X.env.locals->b∉X.fs->b∉ch->s.heap.get? b=some o->H b=none->h'.get? b=some o)
  (slot:∀ b o,b≠X.env.locals->b∈X.fs->b∉ch->s.heap.get? b=some o->H b=none->∃ sl,h'.get? b=some { o with slots:=sl }) (free:∀ b o,b∉ch->s.heap.get? b=some o->H b=none->H' b=none)
  (there:∀ b o,b∉ch->s.heap.get? b=some o->∃ o',h'.get? b=some o')
  (tZ:∀ b xs,H b=some (.tup xs)->H' b=some (.tup xs)) (rS:∀ b o u,H b=some (.vm o u)->H' b=some (.vm o u)) (qt:∀ b ps,H b=some (.p8 ps)->∃ more,H' b=some (.p8 (ps++more)))
  (ns:∀ m,s.heap.Ns X.env.locals m->h'.Ns X.env.locals m) (zM:xE X.prog X.w H' h') (hg:AllBare g'):
  Inv X pins B H' { s with heap:=h',gens:=g',drawn:=d',toks:=t' }:=by
 have neL:∀ b o,X.s₀.heap.get? b=some o->b≠X.env.locals:=λ b o e=>zB3 (zC3 (zA8 e) I.ok.above);have neC:∀ b o,X.s₀.heap.get? b=some o->b∉X.ex->b∉ch:=λ b o e hx hb=>by
  rcases (hch b hb).1 with z | z
  .exact hx z
  .exact absurd (zC3 (zA8 e) z) (zE1 _)
 have cellK:∀ x c,X.env.cells.lookup x=some c->∀ v,s.heap.IsCell c v->h'.IsCell c v:=λ x c e v ⟨o,ho,hd⟩=>by
  have nch:c∉ch:=λ z=>(hch c z).2.2.1 x c e rfl;by_cases hc:c∈X.fs
  .obtain⟨sl,q⟩:=slot c o (I.p_ x c e) hc nch ho (I.sI x c e);exact⟨_,q,hd⟩
  .exact⟨o,keep c o (I.p_ x c e) hc nch ho (I.sI x c e),hd⟩
 refine⟨I.ok,I.os,hg,⟨λ b o e n hb hx=>?_,λ b o e n hb hx=>?_,λ b o e n hx=>?_,λ b o e hx=>?_,λ b xs e=>tZ b xs (I.base.tZ b xs e),λ b o xs e=>rS b o xs (I.base.rS b o xs e),λ b ps e=>?_⟩,?_,λ x c e=>?_,?_,λ x c e=>?_,λ p hp=>?_,zM,I.len⟩
 .exact keep b o (neL b o e) hb (neC b o e hx) (I.base.keep b o e n hb hx) (I.base.free b o e n hx)
 .obtain⟨sl,e1⟩:=I.base.slot b o e n hb hx;obtain⟨sl',e2⟩:=slot b _ (neL b o e) hb (neC b o e hx) e1 (I.base.free b o e n hx);exact⟨sl',e2⟩
 .obtain⟨o',e1⟩:=I.base.there b o e hx;exact free b o' (neC b o e hx) e1 (I.base.free b o e n hx)
 .obtain⟨o',e1⟩:=I.base.there b o e hx;exact there b o' (neC b o e hx) e1
 .obtain⟨m1,e1⟩:=I.base.qt b ps e;obtain⟨m2,e2⟩:=qt b _ e1;exact⟨m1++m2,by rw[e2,Array.append_assoc]⟩
 .obtain⟨m,hn,hl⟩:=I.loc;refine⟨m,ns m hn,λ i x v e1 e2 e3=>?_⟩;obtain⟨u,r,l⟩:=hl i x v e1 e2 e3;refine⟨u,r,?_⟩;rcases l with l | ⟨k,c,e,z⟩
  .exact .inl l
  .exact .inr ⟨k,c,e,cellK x c e _ z⟩
 .obtain⟨v,z⟩:=I.cell x c e;exact⟨v,cellK x c e v z⟩
 .obtain⟨m,⟨o,_,_,ho,_⟩,_⟩:=I.loc;exact free _ o (λ z=>(hch _ z).2.1 rfl) ho I.free
 .obtain⟨v,o,ho,hd⟩:=I.cell x c e;exact free c o (λ z=>(hch c z).2.2.1 x c e rfl) ho (I.sI x c e)
 .obtain⟨e,n,ne,nf,d⟩:=I.pin p hp;have nch:p.1∉ch:=λ z=>(hch p.1 z).2.2.2 p hp rfl;exact⟨keep p.1 p.2 ne nf nch e n,free p.1 p.2 nch e n,ne,nf,d⟩
def Inv.un {t':Nat}(I:Inv X pins B H s) (u:Un X.fs [] H H' s.heap h') (zM:xE X.prog X.w H' h'):Inv X pins B H' { s with heap:=h',toks:=t' }:=by
 obtain⟨m,⟨o,es,ep,ho,r⟩,_⟩:=id I.loc;obtain⟨sl,hL⟩:=u.any ho I.free (by simp);exact I.step (g':=s.gens) (d':=s.drawn) (ch:=[]) (λ _ z=>nomatch z) (λ b o _ hb _ e n=>u.keep b o e n hb (by simp)) (λ b o _ hb _ e n=>u.slot b o e n hb (by simp)) (λ b o _ e n=>u.free b o e n (by simp)) (λ b o _ e=>u.there b o e (by simp)) u.tZ u.rS u.qt (λ m' hm=>by
  obtain⟨o',es',ep',ho',r'⟩:=hm;rw[ho] at ho';cases ho';exact⟨_,es',ep',hL,r'⟩) zM I.bare
def Inv.call {g':Array GenState}{t':Nat}{d':Drawn}{ch:List Addr}(I:Inv X pins B H s) (u:Un (uD X.stack) ch H H' s.heap h') (zM:xE X.prog X.w H' h') (hg:AllBare g')
  (hch:∀ b∈ch,(b∈X.ex\/X.s₀.heap.objs.size<=b)/\b≠X.env.locals/\(∀ x c,X.env.cells.lookup x=some c->c≠b)/\∀ p∈X.pn++pins,p.1≠b):
  Inv X pins B H' { s with heap:=h',gens:=g',drawn:=d',toks:=t' }:=by
 obtain⟨m,⟨o,es,ep,ho,r⟩,_⟩:=id I.loc;obtain⟨sl,hL⟩:=u.any ho I.free λ z=>(hch _ z).2.1 rfl;exact I.step (ch:=ch) hch (λ b o hL hb hc e n=>u.keep b o e n (λ z=>(zA5.mp (I.iY b z)).elim hL hb) hc) (λ b o _ _ hc e n=>u.any e n hc) (λ b o hc e n=>u.free b o e n hc) (λ b o hc e=>u.there b o e hc) u.tZ u.rS u.qt (λ m' hm=>by
  obtain⟨o',es',ep',ho',r'⟩:=hm;rw[ho] at ho';cases ho';exact⟨_,es',ep',hL,r'⟩) zM hg
def Inv.turned {t':Nat}{it:Addr}(I:Inv X pins B H s) (k:∀ b o,b≠it->s.heap.get? b=some o->h'.get? b=some o) (hn:H it=none) (hL:it≠X.env.locals)
  (h1:it∈X.ex\/X.s₀.heap.objs.size<=it) (h2:∀ x c,X.env.cells.lookup x=some c->c≠it) (h3:∀ p∈X.pn++pins,p.1≠it):Inv X pins B H { s with heap:=h',toks:=t' }:=by
 have nit:∀ b u,H b=some u->b≠it:=λ b u e z=>by rw[z,hn] at e;cases e
 refine I.step (g':=s.gens) (d':=s.drawn) (ch:=[it]) (λ b hb=>?_) (λ b o _ _ hc e _=>k b o (λ z=>hc (by simp[z])) e) (λ b o _ _ hc e _=>⟨o.slots,k b o (λ z=>hc (by simp[z])) e⟩) (λ _ _ _ _ n=>n)
  (λ b o hc e=>⟨o,k b o (λ z=>hc (by simp[z])) e⟩) (λ _ _ e=>e) (λ _ _ _ e=>e) (λ b ps e=>⟨#[],by rw[e];simp⟩) (λ m hm=>?_) (λ b u e=>?_) I.bare
 .have e:b=it:=by simpa using hb
  subst e;exact⟨h1,hL,h2,h3⟩
 .obtain⟨o,es,ep,ho,r⟩:=hm;exact⟨o,es,ep,k _ o (Ne.symm hL) ho,r⟩
 .refine (I.zM b u e).rq (λ c v hc q=>k c v ?_ q) (λ _ q=>q) λ _ _ q=>q;rcases hc with z | z
  .rw[z];exact nit b u e
  .exact nit c _ z
def Inv.tok (I:Inv X pins B H s) (t:Nat):Inv X pins B H { s with toks:=t }:=I.un (h':=s.heap) (t':=t) Un.refl I.zM
theorem Inv.kept {t':Nat}(I:Inv X pins B H s) (k:∀ b u,s.heap.get? b=some u->h'.get? b=some u):Inv X pins B H { s with heap:=h',toks:=t' }:=I.un (Un.kept k) (I.zM.kept k)
theorem Inv.laid {a:Addr}{o:HO}{t':Nat}(I:Inv X pins B H s) (k:∀ b u,s.heap.get? b=some u->h'.get? b=some u) (hp:s.heap.objs.size<=a) (new:xS X.prog X.w (upd H a o) h' a o):
  Inv X pins B (upd H a o) { s with heap:=h',toks:=t' }:=I.un (Un.laid k hp (I.zM.fresh hp)) (I.zM.laid k hp new)
theorem Inv.write {x e:Addr}{o:HO}{t':Nat}(I:Inv X pins B H s) (mu:lZ (H x)) (he:e=x\/H e=some (.own x)) (k:∀ b u,b≠e->s.heap.get? b=some u->h'.get? b=some u) (heo:∃ u,h'.get? e=some u)
  (new:xS X.prog X.w (upd H x o) h' x o):Inv X pins B (upd H x o) { s with heap:=h',toks:=t' }:=I.un (Un.write mu he k heo) (I.zM.write mu he k heo new)
def Inv.fh {pins':List (Addr×Obj)}(I:Inv X pins B H s) (h:∀ p∈pins',s.heap.get? p.1=some p.2/\H p.1=none/\p.1≠X.env.locals/\p.1∉X.fs/\∀ v,p.2.data≠.cell v):Inv X pins' B H s:=
 ⟨I.ok,I.os,I.bare,I.base,I.loc,I.cell,I.free,I.sI,λ p hp=>(zB9.mp hp).elim (λ z=>I.pin p (List.mem_append_left _ z)) (h p),I.zM,I.len⟩
def Zk {N:List Str}(hN:N.Nodup) {i j:Nat}{x:Str}(a:N[i]?=some x) (b:N[j]?=some x):i=j:=by
 obtain⟨h1,e1⟩:=zA2.mp a;obtain⟨h2,e2⟩:=zA2.mp b;exact (List.getElem_inj hN).mp (e1.trans e2.symm)
def VJ {M:Model}{A:Around}{E:Value->Shared->Prop}{i:Nat}{x:Str}{v:V}{u:Value}{Q:Unit->Shared->Prop}(I:Inv X pins B H s) (hN:X.N.Nodup) (hi:X.N[i]?=some x) (hx:Loc X.env.scope x) (r:RelV v u)
  (h:∀ s',Inv X pins (B.set i (some v)) H s'->(∃ a,Heap.SameBut a s.heap s'.heap/\(a=X.env.locals\/X.env.cells.lookup x=some a))->Q () s') (hf:X.fn x=true\/X.env.scope.names.lookup x=some .local:=by first | exact .inl rfl | exact .inr rfl | assumption):wpAny M A (storeName X.env x u) Q E s:=by
 obtain⟨m,hn,hl⟩:=id I.loc;have hcls:(X.env.scope.kind == .class||(X.env.scope.kind == .module&&X.env.locals != X.env.globals))=false:=by rw[I.ok.kind];rfl
 have hiσ:i < B.length:=by rw[I.len];exact (zA2.mp hi).1
 have p_:=I.p_;have tracked:∀ {a:Addr}{h':Heap},(∃ o,s.heap.get? a=some o/\H a=none)->Heap.SameBut a s.heap h'->xE X.prog X.w H h':=λ{a h'} ha hs b ob e=>by
  obtain⟨_,_,hfree⟩:=ha;refine (I.zM b ob e).rq (λ c w' hc q=>(hs.2 c ?_).trans q) (λ _ q=>q) λ _ _ q=>q;rintro rfl;rcases hc with rfl | hc
  .rw[hfree] at e;cases e
  .rw[hfree] at hc;cases hc
 rcases hx with hk | hk
 .refine wpAny_storeName_local hk hn (λ h' hn' hs=>?_) hcls;obtain⟨oL,_,_,hoL,_⟩:=id hn;refine h _ ⟨I.ok,I.os,I.bare,⟨λ b o e n hb hx=>?_,λ b o e n hb hx=>?_,I.base.free,λ b o e hx=>?_,I.base.tZ,I.base.rS,I.base.qt⟩,⟨_,hn',λ j y v' e1 e2 e3=>?_⟩,λ y c e=>?_,I.free,I.sI,λ p hp=>?_,tracked ⟨oL,hoL,I.free⟩ hs,by simpa using I.len⟩ ⟨_,hs,.inl rfl⟩
  .exact (hs.2 b (zB3 (zC3 (zA8 e) I.ok.above))).trans (I.base.keep b o e n hb hx)
  .obtain⟨sl,e1⟩:=I.base.slot b o e n hb hx;exact⟨sl,(hs.2 b (zB3 (zC3 (zA8 e) I.ok.above))).trans e1⟩
  .obtain⟨o',e1⟩:=I.base.there b o e hx;exact⟨o',(hs.2 b (zB3 (zC3 (zA8 e) I.ok.above))).trans e1⟩
  .by_cases hj:j=i
   .subst hj;rw[hi] at e1;cases e1;rw[List.getElem?_set_self hiσ] at e2;cases e2;exact⟨u,r,.inl ⟨hk,by simp⟩⟩
   .rw[List.getElem?_set_ne (Ne.symm hj)] at e2;obtain⟨u',r',q⟩:=hl j y v' e1 e2 e3;refine⟨u',r',?_⟩;rcases q with ⟨k,e⟩ | ⟨k,c,e,z⟩
    .refine .inl ⟨k,?_⟩;have:y≠x:=λ e=>hj (Zk hN e1 (e▸hi));simp[this,e]
    .exact .inr ⟨k,c,e,z.sameBut hs (p_ y c e)⟩
  .obtain⟨w',z⟩:=I.cell y c e;exact⟨w',z.sameBut hs (p_ y c e)⟩
  .obtain⟨e,n,ne,nf,d⟩:=I.pin p hp;exact⟨(hs.2 p.1 ne).trans e,n,ne,nf,d⟩
 .have hfn:X.fn x=true:=by
   rcases hf with z | z
   .exact z
   .rw[z] at hk;cases hk
  obtain⟨c,hc⟩:=I.ok.has x (.inl hk);obtain⟨w',z⟩:=I.cell x c hc;refine wpAny_storeName_cell I.ok.kind hk hc z (λ h' hc' hs=>?_);obtain⟨oc,hoc,hocd⟩:=id z;refine h { s with heap:=h' } ⟨I.ok,I.os,I.bare,⟨λ b o e n hb hx=>?_,λ b o e n hb hx=>?_,I.base.free,λ b o e hx=>?_,I.base.tZ,I.base.rS,I.base.qt⟩,⟨m,hn.sameBut hs (Ne.symm (p_ x c hc)),λ j y v' e1 e2 e3=>?_⟩,λ y c' e=>?_,I.free,I.sI,λ p hp=>?_,tracked ⟨oc,hoc,I.sI x c hc⟩ hs,by simpa using I.len⟩ ⟨c,hs,.inr hc⟩
  .exact (hs.2 b (zB3 (zC3 (zA8 e) (I.ok.lJ x c hfn hc)))).trans (I.base.keep b o e n hb hx)
  .obtain⟨sl,e1⟩:=I.base.slot b o e n hb hx;exact⟨sl,(hs.2 b (zB3 (zC3 (zA8 e) (I.ok.lJ x c hfn hc)))).trans e1⟩
  .obtain⟨o',e1⟩:=I.base.there b o e hx;exact⟨o',(hs.2 b (zB3 (zC3 (zA8 e) (I.ok.lJ x c hfn hc)))).trans e1⟩
  .by_cases hj:j=i
   .subst hj;rw[hi] at e1;cases e1;rw[List.getElem?_set_self hiσ] at e2;cases e2;exact⟨u,r,.inr ⟨.inl hk,c,hc,hc'⟩⟩
   .rw[List.getElem?_set_ne (Ne.symm hj)] at e2;obtain⟨u',r',q⟩:=hl j y v' e1 e2 e3;refine⟨u',r',?_⟩;rcases q with q | ⟨k,c',e,z'⟩
    .exact .inl q
    .refine .inr ⟨k,c',e,z'.sameBut hs ?_⟩;rintro rfl;exact hj (Zk hN e1 (I.ok.inj _ _ _ e hc▸hi))
  .by_cases hcc:c'=c
   .subst hcc;exact⟨_,hc'⟩
   .obtain⟨w2,z2⟩:=I.cell y c' e;exact⟨w2,z2.sameBut hs hcc⟩
  .obtain⟨e,n,ne,nf,d⟩:=I.pin p hp;refine⟨(hs.2 p.1 ?_).trans e,n,ne,nf,d⟩;intro q;rw[q,hoc] at e;have q':oc=p.2:=zD5 e;exact d w' (by rw[<- q'];exact hocd)
def iX {M:Model}{A:Around}{E:Value->Shared->Prop}{i:Nat}{x:Str}{v:V}{u:Value}{Q:Unit->Shared->Prop}(I:Inv X pins B H s) (hN:X.N.Nodup) (hi:X.N[i]?=some x) (hx:Loc X.env.scope x) (r:RelV v u)
  (h:∀ s',Inv X pins (B.set i (some v)) H s'->Q () s') (hf:X.fn x=true\/X.env.scope.names.lookup x=some .local:=by first | exact .inl rfl | exact .inr rfl | assumption):wpAny M A (storeName X.env x u) Q E s:=
 VJ I hN hi hx r (λ s' I' _=>h s' I') hf
def Inv.N4 {s':Shared}{ch:List Addr}(I:Inv X pins B H s) (ho:s'.os=s.os) (u:Un (uD X.stack) ch H H' s.heap s'.heap) (zM:xE X.prog X.w H' s'.heap) (hg:AllBare s'.gens)
  (hch:∀ b∈ch,(b∈X.ex\/X.s₀.heap.objs.size<=b)/\b≠X.env.locals/\(∀ x c,X.env.cells.lookup x=some c->c≠b)/\∀ p∈X.pn++pins,p.1≠b):Inv X pins B H' s':=by
 obtain⟨h',g',d',t',o'⟩:=s';have e:o'=s.os:=ho;subst e;exact I.call (g':=g') (t':=t') (d':=d') u zM hg hch
end
abbrev XK:=Value->Option Addr->Hp->Prop
abbrev St:=List (Option V)
abbrev VK:=V->Hp->Prop
abbrev TE:=St->Hp->VK->Prop
abbrev TT:=St->Hp->(Bool->Hp->Prop)->Prop
abbrev TA:=St->Hp->(List V->Hp->Prop)->Prop
structure Ends where
 nx:St->Hp->Prop
 rt:VK
 bk:St->Hp->Prop:=λ _ _=>False
 ct:St->Hp->Prop:=λ _ _=>False
abbrev TS:=Ends->St->Hp->Prop
def EP (X:Cx) (pins:List (Addr×Obj)) (B:St) (Q:VK) (u:Value) (s':Shared):Prop:=∃ v H',Inv X pins B H' s'/\RelV v u/\Q v H'
def TP (X:Cx) (pins:List (Addr×Obj)) (B:St) (Q:Bool->Hp->Prop) (b:Bool) (s':Shared):Prop:=∃ H',Inv X pins B H' s'/\Q b H'
def AP (X:Cx) (pins:List (Addr×Obj)) (B:St) (Q:List V->Hp->Prop) (us:List Value) (s':Shared):Prop:=∃ vs H',Inv X pins B H' s'/\Vals vs us/\Q vs H'
def SP (X:Cx) (pins:List (Addr×Obj)) (D:Ends) (f:Flow) (s':Shared):Prop:=
 match f with
 | .next=>∃ B' H',Inv X pins B' H' s'/\D.nx B' H'
 | .brk=>∃ B' H',Inv X pins B' H' s'/\D.bk B' H'
 | .cont=>∃ B' H',Inv X pins B' H' s'/\D.ct B' H'
 | .ret u=>∃ v B' H',Inv X pins B' H' s'/\RelV v u/\D.rt v H'
def PE (X:Cx) (e:Expr) (t:TE):Prop:=
 ∀ (pins:List (Addr×Obj)) (s:Shared) (B:St) (H:Hp) (Q:VK),Inv X pins B H s->t B H Q->wpAny (model X.prog X.w) X.A (eval e X.env) (EP X pins B Q) X.xe s
def PT (X:Cx) (e:Expr) (t:TT):Prop:=
 ∀ (pins:List (Addr×Obj)) (s:Shared) (B:St) (H:Hp) (Q:Bool->Hp->Prop),Inv X pins B H s->t B H Q->wpAny (model X.prog X.w) X.A (isTrue e X.env (eval e X.env)) (TP X pins B Q) X.xe s
def PW (X:Cx) (e:Expr) (t:TT):Prop:=
 ∀ (whole:Sem Value) (pins:List (Addr×Obj)) (s:Shared) (B:St) (H:Hp) (Q:Bool->Hp->Prop),Inv X pins B H s->t B H Q->wpAny (model X.prog X.w) X.A (isTrue e X.env whole) (TP X pins B Q) X.xe s
def PW.pt {X:Cx}{e:Expr}{t:TT}(h:PW X e t):PT X e t:=h _
def PA (X:Cx) (es:List Expr) (t:TA):Prop:=
 ∀ (pos:Pos) (pins:List (Addr×Obj)) (s:Shared) (B:St) (H:Hp) (Q:List V->Hp->Prop),Inv X pins B H s->t B H Q->wpAny (model X.prog X.w) X.A (spliced (backTo pos (starEach es X.env))) (AP X pins B Q) X.xe s
def PS (X:Cx) (st:Stmt) (t:TS):Prop:=
 ∀ (pins:List (Addr×Obj)) (s:Shared) (B:St) (H:Hp) (D:Ends),Inv X pins B H s->t D B H->wpAny (model X.prog X.w) X.A (exec st X.env) (SP X pins D) X.xe s
def ve (X:Cx) (st:List Stmt) (t:TS):Prop:=
 ∀ (pins:List (Addr×Obj)) (s:Shared) (B:St) (H:Hp) (D:Ends),Inv X pins B H s->t D B H->wpAny (model X.prog X.w) X.A (execs st X.env) (SP X pins D) X.xe s
def zU {α:Type}{t:Sem α}{Q Q':α->Shared->Prop}{M:Model}{A:Around}{E:Value->Shared->Prop}{s:Shared}(h:wpAny M A t Q E s) (hQ:∀ a s,Q a s->Q' a s):wpAny M A t Q' E s:=wpAny_mono h hQ λ _ _ x=>x
section
variable {X:Cx}
def iR (i:Nat):TE:=fun B H Q=>∃ v,B[i]?=some (some v)/\Q v H
def tC (v:V):TE:=λ _ H Q=>Q v H
def T3 {i:Nat}{x:Str}{pos:Pos}(hN:X.N[i]?=some x) (hv:dE X.env.scope x) (hd:(x == ("__debug__":Str))=false:=by decide) (hcd:(x == ("__classdict__":Str))=false:=by decide):PE X (.Name x pos) (iR i):=by
 intro pins s B H Q I h;obtain⟨v,e,h⟩:=h;obtain⟨m,hn,hl⟩:=I.loc;obtain⟨u,r,l⟩:=hl i x v hN e hv;have fin:EP X pins B Q u s:=⟨v,H,I,r,h⟩
 rcases l with ⟨hk,hm⟩ | ⟨hk,c,hc,hcell⟩
 .exact wpAny_Name (wpAny_loadName_local I.ok.kind hk hn hm fin) hd
 .rcases hk with hk | hk
  .exact wpAny_Name (wpAny_loadName_cell I.ok.kind hk hc hcell fin) hd
  .exact wpAny_Name (wpAny_loadName_free I.ok.kind hk hc hcell fin hcd) hd
def TK {i j pos}:PE X (.Constant (.int i) j pos) (tC (.int i)):=λ _ _ _ H _ I h=>wpAny_Constant_int ⟨.int i,H,I.tok _,⟨_,rfl⟩,h⟩
def T_ {b j pos}:PE X (.Constant (.bool b) j pos) (tC (.bl b)):=λ _ _ _ H _ I h=>Constant_bool ⟨.bl b,H,I,rfl,h⟩
def TC {j pos}:PE X (.Constant .none j pos) (tC .zp):=λ _ _ _ H _ I h=>Constant_none ⟨.zp,H,I,rfl,h⟩
def T6 {x j pos}:PE X (.Constant (.str x) j pos) (tC (.str x)):=λ _ _ _ H _ I h=>Calls.Constant_str ⟨.str x,H,I.tok _,⟨_,rfl⟩,h⟩
def Gl (X:Cx) (x:Str):Prop:=X.env.kindOf x=some .globalImplicit
def Z8 {E:Value->Shared->Prop}{pins:List (Addr×Obj)}{s:Shared}{B:St}{H:Hp}{x:Str}{u:Value}{pos:Pos}{Q:Value->Shared->Prop}(I:Inv X pins B H s) (hg:Gl X x) (hm:X.mg x=some u) (h:Q u s)
  (hd:(x == ("__debug__":Str))=false:=by decide):wpAny (model X.prog X.w) X.A (eval (.Name x pos) X.env) Q E s:=
 Calls.Name_function_global I.ok.kind hg (Calls.loadGlobal_global (by rw[I.ok.glob];exact I.mod.glob.keeps I.bk) hm h) hd
def m_ {E:Value->Shared->Prop}{pins:List (Addr×Obj)}{s:Shared}{B:St}{H:Hp}{x:Str}{u:Value}{pos:Pos}{Q:Value->Shared->Prop}(I:Inv X pins B H s) (hg:Gl X x) (hm:X.mg x=none) (hv:bootBuiltins x=some u) (h:Q u s)
  (hn:x≠"__name__":=by decide) (hd:(x == ("__debug__":Str))=false:=by decide):wpAny (model X.prog X.w) X.A (eval (.Name x pos) X.env) Q E s:=by
 obtain⟨mb,h1,h2⟩:=I.mod.blt;exact Calls.Name_function_global I.ok.kind hg (Calls.loadGlobal_builtin (by rw[I.ok.glob];exact I.mod.glob.keeps I.bk) hm (by rw[I.ok.blt];exact h1.keeps I.bk) ((h2 x hn).trans hv) h) hd
def TN {x:Str}{v:V}{u:Value}{pos:Pos}(hg:Gl X x) (hm:X.mg x=some u) (r:RelV v u) (hd:(x == ("__debug__":Str))=false:=by decide):PE X (.Name x pos) (tC v):=
 λ _ _ _ H _ I h=>Z8 I hg hm ⟨v,H,I,r,h⟩ hd
def TZ {x:Str}{v:V}{u:Value}{pos:Pos}(hg:Gl X x) (hm:X.mg x=none) (hv:bootBuiltins x=some u) (r:RelV v u) (hn:x≠"__name__":=by decide) (hd:(x == ("__debug__":Str))=false:=by decide):PE X (.Name x pos) (tC v):=
 λ _ _ _ H _ I h=>m_ I hg hm hv ⟨v,H,I,r,h⟩ hn hd
variable {a b:Expr}{ta tb:TE}{pos:Pos}
variable {tA tB':TT}{rest:List Expr}
def VH (t u:TT):TT:=fun B H Q=>t B H λ c H1=>if c=true then u B H1 Q else Q false H1
def V3 (t u:TT):TT:=fun B H Q=>t B H λ c H1=>if c=true then Q true H1 else u B H1 Q
def V5 (t:TT):TT:=fun B H Q=>t B H λ c H1=>Q (!c) H1
def UJ (ha:PT X a tA):PW X (.BoolOp .And [a] pos) tA:=by
 intro wh pins s B H Q I h;refine isTrue_and (zU (ha pins s B H Q I h) λ c s1 e=>?_);cases c with
 | true=>exact isTrue_and_nil e
 | false=>exact e
def UH (ha:PT X a tA):PW X (.BoolOp .Or [a] pos) tA:=by
 intro wh pins s B H Q I h;refine isTrue_or (zU (ha pins s B H Q I h) λ c s1 e=>?_);cases c with
 | false=>exact isTrue_or_nil e
 | true=>exact e
def UK (ha:PT X a tA) (hb:PW X (.BoolOp .And (b::rest) pos) tB'):PW X (.BoolOp .And (a::b::rest) pos) (VH tA tB'):=by
 intro wh pins s B H Q I h;refine isTrue_and (zU (ha pins s B H _ I h) λ c s1 ⟨H1,I1,q1⟩=>?_);cases c with
 | true=>exact hb wh pins s1 B H1 Q I1 q1
 | false=>exact⟨H1,I1,q1⟩
def UI (ha:PT X a tA) (hb:PW X (.BoolOp .Or (b::rest) pos) tB'):PW X (.BoolOp .Or (a::b::rest) pos) (V3 tA tB'):=by
 intro wh pins s B H Q I h;refine isTrue_or (zU (ha pins s B H _ I h) λ c s1 ⟨H1,I1,q1⟩=>?_);cases c with
 | true=>exact⟨H1,I1,q1⟩
 | false=>exact hb wh pins s1 B H1 Q I1 q1
def UO (ha:PT X a tA):PT X (.UnaryOp .Not a pos) (V5 tA):=by
 intro pins s B H Q I h;exact isTrue_not (ha pins s B H (λ c H1=>Q (!c) H1) I h)
def VG (ta tb:TE):TE:=fun B H Q=>ta B H λ x H1=>∃ c,x=.bl c/\if c=true then tb B H1 Q else Q (.bl false) H1
def V4 (ta:TE):TE:=fun B H Q=>ta B H λ x H1=>∃ c,x=.bl c/\Q (.bl (!c)) H1
def T9 {op} {t:TE}(h:PE X a t):PE X (.BoolOp op [a] pos) t:=λ pins s B H Q I hw=>BoolOp_one (h pins s B H Q I hw)
def Sb (ha:PE X a ta) (hb:PE X (.BoolOp .And (b::rest) pos) tb):PE X (.BoolOp .And (a::b::rest) pos) (VG ta tb):=by
 intro pins s B H Q I h;refine BoolOp_and (zU (ha pins s B H _ I h) λ v s1 ⟨x,H1,I1,r1,q1⟩=>?_);obtain⟨c,rfl,q1⟩:=q1;cases r1;refine wpAny_truthy_bool ?_;cases c with
 | true=>exact hb pins s1 B H1 Q I1 q1
 | false=>exact⟨.bl false,H1,I1,rfl,q1⟩
def TB (ha:PE X a ta):PE X (.UnaryOp .Not a pos) (V4 ta):=by
 intro pins s B H Q I h;refine UnaryOp_ (zU (ha pins s B H _ I h) λ v s1 ⟨x,H1,I1,r1,q1⟩=>?_);obtain⟨c,rfl,q1⟩:=q1;cases r1;exact not_of (wpAny_truthy_bool ⟨.bl (!c),H1,I1,rfl,q1⟩)
def VA (t:TT) (ta tb:TE):TE:=fun B H Q=>t B H λ c H1=>if c=true then ta B H1 Q else tb B H1 Q
def TL {c:Expr}(hc:PT X c tA) (ha:PE X a ta) (hb:PE X b tb):PE X (.IfExp c a b pos) (VA tA ta tb):=by
 intro pins s B H Q I h;refine wpAny_IfExp (zU (hc pins s B H _ I h) λ d s1 ⟨H1,I1,q1⟩=>?_);cases d with
 | true=>exact ha pins s1 B H1 Q I1 q1
 | false=>exact hb pins s1 B H1 Q I1 q1
end
def yg (K:zFr) (H:Hp) (a:Addr) (xs:List V):Prop:=
 Rd H a (.lst xs)\/
  ∃ (o:Obj) (its:Array Value) (n:Nat),K.lookup a=some o/\o.cls=.type "list"/\o.dict=none/\o.data=.seq its n/\its.size<=sizeLine/\Vals xs its.toList
def yp (K:zFr) (H:Hp) (a:Addr) (xs:List V):Prop:=
 Rd H a (.tup xs)\/
  ∃ (o:Obj) (its:Array Value) (n:Nat),K.lookup a=some o/\o.cls=.type "tuple"/\o.data=.seq its n/\its.size<=sizeLine/\Vals xs its.toList
noncomputable def NR:Value->Option V
 | .none=>some .zp
 | .bool b=>some (.bl b)
 | .int i _=>some (.int i)
 | .str x _=>some (.str x)
 | .bytes b _=>some (.n9 b)
 | .float b _=>some (.j9 b)
 | .ref a=>some (.ref a)
 | .type n=>some (.ty n)
 | _=>none
def RelV.abs {x:V}{u:Value}(r:RelV x u):NR u=some x:=by
 cases x with
 | zp=>cases r;rfl
 | bl _=>cases r;rfl
 | int _=>obtain⟨t,rfl⟩:=r;rfl
 | str _=>obtain⟨t,rfl⟩:=r;rfl
 | n9 _=>obtain⟨t,rfl⟩:=r;rfl
 | j9 _=>obtain⟨t,rfl⟩:=r;rfl
 | ref _=>cases r;rfl
 | ty _=>cases r;rfl
theorem RelV.inj {x y:V}{u:Value}(r:RelV x u) (q:RelV y u):x=y:=zD5 (r.abs.symm.trans q.abs)
theorem Vals.inj:∀ {xs ys:List V}{us:List Value},Vals xs us->Vals ys us->xs=ys
 | _,_,_,.nil,.nil=>rfl
 | _,_,_,.cons r t,.cons r' t'=>by rw[r.inj r',Vals.inj t t']
section
variable {X:Cx}{pins:List (Addr×Obj)}{B:St}{H:Hp}{s:Shared}{a:Addr}{xs ys:List V}
def yg.of {K:zFr}(h:H a=some (.lst xs)):yg K H a xs:=.inl (.inl h)
def yp.of {K:zFr}(h:H a=some (.tup xs)):yp K H a xs:=.inl (.inl h)
def Inv.list (I:Inv X pins B H s) (h:yg X.K H a xs):∃ its:List Value,Vals xs its/\PlainL s.heap a its.toArray/\xs.length<=sizeLine:=by
 rcases h with h | ⟨o,its,n,hk,hc,hd,hs,hz,r⟩
 .obtain⟨z,its,n,r,e⟩:=h.ok I.zM;exact⟨its,r,⟨_,n,e,rfl,rfl,rfl⟩,z⟩
 .refine⟨its.toList,r,⟨o,n,I.uB a o hk,hc,hd,by simpa using hs⟩,?_⟩;have e:=r.length;simp only[zD2] at e;omega
def Inv.tuple (I:Inv X pins B H s) (h:yp X.K H a xs):∃ its:List Value,Vals xs its/\IsTup s.heap a its.toArray/\xs.length<=sizeLine:=by
 rcases h with h | ⟨o,its,n,hk,hc,hs,hz,r⟩
 .obtain⟨z,its,r,p⟩:=h.ok I.zM;exact⟨its,r,p,z⟩
 .refine⟨its.toList,r,⟨o,I.uB a o hk,hc,n,by simpa using hs⟩,?_⟩;have e:=r.length;simp only[zD2] at e;omega
def Inv.fU (I:Inv X pins B H s) (h:yg X.K H a xs) (h':yg X.K H a ys):xs=ys:=by
 obtain⟨its,r,⟨o,n,e,_,_,d⟩,_⟩:=I.list h;obtain⟨its',r',⟨o',n',e',_,_,d'⟩,_⟩:=I.list h';rw[e] at e';cases e';rw[d] at d'
 injection d' with d1 _
 have:its=its':=by simpa using congrArg Array.toList d1
 subst this;exact r.inj r'
def Inv.iP (I:Inv X pins B H s) (h:yp X.K H a xs) (h':yp X.K H a ys):xs=ys:=by
 obtain⟨its,r,⟨o,e,_,n,d⟩,_⟩:=I.tuple h;obtain⟨its',r',⟨o',e',_,n',d'⟩,_⟩:=I.tuple h';rw[e] at e';cases e';rw[d] at d'
 injection d' with d1 _
 have:its=its':=by simpa using congrArg Array.toList d1
 subst this;exact r.inj r'
end
abbrev Cx.tY (X:Cx) (E:Value->Shared->Prop):Cx:={ X with xe:=E }
abbrev Cx.qE (X:Cx):Cx:=X.tY λ _ _=>False
theorem Cx.Ok.tY {X:Cx}(ok:X.Ok) (E:Value->Shared->Prop):(X.tY E).Ok:=
 ⟨ok.mod,ok.kind,ok.glob,ok.blt,ok.above,ok.inj,ok.has,ok.lJ,ok.hd,ok.frames,ok.kC,ok.eP,ok.bs,ok.og,ok.mU,ok.l5,ok.tL,ok.nv⟩
def Cx.Ok.qo {X:Cx}{E:Value->Shared->Prop}(ok:(X.tY E).Ok):X.Ok:=
 ⟨ok.mod,ok.kind,ok.glob,ok.blt,ok.above,ok.inj,ok.has,ok.lJ,ok.hd,ok.frames,ok.kC,ok.eP,ok.bs,ok.og,ok.mU,ok.l5,ok.tL,ok.nv⟩
section
variable {X:Cx}{pins:List (Addr×Obj)}{B:St}{H:Hp}{s:Shared}{E:Value->Shared->Prop}
theorem Inv.tY (I:Inv X pins B H s) (E:Value->Shared->Prop):Inv (X.tY E) pins B H s:=⟨I.ok.tY E,I.os,I.bare,I.base,I.loc,I.cell,I.free,I.sI,I.pin,I.zM,I.len⟩
theorem Inv.qo (I:Inv (X.tY E) pins B H s):Inv X pins B H s:=⟨I.ok.qo,I.os,I.bare,I.base,I.loc,I.cell,I.free,I.sI,I.pin,I.zM,I.len⟩
theorem SP.qo {D:Ends}{f:Flow}{s':Shared}(h:SP (X.tY E) pins D f s'):SP X pins D f s':=by
 cases f with
 | next=>obtain⟨B',H',I,q⟩:=h;exact⟨B',H',I.qo,q⟩
 | brk=>obtain⟨B',H',I,q⟩:=h;exact⟨B',H',I.qo,q⟩
 | cont=>obtain⟨B',H',I,q⟩:=h;exact⟨B',H',I.qo,q⟩
 | ret u=>obtain⟨v,B',H',I,r,q⟩:=h;exact⟨v,B',H',I.qo,r,q⟩
theorem ve.qE {st:List Stmt}{t:TS}(h:ve X.qE st t):ve X st t:=λ pins s B H D I hw=>
 wpAny_mono (h pins s B H D (I.tY _) hw) (λ _ _ q=>q.qo) λ _ _ z=>False.elim z
end
section
variable {X:Cx}{st:Stmt}{rest:List Stmt}{t u:TS}{e:Expr}{te:TE}{pos:Pos}
def V7:TS:=λ D B H=>D.nx B H
def V0 (t u:TS):TS:=λ D B H=>t { D with nx:=u D } B H
def UR:ve X [] V7:=λ _ _ B H _ I h=>wpAny_execs_nil ⟨B,H,I,h⟩
def US (h1:PS X st t) (h2:ve X rest u):ve X (st::rest) (V0 t u):=by
 intro pins s B H D I h;refine wpAny_execs_cons (zU (h1 pins s B H { D with nx:=u D } I h) λ f s1 q=>?_);cases f with
 | next=>
  obtain⟨B',H',I',q⟩:=q;exact h2 pins s1 B' H' D I' q
 | ret v=>exact q
 | brk=>exact q
 | cont=>exact q
def UQ (h1:PS X st t):ve X [st] t:=by
 intro pins s B H D I h;refine wpAny_execs_cons (zU (h1 pins s B H D I h) λ f s1 q=>?_);cases f with
 | next=>exact wpAny_execs_nil q
 | ret v=>exact q
 | brk=>exact q
 | cont=>exact q
def Inv.quiet {pins:List (Addr×Obj)}{B:St}{H:Hp}{s:Shared}(I:Inv X pins B H s):interactive X.env=false:=by simp[interactive,I.ok.kind]
def VC (te:TE):TS:=λ D B H=>te B H λ _ H1=>D.nx B H1
def U_ (he:PE X e te) (hs:swapsWith e none pos.line X.env=pure false:=by rfl):PS X (.Expr e pos) (VC te):=by
 intro pins s B H D I h;exact wpAny_Expr_any (zU (he pins s B H _ I h) λ v s1 ⟨x,H1,I1,r1,q1⟩=>⟨B,H1,I1,q1⟩) I.quiet hs
def V1 (te:TE):TS:=λ D B H=>te B H D.rt
def UX (he:PE X e te):PS X (.Return (some e) pos) (V1 te):=by
 intro pins s B H D I h;exact wpAny_Return_some (zU (he pins s B H _ I h) λ v s1 ⟨x,H1,I1,r1,q1⟩=>⟨x,B,H1,I1,r1,q1⟩)
def V9 (c:TT) (t u:TS):TS:=λ D B H=>c B H λ b H1=>if b=true then t D B H1 else u D B H1
def UY {c:Expr}{a b:List Stmt}{tc:TT}(hc:PT X c tc) (ha:ve X a t) (hb:ve X b u):PS X (.If c a b pos) (V9 tc t u):=by
 intro pins s B H D I h;refine wpAny_If (zU (hc pins s B H _ I h) λ d s1 ⟨H1,I1,q1⟩=>?_);cases d with
 | true=>exact ha pins s1 B H1 D I1 q1
 | false=>exact hb pins s1 B H1 D I1 q1
end
abbrev TG:=V->St->Hp->(St->Hp->Prop)->Prop
abbrev rZ:=List V->St->Hp->(St->Hp->Prop)->Prop
def PG (X:Cx) (target:Expr) (t:TG):Prop:=
 ∀ (pins:List (Addr×Obj)) (s:Shared) (B:St) (H:Hp) (v:V) (u:Value) (Q:St->Hp->Prop),Inv X pins B H s->RelV v u->t v B H Q->
  wpAny (model X.prog X.w) X.A (assign target X.env u) (λ _ s'=>∃ B' H',Inv X pins B' H' s'/\Q B' H') X.xe s
def sZ (X:Cx) (ts:List Expr) (t:rZ):Prop:=
 ∀ (pins:List (Addr×Obj)) (s:Shared) (B:St) (H:Hp) (vs:List V) (us:List Value) (Q:St->Hp->Prop),Inv X pins B H s->Vals vs us->t vs B H Q->
  wpAny (model X.prog X.w) X.A (assignInOrder ((assignEach ts X.env).map (·.2)) us) (λ _ s'=>∃ B' H',Inv X pins B' H' s'/\Q B' H') X.xe s
abbrev dH:=V->V->V->Hp->(Hp->Prop)->Prop
def X2 (X:Cx) (t:dH):Prop:=
 ∀ (pins:List (Addr×Obj)) (s:Shared) (B:St) (H:Hp) (o i v:V) (ov iv u:Value) (Q:Hp->Prop),Inv X pins B H s->RelV o ov->RelV i iv->RelV v u->t o i v H Q->
  wpAny (model X.prog X.w) X.A (setItem ov iv u) (λ _ s'=>∃ H',Inv X pins B H' s'/\Q H') X.xe s
section
variable {X:Cx}{pos:Pos}
noncomputable def nu (i:Nat):TG:=λ v B H Q=>Q (B.set i (some v)) H
def Tw {i:Nat}{x:Str}(hN:X.N.Nodup) (hi:X.N[i]?=some x) (hx:Loc X.env.scope x) (hf:X.fn x=true\/X.env.scope.names.lookup x=some .local:=by first | exact .inl rfl | exact .inr rfl | assumption):PG X (.Name x pos) (nu i):=by
 intro pins s B H v u Q I r h;exact wpAny_assign_Name (iX I hN hi hx r (λ s' I'=>⟨_,H,I',h⟩) hf)
noncomputable def PR:rZ:=λ vs B H Q=>vs=[]/\Q B H
noncomputable def PU (t:TG) (u:rZ):rZ:=λ vs B H Q=>∃ v r,vs=v::r/\t v B H fun B' H'=>u r B' H' Q
def Ts:sZ X [] PR:=by
 intro pins s B H vs us Q I r h;obtain⟨e,h⟩:=h;subst e;cases r;exact assignInOrder_nil ⟨B,H,I,h⟩
def Tt {e:Expr}{es:List Expr}{t:TG}{u:rZ}(h1:PG X e t) (h2:sZ X es u)
  (hs:(assignEach (e::es) X.env).map (·.2)=assign e X.env::(assignEach es X.env).map (·.2):=by rfl):sZ X (e::es) (PU t u):=by
 intro pins s B H vs us Q I r h;obtain⟨v,vr,e1,h⟩:=h;subst e1;cases r with
 | cons r rr=>
  rw[hs];refine assignInOrder_cons (zU (h1 pins s B H _ _ _ I r h) λ _ s1 ⟨B1,H1,I1,q1⟩=>?_);exact h2 pins s1 B1 H1 _ _ Q I1 rr q1
noncomputable def Yh (K:zFr) (n:Nat) (t:rZ):TG:=λ v B H Q=>∃ a xs,v=.ref a/\yp K H a xs/\xs.length=n/\t xs B H Q
def Tu {es:List Expr}{k:Nat}{t:rZ}{n:Nat}(hc:X.calm=true) (h:sZ X es t)
  (hn:(assignEach es X.env).length=n:=by rfl) (hst:(assignEach es X.env).findIdx? (·.1)=none:=by rfl):PG X (.Tuple es k pos) (Yh X.K n t):=by
 intro pins s B H v u Q I r hw;obtain⟨a,xs,e1,hq,hl,hw⟩:=hw;subst e1;cases r;obtain⟨its,rv,ht,hz⟩:=I.tuple hq;refine assign_Tuple_tuple (I.ok.hd hc) ht (by simp[hn,<- hl,rv.length]) hst λ h' hx=>?_;have I1:Inv X pins B H { s with heap:=h' }:=I.kept (t':=s.toks) λ b o e=>hx b o (zB3 (zA8 e)) e;exact h pins _ B H xs _ Q I1 (by simpa using rv) hw
noncomputable def PQ (to ti:TE) (t:dH):TG:=λ v B H Q=>to B H λ o H1=>ti B H1 λ i H2=>t o i v H2 λ H3=>Q B H3
def Tv {o i:Expr}{to ti:TE}{t:dH}(ho:PE X o to) (hi:PE X i ti) (hs:X2 X t)
  (ha:∀ v,assign (.Subscript o i pos) X.env v=(do
   let ov <- holding [v] (eval o X.env)
   let iv <- holding [v,ov] (eval i X.env)
   standAt pos
   holding [v,ov,iv] (setItem ov iv v)
   release [v,ov,iv] []):=by intro _;rfl):PG X (.Subscript o i pos) (PQ to ti t):=by
 intro pins s B H v u Q I r h;rw[ha];refine zWb (wpAny_holding (zU (ho pins s B H _ I h) λ ov s1 ⟨x,H1,I1,r1,q1⟩=>?_));refine zWb (wpAny_holding (zU (hi pins s1 B H1 _ I1 q1) λ iv s2 ⟨y,H2,I2,r2,q2⟩=>?_));refine zWb (wpAny_standAt (zWb (wpAny_holding (zU (hs pins s2 B H2 x y v ov iv u _ I2 r1 r2 r q2) λ _ s3 ⟨H3,I3,q3⟩=>?_))));exact wpAny_release ⟨B,H3,I3,q3⟩
def mv (te:TE) (g:TG):TS:=λ D B H=>te B H λ x H1=>g x B H1 D.nx
def az {tg e:Expr}{te:TE}{g:TG}(he:PE X e te) (hg:PG X tg g) (hs:swapsWithSole [tg] e pos.line X.env=pure false:=by rfl) (hw:swappedStores [tg] e X.env=pure none:=by rfl)
  (h1:(assignEach [tg] X.env).map (·.2)=[assign tg X.env]:=by rfl):PS X (.Assign [tg] e pos) (mv te g):=by
 intro pins s B H D I h;refine wpAny_Assign_stores (zU (he pins s B H _ I h) λ v s1 ⟨x,H1,I1,r1,q1⟩=>?_) hs hw;rw[h1];exact zU (hg pins s1 B H1 x v _ I1 r1 q1) λ _ s2 q=>q
def UW {i:Nat}{x:Str}{e:Expr}{te:TE}{pos':Pos}(hN:X.N.Nodup) (hi:X.N[i]?=some x) (hx:Loc X.env.scope x) (he:PE X e te) (hs:swapsWith e (some (.Name x pos')) pos.line X.env=pure false:=by rfl) (hf:X.fn x=true\/X.env.scope.names.lookup x=some .local:=by first | exact .inl rfl | exact .inr rfl | assumption):
  PS X (.Assign [.Name x pos'] e pos) (mv te (nu i)):=by
 intro pins s B H D I h;refine wpAny_Assign_Name (zU (he pins s B H _ I h) λ v s1 ⟨y,H1,I1,r1,q1⟩=>?_) hs;exact iX I1 hN hi hx r1 (λ s2 I2=>⟨_,H1,I2,q1⟩) hf
end
section
variable {X:Cx}{pos:Pos}
def Vu (c:TT) (tb:TS):TS:=λ D B H=>∃ W:Nat->St->Hp->Prop,(∃ m,W m B H)/\∀ m B H,W m B H->
 c B H λ b H1=>if b=true then ∃ N:St->Hp->Prop,(∀ B' H',N B' H'->∃ m',m'<m/\W m' B' H')/\tb { D with nx:=N,ct:=N,bk:=D.nx } B H1 else D.nx B H1
def UT {c:Expr}{body:List Stmt}{tc:TT}{tb:TS}(hp:PassesOwn (model X.prog X.w) X.A X.env X.xe) (hc:PT X c tc) (hb:ve X body tb):PS X (.While c body [] pos) (Vu tc tb):=by
 intro pins s B H D I h;obtain⟨W,⟨m0,w0⟩,turn⟩:=h;refine wpAny_While (codeAny_whileLoop (λ n s'=>∃ B' H',Inv X pins B' H' s'/\W n B' H') ?_ m0 ⟨B,H,I,w0⟩);rintro n s1 ⟨B1,H1,I1,w1⟩;refine wpAny_passesOwn hp (zU (hc pins s1 B1 H1 _ I1 (turn n B1 H1 w1)) λ b s2 ⟨H2,I2,q2⟩=>?_);cases b with
 | true=>
  obtain⟨N,hN,q2⟩:=q2;rw[if_pos rfl];refine wpAny_passesOwn hp (zU (hb pins s2 B1 H2 _ I2 q2) λ f s3 q3=>?_);cases f with
  | next=>
   obtain⟨B3,H3,I3,n3⟩:=q3;obtain⟨m',hm,w3⟩:=hN B3 H3 n3;exact⟨m',hm,B3,H3,I3,w3⟩
  | cont=>
   obtain⟨B3,H3,I3,n3⟩:=q3;obtain⟨m',hm,w3⟩:=hN B3 H3 n3;exact⟨m',hm,B3,H3,I3,w3⟩
  | brk=>exact q3
  | ret v=>exact q3
 | false=>
  rw[if_neg Bool.false_ne_true];exact wpAny_execs_nil ⟨B1,H2,I2,q2⟩
end
structure It where
 go:Nat->Hp->Prop
 oA:Nat->Hp->V->Hp->Prop
 stop:Nat->Hp->Prop
def uN (X:Cx) (pins:List (Addr×Obj)) (H:Hp) (b:Addr):Prop:=
 H b=none/\b≠X.env.locals/\b∉X.fs/\(b∈X.ex\/X.s₀.heap.objs.size<=b)/\(∀ x c,X.env.cells.lookup x=some c->c≠b)/\∀ p∈X.pn++pins,p.1≠b
def Inv.eM {X:Cx}{pins:List (Addr×Obj)}{B:St}{H H':Hp}{s:Shared}{b:Addr}(I:Inv X pins B H s) (hb:s.heap.objs.size<=b) (hn:H' b=none):uN X pins H' b:=by
 refine⟨hn,Nat.ne_of_gt (zC3 I.lt hb),I.Zi hb,.inr (zE0 I.sz hb),λ x c e z=>?_,λ p hp z=>?_⟩
 .obtain⟨v,q⟩:=I.cell x c e;exact absurd (zC3 q.lt (by rw[z];exact hb)) (zE1 _)
 .exact absurd (zC3 (zA8 (I.pin p hp).1) (by rw[z];exact hb)) (zE1 _)
structure Turn (P:Program) (w:World) (K:zFr) (tg:Expr) (J:It) (fp:List Addr) (it:Addr) (tn:Nat->Heap->Prop):Prop where
 mem:it∈fp
 obj:∀ i h,tn i h->∀ b∈fp,∃ o,h.get? b=some o/\∀ v,o.data≠.cell v
 keep:∀ i h h',tn i h->(∀ b∈fp,∀ o,h.get? b=some o->h'.get? b=some o)->tn i h'
 item:∀ (X:Cx),X.prog=P->X.w=w->X.K=K->X.calm=true->∀ (i:Nat) (pins:List (Addr×Obj)) (s:Shared) (B:St) (H:Hp) (E:Value->Shared->Prop),Inv X pins B H s->(∀ b∈fp,uN X pins H b)->tn i s.heap->J.go i H->
  wpAny (model P w) X.A (pyNext (.ref it)) (λ r s1=>∃ u,r=some u/\
   wpAny (model P w) X.A (letOwnedTupleGo tg (.ref it) u) (λ _ s2=>∃ x H',Inv X pins B H' s2/\RelV x u/\J.oA i H x H'/\tn (i+1) s2.heap/\∀ b∈fp,H' b=none) E s1) E s
 done:∀ (X:Cx),X.prog=P->X.w=w->X.K=K->X.calm=true->∀ (i:Nat) (pins:List (Addr×Obj)) (s:Shared) (B:St) (H:Hp) (E:Value->Shared->Prop),Inv X pins B H s->(∀ b∈fp,uN X pins H b)->tn i s.heap->J.stop i H->
  wpAny (model P w) X.A (pyNext (.ref it)) (λ r s1=>r=none/\Inv X pins B H s1) E s
 self:∀ (A:Around) (i:Nat) (s:Shared) (Q:Value->Shared->Prop) (E:Value->Shared->Prop),tn i s.heap->Q (.ref it) s->wpAny (model P w) A (pyIter (.ref it)) Q E s
abbrev TI:=St->Hp->(It->Hp->Prop)->Prop
def X3 (X:Cx) (pins:List (Addr×Obj)) (B:St) (tg:Expr) (R:It->Hp->Prop) (itv:Value) (s2:Shared):Prop:=
 ∃ (it:Addr) (fp:List Addr) (tn:Nat->Heap->Prop) (J:It) (H':Hp),itv=.ref it/\Inv X pins B H' s2/\Turn X.prog X.w X.K tg J fp it tn/\tn 0 s2.heap/\(∀ b∈fp,uN X pins H' b)/\R J H'
def PI (X:Cx) (tg iter:Expr) (wi:TI):Prop:=
 ∀ (pins:List (Addr×Obj)) (s:Shared) (B:St) (H:Hp) (R:It->Hp->Prop),Inv X pins B H s->wi B H R->
  wpAny (model X.prog X.w) X.A (eval iter X.env) (λ v s1=>wpAny (model X.prog X.w) X.A (pyIter v) (X3 X pins B tg R) X.xe s1) X.xe s
def eE {M:Model}{A:Around}{E:Value->Shared->Prop}{s:Shared}{tg:Expr}{it:Addr}{u:Value}{o:Obj}{n:String}{vs:Array Value}{Q:Unit->Shared->Prop}(ho:s.heap.get? it=some o) (hc:o.cls=.type n) (hd:o.data=.fields vs)
  (hn:["enumerate","zip","dict_itemiterator","dict_reverseitemiterator","odict_iterator","itertools.zip_longest","itertools.pairwise"].contains n=false) (hQ:Q () s):wpAny M A (letOwnedTupleGo tg (.ref it) u) Q E s:=by
 unfold letOwnedTupleGo;cases tg <;> first
  | exact zD1 hQ
  | (cases u <;> first
    | exact zD1 hQ
    | (refine zWb (wpAny_load ho ?_)
       rw[hc,hd];show wpAny M A (if (["enumerate","zip","dict_itemiterator","dict_reverseitemiterator","odict_iterator","itertools.zip_longest","itertools.pairwise"].contains n&&vs[0]? == some (rawInt _))=true then _ else _) Q E s;rw[if_neg (by intro h;rw[hn,Bool.false_and] at h;cases h)];exact zD1 hQ))
def X8 (K:zFr) (a:Addr):It:=
 ⟨λ i H=>∃ xs x,yg K H a xs/\xs[i]?=some x,λ i H x H'=>H'=H/\∀ xs,yg K H a xs->xs[i]?=some x,λ i H=>∃ xs,yg K H a xs/\xs.length<=i⟩
def X7 (K:zFr) (a:Addr):It:=
 ⟨λ i H=>∃ xs x,yp K H a xs/\xs[i]?=some x,λ i H x H'=>H'=H/\∀ xs,yp K H a xs->xs[i]?=some x,λ i H=>∃ xs,yp K H a xs/\xs.length<=i⟩
def i7 (lo:Int) (n:Nat):It:=⟨λ i _=>i<n,λ i H x H'=>H'=H/\x=.int (lo+i),λ i _=>n<=i⟩
def Vo {P:Program}{w:World}{K:zFr}{tg:Expr}(a it:Addr):Turn P w K tg (X8 K a) [it] it (λ i h=>h.IsListIter it a i) where
 mem:=by simp
 obj:=λ i h st b hb=>by
  have e:b=it:=by simpa using hb
  subst e;obtain⟨o,e,c,d⟩:=st;exact⟨o,e,λ v z=>by rw[d] at z;cases z⟩
 keep:=λ i h h' st k=>st.at λ o e=>k it (by simp) o e
 item:=by
  intro X hP hw hK hc i pins s B H E I hf st hg;subst hP hw hK;obtain⟨xs,x,hq,hx⟩:=hg;obtain⟨its,rv,p,hz⟩:=I.list hq;obtain⟨u,hu,ru⟩:=rv.get hx;obtain⟨f0,f1,f2,f3,f4,f5⟩:=hf it (by simp);refine wpAny_pyNext_list_item st p.isList (x:=u) (by simpa using hu) λ h' st' sb=>?_;have I1:Inv X pins B H { s with heap:=h' }:=I.turned (t':=s.toks) (λ b o hb e=>(sb.2 b hb).trans e) f0 f1 f3 f4 f5;obtain⟨o,e,c,d⟩:=id st';exact⟨u,rfl,eE (s:={ s with heap:=h' }) e c d (by decide) ⟨x,H,I1,ru,⟨rfl,λ ys hy=>by rw[I.fU hy hq];exact hx⟩,st',λ b hb=>(hf b hb).1⟩⟩
 done:=by
  intro X hP hw hK hc i pins s B H E I hf st hg;subst hP hw hK;obtain⟨xs,hq,hx⟩:=hg;obtain⟨its,rv,p,hz⟩:=I.list hq;obtain⟨f0,f1,f2,f3,f4,f5⟩:=hf it (by simp);have hl:=rv.length;exact wpAny_pyNext_list_end (I.ok.hd hc) st p.isList (by simp;omega) λ h' eb=>⟨rfl,I.turned (t':=s.toks) (λ b o hb e=>eb b o hb e) f0 f1 f3 f4 f5⟩
 self:=λ _ _ _ _ _ st h=>wpAny_pyIter_listiter st h
def Vm {P:Program}{w:World}{K:zFr}{tg:Expr}(a it:Addr):Turn P w K tg (X7 K a) [it] it (λ i h=>h.IsTupleIter it a i) where
 mem:=by simp
 obj:=λ i h st b hb=>by
  have e:b=it:=by simpa using hb
  subst e;obtain⟨o,e,c,d⟩:=st;exact⟨o,e,λ v z=>by rw[d] at z;cases z⟩
 keep:=λ i h h' st k=>st.at λ o e=>k it (by simp) o e
 item:=by
  intro X hP hw hK hc i pins s B H E I hf st hg;subst hP hw hK;obtain⟨xs,x,hq,hx⟩:=hg;obtain⟨its,rv,p,hz⟩:=I.tuple hq;obtain⟨u,hu,ru⟩:=rv.get hx;obtain⟨f0,f1,f2,f3,f4,f5⟩:=hf it (by simp);refine wpAny_pyNext_tuple_item st (show s.heap.IsTuple a its.toArray from p) (x:=u) (by simpa using hu) λ h' st' sb=>?_;have I1:Inv X pins B H { s with heap:=h' }:=I.turned (t':=s.toks) (λ b o hb e=>(sb.2 b hb).trans e) f0 f1 f3 f4 f5;obtain⟨o,e,c,d⟩:=id st';exact⟨u,rfl,eE (s:={ s with heap:=h' }) e c d (by decide) ⟨x,H,I1,ru,⟨rfl,λ ys hy=>by rw[I.iP hy hq];exact hx⟩,st',λ b hb=>(hf b hb).1⟩⟩
 done:=by
  intro X hP hw hK hc i pins s B H E I hf st hg;subst hP hw hK;obtain⟨xs,hq,hx⟩:=hg;obtain⟨its,rv,p,hz⟩:=I.tuple hq;obtain⟨f0,f1,f2,f3,f4,f5⟩:=hf it (by simp);have hl:=rv.length;exact wpAny_pyNext_tuple_end (I.ok.hd hc) st (show s.heap.IsTuple a its.toArray from p) (by simp;omega) λ h' eb=>⟨rfl,I.turned (t':=s.toks) (λ b o hb e=>eb b o hb e) f0 f1 f3 f4 f5⟩
 self:=λ _ _ _ _ _ st h=>wpAny_pyIter_tupleiter st h
def Vn {P:Program}{w:World}{K:zFr}{tg:Expr}(it:Addr) (lo:Int) (n:Nat):Turn P w K tg (i7 lo n) [it] it (λ i h=>IsRangeIter h it (lo+(i:Nat)*1) ((n:Int)-(i:Nat)) 1) where
 mem:=by simp
 obj:=λ i h st b hb=>by
  have e:b=it:=by simpa using hb
  subst e;exact⟨_,st,λ v z=>by
   have z':Data.fields _=Data.cell v:=z;cases z'⟩
 keep:=λ i h h' st k=>k it (by simp) _ st
 item:=by
  intro X hP hw hK hc i pins s B H E I hf st hg;subst hP hw hK;obtain⟨f0,f1,f2,f3,f4,f5⟩:=hf it (by simp);have W:=Walks.range (prog:=X.prog) (w:=X.w) (I.ok.hd hc) it lo 1 n;refine W.item i s _ _ hg st λ v h' tk hv st' kk=>?_;obtain⟨t,rfl⟩:=hv;have I1:Inv X pins B H { s with heap:=h',toks:=tk }:=I.turned (λ b o hb e=>kk b o (by simpa using hb) e) f0 f1 f3 f4 f5;refine⟨_,rfl,eE (s:={ s with heap:=h',toks:=tk }) (n:="range_iterator") st' rfl rfl (by decide) ⟨.int (lo+i),H,I1,⟨t,?_⟩,⟨rfl,rfl⟩,st',λ b hb=>(hf b hb).1⟩⟩;rw[Int.mul_one]
 done:=by
  intro X hP hw hK hc i pins s B H E I hf st hg;subst hP hw hK;obtain⟨f0,f1,f2,f3,f4,f5⟩:=hf it (by simp);exact wpAny_pyNext_range_end (I.ok.hd hc) st (by have:n<=i:=hg;omega) λ h' eb=>⟨rfl,I.turned (t':=s.toks) (λ b o hb e=>eb b o hb e) f0 f1 f3 f4 f5⟩
 self:=λ _ _ _ _ _ st h=>wpAny_pyIter_rangeiter st h
section
variable {X:Cx}{tg:Expr}
def UA {pins:List (Addr×Obj)}{B:St}{H:Hp}{s:Shared}{R:It->Hp->Prop}{E:Value->Shared->Prop}{lo hi:Int}{t u v:Tok}{tk:Nat}(I:Inv X pins B H s) (h1:-(2 ^ 62)<=lo) (h2:lo<2 ^ 62) (h3:-(2 ^ 62)<=hi) (h4:hi<2 ^ 62)
  (q:R (i7 lo (hi-lo).toNat) H):wpAny (model X.prog X.w) X.A (pyIter (.ref s.heap.objs.size)) (X3 X pins B tg R) E { s with heap:=s.heap.push { cls:=.type "range",data:=.fields #[.int lo t,.int hi u,.int 1 v] },toks:=tk }:=by
 refine wpAny_pyIter_range (IsRange.new ..) (small_one h1 h2 h3 h4) ?_;have I1:Inv X pins B H { s with heap:=s.heap.push { cls:=.type "range",data:=.fields #[.int lo t,.int hi u,.int 1 v] },toks:=tk }:=I.kept λ b o e=>zHp _ e;refine⟨(s.heap.push { cls:=.type "range",data:=.fields #[.int lo t,.int hi u,.int 1 v] }).objs.size,[(s.heap.push { cls:=.type "range",data:=.fields #[.int lo t,.int hi u,.int 1 v] }).objs.size],_,_,H,rfl,
  I1.kept (t':=tk) λ b o e=>zHp _ e,Vn _ lo (hi-lo).toNat,?_,λ b hb=>?_,q⟩
 .have e1:lo+((0:Nat):Int)*1=lo:=by simp
  have e2:(((hi-lo).toNat:Nat):Int)-((0:Nat):Int)=Builtin.Range.rangeSize lo hi 1:=by rw[rangeSize_one];split <;> omega
  show IsRangeIter _ _ (lo+((0:Nat):Int)*1) ((((hi-lo).toNat:Nat):Int)-((0:Nat):Int)) 1;rw[e1,e2];exact zA9 _ rfl
 .have e:b=(s.heap.push { cls:=.type "range",data:=.fields #[.int lo t,.int hi u,.int 1 v] }).objs.size:=by simpa using hb
  subst e;exact I1.eM (zA4 _) (I1.zM.fresh (zA4 _))
def Z_ (ta:TA):TI:=fun B H R=>ta B H λ vs H1=>∃ j:Int,vs=[.int j]/\-(2 ^ 62)<=j/\j<2 ^ 62/\R (i7 0 j.toNat) H1
def Tq {a:Expr}{ta:TA}{p pos:Pos}(hg:Gl X "range") (hm:X.mg "range"=none) (ha:PA X [a] ta) (hs:starEach [a] X.env=[(false,eval a X.env)]:=by rfl):PI X tg (.Call (.Name "range" p) [a] [] pos) (Z_ ta):=by
 intro pins s B H R I h;refine Call_ (m_ I hg hm boot_range (PyProof.Rows.callWith_type1 (zU (ha pos pins s B H _ I h) λ us s1 ⟨vs,H1,I1,r1,q1⟩=>?_) hs rfl));obtain⟨j,e,q1,q2,q⟩:=q1;subst e;cases r1 with
 | cons r rr=>
  cases rr;obtain⟨t,rfl⟩:=r;exact call_range_1 (UA I1 (by omega) (by omega) q1 q2 (by simpa using q))
def VB (wi:TI) (g:TG) (tb:TS):TS:=λ D B H=>wi B H λ J H1=>∃ W:Nat->Nat->St->Hp->Prop,(∃ m,W 0 m B H1)/\∀ i m B H,W i m B H->
 (J.stop i H/\D.nx B H)\/(J.go i H/\∃ N:St->Hp->Prop,(∀ B' H',N B' H'->∃ m',m'<m/\W (i+1) m' B' H')/\∀ x H',J.oA i H x H'->g x B H' fun B2 H2=>tb { D with nx:=N,ct:=N,bk:=D.nx } B2 H2)
noncomputable def mG (fp:List Addr) (h:Heap):List (Addr×Obj):=fp.filterMap λ b=>(h.get? b).map λ o=>(b,o)
def js {fp:List Addr}{h:Heap}{b:Addr}{o:Obj}(hb:b∈fp) (e:h.get? b=some o):(b,o)∈mG fp h:=List.mem_filterMap.mpr ⟨b,hb,by rw[e];rfl⟩
def Qk {fp:List Addr}{h:Heap}{p:Addr×Obj}(hp:p∈mG fp h):p.1∈fp/\h.get? p.1=some p.2:=by
 obtain⟨b,hb,e⟩:=List.mem_filterMap.mp hp;cases q:h.get? b with
 | none=>rw[q] at e;cases e
 | some o=>
  rw[q] at e;have e':(b,o)=p:=zD5 e;subst e';exact⟨hb,q⟩
def Inv.pinned {pins:List (Addr×Obj)}{B:St}{H:Hp}{s:Shared}{fp:List Addr}(I:Inv X pins B H s) (hf:∀ b∈fp,uN X pins H b) (ho:∀ b∈fp,∃ o,s.heap.get? b=some o/\∀ v,o.data≠.cell v):Inv X (pins++mG fp s.heap) B H s:=
 I.fh λ p hp=>(zB9.mp hp).elim (λ z=>I.pin p (zB4 _ z)) λ z=>by
  obtain⟨hb,e⟩:=Qk z;obtain⟨f0,f1,f2,_⟩:=hf p.1 hb;obtain⟨o,e',d⟩:=ho p.1 hb;rw[e] at e';cases e';exact⟨e,f0,f1,f2,d⟩
def Inv.mq {pins pl:List (Addr×Obj)}{B:St}{H:Hp}{s:Shared}(I:Inv X (pins++pl) B H s):Inv X pins B H s:=I.fh λ p hp=>I.pin p (zB4 _ (List.mem_append_left _ hp))
def UZ {iter:Expr}{body:List Stmt}{wi:TI}{g:TG}{tb:TS}{pos:Pos}(hp:PassesOwn (model X.prog X.w) X.A X.env X.xe) (hc:X.calm=true) (hi:PI X tg iter wi) (hg:PG X tg g) (hb:ve X body tb)
  (hs:∀ x,foldedSetIterable iter X.env x=pure x:=by intro _;rfl):PS X (.For tg iter body [] pos) (VB wi g tb):=by
 intro pins s B H D I h;refine wpAny_For (zU (hi pins s B H _ I h) λ v s1 h1=>zU h1 λ itv s2 h2=>?_) hs;obtain⟨it,fp,tn,J,H2,e,I2,T,st2,f2,W,⟨m0,w0⟩,turn⟩:=h2;subst e;have stat:∀ {H':Hp},(∀ b∈fp,H' b=none)->∀ b∈fp,uN X pins H' b:=λ hn b hb=>⟨hn b hb,(f2 b hb).2⟩;refine codeAny_forLoop_any (λ n s'=>∃ i B' H',Inv X pins B' H' s'/\tn i s'.heap/\(∀ b∈fp,H' b=none)/\W i n B' H') ?_ m0 ⟨0,B,H2,I2,st2,λ b hb=>(f2 b hb).1,w0⟩;rintro n s3 ⟨i,B3,H3,I3,st3,fr3,w3⟩;rcases turn i n B3 H3 w3 with ⟨stop,qn⟩ | ⟨go,N,hN,step⟩
 .refine wpAny_passesOwn hp (zU (T.done X rfl rfl rfl hc i pins s3 B3 H3 X.xe I3 (stat fr3) st3 stop) λ r s4 ⟨hr,I4⟩=>?_);subst hr;exact wpAny_execs_nil ⟨B3,H3,I4,qn⟩
 .refine wpAny_passesOwn hp (zU (T.item X rfl rfl rfl hc i pins s3 B3 H3 X.xe I3 (stat fr3) st3 go) λ r s4 ⟨u,hr,h4⟩=>?_);subst hr;refine wpAny_passesOwn hp (zU h4 λ _ s5 ⟨x,H5,I5,r5,y5,st5,fr5⟩=>?_);have I5':=I5.pinned (stat fr5) (T.obj _ _ st5);refine wpAny_passesOwn hp (zU (hg _ s5 B3 H5 x u _ I5' r5 (step x H5 y5)) λ _ s6 ⟨B6,H6,I6,q6⟩=>?_);refine wpAny_passesOwn hp (zU (hb _ s6 B6 H6 _ I6 q6) λ f s7 q7=>?_);have again:∀ {B7:St}{H7:Hp},Inv X (pins++mG fp s5.heap) B7 H7 s7->N B7 H7->∃ m,m<n/\∃ i B' H',Inv X pins B' H' s7/\tn i s7.heap/\(∀ b∈fp,H' b=none)/\W i m B' H':=λ{B7 H7} I7 n7=>by
   obtain⟨m',hm,w7⟩:=hN B7 H7 n7;refine⟨m',hm,i+1,B7,H7,I7.mq,T.keep _ _ _ st5 λ b hb o e=>(I7.pin (b,o) (zB4 _ (zB4 _ (js hb e)))).1,λ b hb=>?_,w7⟩;obtain⟨o,e,d⟩:=T.obj _ _ st5 b hb;exact (I7.pin (b,o) (zB4 _ (zB4 _ (js hb e)))).2.1
  cases f with
  | next=>obtain⟨B7,H7,I7,n7⟩:=q7;exact again I7 n7
  | cont=>obtain⟨B7,H7,I7,n7⟩:=q7;exact again I7 n7
  | brk=>obtain⟨B7,H7,I7,q7⟩:=q7;exact⟨B7,H7,I7.mq,q7⟩
  | ret v=>obtain⟨x7,B7,H7,I7,r7,q7⟩:=q7;exact⟨x7,B7,H7,I7.mq,r7,q7⟩
end
abbrev R2:=V->V->Hp->VK->Prop
def y9 (X:Cx) (f:Value->Value->Sem Value) (r:R2):Prop:=
 ∀ (pins:List (Addr×Obj)) (s:Shared) (B:St) (H:Hp) (x y:V) (v u:Value) (Q:VK),Inv X pins B H s->RelV x v->RelV y u->r x y H Q->
  wpAny (model X.prog X.w) X.A (f v u) (EP X pins B Q) X.xe s
def dF (X:Cx) (f:Value->Sem Value) (r:V->Hp->VK->Prop):Prop:=
 ∀ (pins:List (Addr×Obj)) (s:Shared) (B:St) (H:Hp) (x:V) (v:Value) (Q:VK),Inv X pins B H s->RelV x v->r x H Q->
  wpAny (model X.prog X.w) X.A (f v) (EP X pins B Q) X.xe s
def xk (X:Cx) (f:Value) (r:List V->Hp->VK->Prop):Prop:=
 ∀ (pins:List (Addr×Obj)) (s:Shared) (B:St) (H:Hp) (xs:List V) (us:List Value) (Q:VK),Inv X pins B H s->Vals xs us->r xs H Q->
  wpAny (model X.prog X.w) X.A (call f us) (EP X pins B Q) X.xe s
def NT (X:Cx) (r:V->Hp->(Bool->Hp->Prop)->Prop):Prop:=
 ∀ (pins:List (Addr×Obj)) (s:Shared) (B:St) (H:Hp) (x:V) (v:Value) (Q:Bool->Hp->Prop),Inv X pins B H s->RelV x v->r x H Q->
  wpAny (model X.prog X.w) X.A (truthy v) (TP X pins B Q) X.xe s
def mr (r:R2) (ta tb:TE):TE:=fun B H Q=>ta B H λ x H1=>tb B H1 λ y H2=>r x y H2 Q
def Vv (r:V->Hp->VK->Prop) (ta:TE):TE:=fun B H Q=>ta B H λ x H1=>r x H1 Q
def rI (C:Int->Int->Prop) (g:Int->Int->V):R2:=λ x y H Q=>∃ i j,x=.int i/\y=.int j/\C i j/\Q (g i j) H
def vN (g:Int->Int->V):R2:=λ x y H Q=>∃ i j,x=.int i/\y=.int j/\Q (g i j) H
def rU (g:Int->V):V->Hp->VK->Prop:=λ x H Q=>∃ i,x=.int i/\Q (g i) H
section
variable {X:Cx}{a b c:Expr}{ta tb tc:TE}{pos:Pos}
def du (ha:PE X a ta) (hb:PE X b tb) {pins:List (Addr×Obj)}{s:Shared}{B:St}{H:Hp}{R:V->V->Hp->Prop}(I:Inv X pins B H s)
  (h:ta B H λ x H1=>tb B H1 λ y H2=>R x y H2) {Q:Value->Shared->Prop}{f:Value->Value->Sem Value}
  (hf:∀ v u s2 x y H2,Inv X pins B H2 s2->RelV x v->RelV y u->R x y H2->wpAny (model X.prog X.w) X.A (f v u) Q X.xe s2):
  wpAny (model X.prog X.w) X.A (eval a X.env) (λ v s₁=>wpAny (model X.prog X.w) X.A (eval b X.env) (λ u s₂=>wpAny (model X.prog X.w) X.A (f v u) Q X.xe s₂) X.xe s₁) X.xe s:=by
 refine zU (ha pins s B H _ I h) λ v s1 ⟨x,H1,I1,r1,q1⟩=>?_;refine zU (hb pins s1 B H1 _ I1 q1) λ u s2 ⟨y,H2,I2,r2,q2⟩=>?_;exact hf v u s2 x y H2 I2 r1 r2 q2
def T8 {op:Operator}{r:R2}(ho:y9 X (binaryOp op) r) (ha:PE X a ta) (hb:PE X b tb):PE X (.BinOp a op b pos) (mr r ta tb):=by
 intro pins s B H Q I h;exact wpAny_BinOp (du ha hb I h λ v u s2 x y H2 I2 rx ry q=>ho pins s2 B H2 x y v u Q I2 rx ry q)
def T4 {op:UnaryOp}{r:V->Hp->VK->Prop}(ho:dF X (unaryOp op) r) (ha:PE X a ta):PE X (.UnaryOp op a pos) (Vv r ta):=by
 intro pins s B H Q I h;exact UnaryOp_ (zU (ha pins s B H _ I h) λ v s1 ⟨x,H1,I1,r1,q1⟩=>ho pins s1 B H1 x v Q I1 r1 q1)
def jh {f:Value->Value->Sem Value}{C:Int->Int->Prop}{g:Int->Int->Int}
  (rule:∀ (i j:Int) (t u:Tok) (s:Shared) (Q:Value->Shared->Prop) (E:Value->Shared->Prop),C i j->Q (.int (g i j) s.toks) { s with toks:=s.toks+1 }->wpAny (model X.prog X.w) X.A (f (.int i t) (.int j u)) Q E s):
  y9 X f (rI C λ i j=>.int (g i j)):=by
 intro pins s B H x y v u Q I rx ry h;obtain⟨i,j,rfl,rfl,hc,q⟩:=h;obtain⟨t,rfl⟩:=rx;obtain⟨t',rfl⟩:=ry;exact rule i j t t' s _ _ hc ⟨.int (g i j),H,I.tok _,⟨_,rfl⟩,q⟩
def aX {f:Value->Value->Sem Value}{g:Int->Int->Int}
  (rule:∀ (i j:Int) (t u:Tok) (s:Shared) (Q:Value->Shared->Prop) (E:Value->Shared->Prop),Q (.int (g i j) s.toks) { s with toks:=s.toks+1 }->wpAny (model X.prog X.w) X.A (f (.int i t) (.int j u)) Q E s):
  y9 X f (vN λ i j=>.int (g i j)):=by
 intro pins s B H x y v u Q I rx ry h;obtain⟨i,j,rfl,rfl,q⟩:=h;obtain⟨t,rfl⟩:=rx;obtain⟨t',rfl⟩:=ry;exact rule i j t t' s _ _ ⟨.int (g i j),H,I.tok _,⟨_,rfl⟩,q⟩
def ji {f:Value->Value->Sem Value}{g:Int->Int->Bool}
  (rule:∀ (i j:Int) (t u:Tok) (s:Shared) (Q:Value->Shared->Prop) (E:Value->Shared->Prop),Q (.bool (g i j)) s->wpAny (model X.prog X.w) X.A (f (.int i t) (.int j u)) Q E s):
  y9 X f (vN λ i j=>.bl (g i j)):=by
 intro pins s B H x y v u Q I rx ry h;obtain⟨i,j,rfl,rfl,q⟩:=h;obtain⟨t,rfl⟩:=rx;obtain⟨t',rfl⟩:=ry;exact rule i j t t' s _ _ ⟨.bl (g i j),H,I,rfl,q⟩
def wK (i j:Int):Prop:=0<j/\j<1073741824
def pz (i j:Int):Prop:=0<=j/\j<=1000000/\i.natAbs<2 ^ 64
def vo (i j:Int):Prop:=(-(2 ^ 64)<i/\i<2 ^ 64)\/(-(2 ^ 64)<j/\j<2 ^ 64)
def vo.ok {i j:Int}(h:vo i j):IntMulOk i j:=by
 rcases h with ⟨h1,h2⟩ | ⟨h1,h2⟩
 .exact .of_left (intBits_le_64 h1 h2)
 .exact .of_right (intBits_le_64 h1 h2)
def Ro:y9 X (binaryOp .Add) (vN λ i j=>.int (i+j)):=aX λ _ _ _ _ _ _ _ q=>add_int q
def SO:y9 X (binaryOp .Sub) (vN λ i j=>.int (i-j)):=aX λ _ _ _ _ _ _ _ q=>sub_int q
def SX:y9 X (binaryOp .Mult) (rI vo λ i j=>.int (i*j)):=jh λ _ _ _ _ _ _ _ hc q=>mul_int q hc.ok
def Rh:y9 X (binaryOp .FloorDiv) (rI wK λ i j=>.int (i/j)):=jh λ i j _ _ _ _ _ hc q=>by
 have h1:(0:Int)<j:=hc.1;have h2:j<1073741824:=hc.2;exact floordiv_int (by omega) (by rw[Int.fdiv_eq_ediv_of_nonneg i (by omega)];exact q) (.inl (PyProof.noPylong_small (by omega)))
def SY:y9 X (binaryOp .Mod) (rI (λ _ j=>0<j) λ i j=>.int (i%j)):=jh λ i j _ _ _ _ _ hc q=>by
 have h1:(0:Int)<j:=hc;exact mod_int' (by omega) (by rw[Int.fmod_eq_emod_of_nonneg i (by omega)];exact q)
def SR:y9 X (binaryOp .Pow) (rI pz λ i j=>.int (i ^ j.toNat)):=jh λ _ _ _ _ _ _ _ hc q=>pow_int_small hc.1 hc.2.1 hc.2.2 q
def Vj {f:Value->Sem Value}{g:Int->Int}
  (rule:∀ (i:Int) (t:Tok) (s:Shared) (Q:Value->Shared->Prop) (E:Value->Shared->Prop),Q (.int (g i) s.toks) { s with toks:=s.toks+1 }->wpAny (model X.prog X.w) X.A (f (.int i t)) Q E s):
  dF X f (rU λ i=>.int (g i)):=by
 intro pins s B H x v Q I rx h;obtain⟨i,rfl,q⟩:=h;obtain⟨t,rfl⟩:=rx;exact rule i t s _ _ ⟨.int (g i),H,I.tok _,⟨_,rfl⟩,q⟩
def Vi:dF X (unaryOp .USub) (rU λ i=>.int (-i)):=Vj λ _ _ _ _ _ q=>neg_int q
end
section
variable {X:Cx}{a b c:Expr}{ta tb tc:TE}{pos:Pos}
def Yo {pins:List (Addr×Obj)}{B:St}{H:Hp}{s:Shared}{Q:VK}{k k':Bool}(I:Inv X pins B H s) (q:Q (.bl k) H) (e:k=k'):EP X pins B Q (.bool k') s:=by
 subst e;exact⟨.bl k,H,I,rfl,q⟩
def Ra:y9 X (compareOp .Lt) (vN λ i j=>.bl (decide (i<j))):=ji λ _ _ _ _ _ _ _ q=>lt_int q
def f9:y9 X (compareOp .LtE) (vN λ i j=>.bl (decide (i<=j))):=ji λ _ _ _ _ _ _ _ q=>le_int q
def Rg:y9 X (compareOp .Gt) (vN λ i j=>.bl (decide (j<i))):=ji λ _ _ _ _ _ _ _ q=>gt_int q
def aW:y9 X (compareOp .GtE) (vN λ i j=>.bl (decide (j<=i))):=ji λ _ _ _ _ _ _ _ q=>ge_int q
def Rb:y9 X (compareOp .Is) (λ x y H Q=>y=.zp/\Q (.bl (decide (x=.zp))) H):=by
 intro pins s B H x y v u Q I rx ry h;obtain⟨rfl,q⟩:=h;cases ry;refine is_none_gen (Yo I q ?_);cases x <;> first
  | (cases rx;rfl)
  | (obtain⟨t,rfl⟩:=rx;rfl)
def aR:y9 X (compareOp .IsNot) (λ x y H Q=>y=.zp/\Q (.bl (!decide (x=.zp))) H):=by
 intro pins s B H x y v u Q I rx ry h;obtain⟨rfl,q⟩:=h;cases ry;refine isnot_none_gen (Yo I q ?_);cases x <;> first
  | (cases rx;rfl)
  | (obtain⟨t,rfl⟩:=rx;rfl)
def y9.or {f:Value->Value->Sem Value}{r r':R2}(h:y9 X f r) (h':y9 X f r'):y9 X f (λ x y H Q=>r x y H Q\/r' x y H Q):=by
 intro pins s B H x y v u Q I rx ry q;rcases q with q | q
 .exact h pins s B H x y v u Q I rx ry q
 .exact h' pins s B H x y v u Q I rx ry q
def tH (b:Expr) {op:CmpOp}(h:op≠.In:=by decide) (h2:op≠.NotIn:=by decide):behindInMarks op b=false:=by
 have e1:(op == CmpOp.In)=false:=by cases op <;> first | rfl | exact absurd rfl h
 have e2:(op == CmpOp.NotIn)=false:=by cases op <;> first | rfl | exact absurd rfl h2
 cases b <;> simp[behindInMarks,e1,e2]
def TV {op:CmpOp}{r:R2}(ho:y9 X (compareOp op) r) (ha:PE X a ta) (hb:PE X b tb) (hm:behindInMarks op b=false):PE X (.Compare a [op] [b] pos) (mr r ta tb):=by
 intro pins s B H Q I h;exact wpAny_Compare1 (du ha hb I h λ v u s2 x y H2 I2 rx ry q=>ho pins s2 B H2 x y v u Q I2 rx ry q) hm
def Vy (t:TE):TT:=fun B H Q=>t B H λ x H'=>∃ k,x=.bl k/\Q k H'
def UP {op:CmpOp}{r:R2}(ho:y9 X (compareOp op) r) (ha:PE X a ta) (hb:PE X b tb) (hm:behindInMarks op b=false):PT X (.Compare a [op] [b] pos) (Vy (mr r ta tb)):=by
 intro pins s B H Q I h;refine wpAny_isTrue_Compare1 (zU (ha pins s B H _ I h) λ v s1 ⟨x,H1,I1,r1,q1⟩=>zU (hb pins s1 B H1 _ I1 q1) λ u s2 ⟨y,H2,I2,r2,q2⟩=>
  zU (ho pins s2 B H2 x y v u _ I2 r1 r2 q2) λ c s3 ⟨z,H3,I3,r3,k,e,q3⟩=>?_) hm
 subst e;cases r3;exact wpAny_truthy_bool ⟨H3,I3,q3⟩
def bx (r r':R2) (ta tb tc:TE):TE:=fun B H Q=>ta B H λ x H1=>tb B H1 λ y H2=>r x y H2 λ z H3=>∃ k,z=.bl k/\
 (if k=true then tc B H3 λ w' H4=>r' y w' H4 Q else Q (.bl false) H3)
def TX {op op':CmpOp}{r r':R2}(ho:y9 X (compareOp op) r) (ho':y9 X (compareOp op') r') (ha:PE X a ta) (hb:PE X b tb) (hc:PE X c tc)
  (hm:lastMarks [op,op'] [b,c]=false:=by with_unfolding_all rfl):PE X (.Compare a [op,op'] [b,c] pos) (bx r r' ta tb tc):=by
 intro pins s B H Q I h;refine Compare_chain (zU (ha pins s B H _ I h) λ v s1 ⟨x,H1,I1,r1,q1⟩=>chain_link (zU (hb pins s1 B H1 _ I1 q1) λ u s2 ⟨y,H2,I2,r2,q2⟩=>
  zU (ho pins s2 B H2 x y v u _ I2 r1 r2 q2) λ d s3 ⟨z,H3,I3,r3,k,e,q3⟩=>?_)) hm
 subst e;cases r3;refine wpAny_truthy_bool ?_;cases k with
 | false=>exact ite_ff ⟨.bl false,H3,I3,rfl,q3⟩
 | true=>exact ite_tt (chain_last (zU (hc pins s3 B H3 _ I3 q3) λ w' s4 ⟨z',H4,I4,r4,q4⟩=>ho' pins s4 B H4 y z' u w' Q I4 r2 r4 q4))
def dG (K:zFr) (x:V) (H:Hp) (k:Bool):Prop:=
 match x with
 | .zp=>k=false
 | .bl b=>k=b
 | .int i=>k=(i != 0)
 | .str y=>y.length<=sizeLine/\k=((y.length:Int) != 0)
 | .n9 y=>y.size<=sizeLine/\k=((y.size:Int) != 0)
 | .ref p=>(∃ xs,yg K H p xs/\k=!xs.isEmpty)\/(∃ xs,yp K H p xs/\k=!xs.isEmpty)\/∃ kvs,H p=some (.dK kvs)/\k=!kvs.isEmpty
 | _=>False
def Ph {κ:Type}{kvs:List (κ × V)}{vs:List (κ × Value)}(r:KV kvs vs):(!vs.isEmpty)=!kvs.isEmpty:=by
 cases r <;> rfl
def ZL {xs:List V}{its:List Value}(r:Vals xs its):(!its.toArray.isEmpty)=!xs.isEmpty:=by
 cases r <;> simp
def pP:(sizeLine:Nat)<2 ^ 63:=by rw[sizeLine_eq];decide
def Vs:NT X (λ x H Q=>∃ k,dG X.K x H k/\Q k H):=by
 intro pins s B H x v Q I rx h;obtain⟨k,e,q⟩:=h;have hl:=pP;have hs:sizeLine=16777216:=sizeLine_eq;cases x with
 | zp=>
  cases rx;have e':k=false:=e;subst e';exact truthy_none ⟨H,I,q⟩
 | bl b=>
  cases rx;have e':k=b:=e;subst e';exact wpAny_truthy_bool ⟨H,I,q⟩
 | int i=>
  obtain⟨t,rfl⟩:=rx;have e':k=(i != 0):=e;subst e';exact PySem.P.truthy_int ⟨H,I,q⟩
 | str y=>
  obtain⟨t,rfl⟩:=rx;obtain⟨hy,e'⟩:y.length<=sizeLine/\k=((y.length:Int) != 0):=e;subst e';exact PySem.P.truthy_str (by omega) ⟨H,I.tok _,q⟩
 | n9 y=>
  obtain⟨t,rfl⟩:=rx;obtain⟨hy,e'⟩:y.size<=sizeLine/\k=((y.size:Int) != 0):=e;subst e';exact PySem.W.truthy_bytes (by omega) ⟨H,I.tok _,q⟩
 | ref p=>
  cases rx;have e':(∃ xs,yg X.K H p xs/\k=!xs.isEmpty)\/(∃ xs,yp X.K H p xs/\k=!xs.isEmpty)\/∃ kvs,H p=some (.dK kvs)/\k=!kvs.isEmpty:=e;rcases e' with ⟨xs,hx,e'⟩ | ⟨xs,hx,e'⟩ | ⟨kvs,hx,e'⟩
  .subst e';obtain⟨its,r,pl,hz⟩:=I.list hx;have hlen:=r.length;exact wpAny_truthy_list pl.isList (by simp only[zA0];omega) ⟨H,I.tok _,by rw[ZL r];exact q⟩
  .subst e';obtain⟨its,r,pl,hz⟩:=I.tuple hx;have hlen:=r.length;exact truthy_tuple pl (by simp only[zA0];omega) ⟨H,I.tok _,by rw[ZL r];exact q⟩
  .subst e';obtain⟨hz,hS,vs,r,m⟩:kvs.length<=sizeLine/\(p == sysModules)=false/\∃ vs,KV kvs vs/\s.heap.DictOf (vF X.prog X.w) p vs:=I.zM p _ hx;have hlen:kvs.length=vs.length:=Paired.length r;exact wpAny_truthy_dict hS m (by omega) ⟨H,I.tok _,by rw[Ph r];exact q⟩
 | _=>exact (show False from e).elim
def UN (ha:PE X a ta) (he:∀ whole,isTrue a X.env whole=(do let v <- whole;standAt a.pos;holding [v] (truthy v))):
  PT X a (fun B H Q=>ta B H λ x H'=>∃ k,dG X.K x H' k/\Q k H'):=by
 intro pins s B H Q I h;exact isTrue_plain (zU (ha pins s B H _ I h) λ v s1 ⟨x,H1,I1,r1,q1⟩=>Vs pins s1 B H1 x v Q I1 r1 q1) (he _)
def Rn:y9 X (binaryOp .Add) (λ x y H Q=>∃ i j,x=.str i/\y=.str j/\i.length+j.length<=sizeLine/\Q (.str (i++j)) H):=by
 intro pins s B H x y v u Q I rx ry h;obtain⟨i,j,rfl,rfl,hz,q⟩:=h;obtain⟨t,rfl⟩:=rx;obtain⟨t',rfl⟩:=ry;exact add_str (λ t' tk=>⟨.str (i++j),H,I.tok _,⟨_,rfl⟩,q⟩) hz
def vals1 {x:V}{us:List Value}(r:Vals [x] us):∃ u,us=[u]/\RelV x u:=by
 cases r with
 | cons r1 r2=>cases r2;exact⟨_,rfl,r1⟩
def vals2 {x y:V}{us:List Value}(r:Vals [x,y] us):∃ u w',us=[u,w']/\RelV x u/\RelV y w':=by
 cases r with
 | cons r1 r2=>
  cases r2 with
  | cons r3 r4=>cases r4;exact⟨_,_,rfl,r1,r3⟩
def Nu (hc:X.calm=true):xk X (.builtin "max") (λ xs H Q=>∃ i j,xs=[.int i,.int j]/\Q (.int (if j>i then j else i)) H):=by
 intro pins s B H xs us Q I r h;obtain⟨i,j,rfl,q⟩:=h;obtain⟨u,w',rfl,⟨t,rfl⟩,⟨t',rfl⟩⟩:=vals2 r;refine max_two_ints (I.ok.hd hc) λ h' tk k=>⟨_,H,I.kept k,?_,q⟩;by_cases hj:j>i
 .rw[if_pos hj,if_pos hj];exact⟨_,rfl⟩
 .rw[if_neg hj,if_neg hj];exact⟨_,rfl⟩
def Nt (hc:X.calm=true):xk X (.builtin "min") (λ xs H Q=>∃ i j,xs=[.int i,.int j]/\Q (.int (if j<i then j else i)) H):=by
 intro pins s B H xs us Q I r h;obtain⟨i,j,rfl,q⟩:=h;obtain⟨u,w',rfl,⟨t,rfl⟩,⟨t',rfl⟩⟩:=vals2 r;refine min_two_ints (I.ok.hd hc) λ h' tk k=>⟨_,H,I.kept k,?_,q⟩;by_cases hj:j<i
 .rw[if_pos hj,if_pos hj];exact⟨_,rfl⟩
 .rw[if_neg hj,if_neg hj];exact⟨_,rfl⟩
def N0:xk X (.type "int") (λ xs H Q=>(∃ i,xs=[.int i]/\Q (.int i) H)\/∃ k,xs=[.bl k]/\Q (.int (if k then 1 else 0)) H):=by
 intro pins s B H xs us Q I r h;rcases h with ⟨i,rfl,q⟩ | ⟨k,rfl,q⟩
 .obtain⟨u,rfl,t,rfl⟩:=vals1 r;exact call_int_int ⟨.int i,H,I,⟨_,rfl⟩,q⟩
 .obtain⟨u,rfl,r1⟩:=vals1 r;cases r1;exact call_int_bool ⟨.int (if k then 1 else 0),H,I.tok _,⟨_,rfl⟩,q⟩
end
section
variable {prog:Program}{w:World}{A:Around}{E:Value->Shared->Prop}{s:Shared}{K:zFr}{x dx C f:Addr}{mA:Str->Option Value}{name:Str}{v:Value}
end
def t4.some_of {v:V}{o:Option Value}(r:t4 (some v) o):∃ u,o=some u/\RelV v u:=by
 cases o with
 | none=>exact (show False from r).elim
 | some u=>exact⟨u,rfl,r⟩
section
variable {P:Program}{w:World}{H H':Hp}{h h':Heap}{a C dx:Addr}{fs fs':List (Str×V)}
end
section
variable {X:Cx}{pins:List (Addr×Obj)}{B:St}{H:Hp}{s:Shared}{a C dx:Addr}{fs:List (Str×V)}{f:Str}{v:V}{A:Around}{E:Value->Shared->Prop}
end
section
variable {X:Cx}{o e value:Expr}{f:Str}{pos pos' tpos:Pos}{ta tv:TE}
end
section
variable {X:Cx}{pins:List (Addr×Obj)}{B:St}{H:Hp}{s:Shared}{A:Around}{E:Value->Shared->Prop}{Q:Value->Shared->Prop}{c:Value}{b:Bool}
end
structure y_ (k:Nat) (A:Around):Prop where
 hd:A.handled=none
 dp:A.depth+3*k+5<recursionLimit
 un:A.units+16*k+200<cLine
def y_.mono {j k:Nat}{A:Around}(r:y_ k A) (h:j<=k):y_ j A:=⟨r.hd,by have:=r.dp;omega,by have:=r.un;omega⟩
theorem y_.deeper {k:Nat}{A:Around}(r:y_ (k+1) A) (env:Env):y_ k (A.deeper env):=
 ⟨r.hd,by have:=r.dp;show A.depth+1+3*k+5<_;omega,by have:=r.un;show A.units+3+16*k+200<_;omega⟩
theorem y_.depth {k:Nat}{A:Around}(r:y_ k A):A.depth<recursionLimit:=by have:=r.dp;omega
theorem y_.units {k:Nat}{A:Around}(r:y_ k A):A.units+64<cLine:=by have:=r.un;omega
def iT:TA:=λ _ H Q=>Q [] H
def iV (ta:TE) (tr:TA):TA:=fun B H Q=>ta B H λ x H1=>tr B H1 λ xs H2=>Q (x::xs) H2
section
variable {X:Cx}{e:Expr}{es:List Expr}{te:TE}{t:TA}{pos:Pos}
def oZ:PA X [] iT:=λ _ _ _ _ H Q I h=>Calls.spliced_nil ⟨[],H,I,.nil,h⟩
def pL (ha:PE X e te) (hr:PA X es t) (hs:starEach (e::es) X.env=(false,eval e X.env)::starEach es X.env:=by rfl):PA X (e::es) (iV te t):=by
 intro pos pins s B H Q I h;rw[hs];show wpAny _ _ (spliced ((false,eval e X.env)::backTo pos (starEach es X.env))) _ _ s;refine Calls.spliced_cons (zU (ha pins s B H _ I h) λ u s1 ⟨x,H1,I1,r1,q1⟩=>?_);exact zU (hr pos pins s1 B H1 _ I1 q1) λ us s2 ⟨xs,H2,I2,r2,q2⟩=>⟨x::xs,H2,I2,.cons r1 r2,q2⟩
def Vx (t:TA):TE:=fun B H Q=>t B H λ xs H1=>xs.length<=sizeLine/\∀ p,H1 p=none->Q (.ref p) (upd H1 p (.tup xs))
def V8 (t:TA):TE:=fun B H Q=>t B H λ xs H1=>xs.length<=sizeLine/\∀ p,H1 p=none->Q (.ref p) (upd H1 p (.lst xs))
def T5 {x1} (h:PA X es t):PE X (.Tuple es x1 pos) (Vx t):=by
 intro pins s B H Q I hq;refine wpAny_Tuple_spliced (zU (h pos pins s B H _ I hq) λ us s1 ⟨xs,H1,I1,r,z,q⟩=>⟨by rw[<- r.length];exact z,?_⟩);have hf:H1 s1.heap.objs.size=none:=I1.zM.fresh (zA4 _);refine⟨.ref s1.heap.objs.size,upd H1 s1.heap.objs.size (.tup xs),I1.laid (t':=s1.toks) (λ b u e=>zHp _ e) (zA4 _) ?_,rfl,q _ hf⟩;exact⟨z,us,r,⟨_,zA9 _ rfl,rfl,_,rfl⟩⟩
def TF (h:PA X es t):PE X (.List es pos) (V8 t):=by
 intro pins s B H Q I hq;refine wpAny_List_spliced (zU (h pos pins s B H _ I hq) λ us s1 ⟨xs,H1,I1,r,z,q⟩=>⟨by rw[<- r.length];exact z,?_⟩);have hf:H1 s1.heap.objs.size=none:=I1.zM.fresh (zA4 _);refine⟨.ref s1.heap.objs.size,upd H1 s1.heap.objs.size (.lst xs),I1.laid (t':=s1.toks) (λ b u e=>zHp _ e) (zA4 _) ?_,rfl,q _ hf⟩;exact⟨z,us,0,r,zA9 _ rfl⟩
end
abbrev Sp:=List V->Hp->VK->XK->Prop
abbrev tX:=List Env->Hp->Shared->XK->Value->Shared->Prop
structure iD (P:Program) (w:World) (K:zFr) (mg:Str->Option Value) (base:Heap) (A:Around) (outer:List Env) (s:Shared) (H:Hp):Prop where
 frames:A.frames=some outer
 mod:Mod K mg base
 bs:∀ b o,base.get? b=some o->s.heap.get? b=some o/\H b=none
 og:base.objs.size<=s.heap.objs.size
 tL:s.heap.FunFrames base outer
 nv:∀ b∈uD outer,H b=none
 zM:xE P w H s.heap
 bare:AllBare s.gens
def CE (outer:List Env) (P:Program) (w:World) (H:Hp) (s:Shared) (Q:VK) (u:Value) (s':Shared):Prop:=
 ∃ v H',s'.os=s.os/\AllBare s'.gens/\Un (uD outer) [] H H' s.heap s'.heap/\xE P w H' s'.heap/\RelV v u/\Q v H'
def CR (CX:tX) (outer:List Env) (P:Program) (w:World) (H:Hp) (s:Shared) (Q:VK) (E:XK) (r:Result) (s':Shared):Prop:=
 match r with
 | .ok (.ret u)=>CE outer P w H s Q u s'
 | .ok _=>False
 | .error e=>CX outer H s E e s'
structure t8 (P:Program) (w:World) (K:zFr) (mg:Str->Option Value) (base:Heap) (CX:tX) (k:Nat) (f:Addr) (fd:FuncData) (ps:List Str) (sp:Sp):Prop where
 len:∀ vs H Q E,sp vs H Q E->vs.length=ps.length
 run:∀ (A:Around) (outer:List Env) (s:Shared) (H:Hp) (args:Args) (us:List Value) (vs:List V) (Q:VK) (E:XK),y_ k A->iD P w K mg base A outer s H->BindsTo s fd args (ps.zip us)->Vals vs us->sp vs H Q E->
  codeAny (model P w) A (.call (.ref f) args) (CR CX outer P w H s Q E) s
section
variable {X:Cx}{pins:List (Addr×Obj)}{B:St}{H:Hp}{s s':Shared}
def Inv.Ou (I:Inv X pins B H s):iD X.prog X.w X.K X.mg X.base X.A X.stack s H:=
 ⟨I.ok.frames,I.ok.mod,I.bs,zE0 I.ok.og I.sz,I.stack,I.b6,I.zM,I.bare⟩
def Inv.after {Q:VK}{u:Value}(I:Inv X pins B H s) (h:CE X.stack X.prog X.w H s Q u s'):EP X pins B Q u s':=by
 obtain⟨v,H',os,bare,un,zM,r,q⟩:=h;obtain⟨hh,g,d,t,os'⟩:=s';obtain rfl:os'=s.os:=os;exact⟨v,H',I.call (h':=hh) (g':=g) (d':=d) (t':=t) (ch:=[]) un zM bare (λ b z=>absurd z (by simp)),r,q⟩
end
def bz (sp:Sp) (dvs:List V) (E:XK) (t:TA):TE:=fun B H Q=>t B H λ vs H1=>sp (vs++dvs) H1 Q E
def Binds (K:zFr) (fd:FuncData) (ps:List Str) (ds:List Value):Prop:=
 ∀ (s:Shared) (us:List Value),K.In s.heap->(us++ds).length=ps.length->BindsTo s fd ⟨us,[]⟩ (ps.zip (us++ds))
def Binds.all {K:zFr}{fd:FuncData}{ps:List Str}(h:∀ us:List Value,us.length=ps.length->bindArgs fd ⟨us,[]⟩=pure (ps.zip us)):Binds K fd ps []:=λ s us _ hl=>by
 rw[List.append_nil] at hl ⊢;exact .of_eq (h us hl)
def Passes (CX:tX) (X:Cx) (E:XK):Prop:=∀ (pins:List (Addr×Obj)) (B:St) (H:Hp) (s:Shared) (e:Value) (s':Shared),Inv X pins B H s->CX X.stack H s E e s'->X.xe e s'
section
variable {X:Cx}{CX:tX}{k:Nat}{f C:Addr}{fd:FuncData}{ps:List Str}{sp:Sp}{dvs:List V}{ds:List Value}{E:XK}{x m:Str}{p pos apos:Pos}{e o:Expr}{es:List Expr}{ta:TE}{t:TA}
def Uy {pins:List (Addr×Obj)}{B:St}{H:Hp}{s:Shared}{Q:VK}{us:List Value}{vs:List V}(F:t8 X.prog X.w X.K X.mg X.base CX k f fd ps sp) (hr:y_ k X.A) (hb:Binds X.K fd ps ds) (hd:Vals dvs ds) (hx:Passes CX X E)
  (I:Inv X pins B H s) (r:Vals vs us) (h:sp (vs++dvs) H Q E):wpAny (model X.prog X.w) X.A (call (.ref f) us) (EP X pins B Q) X.xe s:=by
 have r2:Vals (vs++dvs) (us++ds):=r.append hd;have hl:(us++ds).length=ps.length:=by rw[<- r2.length];exact F.len _ _ _ _ h
 refine wpAny_call (codeAny_mono (F.run X.A X.stack s H ⟨us,[]⟩ (us++ds) (vs++dvs) Q E hr I.Ou (hb s us I.uB hl) r2 h) λ r s' hq=>?_);cases r with
 | error e=>exact hx pins B H s e s' I hq
 | ok fl=>
  cases fl with
  | ret u=>exact I.after hq
  | next=>exact False.elim hq
  | brk=>exact False.elim hq
  | cont=>exact False.elim hq
def TY (F:t8 X.prog X.w X.K X.mg X.base CX k f fd ps sp) (hr:y_ k X.A) (hg:Gl X x) (hm:X.mg x=some (.ref f)) (hk:PySem.W.keepIn X.K (.ref f)=true) (hb:Binds X.K fd ps ds) (hd:Vals dvs ds) (hx:Passes CX X E)
  (ha:PA X (e::es) t) (hdb:(x == ("__debug__":Str))=false:=by decide) (he:starEach (e::es) X.env=(false,eval e X.env)::starEach es X.env:=by rfl) (hpl:(backTo pos (starEach es X.env)).any (·.1)=false:=by rfl):
  PE X (.Call (.Name x p) (e::es) [] pos) (bz sp dvs E t):=by
 intro pins s B H Q I h;refine wpAny_Call_Name_kw (Z8 I hg hm ?_ hdb);refine PySem.W.callWith_K (h₀:=X.base) I.ok.mod.fY hk (zU (ha pos pins s B H _ I h) λ us s1 ⟨vs,H1,I1,r,q⟩=>⟨I1.uB,?_⟩) he hpl;exact Uy F hr hb hd hx I1 r q
end
section
variable {X:Cx}{CX:tX}{k:Nat}{f C:Addr}{fd:FuncData}{ps ks:List Str}{sp:Sp}{E:XK}{x m:Str}{p pos apos kpos:Pos}{e o:Expr}{es:List Expr}{kws:List Keyword}{te ta:TE}{t tk:TA}{nm:Option Str}
variable {g:List Value->List Value->List Value}{gV:List V->List V->List V}
end
structure yr (N P:List Str) (sc:Scope):Prop where
 kind:sc.kind=.function
 co:sc.isCoroutine=false
 gen:sc.isGenerator=false
 nd:N.Nodup
 pre:N.take P.length=P
 par:∀ x∈P,sc.names.lookup x=some .local\/sc.names.lookup x=some .cell
 Qo:∀ y∈sc.names,y.2≠.free
theorem Xn {kindOf:Str->Option NameKind}{x:Str}:∀ {binds:List (Str×Value)}{m:Str->Option Value},(∀ v,(x,v)∉binds)->bindL kindOf binds m x=m x
 | [],_,_=>rfl
 | (n,v)::r,m,h=>by
  unfold bindL;rw[Xn λ w hw=>h w (zMo _ hw)];split
  .have:x≠n:=by rintro rfl;exact h v zMc
   simp[this]
  .rfl
theorem Xp {kindOf:Str->Option NameKind}{x:Str}:∀ {binds:List (Str×Value)}{m:Str->Option Value},(∀ v,(x,v)∉binds)->bindC kindOf binds m x=m x
 | [],_,_=>rfl
 | (n,v)::r,m,h=>by
  unfold bindC;rw[Xp λ w hw=>h w (zMo _ hw)];split
  .rfl
  .have:x≠n:=by rintro rfl;exact h v zMc
   simp[this]
theorem Xo {kindOf:Str->Option NameKind}{x:Str}{v:Value}:∀ {P:List Str}{vs:List Value}{i:Nat}{m:Str->Option Value},P.Nodup->P[i]?=some x->vs[i]?=some v->kindOf x=some .local->
  bindL kindOf (P.zip vs) m x=some v
 | [],_,_,_,_,h,_,_=>by simp at h
 | _::_,[],_,_,_,_,h,_=>by simp at h
 | p::P,w::vs,0,m,nd,h1,h2,hk=>by
  simp at h1 h2;subst h1;subst h2;show bindL kindOf ((p,w)::P.zip vs) m p=_;unfold bindL;rw[Xn λ v hv=>(List.nodup_cons.mp nd).1 (List.of_mem_zip hv).1,if_pos hk];simp
 | p::P,w::vs,i+1,m,nd,h1,h2,hk=>by
  show bindL kindOf ((p,w)::P.zip vs) m x=_;unfold bindL;exact Xo (i:=i) (List.nodup_cons.mp nd).2 (by simpa using h1) (by simpa using h2) hk
theorem Xq {kindOf:Str->Option NameKind}{x:Str}{v:Value}:∀ {P:List Str}{vs:List Value}{i:Nat}{m:Str->Option Value},P.Nodup->P[i]?=some x->vs[i]?=some v->kindOf x≠some .local->
  bindC kindOf (P.zip vs) m x=some v
 | [],_,_,_,_,h,_,_=>by simp at h
 | _::_,[],_,_,_,_,h,_=>by simp at h
 | p::P,w::vs,0,m,nd,h1,h2,hk=>by
  simp at h1 h2;subst h1;subst h2;show bindC kindOf ((p,w)::P.zip vs) m p=_;unfold bindC;rw[Xp λ v hv=>(List.nodup_cons.mp nd).1 (List.of_mem_zip hv).1,if_neg hk];simp
 | p::P,w::vs,i+1,m,nd,h1,h2,hk=>by
  show bindC kindOf ((p,w)::P.zip vs) m x=_;unfold bindC;exact Xq (i:=i) (List.nodup_cons.mp nd).2 (by simpa using h1) (by simpa using h2) hk
noncomputable def start (N:List Str) (vs:List V):St:=vs.map some++List.replicate (N.length-vs.length) none
noncomputable def sR (CX:tX) (P:Program) (w:World) (K:zFr) (mg:Str->Option Value) (base:Heap) (N:List Str) (qual:Str) (scope:Scope) (f:Addr) (cd:Value) (A:Around) (outer:List Env) (s:Shared) (H:Hp) (E:XK):Cx where
 prog:=P
 w:=w
 K:=K
 mg:=mg
 base:=base
 A:=A.deeper (envOfC qual scope s.heap.objs.size f cd)
 N:=N
 s₀:=s
 H₀:=H
 env:=envOfC qual scope s.heap.objs.size f cd
 outer:=outer
 stack:=envOfC qual scope s.heap.objs.size f cd::outer
 ex:=[]
 calm:=true
 fn:=λ _=>true
 pn:=[]
 xe:=λ e s'=>wpAny (model P w) (A.deeper (envOfC qual scope s.heap.objs.size f cd)) (leaving (envOfC qual scope s.heap.objs.size f cd) e) (λ _ s''=>CX outer H s E e s'') (λ e' s''=>CX outer H s E e' s'') s'
def Xf {sc:Scope}{n:Nat}{x:Str}(h:sc.names.lookup x=some .cell):∃ c,(cellsFrom n sc.names []).lookup x=some c:=by
 have q:=PySem.W.cellsFrom_some sc.names n [] (.inl h);exact Option.isSome_iff_exists.mp q
def Pl {CX:tX}{P:Program}{w:World}{K:zFr}{mg:Str->Option Value}{base:Heap}{N ps:List Str}{qual:Str}{scope:Scope}{f:Addr}{cd:Value}{A:Around}{outer:List Env}{s s1:Shared}{H:Hp}{E:XK}{us:List Value}{vs:List V}
  (S:yr N ps scope) (hd:A.handled=none) (e0:iD P w K mg base A outer s H) (hl:vs.length=ps.length) (r:Vals vs us)
  (x:InCallC s s.heap.objs.size (bindL (envOfC qual scope s.heap.objs.size f cd).kindOf (ps.zip us) λ _=>none) (cellsFrom (s.heap.objs.size+1) scope.names []) (bindC (envOfC qual scope s.heap.objs.size f cd).kindOf (ps.zip us) λ _=>none) s1):
  Inv (sR CX P w K mg base N qual scope f cd A outer s H E) [] (start N vs) H s1:=by
 have hpl:ps.length<=N.length:=by have:=congrArg List.length S.pre;rw[List.length_take] at this;omega
 obtain⟨h1,tk,rfl,hk⟩:=x.done;have noA:∀ b:Addr,b∉(sR CX P w K mg base N qual scope f cd A outer s H E).ex:=λ b z=>absurd (show b∈([]:List Addr) from z) (by simp);refine⟨⟨e0.mod,S.kind,rfl,rfl,zA4 _,λ y z c h1 h2=>?_,λ y hy=>?_,λ y c _ h=>?_,λ _=>hd,Around.frames_deeper e0.frames,.inr ⟨rfl,rfl⟩,λ b z=>absurd z (noA b),e0.bs,e0.og,λ b _ _=>noA b,λ b z=>absurd z (noA b),e0.tL,e0.nv⟩,
  rfl,e0.bare,Un.kept hk,⟨_,x.toInCall.ns,λ i y v h1 h2 h3=>?_⟩,λ y c h=>⟨_,x.cell y c h⟩,e0.zM.fresh (zA4 _),λ y c h=>?_,λ p hp=>absurd (show p∈([]:List (Addr×Obj)) from hp) (by simp),e0.zM.kept hk,?_⟩
 .exact name_of_addr x.apart (PySem.mem_of_lookup h1) (PySem.mem_of_lookup h2)
 .have hy:scope.names.lookup y=some .cell\/scope.names.lookup y=some .free:=hy;rcases hy with hy | hy
  .exact Xf hy
  .exact absurd rfl (S.Qo _ (PySem.mem_of_lookup hy))
 .exact zE3 (x.above y c (PySem.mem_of_lookup h))
 .have hi:i<vs.length:=by
   unfold start at h2;by_cases hi:i<vs.length
   .exact hi
   .rw[List.getElem?_append_right (by simpa using hi)] at h2;rw[List.getElem?_replicate] at h2;split at h2 <;> cases h2
  have ha:vs[i]?=some v:=by
   unfold start at h2;rw[List.getElem?_append_left (by simpa using hi),zA3] at h2;cases e:vs[i]? with
   | none=>rw[e] at h2;cases h2
   | some a=>rw[e] at h2;cases h2;rfl
  obtain⟨u,hu,rv⟩:=r.get ha;have hp:ps[i]?=some y:=by
   rw[<- S.pre,List.getElem?_take_of_lt (by omega)];exact h1
  have ndP:ps.Nodup:=by rw[<- S.pre];exact S.nd.sublist (List.take_sublist _ _)
  refine⟨u,rv,?_⟩;rcases S.par y (zB7 hp) with k | k
  .exact .inl ⟨k,Xo ndP hp hu k⟩
  .obtain⟨c,e⟩:=Xf (n:=s.heap.objs.size+1) k;refine .inr ⟨.inl k,c,e,?_⟩;have q:=x.cell y c e;rw[Xq ndP hp hu (by show scope.names.lookup y≠_;rw[k];decide)] at q;exact q
 .exact e0.zM.fresh (zE3 (x.above y c (PySem.mem_of_lookup h)))
 .unfold start;show _=N.length;rw[zD7,zA7,List.length_replicate];omega
def Oa {CX:tX}{P:Program}{w:World}{K:zFr}{mg:Str->Option Value}{base:Heap}{k:Nat}{f:Addr}{name qual:Str}{params:Arguments}{body:List Stmt}{scope:Scope}{dV kV doc pm cdv ct oc:Value}{an od:Option Addr}
  {osl:Array (Option Value)}{N ps:List Str}{sp:Sp}(lk:K.lookup f=some ⟨oc,od,.func (PySem.W.fnOf name qual params body scope dV kV doc pm an cdv ct),osl⟩) (hcd:PySem.W.codeIn K cdv qual=true) (S:yr N ps scope)
  (len:∀ vs H Q E,sp vs H Q E->vs.length=ps.length)
  (hbody:∀ (A:Around) (outer:List Env) (s:Shared) (H:Hp) (vs:List V) (Q:VK) (E:XK),y_ k (A.deeper (envOfC qual scope s.heap.objs.size f cdv))->sp vs H Q E->
   ∃ t,ve (sR CX P w K mg base N qual scope f cdv A outer s H E) body t/\t { nx:=λ _ H'=>Q .zp H',rt:=Q } (start N vs) H):
  t8 P w K mg base CX (k+1) f (PySem.W.fnOf name qual params body scope dV kV doc pm an cdv ct) ps sp:=by
 refine⟨len,λ A outer s H args us vs Q E hr e0 hb r hsp=>?_⟩;have hl:=len _ _ _ _ hsp;have KX:K.In s.heap:=e0.mod.fY.keeps λ b o e=>(e0.bs b o e).1;have lim:s.heap.NoLimit:=e0.mod.nolimit.keeps λ b o e=>(e0.bs b o e).1;have hkind:∀ y∈ps.zip us,scope.names.lookup y.1=some .local\/(scope.names.lookup y.1=some .cell/\((cellsFrom (s.heap.objs.size+1) scope.names []).lookup y.1).isSome=true):=λ⟨n,v⟩ hy=>by
  rcases S.par n (List.of_mem_zip hy).1 with q | q
  .exact .inl q
  .exact .inr ⟨q,PySem.W.cellsFrom_some _ _ _ (.inl q)⟩
 refine codeAny_call_function hr.depth (KX _ _ lk) rfl S.co S.gen rfl (PySem.W.codeRec_of KX hcd) (hb _ _ _ _ ?_);refine wpAny_newFunctionEnv_cells S.kind hkind λ env he s1 x=>?_;subst he;refine⟨lim.keeps x.toInCall.keep,codeAny_func ?_⟩;obtain⟨t,ht,hq⟩:=hbody A outer s H vs Q E (hr.deeper _) hsp;have I:Inv (sR CX P w K mg base N qual scope f cdv A outer s H E) [] (start N vs) H s1:=Pl S hr.hd e0 hl r x;refine wpAny_mono (ht [] s1 (start N vs) H _ I hq) (λ fl s' hs=>?_) λ e s' hs=>hs;have fin:∀ {B':St}{H':Hp}{v:V}{u:Value},Inv (sR CX P w K mg base N qual scope f cdv A outer s H E) [] B' H' s'->RelV v u->Q v H'->CE outer P w H s Q u s':=
  λ{B' H' v u} J rv q=>⟨v,H',J.os,J.bare,J.base,J.zM,rv,q⟩
 cases fl with
 | ret u=>
  obtain⟨v,B',H',J,rv,q⟩:=hs;exact fin J rv q
 | next=>
  obtain⟨B',H',J,q⟩:=hs;exact fin (v:=V.zp) (u:=Value.none) J rfl q
 | brk=>
  obtain⟨_,_,_,q⟩:=hs;exact False.elim q
 | cont=>
  obtain⟨_,_,_,q⟩:=hs;exact False.elim q
section
variable {X:Cx}{x:Str}{p pos:Pos}{e:Expr}{es:List Expr}{t:TA}{id T:String}{r:List V->Hp->VK->Prop}
def kB (r:List V->Hp->VK->Prop) (t:TA):TE:=fun B H Q=>t B H λ vs H1=>r vs H1 Q
def rE (hc:xk X (.builtin id) r) (hg:Gl X x) (hm:X.mg x=none) (hv:bootBuiltins x=some (.builtin id)) (ha:PA X (e::es) t) (hn:x≠"__name__":=by decide) (hdb:(x == ("__debug__":Str))=false:=by decide)
  (he:starEach (e::es) X.env=(false,eval e X.env)::starEach es X.env:=by rfl) (hpl:(backTo pos (starEach es X.env)).any (·.1)=false:=by rfl):PE X (.Call (.Name x p) (e::es) [] pos) (kB r t):=by
 intro pins s B H Q I h;refine wpAny_Call_Name_kw (m_ I hg hm hv ?_ hn hdb);exact PyProof.Rows.callWith_builtin1 (zU (ha pos pins s B H _ I h) λ us s1 ⟨vs,H1,I1,r1,q1⟩=>hc pins s1 B H1 vs us Q I1 r1 q1) he hpl
def oT (hc:xk X (.type T) r) (hg:Gl X x) (hm:X.mg x=none) (hv:bootBuiltins x=some (.type T)) (ha:PA X (e::es) t) (hn:x≠"__name__":=by decide) (hdb:(x == ("__debug__":Str))=false:=by decide)
  (he:starEach (e::es) X.env=(false,eval e X.env)::starEach es X.env:=by rfl) (hpl:(backTo pos (starEach es X.env)).any (·.1)=false:=by rfl):PE X (.Call (.Name x p) (e::es) [] pos) (kB r t):=by
 intro pins s B H Q I h;refine wpAny_Call_Name_kw (m_ I hg hm hv ?_ hn hdb);exact PyProof.Rows.callWith_type1 (zU (ha pos pins s B H _ I h) λ us s1 ⟨vs,H1,I1,r1,q1⟩=>hc pins s1 B H1 vs us Q I1 r1 q1) he hpl
end
end L2
namespace HT
open PySem PyProof.Rows
noncomputable def lexLt:List Int->List Int->Bool
 | [],[]=>false
 | [],_::_=>true
 | _::_,[]=>false
 | x::xs,y::ys=>if x=y then lexLt xs ys else decide (x<y)
def qH (x y:Int) (xs ys:List Int):lexLt (x::xs) (y::ys)=if x=y then lexLt xs ys else decide (x<y):=rfl
def QE:lexLt [] []=false:=rfl
def QF (y:Int) (ys:List Int):lexLt [] (y::ys)=true:=rfl
def QG (x:Int) (xs:List Int):lexLt (x::xs) []=false:=rfl
def Ot (A:Around) (s:Shared) (a:Int) (t:Tok) (c:Int) (u:Tok):∃ e,SeqAt.EqAt A s (.int a t) (.int c u) e/\(e=true↔a=c):=
 ⟨(a == c),SeqAt.EqAt.int_int a t c u,by simp⟩
def U8 (A:Around) (s:Shared) (a:Int) (t:Tok) (c:Int) (u:Tok) (prog:Program) (w:World) (E:Value->Shared->Prop) (Q:Value->Shared->Prop) (h:Q (.bool (decide (a<c))) s):
  wpAny (model prog w) A (richCompare .Lt (.int a t) (.int c u)) Q E s:=
 (PyProof.Rows.lt_int h:wpAny (model prog w) A (compareOp .Lt (.int a t) (.int c u)) Q E s)
section
open PySem.SeqAt
open PySem.AutoSeq1 (wpAny_loadPart')
open PySem.MeetsSeq PySem.MeetsSeq2 PySem.MeetsSeq3
def Vq (l b:Addr) (items items2:Array Value) (n n2:Nat) (dd dd2:Option Addr) (sl sl2:Array (Option Value)) (ns ms:List Int) (hi:IntsAre items.toList ns) (hj:IntsAre items2.toList ms):
  Meets (Builtin.«tuple.__lt__» ⟨[.ref l,.ref b],[]⟩)
   (λ _ R s=>s.heap.get? l=some { cls:=.type "tuple",dict:=dd,data:=.seq items n,slots:=sl }/\s.heap.get? b=some { cls:=.type "tuple",dict:=dd2,data:=.seq items2 n2,slots:=sl2 }/\
    R (.ok (.ret (.bool (lexLt ns ms)))) s):=
 .of_wp λ prog w A R s h=>by
  obtain⟨hp,g,d,tk,os⟩:=s;obtain⟨hl,hb,h⟩:=h;have f2:=AutoSeq1.sub_tuple_tuple;have z1:items.size=ns.length:=by rw[<- hi.length];simp
  have z2:items2.size=ms.length:=by rw[<- hj.length];simp
  wp_walk using wpAny_loadPart' hl,wpAny_loadPart' hb,wpAny_forIn_list _ (λ rest b s'=>b.1=none/\s'=⟨hp,g,d,tk,os⟩/\∃ (vs ws:List Value) (ns' ms':List Int),rest=vs.zip ws/\
   IntsAre vs ns'/\IntsAre ws ms'/\ns'.length+items2.size=ms'.length+items.size/\R (.ok (.ret (.bool (lexLt ns' ms')))) ⟨hp,g,d,tk,os⟩) _
  case turn=>
   rintro⟨y,x⟩ rest b s' ⟨hb',rfl,vs,ws,ns',ms',hz,hvi,hwi,hlen,hR⟩;cases hvi with
   | nil=>rw[List.zip_nil_left] at hz;cases hz
   | cons a t hvi'=>
    cases hwi with
    | nil=>rw[List.zip_nil_right] at hz;cases hz
    | cons c u hwi'=>
     rw[List.zip_cons_cons] at hz
     injection hz with hyx hrest
     injection hyx with hy hx
     subst hy hx;rw[qH] at hR;simp only[zC0] at hlen;obtain⟨e,he,hiff⟩:=Ot A.in1 ⟨hp,g,d,tk,os⟩ a t c u;refine zWb (he prog w _ _ ?_);cases e with
     | true=>
      rw[if_pos (hiff.mp rfl)] at hR
      wp_walk
      exact⟨rfl,rfl,_,_,_,_,hrest,hvi',hwi',by omega,hR⟩
     | false=>
      rw[if_neg (λ q=>absurd (hiff.mpr q) Bool.false_ne_true)] at hR;have hri:=U8 A.in1 ⟨hp,g,d,tk,os⟩ a t c u prog w
      wp_walk using hri
      exact⟨_,rfl,by simpa using hR⟩
  case fin=>
   rintro⟨b1,b2⟩ s' ⟨hb',rfl,vs,ws,ns',ms',hz,hvi,hwi,hlen,hR⟩;simp only at hb';subst hb';have hv:lexLt ns' ms'=decide (items.size<items2.size):=by
    cases hvi with
    | nil=>
     cases hwi with
     | nil=>
      simp only[List.length_nil] at hlen;rw[QE];exact (decide_eq_false (by omega)).symm
     | cons c u hw=>
      simp only[List.length_nil,zC0] at hlen;rw[QF];exact (decide_eq_true (by omega)).symm
    | cons a t hv=>
     cases hwi with
     | nil=>
      simp only[List.length_nil,zC0] at hlen;rw[QG];exact (decide_eq_false (by omega)).symm
     | cons c u hw=>
      rw[List.zip_cons_cons] at hz;cases hz
   rw[hv] at hR
   wp_walk
   exact⟨_,rfl,by simpa [Builtin.Tuple.tupleCompareSizes] using hR⟩
  case h=>
   exact⟨rfl,rfl,items.toList,items2.toList,ns,ms,rfl,hi,hj,by omega,h⟩
end
section
variable {prog:Program}{w:World}{A:Around}{E:Value->Shared->Prop}{s:Shared}
def Q6 {l b:Addr}{items items2:Array Value}{ns ms:List Int}{Q:Value->Shared->Prop}(hl:IsTup s.heap l items) (hb:IsTup s.heap b items2) (hi:IntsAre items.toList ns) (hj:IntsAre items2.toList ms)
  (hu:A.units<cLine) (h:Q (.bool (lexLt ns ms)) s):wpAny (model prog w) A (compareOp .Lt (.ref l) (.ref b)) Q E s:=by
 obtain⟨⟨cls,dd,data,sl⟩,ho,hc,n,hd⟩:=id hl;obtain⟨⟨cls2,dd2,data2,sl2⟩,ho2,hc2,n2,hd2⟩:=id hb;simp only at hc hd hc2 hd2;subst hc hd hc2 hd2;exact richCompare_meets_room (op:=.Lt) ⟨_,ho,rfl⟩ ⟨_,ho2,rfl⟩ PySem.F.slot_tuple_lt PySem.F.entry_tuple_lt (PySem.F.args_tuple_lt_2 _ _) (Vq l b items items2 n n2 dd dd2 sl sl2 ns ms hi hj)
  ⟨ho,ho2,show Value.bool (lexLt ns ms)≠Value.notImplemented/\Q (.bool (lexLt ns ms)) s from ⟨(λ x=>nomatch x),h⟩⟩ hu
def Ng {t b:Addr}{vs ws:List Value}{Q:Value->Shared->Prop}(ht:IsTup s.heap t vs.toArray) (hb:IsTup s.heap b ws.toArray) (hv:vs≠[])
  (h1:ws=[]->Q (.ref t) s) (h2:ws≠[]->Q (.ref s.heap.objs.size) { s with heap:=s.heap.push { cls:=.type "tuple",data:=.seq (vs++ws).toArray } })
  (hsz:vs.length+ws.length<=sizeLine):wpAny (model prog w) A (binaryOp .Add (.ref t) (.ref b)) Q E s:=by
 obtain⟨⟨cls,dd,data,sl⟩,ho,hc,n,hd⟩:=id ht;obtain⟨⟨cls2,dd2,data2,sl2⟩,ho2,hc2,n2,hd2⟩:=id hb;simp only at hc hd hc2 hd2;subst hc hd hc2 hd2;have e:vs.toArray++ws.toArray=(vs++ws).toArray:=by simp
 by_cases hw:ws=[]
 .exact concat_meets ⟨_,ho,rfl⟩ ⟨_,ho2,rfl⟩ noFill_tuple_add seq_tuple_add PySem.F.slot_tuple_add PySem.F.entry_tuple_add (PySem.F.args_tuple_add_2 _ _)
   (tuple_addW1 t b vs.toArray ws.toArray n n2 dd dd2 sl sl2 (by simpa using hv) (by simp[hw])) ⟨ho,ho2,h1 hw⟩
 .refine concat_meets ⟨_,ho,rfl⟩ ⟨_,ho2,rfl⟩ noFill_tuple_add seq_tuple_add PySem.F.slot_tuple_add PySem.F.entry_tuple_add (PySem.F.args_tuple_add_2 _ _)
   (tuple_addW2 t b vs.toArray ws.toArray n n2 dd dd2 sl sl2 (by simpa using hv) (by simpa using hw) (by rw[zA0,zA0];exact hsz)) ⟨ho,ho2,?_⟩
  rw[e];exact h2 hw
noncomputable def zW (n d:Nat):Option Int->Nat
 | none=>d
 | some v=>if v<0 then (v+(n:Int)).toNat else min v.toNat n
def Uw (n d:Nat) (hd:d<=n) (o:Option Int):zW n d o<=n:=by
 cases o with
 | none=>exact hd
 | some v=>
  show (if v<0 then (v+(n:Int)).toNat else min v.toNat n)<=n;by_cases hv:v<0
  .rw[if_pos hv];omega
  .rw[if_neg hv];exact Nat.min_le_right _ _
def YV (v:Int) (n d:Nat):(if v<0 then max (v+(n:Int)) 0 else min v (n:Int))=((zW n d (some v):Nat):Int):=by
 show (if v<0 then max (v+(n:Int)) 0 else min v (n:Int))=(((if v<0 then (v+(n:Int)).toNat else min v.toNat n):Nat):Int)
 by_cases hv:v<0
 .simp only[if_pos hv];omega
 .simp only[if_neg hv];omega
def NP (lo hi:Option Int) (n:Nat):Builtin.Slice.sliceAdjust lo hi 1 (n:Int)=(((zW n 0 lo:Nat):Int),((zW n n hi:Nat):Int)):=by
 have h1:¬ ((1:Int)<0):=by omega
 unfold Builtin.Slice.sliceAdjust;simp only[h1,if_false];refine Prod.ext ?_ ?_
 .cases lo with
  | none=>rfl
  | some v=>exact YV v n 0
 .cases hi with
  | none=>rfl
  | some v=>exact YV v n n
def Th (i j:Nat):Builtin.Slice.slicePlaces (i:Int) (j:Int) 1=j-i:=by
 unfold Builtin.Slice.slicePlaces;have h1:(1:Int)>0:=by omega
 simp only[h1,if_true,Int.ediv_one];split <;> omega
def bF {v:Value}{o:Option Int}{Q:Option Int->Shared->Prop}(p:IsPart v o) (h:Q o s):wpAny (model prog w) A (Builtin.Slice.slicePartIndex v) Q E s:=by
 cases p with
 | none=>exact slicePart_none h
 | int i t=>exact slicePart_int h
def bG {sl:Addr}{vl vu:Value}{lo hi:Option Int}{n:Nat}{Q:Int×Int×Nat->Shared->Prop}(hs:s.heap.IsSliceOf sl vl vu .none) (pl:IsPart vl lo) (pu:IsPart vu hi)
  (h:Q (((zW n 0 lo:Nat):Int),1,zW n n hi-zW n 0 lo) s):wpAny (model prog w) A (Builtin.Slice.sliceApplied (.ref sl) (pure (n:Int))) Q E s:=by
 obtain⟨os,hos,hcs,hds⟩:=id hs;unfold Builtin.Slice.sliceApplied Builtin.Slice.sliceFields;refine zWb (zWb (wpAny_field hos hds (x:=vl) rfl (zWb (wpAny_field hos hds (x:=vu) rfl (zWb (wpAny_field hos hds (x:=.none) rfl (zD1 ?_)))))));refine zWb (slicePart_none ?_);show wpAny _ _ (if ((1:Int) == 0)=true then _ else _) _ _ s;rw[if_neg (by decide)];refine zWb (bF pl (zWb (bF pu (zWb (zD1 ?_)))));show wpAny _ _ (match Builtin.Slice.sliceAdjust lo hi 1 (n:Int) with | (lo,hi)=>pure (lo,(1:Int),Builtin.Slice.slicePlaces lo hi 1)) _ _ s;rw[NP lo hi n];show wpAny _ _ (pure (((zW n 0 lo:Nat):Int),(1:Int),Builtin.Slice.slicePlaces ((zW n 0 lo:Nat):Int) ((zW n n hi:Nat):Int) 1)) _ _ s;rw[Th];exact zD1 h
def Tj (xs:Array Value) (i k:Nat):((List.range k).filterMap λ(m:Nat)=>xs[((i:Int)+(m:Int)*1).toNat]?).toArray=((xs.toList.drop i).take k).toArray:=by
 have e:(λ(m:Nat)=>xs[((i:Int)+(m:Int)*1).toNat]?)=λ m=>xs[i+m]?:=by
  funext m;have:((i:Int)+(m:Int)*1).toNat=i+m:=by omega
  rw[this]
 rw[e];have:=pick_run xs i k;rw[List.filterMap_map] at this;have e2:((λ x=>xs[x]?) ∘ λ x=>i+x)=λ m=>xs[i+m]?:=rfl;rw[e2] at this;rw[this]
def PN {t sl:Addr}{items:Array Value}{vl vu:Value}{lo hi:Option Int}{Q:Value->Shared->Prop}(ht:IsTup s.heap t items) (hs:s.heap.IsSliceOf sl vl vu .none) (pl:IsPart vl lo) (pu:IsPart vu hi)
  (hw:¬ (zW items.size 0 lo=0/\zW items.size items.size hi=items.size))
  (h:Q (.ref s.heap.objs.size) { s with heap:=s.heap.push { cls:=.type "tuple",data:=.seq ((items.toList.drop (zW items.size 0 lo)).take (zW items.size items.size hi-zW items.size 0 lo)).toArray } })
  (hsz:items.size<=sizeLine):wpAny (model prog w) A (getItem (.ref t) (.ref sl)) Q E s:=by
 have htake:sizeOk (.seq ((items.toList.drop (zW items.size 0 lo)).take (zW items.size items.size hi-zW items.size 0 lo)).toArray):=by
  show ((items.toList.drop (zW items.size 0 lo)).take (zW items.size items.size hi-zW items.size 0 lo)).toArray.size<=sizeLine;rw[zA0,List.length_take,List.length_drop,zD2];omega
 have hj:zW items.size items.size hi<=items.size:=Uw _ _ (zA4 _) hi;obtain⟨os,hos,hcs,hds⟩:=id hs;have hTs:s.TypeIs (.ref sl) "slice":=⟨os,hos,hcs⟩
 unfold getItem
 try with_reducible refine wpAny_holding ?_
 first | refine zWb (zD1 ?_) | skip
 refine zWb (wpAny_sequenceKey ht.typeIs (by decide) ?_);refine zWb (wpAny_callSpecial?_slot (name:=Str.ofString "__getitem__") ht.typeIs PyProof.Rows.slot_tuple_getitem
  (wpAny_call_entry PyProof.Rows.slot_tuple_getitem ht.typeIs entry_tuple_getitem ?_ (args_tuple_getitem _ _)))
 show wpAny _ _ (Builtin.Tuple.tupleItemsOf (.ref t) >>= _) _ _ s;refine zWb (tupleItemsOf_ ht ?_);refine zWb (wpAny_typeOf hTs ?_);rw[if_pos (by decide)];refine zWb (bG hs pl pu ?_);have hno:¬ ((((zW items.size 0 lo:Nat):Int) == 0&&(1:Int) == 1&&(zW items.size items.size hi-zW items.size 0 lo) == items.size)=true):=by
  intro q;rw[zE5,zE5] at q;have q1:((zW items.size 0 lo:Nat):Int)=0:=eq_of_beq q.1.1;have q2:zW items.size items.size hi-zW items.size 0 lo=items.size:=eq_of_beq q.2;exact hw ⟨by omega,by omega⟩
 show wpAny _ _ (if (((zW items.size 0 lo:Nat):Int) == 0&&(1:Int) == 1&&(zW items.size items.size hi-zW items.size 0 lo) == items.size)=true then _ else _) _ _ s;rw[if_neg hno,Tj]
 first
  | exact zWb (m:=Builtin.Tuple.tupleExact _) (wpAny_newObj_type (zD1 ⟨_,rfl,zD1 h⟩) htake)
  | exact zWb (m:=Builtin.Tuple.tupleExact _) (wpAny_newObj_type (zWb (zD1 (zD1 ⟨_,rfl,zD1 h⟩))) htake)
  | exact zWb (zWb (m:=Builtin.Tuple.tupleExact _) (wpAny_newObj_type (zD1 (zD1 ⟨_,rfl,zD1 h⟩)) htake))
  | exact zWb (zWb (m:=Builtin.Tuple.tupleExact _) (wpAny_newObj_type (zD1 ⟨_,rfl,zD1 h⟩) htake))
end
end HT
namespace L2
open PySem PySem.Spec PyProof.Rows
abbrev TO:=St->Hp->(Option Int->Hp->Prop)->Prop
def PO (X:Cx) (e:Option Expr) (t:TO):Prop:=
 ∀ (pins:List (Addr×Obj)) (s:Shared) (B:St) (H:Hp) (Q:Option Int->Hp->Prop),Inv X pins B H s->t B H Q->
  wpAny (model X.prog X.w) X.A (evalPart e X.env) (λ u s'=>∃ o H',Inv X pins B H' s'/\IsPart u o/\Q o H') X.xe s
noncomputable def V6:TO:=λ _ H Q=>Q none H
noncomputable def V2 (t:TE):TO:=fun B H Q=>t B H λ x H1=>∃ i,x=.int i/\Q (some i) H1
def intsAre_of {ns:List Int}:∀ {us:List Value},Vals (ns.map V.int) us->IntsAre us ns:=by
 induction ns with
 | nil=>intro us r;rw[List.map_nil] at r;cases r;exact .nil
 | cons n ns ih=>
  intro us r;rw[zA6] at r;cases r with
  | cons r1 r2=>
   obtain⟨t,e⟩:=r1;subst e;exact .cons n t (ih r2)
section
variable {X:Cx}{e:Expr}{te:TE}{lo hi:Option Expr}{tl th:TO}{pos p2:Pos}
def Te:PO X none V6:=by
 intro pins s B H Q I h;rw[evalPart_none];exact zD1 ⟨none,H,I,.none,h⟩
def Td (h:PE X e te):PO X (some e) (V2 te):=by
 intro pins s B H Q I hw;rw[evalPart_some];refine zU (h pins s B H _ I hw) λ u s1 ⟨x,H1,I1,r1,q1⟩=>?_;obtain⟨i,rfl,q⟩:=q1;obtain⟨t,rfl⟩:=r1;exact⟨some i,H1,I1,.int i t,q⟩
def qZ (X:Cx) (r:V->Option Int->Option Int->Hp->VK->Prop):Prop:=
 ∀ (pins:List (Addr×Obj)) (s:Shared) (B:St) (H:Hp) (x:V) (v vl vu:Value) (lo hi:Option Int) (sl:Addr) (Q:VK),Inv X pins B H s->RelV x v->s.heap.IsSliceOf sl vl vu .none->IsPart vl lo->IsPart vu hi->r x lo hi H Q->
  ∃ T id,typeLookup (.type T) "__getitem__"=pure (some (.builtin id))/\s.TypeIs v T/\wpAny (model X.prog X.w) X.A (getItem v (.ref sl)) (EP X pins B Q) X.xe s
def qZ.or {r r':V->Option Int->Option Int->Hp->VK->Prop}(h:qZ X r) (h':qZ X r'):qZ X (λ x lo hi H Q=>r x lo hi H Q\/r' x lo hi H Q):=by
 intro pins s B H x v vl vu lo hi sl Q I rx hs pl pu q;rcases q with q | q
 .exact h pins s B H x v vl vu lo hi sl Q I rx hs pl pu q
 .exact h' pins s B H x v vl vu lo hi sl Q I rx hs pl pu q
def Vz (r:V->Option Int->Option Int->Hp->VK->Prop) (te:TE) (tl th:TO):TE:=fun B H Q=>te B H λ x H1=>tl B H1 λ l H2=>th B H2 λ u H3=>r x l u H3 Q
def T7 {r:V->Option Int->Option Int->Hp->VK->Prop}(hr:qZ X r) (he:PE X e te) (hl:PO X lo tl) (hu:PO X hi th):PE X (.Subscript e (.Slice lo hi none p2) pos) (Vz r te tl th):=by
 intro pins s B H Q I h;refine Subscript_ (zU (he pins s B H _ I h) λ v s1 ⟨x,H1,I1,r1,q1⟩=>?_);refine wpAny_Slice (zU (hl pins s1 B H1 _ I1 q1) λ vl s2 ⟨l,H2,I2,pl,q2⟩=>zU (hu pins s2 B H2 _ I2 q2) λ vu s3 ⟨u,H3,I3,pu,q3⟩=>?_);rw[evalPart_none];refine zD1 ?_;have I4:Inv X pins B H3 { s3 with heap:=s3.heap.push { cls:=.type "slice",data:=.fields #[vl,vu,.none] } }:=I3.kept (t':=s3.toks) λ b ob q=>zHp _ q;obtain⟨T,id,hT,ht,hg⟩:=hr pins { s3 with heap:=s3.heap.push { cls:=.type "slice",data:=.fields #[vl,vu,.none] } } B H3 x v vl vu l u s3.heap.objs.size Q I4 r1 (Heap.IsSliceOf.new ..) pl pu q3;show wpAny (model X.prog X.w) X.A (subscriptTail e (.Slice lo hi none p2) v (.ref s3.heap.objs.size)) (EP X pins B Q) X.xe { s3 with heap:=s3.heap.push { cls:=.type "slice",data:=.fields #[vl,vu,.none] } };exact tail_any (ops:=[.ref s3.heap.objs.size,v]) ht hT hg (by with_unfolding_all rfl)
noncomputable def sS (xs:List V) (lo hi:Option Int):List V:=(xs.drop (HT.zW xs.length 0 lo)).take (HT.zW xs.length xs.length hi-HT.zW xs.length 0 lo)
def YR (xs:List V) (lo hi:Option Int):(sS xs lo hi).length<=xs.length:=by
 unfold sS;rw[List.length_take,List.length_drop];omega
def ag (K:zFr):V->Option Int->Option Int->Hp->VK->Prop:=λ x lo hi H Q=>∃ a xs,x=.ref a/\yp K H a xs/\
 ¬ (HT.zW xs.length 0 lo=0/\HT.zW xs.length xs.length hi=xs.length)/\∀ p,H p=none->Q (.ref p) (upd H p (.tup (sS xs lo hi)))
def VY:qZ X (ag X.K):=by
 intro pins s B H x v vl vu lo hi sl Q I rx hs pl pu h;obtain⟨a,xs,rfl,hx,hw,q⟩:=h;cases rx;obtain⟨its,r,ht,hz⟩:=I.tuple hx;have hlen:its.toArray.size=xs.length:=by rw[zA0];exact r.length.symm
 refine⟨"tuple",_,PyProof.Rows.slot_tuple_getitem.lookup,ht.typeIs,?_⟩;refine HT.PN ht hs pl pu (by rw[hlen];exact hw) ?_ (by rw[hlen];exact hz);rw[hlen];refine⟨.ref s.heap.objs.size,_,I.laid (t':=s.toks) (o:=.tup (sS xs lo hi)) (λ b ob q=>zHp _ q) (zA4 _) ?_,rfl,q _ (I.zM.fresh (zA4 _))⟩;exact⟨zE0 (YR xs lo hi) hz,_,(r.drop (HT.zW xs.length 0 lo)).take (HT.zW xs.length xs.length hi-HT.zW xs.length 0 lo),IsTup.new _ _⟩
def gZ (K:zFr):R2:=λ x y H Q=>∃ a b ns ms,x=.ref a/\y=.ref b/\yp K H a (ns.map V.int)/\yp K H b (ms.map V.int)/\Q (.bl (HT.lexLt ns ms)) H
def S_ (hu:X.A.units<cLine):y9 X (compareOp .Lt) (gZ X.K):=by
 intro pins s B H x y v u Q I rx ry h;obtain⟨a,b,ns,ms,rfl,rfl,ha,hb,q⟩:=h;cases rx;cases ry;obtain⟨its,r1,p1,_⟩:=I.tuple ha;obtain⟨its2,r2,p2,_⟩:=I.tuple hb;have i1:IntsAre its.toArray.toList ns:=intsAre_of r1;have i2:IntsAre its2.toArray.toList ms:=intsAre_of r2;exact HT.Q6 p1 p2 i1 i2 hu ⟨.bl (HT.lexLt ns ms),H,I,rfl,q⟩
def av (K:zFr):R2:=λ x y H Q=>∃ a b xs ys,x=.ref a/\y=.ref b/\yp K H a xs/\yp K H b ys/\xs≠[]/\xs.length+ys.length<=sizeLine/\
 (ys=[]->Q (.ref a) H)/\(ys≠[]->∀ p,H p=none->Q (.ref p) (upd H p (.tup (xs++ys))))
def Vals.mV {xs:List V}{us:List Value}(r:Vals xs us):us=[]↔xs=[]:=by
 cases r with
 | nil=>simp
 | cons _ _=>simp
def Rl:y9 X (binaryOp .Add) (av X.K):=by
 intro pins s B H x y v u Q I rx ry h;obtain⟨a,b,xs,ys,rfl,rfl,ha,hb,hx,hz,q1,q2⟩:=h;cases rx;cases ry;obtain⟨its,r1,p1,_⟩:=I.tuple ha;obtain⟨its2,r2,p2,_⟩:=I.tuple hb;refine HT.Ng p1 p2 (λ z=>hx (r1.mV.mp z)) (λ z=>⟨.ref a,H,I,rfl,q1 (r2.mV.mp z)⟩) (λ z=>?_) (by rw[<- r1.length,<- r2.length];exact hz);refine⟨.ref s.heap.objs.size,_,I.laid (t':=s.toks) (o:=.tup (xs++ys)) (λ b ob q=>zHp _ q) (zA4 _) ?_,rfl,q2 (λ w=>z (r2.mV.mpr w)) _ (I.zM.fresh (zA4 _))⟩;exact⟨by rw[zD7];exact hz,_,r1.append r2,IsTup.new _ _⟩
end
noncomputable def vw (n:Nat) (i:Int):Option Nat:=if 0<=i then (if i<n then some i.toNat else none) else if -(n:Int)<=i then some (i+n).toNat else none
noncomputable def yh {α:Type}(xs:List α) (i:Int):Option α:=(vw xs.length i).bind λ j=>xs[j]?
def ZH {n:Nat}{i:Int}{j:Nat}(h:vw n i=some j):seqIndex? i n=some j/\j<n/\-(n:Int)<=i/\i<n:=by
 unfold vw at h;by_cases h0:0<=i
 .rw[if_pos h0] at h;by_cases h1:i<n
  .rw[if_pos h1] at h;have e:i.toNat=j:=zD5 h;exact⟨by rw[seqIndex_of h0 h1,e],by omega,by omega,h1⟩
  .rw[if_neg h1] at h;cases h
 .rw[if_neg h0] at h;by_cases h1:-(n:Int)<=i
  .rw[if_pos h1] at h;have e:(i+n).toNat=j:=zD5 h;exact⟨by rw[seqIndex_neg (by omega) h1,e],by omega,h1,by omega⟩
  .rw[if_neg h1] at h;cases h
def dy {α:Type}{xs:List α}{i:Int}{v:α}(h:yh xs i=some v):∃ j,seqIndex? i xs.length=some j/\xs[j]?=some v/\j<xs.length/\-(xs.length:Int)<=i/\i<xs.length:=by
 unfold yh at h;cases e:vw xs.length i with
 | none=>rw[e] at h;cases h
 | some j=>
  rw[e] at h;obtain⟨h1,h2,h3,h4⟩:=ZH e;exact⟨j,h1,h,h2,h3,h4⟩
def lU {α:Type}(xs:List α) (v:α):yh (xs++[v]) (-1)=some v:=by
 have hl:(xs++[v]).length=xs.length+1:=by simp
 have e:vw (xs++[v]).length (-1)=some xs.length:=by
  unfold vw;rw[hl,if_neg (by decide),if_pos (by omega)];congr 1;omega
 unfold yh;rw[e];show (xs++[v])[xs.length]?=some v;simp
def X0 (b:Expr):Prop:=∀ o i,subscripted b false o i=operate [o,i] (getItem o i)
def qc (X:Cx) (r:R2):Prop:=
 ∀ (value slice:Expr) (pins:List (Addr×Obj)) (s:Shared) (B:St) (H:Hp) (x y:V) (v u:Value) (Q:VK),Inv X pins B H s->RelV x v->RelV y u->r x y H Q->
  subscripted slice false v u=operate [v,u] (getItem v u)->wpAny (model X.prog X.w) X.A (subscriptTail value slice v u) (EP X pins B Q) X.xe s
def NW (X:Cx) (id:String) (r:V->List V->Hp->VK->Prop):Prop:=
 ∀ (pins:List (Addr×Obj)) (s:Shared) (B:St) (H:Hp) (x:V) (xs:List V) (v:Value) (us:List Value) (Q:VK),Inv X pins B H s->RelV x v->Vals xs us->r x xs H Q->
  wpAny (model X.prog X.w) X.A (call (.builtin id) (v::us)) (EP X pins B Q) X.xe s
section
variable {X:Cx}{a b:Expr}{ta tb:TE}{pos:Pos}
def qc.or {r r':R2}(h:qc X r) (h':qc X r'):qc X (λ x y H Q=>r x y H Q\/r' x y H Q):=by
 intro value slice pins s B H x y v u Q I rx ry q hs;rcases q with q | q
 .exact h value slice pins s B H x y v u Q I rx ry q hs
 .exact h' value slice pins s B H x y v u Q I rx ry q hs
def TJ {r:R2}(hr:qc X r) (ha:PE X a ta) (hb:PE X b tb) (hs:X0 b):PE X (.Subscript a b pos) (mr r ta tb):=by
 intro pins s B H Q I h;exact Subscript_ (du ha hb I h λ v u s2 x y H2 I2 rx ry q=>hr a b pins s2 B H2 x y v u Q I2 rx ry q (hs _ _))
def ak (K:zFr):R2:=λ x y H Q=>∃ p xs i v,x=.ref p/\y=.int i/\yg K H p xs/\yh xs i=some v/\Q v H
def ai (K:zFr):R2:=λ x y H Q=>∃ p xs i v,x=.ref p/\y=.int i/\yp K H p xs/\yh xs i=some v/\Q v H
def aj:R2:=λ x y H Q=>∃ z i c,x=.str z/\y=.int i/\z.length<=sizeLine/\yh z.cps.toList i=some c/\Q (.str ⟨#[c]⟩) H
def Pd:qc X (ak X.K):=by
 intro value slice pins s B H x y v u Q I rx ry h hs;obtain⟨p,xs,i,z,rfl,rfl,hq,he,q⟩:=h;cases rx;obtain⟨t,rfl⟩:=ry;obtain⟨its,r,pl,hz⟩:=I.list hq;obtain⟨j,h1,h2,h3,h4,h5⟩:=dy he;obtain⟨w,ew,rw'⟩:=r.get h2;have hl:=r.length;have hn:=pP;have fin:EP X pins B Q w s:=⟨z,H,I,rw',q⟩
 by_cases h0:0<=i
 .have hj:i.toNat=j:=by
   rw[seqIndex_of h0 h5] at h1;exact zD5 h1
  exact item_listR pl.isList h0 (by omega) (by rw[hj];simpa using ew) fin hs
 .have hj:(i+(its.toArray.size:Int)).toNat=j:=by
   rw[seqIndex_neg (by omega) h4] at h1;rw[zA0,<- hl];exact zD5 h1
  exact subscriptTail_builtinR (x:=w) pl.isList.typeIs slot_list_getitem.lookup
   (wpAny_getItem_list_neg (Q:=λ r s'=>r=w/\EP X pins B Q r s') pl.isList (by omega) (by rw[zA0] <;> omega) (by omega) (by rw[hj];simpa using ew) ⟨rfl,fin⟩) hs
def Pa:qc X (ai X.K):=by
 intro value slice pins s B H x y v u Q I rx ry h hs;obtain⟨p,xs,i,z,rfl,rfl,hq,he,q⟩:=h;cases rx;obtain⟨t,rfl⟩:=ry;obtain⟨its,r,pl,hz⟩:=I.tuple hq;obtain⟨j,h1,h2,h3,h4,h5⟩:=dy he;obtain⟨w,ew,rw'⟩:=r.get h2;have hl:=r.length;have hn:=pP;have fin:EP X pins B Q w s:=⟨z,H,I,rw',q⟩
 exact subscriptTail_builtinR (x:=w) pl.typeIs slot_tuple_getitem.lookup
  (getItem_tuple (j:=j) (Q:=λ r s'=>r=w/\EP X pins B Q r s') pl (by omega) (by omega) (by rw[zA0,<- hl];exact h1) (by simpa using ew) ⟨rfl,fin⟩) hs
def Pb:qc X aj:=by
 intro value slice pins s B H x y v u Q I rx ry h hs;obtain⟨z,i,c,rfl,rfl,hz,he,q⟩:=h;obtain⟨t,rfl⟩:=rx;obtain⟨t',rfl⟩:=ry;obtain⟨j,h1,h2,h3,h4,h5⟩:=dy he;have hl:z.cps.toList.length=z.length:=by simp[Str.length]
 rw[hl] at h1 h4 h5;have hn:=pP;exact tail_any (typeIs_str s z t) slot_str_getitem.lookup (getItem_str (c:=c) (by
  have e1:decide (i < -(2 ^ 63:Int))=false:=decide_eq_false (by omega);have e2:decide (i≥2 ^ 63)=false:=decide_eq_false (by omega);rw[e1,e2,Bool.or_false]) (by rw[h1];simpa using h2) ⟨.str ⟨#[c]⟩,H,I.tok _,⟨_,rfl⟩,q⟩) hs
def ao (K:zFr):R2:=λ x y H Q=>ak K x y H Q\/ai K x y H Q\/aj x y H Q
def Pc:qc X (ao X.K):=Pd.or (Pa.or Pb)
def Q5 (its:List Value) (n j:Nat) (u:Value):Obj.mapSeq (·.setIfInBounds j u) { cls:=.type "list",data:=.seq its.toArray n }={ cls:=.type "list",data:=.seq (its.set j u).toArray n }:=by
 simp[Obj.mapSeq]
theorem Inv.lst {pins:List (Addr×Obj)}{B:St}{H:Hp}{s:Shared}{p:Addr}{xs:List V}(I:Inv X pins B H s) (h:H p=some (.lst xs)):
  ∃ (its:List Value) (n:Nat),Vals xs its/\s.heap.get? p=some { cls:=.type "list",data:=.seq its.toArray n }/\xs.length<=sizeLine:=by
 obtain⟨z,its,n,r,e⟩:=I.zM p _ h;exact⟨its,n,r,e,z⟩
def Inv.Q7 {pins:List (Addr×Obj)}{B:St}{H:Hp}{s:Shared}{p:Addr}{xs ys:List V}{its its':List Value}{n n':Nat}{f:Obj->Obj}(I:Inv X pins B H s) (h:H p=some (.lst xs))
  (ho:s.heap.get? p=some { cls:=.type "list",data:=.seq its.toArray n }) (hf:f { cls:=.type "list",data:=.seq its.toArray n }={ cls:=.type "list",data:=.seq its'.toArray n' }) (r:Vals ys its') (hz:ys.length<=sizeLine) (t:Nat):
  Inv X pins B (upd H p (.lst ys)) { s with heap:=s.heap.update p f,toks:=t }:=by
 have e:(s.heap.update p f).get? p=some { cls:=.type "list",data:=.seq its'.toArray n' }:=by
  rw[Heap.get?_update_self f ho (by rw[hf] <;> rfl),hf]
 refine I.write (x:=p) (e:=p) (by rw[h];trivial) (.inl rfl) (λ b u hb q=>(Heap.get?_update_other _ _ (Ne.symm hb)).trans q) ⟨_,e⟩ ?_;exact⟨hz,its',n',r,e⟩
def UE:V->V->V->Hp->(Hp->Prop)->Prop:=λ o i v H Q=>∃ p xs k j,o=.ref p/\i=.int k/\H p=some (.lst xs)/\vw xs.length k=some j/\Q (upd H p (.lst (xs.set j v)))
def set_list:X2 X UE:=by
 intro pins s B H o i v ov iv u Q I ro ri rv h;obtain⟨p,xs,k,j,rfl,rfl,hp,hj,q⟩:=h;cases ro;obtain⟨t,rfl⟩:=ri;obtain⟨its,n,r,ho,hz⟩:=I.lst hp;obtain⟨h1,h2,h3,h4⟩:=ZH hj;have hl:=r.length;have hn:=pP;have I':Inv X pins B (upd H p (.lst (xs.set j v))) { s with heap:=s.heap.update p (Obj.mapSeq (·.setIfInBounds j u)) }:=
  I.Q7 hp ho (Q5 its n j u) (r.set rv j) (by rw[List.length_set];exact hz) s.toks
 by_cases h0:0<=k
 .have hk:k.toNat=j:=by
   rw[seqIndex_of h0 h4] at h1;exact zD5 h1
  exact PySem.W.ki_setAt ho h0 (by omega) (by rw[zA0,<- hl];exact h4) (by rw[hk];exact⟨_,I',q⟩)
 .have hk:(k+(its.toArray.size:Int)).toNat=j:=by
   rw[seqIndex_neg (by omega) h3] at h1;rw[zA0,<- hl];exact zD5 h1
  exact PySem.W.ki_setBack ho (by omega) (by rw[zA0,<- hl];exact h3) (by omega) (by rw[hk];exact⟨_,I',q⟩)
def VV (lo hi:Option Int) (n:Nat):(sliceBounds lo hi none n).1=((HT.zW n 0 lo:Nat):Int)/\(sliceBounds lo hi none n).2.1=((HT.zW n n hi:Nat):Int)/\(sliceBounds lo hi none n).2.2=1:=by
 refine⟨?_,?_,rfl⟩
 .cases lo with
  | none=>simp[sliceBounds,HT.zW]
  | some i=>
   simp only[sliceBounds,HT.zW,Option.getD_none,show (1:Int)>0 by decide,if_true];by_cases h:i<0
   .simp only[h,if_true] <;> omega
   .simp only[h,if_false] <;> omega
 .cases hi with
  | none=>simp[sliceBounds,HT.zW]
  | some i=>
   simp only[sliceBounds,HT.zW,Option.getD_none,show (1:Int)>0 by decide,if_true];by_cases h:i<0
   .simp only[h,if_true] <;> omega
   .simp only[h,if_false] <;> omega
def VW (its:List Value) (lo hi:Option Int):slicePick its.toArray lo hi none=((its.drop (HT.zW its.length 0 lo)).take (HT.zW its.length its.length hi-HT.zW its.length 0 lo)).toArray:=by
 obtain⟨h1,h2,h3⟩:=VV lo hi its.toArray.size;unfold slicePick;rw[h1,h2,h3];simp only[sliceRange_one,pick_run,zA0] <;> rfl
def ah (K:zFr):V->Option Int->Option Int->Hp->VK->Prop:=λ x lo hi H Q=>∃ a xs,x=.ref a/\yg K H a xs/\∀ p,H p=none->Q (.ref p) (upd H p (.lst (sS xs lo hi)))
def VZ:qZ X (ah X.K):=by
 intro pins s B H x v vl vu lo hi sl Q I rx hs pl pu h;obtain⟨a,xs,rfl,hx,q⟩:=h;cases rx;obtain⟨its,r,ht,hz⟩:=I.list hx;have hlen:=r.length;refine⟨"list",_,slot_list_getitem.lookup,ht.isList.typeIs,?_⟩;refine wpAny_getItem_list_slice ht.isList hs pl pu .none (by simp) ?_ (by rw[zA0] <;> omega);rw[VW,<- hlen];refine⟨.ref s.heap.objs.size,_,I.laid (t':=s.toks) (o:=.lst (sS xs lo hi)) (λ b ob q=>zHp _ q) (zA4 _) ?_,rfl,q _ (I.zM.fresh (zA4 _))⟩;exact⟨zE0 (YR xs lo hi) hz,_,0,(r.drop (HT.zW xs.length 0 lo)).take (HT.zW xs.length xs.length hi-HT.zW xs.length 0 lo),zA9 _ rfl⟩
def Ny:xk X (.builtin "len") (λ xs H Q=>∃ p ys,xs=[.ref p]/\(yg X.K H p ys\/yp X.K H p ys)/\Q (.int ys.length) H):=by
 intro pins s B H xs us Q I r h;obtain⟨p,ys,rfl,hq,q⟩:=h;obtain⟨u,rfl,rx⟩:=vals1 r;cases rx;have hn:=pP;rcases hq with hq | hq
 .obtain⟨its,r',pl,hz⟩:=I.list hq;have hlen:=r'.length;exact Calls.call_len_list pl.isList (by simp only[zA0] <;> omega) ⟨.int ys.length,H,I.tok _,⟨s.toks+1,by rw[zA0,hlen]⟩,q⟩
 .obtain⟨its,r',pl,hz⟩:=I.tuple hq;have hlen:=r'.length;exact len_tuple pl (by simp only[zA0] <;> omega) ⟨.int ys.length,H,I.tok _,⟨s.toks+1,by rw[zA0,hlen]⟩,q⟩
def Nx:xk X (.builtin "len") (λ xs H Q=>∃ z,xs=[.str z]/\z.length<=sizeLine/\Q (.int z.length) H):=by
 intro pins s B H xs us Q I r h;obtain⟨z,rfl,hz,q⟩:=h;obtain⟨u,rfl,t,rfl⟩:=vals1 r;have hn:=pP;exact len_str (by omega) ⟨.int z.length,H,I.tok _,⟨_,rfl⟩,q⟩
def xk.or {f:Value}{r r':List V->Hp->VK->Prop}(h:xk X f r) (h':xk X f r'):xk X f (λ xs H Q=>r xs H Q\/r' xs H Q):=by
 intro pins s B H xs us Q I rs q;rcases q with q | q
 .exact h pins s B H xs us Q I rs q
 .exact h' pins s B H xs us Q I rs q
def Nv:xk X (.type "list") (λ xs H Q=>∃ p ys,xs=[.ref p]/\(yg X.K H p ys\/yp X.K H p ys)/\∀ l,H l=none->Q (.ref l) (upd H l (.lst ys))):=by
 intro pins s B H xs us Q I r h;obtain⟨p,ys,rfl,hq,q⟩:=h;obtain⟨u,rfl,rx⟩:=vals1 r;cases rx;have fin:∀ (its:List Value),Vals ys its->ys.length<=sizeLine->∀ (h':Heap) (c':Nat),(∀ b o',s.heap.get? b=some o'->h'.get? b=some o')->
   h'.get? s.heap.objs.size=some { cls:=.type "list",dict:=none,data:=.seq its.toArray c',slots:=#[] }->EP X pins B Q (.ref s.heap.objs.size) { s with heap:=h' }:=λ its r' hz h' c' kp e=>
  ⟨.ref s.heap.objs.size,_,I.laid (t':=s.toks) kp (zA4 _) (show xS X.prog X.w _ h' _ (.lst ys) from ⟨hz,its,c',r',e⟩),rfl,q _ (I.zM.fresh (zA4 _))⟩
 rcases hq with hq | hq
 .obtain⟨its,r',pl,hz⟩:=I.list hq;have hlen:=r'.length;obtain⟨o,ho,hc,n,hd⟩:=pl.isList;exact call_list_seq p (.inl rfl) ho hc hd (λ h' c' kp e=>fin its r' hz h' c' kp e) (by simp only[zA0] <;> omega)
 .obtain⟨its,r',pl,hz⟩:=I.tuple hq;have hlen:=r'.length;obtain⟨o,ho,hc,n,hd⟩:=pl;exact call_list_seq p (.inr rfl) ho hc hd (λ h' c' kp e=>fin its r' hz h' c' kp e) (by simp only[zA0] <;> omega)
def Nh:xk X (.type "tuple") (λ xs H Q=>∃ p ys,xs=[.ref p]/\((yg X.K H p ys/\∀ l,H l=none->Q (.ref l) (upd H l (.tup ys)))\/(yp X.K H p ys/\Q (.ref p) H))):=by
 intro pins s B H xs us Q I r h;obtain⟨p,ys,rfl,h⟩:=h;obtain⟨u,rfl,rx⟩:=vals1 r;cases rx;rcases h with ⟨hq,q⟩ | ⟨hq,q⟩
 .obtain⟨its,r',pl,hz⟩:=I.list hq;have hlen:=r'.length;refine call_tuple_list pl.isList (λ h' kp=>?_) (by simp only[zA0] <;> omega);have I1:Inv X pins B H { s with heap:=h' }:=I.kept (t':=s.toks) kp;have I2:Inv X pins B (upd H h'.objs.size (.tup ys)) { s with heap:=h'.push { cls:=.type "tuple",data:=.seq its.toArray } }:=
   I1.laid (t':=s.toks) (λ b o e=>zHp _ e) (zA4 _) (show xS X.prog X.w _ _ _ (.tup ys) from ⟨hz,its,r',IsTup.new _ _⟩)
  exact⟨.ref h'.objs.size,_,I2,rfl,q _ (I1.zM.fresh (zA4 _))⟩
 .obtain⟨its,r',pl,hz⟩:=I.tuple hq;exact call_tuple_same pl ⟨.ref p,H,I,rfl,q⟩
def bo (K:zFr) (T:String) (x:V) (H:Hp):Prop:=match x with
 | .str _=>T="str"
 | .int _=>T="int"
 | .ref p=>(T="list"/\∃ xs,yg K H p xs)\/(T="tuple"/\∃ o,K.lookup p=some o/\o.cls=.type "tuple"/\o.dict=none)\/
   (T="dict"/\((∃ kvs,H p=some (.dK kvs))\/∃ kvs,H p=some (.dT kvs)))\/(T="set"/\∃ S n,H p=some (.set S n))
 | _=>False
def Vk {pins:List (Addr×Obj)}{B:St}{H:Hp}{s:Shared}{T:String}{x:V}{v:Value}(I:Inv X pins B H s) (r:RelV x v) (ty:bo X.K T x H):
  s.TypeIs v T/\∀ a,v=.ref a->∃ ob,s.heap.get? a=some ob/\ob.dict=none:=by
 cases x with
 | str z=>
  obtain⟨t,rfl⟩:=r;cases (show T="str" from ty);exact⟨typeIs_str s z t,λ _ e=>nomatch e⟩
 | int i=>
  obtain⟨t,rfl⟩:=r;cases (show T="int" from ty);exact⟨typeIs_int s i t,λ _ e=>nomatch e⟩
 | ref p=>
  cases r;rcases ty with ⟨rfl,xs,hq⟩ | ⟨rfl,o,hk,hc,hd⟩ | ⟨rfl,hk⟩ | ⟨rfl,S,n,hk⟩
  .obtain⟨its,_,pl,_⟩:=I.list hq;refine⟨pl.isList.typeIs,λ a e=>?_⟩;cases e;obtain⟨o,n,e,c,hd,_⟩:=pl;exact⟨o,e,hd⟩
  .refine⟨⟨o,I.uB p o hk,hc⟩,λ a e=>?_⟩;cases e;exact⟨o,I.uB _ o hk,hd⟩
  .have z:∃ o,s.heap.get? p=some o/\o.ExactDict:=by
    rcases hk with ⟨kvs,hk⟩ | ⟨kvs,hk⟩
    .obtain⟨_,_,_,_,o,_,_,e,ex,_⟩:=I.zM p _ hk;exact⟨o,e,ex⟩
    .obtain⟨_,_,_,_,o,_,_,e,ex,_⟩:=I.zM p _ hk;exact⟨o,e,ex⟩
   obtain⟨o,e,ex⟩:=z;refine⟨⟨o,e,ex.1⟩,λ a e2=>?_⟩;cases e2;exact⟨o,e,ex.2.1⟩
  .obtain⟨o,_,_,_,e,ex,_⟩:=I.zM p _ hk;refine⟨⟨o,e,ex.1⟩,λ a e2=>?_⟩;cases e2;exact⟨o,e,ex.2.1⟩
 | _=>exact False.elim ty
def iW (K:zFr) (T:String) (r:V->List V->Hp->VK->Prop) (to:TE) (t:TA):TE:=fun B H Q=>to B H λ x H1=>bo K T x H1/\t B H1 λ xs H2=>r x xs H2 Q
variable {o e:Expr}{es:List Expr}{to:TE}{t:TA}{name:Str}{apos cpos:Pos}{T id:String}{r:V->List V->Hp->VK->Prop}
def aD (pa:PlainAttrs T) (slot:Slot T name id) (hty:typeOf (.builtin id)=pure (.type "method_descriptor")) (hm:NW X id r) (ho:PE X o to) (ha:PA X (e::es) t)
  (hbase:attributeBase o name X.env (eval o X.env)=eval o X.env:=by rfl)
  (hfew:((backTo cpos (starEach (e::es) X.env)).all (λ x=>!x.1)&&(backToKw cpos (keywordEach [] X.env)).all (λ x=>x.1.isSome)
   && decide ((e::es).length+([]:List Keyword).length+(if ([]:List Keyword).isEmpty then 0 else 1)<30))=true:=by rfl)
  (hline:(apos.endLine == cpos.line)=true:=by rfl) (hs:starEach (e::es) X.env=(false,eval e X.env)::starEach es X.env:=by rfl) (hplain:(backTo cpos (starEach es X.env)).any (·.1)=false:=by rfl):
  PE X (.Call (.Attribute o name apos) (e::es) [] cpos) (iW X.K T r to t):=by
 intro pins s B H Q I h;refine wpAny_Call_method_late hbase hfew hline rfl (zU (ho pins s B H _ I h) λ v s1 ⟨x,H1,I1,r1,ty,q1⟩=>?_);obtain⟨h1,h2⟩:=Vk I1 r1 ty;refine⟨T,id,pa,slot,hty,h1,h2,?_⟩;have hA:=ha cpos pins s1 B H1 _ I1 q1;rw[hs] at hA ⊢;refine Calls.callWith_builtin (by show (false||(backTo cpos (starEach es X.env)).any (·.1))=false;rw[hplain] <;> rfl) (Calls.evalArgs_plain ?_);exact zU hA λ us s2 ⟨vs,H2,I2,r2,q2⟩=>hm pins s2 B H2 x vs v us Q I2 r1 r2 q2
end
def X4 (X:Cx) (id:String) (r:V->List V->Hp->VK->Prop):Prop:=
 ∀ (pins:List (Addr×Obj)) (s:Shared) (B:St) (H:Hp) (x:V) (xs:List V) (v:Value) (us:List Value) (Q:VK),Inv X pins B H s->RelV x v->Vals xs us->r x xs H Q->
  wpAny (model X.prog X.w) X.A (call (.builtin id) (v::us)) (EP X pins B Q) X.xe s
theorem Vals.one:∀ {x:V}{us:List Value},Vals [x] us->∃ u,us=[u]/\RelV x u
 | _,_,.cons r .nil=>⟨_,rfl,r⟩
theorem Vals.rep {xs:List V}{us:List Value}(h:Vals xs us):∀ k:Nat,Vals (List.replicate k xs).flatten (List.replicate k us).flatten
 | 0=>.nil
 | k+1=>by
  rw[List.replicate_succ,List.replicate_succ,List.flatten_cons,List.flatten_cons];exact Vals.append h (Vals.rep h k)
section
variable {X:Cx}{pins:List (Addr×Obj)}{B:St}{H:Hp}{s:Shared}{l b:Addr}{xs ys zs:List V}
def Inv.Zu {its its':List Value}{n:Nat}{f:Array Value->Array Value}{t':Nat}(I:Inv X pins B H s) (hH:H l=some (.lst xs))
  (e:s.heap.get? l=some { cls:=.type "list",data:=.seq its.toArray n }) (hf:f its.toArray=its'.toArray) (hv:Vals ys its') (hz:ys.length<=sizeLine):
  Inv X pins B (upd H l (.lst ys)) { s with heap:=s.heap.update l (Obj.mapSeq f),toks:=t' }:=by
 have q:=PySem.IsL.update e f;rw[hf] at q;refine I.write (x:=l) (e:=l) (by rw[hH];exact trivial) (.inl rfl) (λ b' u hb hu=>(Heap.get?_update_other s.heap (Obj.mapSeq f) (Ne.symm hb)).trans hu) ⟨_,q⟩ ?_;exact⟨hz,its',_,hv,q⟩
def Inv.QB {its:List Value}{t':Nat}(I:Inv X pins B H s) (hv:Vals ys its) (hz:ys.length<=sizeLine):
  Inv X pins B (upd H s.heap.objs.size (.lst ys)) { s with heap:=s.heap.push { cls:=.type "list",data:=.seq its.toArray },toks:=t' }:=
 I.laid (λ _ _ q=>zHp _ q) (zA4 _) ⟨hz,its,0,hv,zA9 _ rfl⟩
theorem Inv.fresh (I:Inv X pins B H s):H s.heap.objs.size=none:=I.zM.fresh (zA4 _)
def Inv.fN (I:Inv X pins B H s) (hH:H l=some (.lst xs)):xs.length<=sizeLine/\∃ (its:List Value) (n:Nat),Vals xs its/\xs.length=its.length/\s.heap.get? l=some { cls:=.type "list",data:=.seq its.toArray n }:=by
 obtain⟨z,its,n,r,e⟩:=I.zM l _ hH;exact⟨z,its,n,r,r.length,e⟩
def Qm {n:Nat}(h:n<=sizeLine):Builtin.List.listTooLong n=false:=by
 unfold Builtin.List.listTooLong;exact decide_eq_false (by omega)
end
section
variable {X:Cx}
def ax:V->List V->Hp->VK->Prop:=λ x vs H Q=>∃ l xs y,x=.ref l/\vs=[y]/\H l=some (.lst xs)/\xs.length<sizeLine/\Q .zp (upd H l (.lst (xs++[y])))
def Zs:X4 X "list.append" ax:=by
 intro pins s B H x vs v us Q I rx rv h;obtain⟨l,xs,y,rfl,rfl,hH,hz,q⟩:=h;cases rx;obtain⟨u,rfl,ru⟩:=rv.one;obtain⟨z,its,n,r,hl,e⟩:=I.fN hH;refine call_meets F.slot_list_append ⟨_,e,rfl⟩ F.entry_list_append (F.args_list_append_2 _ _) (PySem.list_append l its.toArray n u (by rw[zA0];omega)) ⟨e,?_⟩;refine⟨.zp,_,I.Zu (its':=its++[u]) hH e (by simp) (r.append (.cons ru .nil)) ?_,rfl,q⟩;rw[zD7,List.length_singleton];omega
def ar:V->List V->Hp->VK->Prop:=λ x vs H Q=>∃ l b xs zs,x=.ref l/\vs=[.ref b]/\H l=some (.lst xs)/\H b=some (.lst zs)/\xs.length+zs.length<=sizeLine/\Q .zp (upd H l (.lst (xs++zs)))
def Q1:X4 X "list.extend" ar:=by
 intro pins s B H x vs v us Q I rx rv h;obtain⟨l,b,xs,zs,rfl,rfl,hH,hB,hz,q⟩:=h;cases rx;obtain⟨u,rfl,ru⟩:=rv.one;cases ru;obtain⟨z,its,n,r,hl,e⟩:=I.fN hH;obtain⟨z2,its2,n2,r2,hl2,e2⟩:=I.fN hB;have hsz:its.toArray.size+its2.toArray.size<=sizeLine:=by rw[zA0,zA0];omega
 have hlong:¬ (!its.toArray.isEmpty&&Builtin.List.listTooLong (its.toArray.size+its2.toArray.size))=true:=by
  rw[Qm hsz,Bool.and_false];exact Bool.false_ne_true
 refine call_meets F.slot_list_extend ⟨_,e,rfl⟩ F.entry_list_extend (F.args_list_extend_2 _ _)
  (AutoSeq1.list_extend_list_list_0 l its.toArray n b its2.toArray n2 hlong (by rw[zA0];omega) (by omega)) ⟨e,e2,?_⟩
 refine⟨.zp,_,I.Zu (its':=its++its2) hH e (by simp) (r.append r2) ?_,rfl,q⟩;rw[zD7];omega
end
section
variable {prog:Program}{w:World}{A:Around}{E:Value->Shared->Prop}{s:Shared}
end
section
variable {X:Cx}
end
end L2
namespace WU
open PySem PySem.W PySem.Calls PyProof.Rows
def Pn {P:Params}{h:Heap}:∀ (ns:List Int) (vs:List Value),WellAll P h vs (ns.map WData.int)->IntsAre vs ns:=by
 intro ns
 induction ns with
 | nil=>
  intro vs w;rw[List.map_nil] at w;cases w;exact .nil
 | cons n ns ih=>
  intro vs w;rw[zA6] at w;cases w with
  | cons a b=>
   cases a;exact .cons _ _ (ih _ b)
def Ug {l:OpenLaw}{n:Nat}(hn:l.most=some n) {P:Params}{h:Heap}{args:List WData}{vals:List Value}
  (hpre:l.row.toRowW.claim.pre args=true) (hwl:WellAll P h vals args):
  ∃ a vs ns,vals=[Value.ref a]/\args=[WData.list (ns.map WData.int)]/\h.get? a=some { cls:=.type "list",data:=.seq vs.toArray }/\IntsAre vs ns/\ns.length<=n:=by
 have hsh:WShape.hasAll [] args [.list .int]=true:=(pre_splitW hpre).1;have hc:l.pre.holds [] { args:=args }=true:=(pre_splitW hpre).2;obtain⟨d,r,rfl,h1,h2⟩:=hasAllW_cons hsh;obtain rfl:=hasAllW_nil h2;obtain⟨xs,rfl,h3⟩:=hasW_list h1;obtain⟨ns,rfl⟩:=items_int h3;have hlen:ns.length<=n:=by
  unfold OpenLaw.pre at hc;have h4:(WTm.not (.lt (.lit (.int (n:Int))) (.len (.arg 0)))).holds [] { args:=[.list (ns.map .int)] }=true:=by
   have h4:=(holds_andW hc).1;rw[hn] at h4;exact h4
  have h5:=condW_of h4 (w_not (w_lt w_lit (w_len_list (w_arg rfl))));rw[zA7] at h5;refine Nat.le_of_not_lt λ q=>?_;have q':(n:Int)<((ns.length:Nat):Int):=by omega
  first
   | (rw[decide_eq_true q'] at h5;exact absurd h5 (by decide))
   | (simp at h5;omega)
 cases hwl with
 | cons w1 w2=>
  cases w2;cases w1 with
  | list ho hall=>exact⟨_,_,ns,rfl,rfl,ho,Pn ns _ hall,hlen⟩
def Tc (l:OpenLaw) (args:List WData):l.row.toRowW.claim.post args (.bool true) args=true:=
 postW_of (r:=l.row.toRowW) (X:=(true == true))
  (show WShape.has [] (.bool true) .bool=true by first | rfl | decide | simp[WShape.has,WShape.arms,WShape.armsAll])
  (show (WTm.eq .res (.lit (.bool true))).value [] { args:=args,res:=some (.bool true),after:=args }=some (.bool (true == true)) from w_eq_bool (w_res rfl) w_lit) rfl
def NF {l:OpenLaw}{n:Nat}{q:Program}{loose:List Str}{XP:(Str->Option Value)->Heap->Prop}{YP:World->Heap->Prop}{d:DefRec}
  (hn:l.most=some n) (hdf:d.params.defaults=[])
  (call:∀ (w:World) (s₀ s₁:Shared) (mg mb:Str->Option Value) (fa:Addr) (o:Obj) (pm cd doc:Value) (a:Addr) (vs:List Value) (ns:List Int),
   Ground q loose [] XP w s₀ mg mb s₁.heap->YP w s₁.heap->
   s₁.heap.get? fa=some o->o.data=.func (docDef d.name d.params d.body d.scope pm cd doc)->s₁.heap.CodeRec cd d.name->mg d.name=some (.ref fa)->
   s₁.heap.get? a=some { cls:=.type "list",data:=.seq vs.toArray }->IntsAre vs ns->ns.length<=n->s₁.gens=#[]->
   codeAny (model l.prog w) callerA (.call (.ref fa) ⟨[.ref a],[]⟩) (λ r s'=>r=.ok (.ret (.bool true))/\OldK s₁.heap s'.heap/\s'.os=s₁.os/\AllBare s'.gens) s₁):
  WalkO q loose XP YP l.row.toRowW d [] (λ f vs=>PySem.call f vs):=by
 intro w s₀ s₁ mg mb G Y fa o pm cd doc dV kV ho hd hcd hD hmg hg args vals as hpre hlay hrd hwl hlo;obtain rfl:dV=.none:=Dflts.none hD hdf;obtain rfl:kV=.none:=Dflts.noKw hD;obtain⟨a,vs,ns,rfl,rfl,hobj,hints,hlen⟩:=Ug hn hpre hwl;refine enter_call (codeAny_mono (call w s₀ s₁ mg mb fa o pm cd doc a vs ns G Y ho (fd_plain hd) hcd hmg hobj hints hlen hg) λ r s' hq=>?_);obtain⟨rfl,h2,h3,h4⟩:=hq;exact⟨.inl ⟨.bool true,.bool true,[],rfl,λ _=>rfl,.bool true,Tc l _,λ _=>⟨List.Pairwise.nil,λ _ hm=>(nomatch hm)⟩⟩,h2,h3,h4⟩
section
variable {prog:Program}{w:World}{A:Around}{E:Value->Shared->Prop}{s:Shared}{K:Frag}
end
end WU
namespace L2
open PySem PySem.Spec PyProof.Rows
theorem cZ:∀ {vs:List Value}{ns:List Int},IntsAre vs ns->Vals (ns.map V.int) vs
 | _,_,.nil=>.nil
 | _,_,.cons n t h=>.cons ⟨t,rfl⟩ (cZ h)
def iw (H:Hp):Prop:=∀ b,H b=none\/∃ o xs,H b=some (.vm o (.lst xs))
def QQ {P:Program}{w:World}{K:zFr}{mg mb:Str->Option Value}{CX:tX}{k:Nat}{fa a:Addr}{fd:FuncData}{x:Str}{sp:Sp}{s₁:Shared}{vs:List Value}{ns:List Int}
  (KX:K.In s₁.heap) (hns:s₁.heap.Ns mainGlobals mg) (hb:s₁.heap.Ns builtinsNs mb) (hbb:∀ x:Str,x≠"__name__"->mb x=bootBuiltins x) (hlim:s₁.heap.NoLimit) (hg:s₁.gens=#[])
  (ha:s₁.heap.get? a=some { cls:=.type "list",data:=.seq vs.toArray }) (hi:IntsAre vs ns) (hl:ns.length<=sizeLine) (hr:y_ k callerA)
  (F:∀ base:Heap,K.In base->base.Ns mainGlobals mg->t8 P w K mg base CX k fa fd [x] sp) (hbind:∀ (s:Shared) (u:Value),BindsTo s fd ⟨[u],[]⟩ [(x,u)])
  (hsp:∀ H:Hp,iw H->yg K H a (ns.map V.int)->sp [.ref a] H (λ v _=>v=.bl true) λ _ _ _=>False)
  (hCX:∀ H e s',CX [] H s₁ (λ _ _ _=>False) e s'->False):
  codeAny (model P w) callerA (.call (.ref fa) ⟨[.ref a],[]⟩) (λ r s'=>r=.ok (.ret (.bool true))/\OldK s₁.heap s'.heap/\s'.os=s₁.os/\AllBare s'.gens) s₁:=by
 have rv:=cZ hi;have lenV:=hi.length;have core:∀ H:Hp,iw H->yg K H a (ns.map V.int)->xE P w H s₁.heap->(∀ b,H b≠none->b=a)->(H a≠none->K.lookup a=none)->
   codeAny (model P w) callerA (.call (.ref fa) ⟨[.ref a],[]⟩) (λ r s'=>r=.ok (.ret (.bool true))/\OldK s₁.heap s'.heap/\s'.os=s₁.os/\AllBare s'.gens) s₁:=by
  intro H hO hS zM hA hK;have base_of:∀ {b:Addr}{o:Obj},s₁.heap.get? b=some o->H b=none->(rQ s₁.heap H).get? b=some o:=λ e n=>Pz e n;have noA:∀ {b:Addr}{o:Obj}{es:Array DictEntry}{ep:Nat},s₁.heap.get? b=some o->o.data=.dict es ep->H b=none:=λ{b o es ep} e d=>by
   cases q:H b with
   | none=>rfl
   | some u=>
    have e':b=a:=hA b (by rw[q];simp);subst e';rw[ha] at e;cases e;have d':Data.seq vs.toArray _=Data.dict es ep:=d;cases d'
  have nsK:∀ {b:Addr}{m:Str->Option Value},s₁.heap.Ns b m->(rQ s₁.heap H).Ns b m:=λ{b m} ⟨o,es,ep,e,d,r⟩=>⟨o,es,ep,base_of e (noA e d),d,r⟩;have hKb:K.In (rQ s₁.heap H):=λ b o e=>base_of (KX b o e) (by
   cases q:H b with
   | none=>rfl
   | some u=>
    have e':b=a:=hA b (by rw[q];simp);subst e';rw[hK (by rw[q];simp)] at e;cases e)
  have hM:Mod K mg (rQ s₁.heap H):=⟨hKb,nsK hns,⟨mb,nsK hb,hbb⟩,let ⟨mc,h1,h2⟩:=hlim;⟨mc,nsK h1,h2⟩⟩
  have e0:iD P w K mg (rQ s₁.heap H) callerA [] s₁ H:=⟨rfl,hM,λ b o e=>Ql e,Nat.le_of_eq (Py _ _),trivial,λ b hb=>absurd (show b∈([]:List Addr) from hb) (by simp),zM,.of_eq hg⟩
  refine codeAny_mono ((F _ hKb (nsK hns)).run callerA [] s₁ H ⟨[.ref a],[]⟩ [.ref a] [.ref a] _ _ hr e0 (hbind s₁ (.ref a)) (.cons rfl .nil) (hsp H hO hS)) λ r s' h=>?_;cases r with
  | error e=>exact (hCX H e s' h).elim
  | ok fl=>
   cases fl with
   | next=>exact False.elim h
   | brk=>exact False.elim h
   | cont=>exact False.elim h
   | ret u=>
    obtain⟨v,H',os,bare,un,hok',r',q⟩:=h;have q':v=.bl true:=q;subst q';obtain rfl:u=Value.bool true:=r';refine⟨rfl,OldK.of_keep λ b o e=>?_,os,bare⟩;cases q:H b with
    | none=>exact un.keep b o e q (by intro z;exact absurd (show b∈([]:List Addr) from z) (by simp)) (by simp)
    | some u=>
     rcases hO b with z | ⟨ob,xs,z⟩
     .rw[q] at z;cases z
     .have z2:=un.rS b ob _ z;obtain⟨e1,_⟩:=zM b _ z;obtain⟨e2,_⟩:=hok' b _ z2;rw[e] at e1;cases e1;exact e2
 cases hk:K.lookup a with
 | some o=>
  have e:=KX a o hk;rw[ha] at e;cases e;refine core (λ _=>none) (λ _=>.inl rfl) (.inr ⟨_,vs.toArray,_,hk,rfl,rfl,rfl,by rw[zA0,lenV];exact hl,by simpa using rv⟩) (λ b u z=>by have z':(none:Option HO)=some u:=z;cases z') (λ b z=>absurd rfl z) λ z=>absurd rfl z
 | none=>
  refine core (λ b=>if b=a then some (.vm { cls:=.type "list",data:=.seq vs.toArray } (.lst (ns.map V.int))) else none) (λ b=>?_) (.inl (.inr ⟨{ cls:=.type "list",data:=.seq vs.toArray },if_pos rfl⟩)) (λ b u z=>?_) (λ b z=>?_) λ _=>hk
  .by_cases hb:b=a
   .exact .inr ⟨_,_,if_pos hb⟩
   .exact .inl (if_neg hb)
  .by_cases hb:b=a
   .have z':=(if_pos hb).symm.trans z;cases z';subst hb;exact⟨ha,by rw[zA7];exact hl,vs,_,rv,ha⟩
   .have z':=(if_neg hb).symm.trans z;cases z'
  .by_cases hb:b=a
   .exact hb
   .exact absurd (if_neg hb) z
def Va {l:PySem.W.OpenLaw}{n k:Nat}{q:Program}{loose:List Str}{XP:(Str->Option Value)->Heap->Prop}{YP:World->Heap->Prop}{d:DefRec}{K:Params->zFr}{CX:World->tX}{sp:World->Sp}{x:Str}
  (hn:l.most=some n) (hn2:n<=sizeLine) (hdf:d.params.defaults=[]) (hr:y_ k callerA)
  (hY:∀ (w:World) (h:Heap),YP w h->(K w.params).In h)
  (F:∀ (w:World) (mg:Str->Option Value) (fa:Addr) (h:Heap),(K w.params).In h->h.Ns mainGlobals mg->mg d.name=some (.ref fa)->
   ∃ fd:FuncData,(∀ (s:Shared) (u:Value),BindsTo s fd ⟨[u],[]⟩ [(x,u)])/\
    ∀ base:Heap,(K w.params).In base->base.Ns mainGlobals mg->t8 l.prog w (K w.params) mg base (CX w) k fa fd [x] (sp w))
  (hsp:∀ (w:World) (H:Hp) (a:Addr) (ns:List Int),ns.length<=n->iw H->yg (K w.params) H a (ns.map V.int)->sp w [.ref a] H (λ v _=>v=.bl true) λ _ _ _=>False)
  (hCX:∀ (w:World) (H:Hp) (s:Shared) (e:Value) (s':Shared),CX w [] H s (λ _ _ _=>False) e s'->False):
  PySem.W.WalkO q loose XP YP l.row.toRowW d [] (λ f vs=>PySem.call f vs):=by
 refine WU.NF hn hdf λ w s₀ s₁ mg mb fa o pm cd doc a vs ns G Y ho hd hcd hmg hobj hints hlen hg=>?_;have KX:=hY w _ Y;obtain⟨fd,hb,hF⟩:=F w mg fa _ KX G.T.g hmg;exact QQ KX G.T.g G.T.b G.T.builtins G.T.nolimit hg hobj hints (zE0 hlen hn2) hr hF hb (λ H hO hS=>hsp w H a ns hlen hO hS) λ H e s'=>hCX w H s₁ e s'
noncomputable def rW (s:Stmt):Arguments:=match s with
 | .FunctionDef _ a _ _ _ _ _ _ _ _=>a
 | _=>{ posonlyargs:=[],args:=[],vararg:=none,kwonlyargs:=[],kw_defaults:=[],kwarg:=none,defaults:=[] }
noncomputable def uc (s:Stmt):List Stmt:=match s with
 | .FunctionDef _ _ b _ _ _ _ _ _ _=>b
 | _=>[]
noncomputable def zN (s:Stmt):Scope:=match s with
 | .FunctionDef _ _ _ _ _ _ sc _ _ _=>sc
 | _=>{ kind:=.function,names:=[],isGenerator:=false,isCoroutine:=false }
abbrev ur:tX:=λ _ _ _ _ _ _=>False
abbrev E0:XK:=λ _ _ _=>False
def SK {X:Cx}:Passes ur X E0:=λ _ _ _ _ _ _ _ h=>h.elim
structure tV (K:zFr) (x qual:Str) (st:Stmt) (f:Addr) (fd:FuncData):Prop where
 ex:∃ (oc:Value) (od:Option Addr) (kV doc pm:Value) (an:Option Addr) (cdv ct:Value) (osl:Array (Option Value)),
  fd=PySem.W.fnOf x qual (rW st) (uc st) (zN st) .none kV doc pm an cdv ct/\K.lookup f=some ⟨oc,od,.func fd,osl⟩/\PySem.W.codeIn K cdv qual=true
 kp:PySem.W.keepIn K (.ref f)=true
section
variable {P:Program}{w:World}{K:zFr}{mg:Str->Option Value}{base:Heap}
def tV.ok {x qual:Str}{st:Stmt}{f:Addr}{fd:FuncData}{N ps:List Str}{k:Nat}{sp:Sp}(F:tV K x qual st f fd) (S:yr N ps (zN st)) (len:∀ vs H Q E,sp vs H Q E->vs.length=ps.length)
  (hbody:∀ (cdv:Value) (A:Around) (outer:List Env) (s:Shared) (H:Hp) (vs:List V) (Q:VK) (E:XK),y_ k (A.deeper (envOfC qual (zN st) s.heap.objs.size f cdv))->sp vs H Q E->
   ∃ t,ve (sR ur P w K mg base N qual (zN st) f cdv A outer s H E).qE (uc st) t/\t { nx:=λ _ H'=>Q .zp H',rt:=Q } (start N vs) H):t8 P w K mg base ur (k+1) f fd ps sp:=by
 obtain⟨oc,od,kV,doc,pm,an,cdv,ct,osl,rfl,lk,hcd⟩:=F.ex;refine Oa lk hcd S len λ A outer s H vs Q E hr hsp=>?_;obtain⟨t,h,q⟩:=hbody cdv A outer s H vs Q E hr hsp;exact⟨t,h.qE,q⟩
def tV.binds {x qual:Str}{st:Stmt}{f:Addr}{fd:FuncData}{ps:List Str}(F:tV K x qual st f fd)
  (h:∀ (kV doc pm:Value) (an:Option Addr) (cdv ct:Value) (us:List Value),us.length=ps.length->bindArgs (PySem.W.fnOf x qual (rW st) (uc st) (zN st) .none kV doc pm an cdv ct) ⟨us,[]⟩=pure (ps.zip us)):Binds K fd ps []:=by
 obtain⟨oc,od,kV,doc,pm,an,cdv,ct,osl,rfl,lk,hcd⟩:=F.ex;exact .all (h kV doc pm an cdv ct)
def Yi {x qual:Str}{st:Stmt}{f:Addr}{oc:Value}{od an:Option Addr}{osl:Array (Option Value)}{kV doc pm cdv ct:Value}(l:K.lookup f=some ⟨oc,od,.func (PySem.W.fnOf x qual (rW st) (uc st) (zN st) .none kV doc pm an cdv ct),osl⟩)
  (c:PySem.W.codeIn K cdv qual=true) (k:PySem.W.keepIn K (.ref f)=true):tV K x qual st f (PySem.W.fnOf x qual (rW st) (uc st) (zN st) .none kV doc pm an cdv ct):=⟨⟨oc,od,kV,doc,pm,an,cdv,ct,osl,rfl,l,c⟩,k⟩
end
def el {A:Around}{k:Nat}(hr:y_ k A):A.units+1<cLine:=Nat.lt_of_le_of_lt (Nat.add_le_add_left (by decide:1<=64) _) hr.units
section
variable {X:Cx}
def pv (i:Nat) {x:Str}{pos:Pos}(hN:X.N[i]?=some x:=by rfl) (hv:dE X.env.scope x:=by first | exact Or.inl rfl | exact Or.inr (Or.inl rfl) | exact Or.inr (Or.inr rfl)) (hd:(x == ("__debug__":Str))=false:=by decide)
  (hcd:(x == ("__classdict__":Str))=false:=by decide):PE X (.Name x pos) (iR i):=T3 hN hv hd hcd
end
end L2
namespace PySem
theorem df {env:Env}:∀ (l:List (Str×NameKind)) (acc:List (Str×Addr)),(∀ y∈l,y.2=.free->∃ c,env.cells.lookup y.1=some c)->
  ∃ cl,(forIn l acc (λ(x:Str×NameKind) r=>if (x.2 == NameKind.free)=true then do let a <- cellOf env x.1;pure (ForInStep.yield ((x.1,a)::r)) else pure (ForInStep.yield r)):Sem (List (Str×Addr)))=pure cl/\
   (∀ x c,cl.lookup x=some c->acc.lookup x=some c\/((x,NameKind.free)∈l/\env.cells.lookup x=some c))/\(∀ x,(x,NameKind.free)∈l\/(acc.lookup x).isSome->(cl.lookup x).isSome)
 | [],acc,_=>⟨acc,rfl,λ x c h=>.inl h,λ x h=>by simpa using h⟩
 | (n,k)::l,acc,h=>by
  by_cases hk:k=.free
  .subst hk;obtain⟨c,hc⟩:=h (n,.free) zMc rfl;obtain⟨cl,e1,e2,e3⟩:=df l ((n,c)::acc) λ y hy=>h y (zMo _ hy);refine⟨cl,?_,λ x d hx=>?_,λ x hx=>?_⟩
   .rw[List.forIn_cons];simp only[beq_self_eq_true,if_true,cellOf,hc];exact e1
   .rcases e2 x d hx with q | ⟨q1,q2⟩
    .rw[List.lookup_cons] at q;cases hxn:x == n with
     | true=>
      rw[hxn] at q;have:x=n:=by simpa using hxn
      subst this;refine .inr ⟨zMc,?_⟩;rw[hc];exact q
     | false=>rw[hxn] at q;exact .inl q
    .exact .inr ⟨zMo _ q1,q2⟩
   .refine e3 x ?_;rcases hx with hx | hx
    .rcases zA5.mp hx with q | q
     .have:x=n:=congrArg Prod.fst q;subst this;exact .inr (by simp[List.lookup_cons])
     .exact .inl q
    .refine .inr ?_;rw[List.lookup_cons];cases x == n <;> simp[hx]
  .have hb:(k == NameKind.free)=false:=by simpa using hk
   obtain⟨cl,e1,e2,e3⟩:=df l acc λ y hy=>h y (zMo _ hy);refine⟨cl,?_,λ x d hx=>?_,λ x hx=>?_⟩
   .rw[List.forIn_cons];simp only[hb,zC4,if_false];exact e1
   .rcases e2 x d hx with q | ⟨q1,q2⟩
    .exact .inl q
    .exact .inr ⟨zMo _ q1,q2⟩
   .refine e3 x ?_;rcases hx with hx | hx
    .rcases zA5.mp hx with q | q
     .exact absurd (congrArg Prod.snd q).symm hk
     .exact .inl q
    .exact .inr hx
def YU {scope:Scope}{env:Env}(h:∀ y∈scope.names,y.2=.free->∃ c,env.cells.lookup y.1=some c):
  ∃ cl,closureFor scope env=pure cl/\(∀ x c,cl.lookup x=some c->(x,NameKind.free)∈scope.names/\env.cells.lookup x=some c)/\∀ x,(x,NameKind.free)∈scope.names->(cl.lookup x).isSome:=by
 obtain⟨cl,e1,e2,e3⟩:=df (env:=env) scope.names [] h;refine⟨cl,?_,λ x c hx=>?_,λ x hx=>e3 x (.inl hx)⟩
 .simp only[closureFor];rw[e1];rfl
 .rcases e2 x c hx with q | q
  .simp at q
  .exact q
theorem Zw {env:Env}:∀ {names:List (Str×NameKind)}{x:Str},names.lookup x=some .free->
  (names.map λ(n,k)=>if (k == NameKind.free&&env.scope.kind == .function&&env.kindOf n == some .cell) then (n,NameKind.cell) else (n,k)).lookup x=some .cell\/
  (names.map λ(n,k)=>if (k == NameKind.free&&env.scope.kind == .function&&env.kindOf n == some .cell) then (n,NameKind.cell) else (n,k)).lookup x=some .free
 | [],_,h=>by simp at h
 | (n,k)::r,x,h=>by
  have ih:=@Zw env r x;show List.lookup x ((if (k == NameKind.free&&env.scope.kind == .function&&env.kindOf n == some .cell)=true then (n,NameKind.cell) else (n,k))::_)=_\/List.lookup x ((if (k == NameKind.free&&env.scope.kind == .function&&env.kindOf n == some .cell)=true then (n,NameKind.cell) else (n,k))::_)=_;cases hx:x == n with
  | true=>
   simp only[List.lookup_cons,hx] at h;cases h;by_cases hc:(NameKind.free == NameKind.free&&env.scope.kind == .function&&env.kindOf n == some .cell)=true
   .rw[if_pos hc];simp[List.lookup_cons,hx]
   .rw[if_neg hc];simp[List.lookup_cons,hx]
  | false=>
   simp only[List.lookup_cons,hx] at h;by_cases hc:(k == NameKind.free&&env.scope.kind == .function&&env.kindOf n == some .cell)=true
   .rw[if_pos hc];simp only[List.lookup_cons,hx];exact ih h
   .rw[if_neg hc];simp only[List.lookup_cons,hx];exact ih h
theorem b_ {env:Env}:∀ {names:List (Str×NameKind)}{x:Str},(∀ y∈names,y.2≠.cell)->
  ((names.map λ(n,k)=>if (k == NameKind.free&&env.scope.kind == .function&&env.kindOf n == some .cell) then (n,NameKind.cell) else (n,k)).lookup x=some .cell\/
  (names.map λ(n,k)=>if (k == NameKind.free&&env.scope.kind == .function&&env.kindOf n == some .cell) then (n,NameKind.cell) else (n,k)).lookup x=some .free)->(x,NameKind.free)∈names
 | [],_,_,h=>by simp at h
 | (n,k)::r,x,hn,h=>by
  have ih:=@b_ env r x λ y hy=>hn y (zMo _ hy);have h':List.lookup x ((if (k == NameKind.free&&env.scope.kind == .function&&env.kindOf n == some .cell)=true then (n,NameKind.cell) else (n,k))::_)=some .cell\/List.lookup x ((if (k == NameKind.free&&env.scope.kind == .function&&env.kindOf n == some .cell)=true then (n,NameKind.cell) else (n,k))::_)=some .free:=h;have hf:∀ k',((if (k == NameKind.free&&env.scope.kind == .function&&env.kindOf n == some .cell)=true then (n,NameKind.cell) else (n,k)):Str×NameKind)=(n,k')->(k'=.cell\/k'=.free)->k=.free:=by
   intro k' e hk';by_cases hc:(k == NameKind.free&&env.scope.kind == .function&&env.kindOf n == some .cell)=true
   .simp only[zE5] at hc;simpa using hc.1.1
   .rw[if_neg hc] at e;have:k=k':=congrArg Prod.snd e;subst this;rcases hk' with q | q
    .exact absurd q (hn (n,k) zMc)
    .exact q
  cases hx:x == n with
  | true=>
   have hxn:x=n:=by simpa using hx
   subst hxn;by_cases hc:(k == NameKind.free&&env.scope.kind == .function&&env.kindOf x == some .cell)=true
   .simp only[zE5] at hc;have:k=.free:=by simpa using hc.1.1
    subst this;exact zMc
   .rw[if_neg hc] at h';simp only[List.lookup_cons,beq_self_eq_true] at h';rcases h' with q | q
    .exact absurd (zD5 q) (hn (x,k) zMc)
    .have:=zD5 q;subst this;exact zMc
  | false=>
   refine zMo _ (ih ?_);by_cases hc:(k == NameKind.free&&env.scope.kind == .function&&env.kindOf n == some .cell)=true
   .rw[if_pos hc] at h';simp only[List.lookup_cons,hx] at h';exact h'
   .rw[if_neg hc] at h';simp only[List.lookup_cons,hx] at h';exact h'
end PySem
namespace L2
open PySem PySem.Spec PyProof.Rows
noncomputable def uT (pick:List (Option Nat)) (B:St):St:=pick.map λ o=>o.bind λ i=>(B[i]?).join
noncomputable def xB (X:Cx) (N':List Str) (scope:Scope) (cl:List (Str×Addr)) (C:Addr) (s:Shared) (H:Hp) (ex:List Addr):Cx:=
 { X with N:=N',s₀:=s,H₀:=H,env:=compEnvC scope cl C X.env,outer:=X.stack,stack:=X.stack,ex:=ex,fn:=λ _=>false,pn:=[],xe:=λ _ _=>False }
noncomputable def oS (N N':List Str) (pick:List (Option Nat)) (scope:Scope):Bool:=(N'.zip pick).all λ p=>match p.2 with
 | none=>true
 | some j=>decide (N[j]?=some p.1)&&decide (scope.names.lookup p.1=some .free)
structure o9 (X:Cx) (N':List Str) (pick:List (Option Nat)) (scope:Scope):Prop where
 kind:scope.kind=.function
 Zl:∀ y∈scope.names,y.2≠.cell
 names:∀ y∈scope.names,y.2=.local->scope.names.lookup y.1=some .local
 free:∀ y∈scope.names,y.2=.free->X.env.scope.names.lookup y.1=some .cell\/X.env.scope.names.lookup y.1=some .free
 len:pick.length=N'.length
 ok:oS X.N N' pick scope=true
def oS.get {N N':List Str}{pick:List (Option Nat)}{scope:Scope}(h:oS N N' pick scope=true) {i j:Nat}{x:Str}(h1:N'[i]?=some x) (h2:pick[i]?=some (some j)):N[j]?=some x/\scope.names.lookup x=some .free:=by
 unfold oS at h;have hm:(x,some j)∈N'.zip pick:=by
  refine zB7 (i:=i) ?_;rw[List.getElem?_zip_eq_some];exact⟨h1,h2⟩
 have q:=zE4.mp h _ hm;simp only[zE5,decide_eq_true_eq] at q;exact q
def uT.get {pick:List (Option Nat)}{B:St}{i:Nat}{v:V}(h:(uT pick B)[i]?=some (some v)):∃ j,pick[i]?=some (some j)/\B[j]?=some (some v):=by
 unfold uT at h;rw[zA3] at h;cases e:pick[i]? with
 | none=>rw[e] at h;cases h
 | some o=>
  rw[e] at h;cases o with
  | none=>simp at h
  | some j=>
   refine⟨j,rfl,?_⟩;simp only[Option.map_some,Option.some.injEq,zC9] at h;cases q:B[j]? with
   | none=>rw[q] at h;simp at h
   | some w=>rw[q] at h;simp at h;rw[h]
def PF (X:Cx) (ifs:List Expr) (t:TT):Prop:=∀ (pins:List (Addr×Obj)) (s:Shared) (B:St) (H:Hp) (Q:Bool->Hp->Prop),Inv X pins B H s->t B H Q->
 wpAny (model X.prog X.w) X.A (forIn ifs true λ c r=>if r=true then do let ok <- isTrue c X.env (eval c X.env);pure (ForInStep.yield ok) else pure (ForInStep.yield r)) (TP X pins B Q) X.xe s
def Tz {X:Cx}:PF X [] (λ _ H Q=>Q true H):=λ _ _ _ H _ I h=>wpAny_tests_nil ⟨H,I,h⟩
def Tx {X:Cx}{c:Expr}{t:TT}(h:PT X c t):PF X [c] t:=λ pins s B H Q I q=>wpAny_tests_one (h pins s B H Q I q)
def iU (pick:List (Option Nat)) (wi:TI) (g:TG) (tc:TT) (te:TE):TE:=fun B H Q=>wi B H λ J H1=>∀ D,H1 D=none->∃ W:Nat->Nat->St->Hp->Prop,(∃ m,W 0 m (uT pick B) (upd H1 D (.lst [])))/\
 ∀ i m B H,W i m B H->(J.stop i H/\Q (.ref D) H)\/(J.go i H/\∀ x H',J.oA i H x H'->g x B H' fun B2 H2=>tc B2 H2 λ b H3=>
  if b=true then te B2 H3 λ y H4=>∃ ys m',H4 D=some (.lst ys)/\ys.length<sizeLine/\m'<m/\W (i+1) m' B2 (upd H4 D (.lst (ys++[y]))) else ∃ m',m'<m/\W (i+1) m' B2 H3)
section
variable {X:Cx}{pins:List (Addr×Obj)}{B:St}{H:Hp}{s:Shared}{N':List Str}{pick:List (Option Nat)}{scope:Scope}{cl:List (Str×Addr)}{C:Addr}{fp:List Addr}
def Pm (S:o9 X N' pick scope) (I:Inv X pins B H s) (hfp:∀ b∈fp,uN X pins H b) (hlt:∀ b∈fp,b<s.heap.objs.size)
  (c1:∀ x c,cl.lookup x=some c->(x,NameKind.free)∈scope.names/\X.env.cells.lookup x=some c) (c2:∀ x,(x,NameKind.free)∈scope.names->(cl.lookup x).isSome)
  {h1:Heap}{m1:Str->Option Value}{t':Nat}(hC:s.heap.objs.size<C) (old:∀ b o,s.heap.get? b=some o->h1.get? b=some o) (hns:h1.Ns C m1)
  (hD:h1.get? s.heap.objs.size=some { cls:=.type "list",data:=.seq #[] 0 }):
  Inv (xB X N' scope cl C s H fp) [] (uT pick B) (upd H s.heap.objs.size (.lst [])) { s with heap:=h1,toks:=t' }:=by
 have hDn:H s.heap.objs.size=none:=I.zM.fresh (zA4 _);have hCn:H C=none:=I.zM.fresh (zE3 hC);have clt:∀ x c,cl.lookup x=some c->c<s.heap.objs.size:=λ x c e=>by
  obtain⟨v,q⟩:=I.cell x c (c1 x c e).2;exact q.lt
 refine⟨⟨I.ok.mod,S.kind,I.ok.glob,I.ok.blt,zE3 hC,λ x y c e1 e2=>I.ok.inj x y c (c1 x c e1).2 (c1 y c e2).2,λ x hx=>?_,λ x c hf _=>absurd (show false=true from hf) Bool.false_ne_true,I.ok.hd,I.ok.frames,.inl rfl,
  λ b hb=>⟨zB3 (Nat.lt_trans (hlt b hb) hC),λ x c e=>(hfp b hb).2.2.2.2.1 x c (c1 x c e).2⟩,I.bs,zE0 I.ok.og I.sz,λ b o e hb=>?_,λ b hb z=>?_,I.stack,I.b6⟩,
  rfl,I.bare,Un.laid old (zA4 _) hDn,⟨m1,hns,λ i x v e1 e2 e3=>?_⟩,λ x c e=>?_,?_,λ x c e=>?_,λ p hp=>absurd (show p∈([]:List (Addr×Obj)) from hp) (by simp),I.zM.laid old (zA4 _) ?_,?_⟩
 .exact Option.isSome_iff_exists.mp (c2 x (b_ S.Zl hx))
 .rcases (hfp b hb).2.2.2.1 with z | z
  .exact I.ok.mU b o e z
  .exact absurd (zC3 (zA8 (I.ok.bs b o e).1) z) (zE1 _)
 .rcases zA5.mp (I.iY b z) with q | q
  .exact (hfp b hb).2.1 q
  .exact (hfp b hb).2.2.1 q
 .obtain⟨j,p1,p2⟩:=uT.get e2;obtain⟨q1,q2⟩:=oS.get S.ok e1 p1;obtain⟨m0,n0,l0⟩:=I.loc;have hm:(x,NameKind.free)∈scope.names:=PySem.mem_of_lookup q2;have hk:X.env.scope.names.lookup x=some .cell\/X.env.scope.names.lookup x=some .free:=S.free _ hm rfl;obtain⟨u,r,l⟩:=l0 j x v q1 p2 (.inr hk);refine⟨u,r,.inr ⟨Zw q2,?_⟩⟩;rcases l with ⟨k,_⟩ | ⟨_,c,e,z⟩
  .have k':X.env.scope.names.lookup x=some .local:=k;rcases hk with hk | hk <;> (rw[k'] at hk;cases hk)
  .obtain⟨c',e'⟩:=Option.isSome_iff_exists.mp (c2 x hm);have e'':=(c1 x c' e').2;rw[e] at e'';cases e'';obtain⟨o,z1,z2⟩:=z;exact⟨c,e',o,old _ _ z1,z2⟩
 .obtain⟨v,o,z1,z2⟩:=I.cell x c (c1 x c e).2;exact⟨v,o,old _ _ z1,z2⟩
 .show upd H s.heap.objs.size (.lst []) C=none;rw[xo (Nat.ne_of_gt hC)];exact hCn
 .show upd H s.heap.objs.size (.lst []) c=none;rw[xo (zB3 (clt x c e))];exact I.sI x c (c1 x c e).2
 .exact⟨zD4 _,[],0,.nil,hD⟩
 .show (uT pick B).length=N'.length;unfold uT;rw[zA7];exact S.len
def Pk {B':St}{H':Hp}{s':Shared}{oC:Obj}(I:Inv X pins B H s) (hfp:∀ b∈fp,uN X pins H b) (hC:s.heap.objs.size<C)
  (I':Inv (xB X N' scope cl C s H fp) [] B' H' s') (hoC:s'.heap.get? C=some oC):Inv X (pins++[(C,oC)]) B H' s':=by
 have J:Inv X pins B H' s':=I.N4 (ch:=fp) I'.os I'.base I'.zM I'.bare λ b hb=>⟨(hfp b hb).2.2.2.1,(hfp b hb).2.1,(hfp b hb).2.2.2.2.1,(hfp b hb).2.2.2.2.2⟩;refine J.fh λ p hp=>(zB9.mp hp).elim (λ z=>J.pin p (zB4 _ z)) λ z=>?_;obtain rfl:p=(C,oC):=zB6.mp z;refine⟨hoC,I'.free,Nat.ne_of_gt (Nat.lt_trans I.lt hC),I.Zi (zE3 hC),λ v hv=>?_⟩;obtain⟨m,⟨o,es,ep,ho,hd,_⟩,_⟩:=I'.loc;have ho':s'.heap.get? C=some o:=ho;rw[hoC] at ho';cases ho';rw[hd] at hv;cases hv
def ZR {B':St}{H':Hp}{s':Shared}{oC:Obj}{h':Heap}(I:Inv X pins B H s) (hC:s.heap.objs.size<C) (J:Inv X (pins++[(C,oC)]) B' H' s') (hs:Heap.SameBut C s'.heap h'):Inv X pins B' H' { s' with heap:=h' }:=by
 have J':=J.mq;have hp:=J.pin (C,oC) (zB4 _ (zB4 _ (zB6.mpr rfl)));have lt:∀ c,c<s.heap.objs.size->c≠C:=λ c h=>zB3 (Nat.lt_trans h hC);refine J'.turned (t':=s'.toks) (it:=C) (λ b o hb e=>hs.extBut b o hb e) hp.2.1 hp.2.2.1 (.inr (zE0 I.sz (zE3 hC))) (λ x c e z=>?_) (λ p hq z=>?_)
 .obtain⟨v,q⟩:=I.cell x c e;exact lt c q.lt z
 .exact lt p.1 (zA8 (I.pin p hq).1) z
end
section
variable {X:Cx}{N':List Str}{pick:List (Option Nat)}{scope:Scope}{elt iter tg:Expr}{ifs:List Expr}{pos:Pos}{wi:TI}{g:TG}{tc:TT}{te:TE}
def QM {pins:List (Addr×Obj)}{B:St}{H:Hp}{s:Shared}{it C:Addr}{fp:List Addr}{tn:Nat->Heap->Prop}{J:It}{cl:List (Str×Addr)}{W:Nat->Nat->St->Hp->Prop}{Q:V->Hp->Prop}{R:Result->Shared->Prop}{D:Addr}
  (hc:X.calm=true) (hg:PG (xB X N' scope cl C s H fp) tg g) (hf:PF (xB X N' scope cl C s H fp) ifs tc) (he:PE (xB X N' scope cl C s H fp) elt te)
  (T:Turn X.prog X.w X.K tg J fp it tn) (hfp:∀ b∈fp,uN X pins H b) (hstat:∀ b∈fp,b≠C/\b∉uD X.stack/\∀ x c,cl.lookup x=some c->c≠b)
  (turn:∀ i m B H,W i m B H->(J.stop i H/\Q (.ref D) H)\/(J.go i H/\∀ x H',J.oA i H x H'->g x B H' fun B2 H2=>tc B2 H2 λ b H3=>
   if b=true then te B2 H3 λ y H4=>∃ ys m',H4 D=some (.lst ys)/\ys.length<sizeLine/\m'<m/\W (i+1) m' B2 (upd H4 D (.lst (ys++[y]))) else ∃ m',m'<m/\W (i+1) m' B2 H3))
  (fin:∀ B' H' s',Inv (xB X N' scope cl C s H fp) [] B' H' s'->Q (.ref D) H'->R (.ok .next) s')
  {m0:Nat}{B0:St}{H0:Hp}{s0:Shared}(I0:Inv (xB X N' scope cl C s H fp) [] B0 H0 s0) (t0:tn 0 s0.heap) (f0:∀ b∈fp,H0 b=none) (w0:W 0 m0 B0 H0):
  codeAny (model X.prog X.w) X.A (.compLoop (.ListComp elt [⟨tg,iter,ifs,0⟩] scope pos) 0 (.ref it) (.ref D) (compEnvC scope cl C X.env)) R s0:=by
 have stat:∀ {H':Hp},(∀ b∈fp,H' b=none)->∀ b∈fp,uN (xB X N' scope cl C s H fp) [] H' b:=λ hn b hb=>⟨hn b hb,(hstat b hb).1,(hstat b hb).2.1,.inl hb,(hstat b hb).2.2,λ p hp=>absurd (show p∈([]:List (Addr×Obj)) from hp) (by simp)⟩;refine codeAny_loop rfl (λ n s'=>∃ i B' H',Inv (xB X N' scope cl C s H fp) [] B' H' s'/\tn i s'.heap/\(∀ b∈fp,H' b=none)/\W i n B' H') (λ n s3 hI=>?_) m0 ⟨0,B0,H0,I0,t0,f0,w0⟩;obtain⟨i,B3,H3,I3,st3,fr3,w3⟩:=hI;show wpAny _ X.A ((compTurn (.ListComp elt [⟨tg,iter,ifs,0⟩] scope pos) 0 (.ref it) (.ref D) (compEnvC scope cl C X.env)).onRaise (λ x=>do noteFrame x (compEnvC scope cl C X.env);theTreesLotGoes x)) _ _ s3;refine wpAny_noted ?_;rw[compTurn_list];refine zWb (wpAny_standAt (zWb ?_));rcases turn i n B3 H3 w3 with ⟨stop,qn⟩ | ⟨go,step⟩
 .refine zU (T.done (xB X N' scope cl C s H fp) rfl rfl rfl hc i [] s3 B3 H3 _ I3 (stat fr3) st3 stop) λ r s4 ⟨hr,I4⟩=>?_;subst hr;exact zD1 (fin B3 H3 s4 I4 qn)
 .refine zU (T.item (xB X N' scope cl C s H fp) rfl rfl rfl hc i [] s3 B3 H3 _ I3 (stat fr3) st3 go) λ r s4 ⟨u,hr,h4⟩=>?_;subst hr;refine zWb (zU h4 λ _ s5 ⟨x,H5,I5,r5,y5,st5,fr5⟩=>?_);have I5':=I5.pinned (stat fr5) (T.obj _ _ st5);refine zWb (wpAny_mono (hg _ s5 B3 H5 x u _ I5' r5 (step x H5 y5)) (λ _ s6 ⟨B6,H6,I6,q6⟩=>?_) λ _ _ z=>False.elim z);refine zWb (wpAny_mono (hf _ s6 B6 H6 _ I6 q6) (λ ok s7 ⟨H7,I7,q7⟩=>?_) λ _ _ z=>False.elim z);have back:∀ {H8:Hp}{s8:Shared},Inv (xB X N' scope cl C s H fp) ([]++mG fp s5.heap) B6 H8 s8->(∃ m',m'<n/\W (i+1) m' B6 H8)->∃ m,m<n/\∃ i B' H',Inv (xB X N' scope cl C s H fp) [] B' H' s8/\tn i s8.heap/\(∀ b∈fp,H' b=none)/\W i m B' H':=λ{H8 s8} I8 ⟨m',hm,w8⟩=>by
   refine⟨m',hm,i+1,B6,H8,I8.mq,T.keep _ _ _ st5 λ b hb o e=>(I8.pin (b,o) (zB4 _ (zB4 _ (js hb e)))).1,λ b hb=>?_,w8⟩;obtain⟨o,e,d⟩:=T.obj _ _ st5 b hb;exact (I8.pin (b,o) (zB4 _ (zB4 _ (js hb e)))).2.1
  cases ok with
  | false=>
   rw[if_neg Bool.false_ne_true] at q7;exact zD1 ⟨rfl,back I7 q7⟩
  | true=>
   rw[if_pos rfl] at q7;refine zWb (zWb (wpAny_mono (he _ s7 B6 H7 _ I7 q7) (λ uy s8 ⟨y,H8,I8,r8,ys,m',e8,z8,hm,w8⟩=>?_) λ _ _ z=>False.elim z));refine zWb (wpAny_mono (Zs (X:=xB X N' scope cl C s H fp) _ s8 B6 H8 (.ref D) [y] (.ref D) [uy] (λ _ H9=>W (i+1) m' B6 H9) I8 rfl (.cons r8 .nil) ⟨D,ys,y,rfl,rfl,e8,z8,w8⟩) (λ _ s9 ⟨_,H9,I9,_,q9⟩=>?_) λ _ _ z=>False.elim z);exact zD1 (zD1 ⟨rfl,back I9 ⟨m',hm,q9⟩⟩)
def Z9 {pins:List (Addr×Obj)}{B:St}{H:Hp}{s:Shared}{it:Addr}{fp:List Addr}{tn:Nat->Heap->Prop}{J:It}{cl:List (Str×Addr)}{Q:V->Hp->Prop}{E:Value->Shared->Prop}{RR:Value->Addr->Result->Shared->Prop}
  (S:o9 X N' pick scope) (hc:X.calm=true) (hg:∀ cl C s H fp,PG (xB X N' scope cl C s H fp) tg g) (hf:∀ cl C s H fp,PF (xB X N' scope cl C s H fp) ifs tc) (he:∀ cl C s H fp,PE (xB X N' scope cl C s H fp) elt te)
  (c1:∀ x c,cl.lookup x=some c->(x,NameKind.free)∈scope.names/\X.env.cells.lookup x=some c) (c2:∀ x,(x,NameKind.free)∈scope.names->(cl.lookup x).isSome)
  (I:Inv X pins B H s) (T:Turn X.prog X.w X.K tg J fp it tn) (t0:tn 0 s.heap) (hfp:∀ b∈fp,uN X pins H b)
  (rd:∀ D,H D=none->∃ W:Nat->Nat->St->Hp->Prop,(∃ m,W 0 m (uT pick B) (upd H D (.lst [])))/\
   ∀ i m B H,W i m B H->(J.stop i H/\Q (.ref D) H)\/(J.go i H/\∀ x H',J.oA i H x H'->g x B H' fun B2 H2=>tc B2 H2 λ b H3=>
    if b=true then te B2 H3 λ y H4=>∃ ys m',H4 D=some (.lst ys)/\ys.length<sizeLine/\m'<m/\W (i+1) m' B2 (upd H4 D (.lst (ys++[y]))) else ∃ m',m'<m/\W (i+1) m' B2 H3))
  (fin:∀ C D oC H' s',s.heap.objs.size<C->Inv X (pins++[(C,oC)]) B H' s'->s'.heap.get? C=some oC->(∃ m,s'.heap.Ns C m)->Q (.ref D) H'->RR (.ref D) C (.ok .next) s'):
  wpAny (model X.prog X.w) X.A (newList []) (λ acc s₃=>wpAny (model X.prog X.w) X.A (newFunctionEnv scope X.env.globals cl [] X.env.qual none .none (some X.env)) (λ cenv s₄=>
   codeAny (model X.prog X.w) X.A (.compStart (.ListComp elt [⟨tg,iter,ifs,0⟩] scope pos) 0 (.ref it) acc { cenv with scope:=relabel scope X.env }) (RR acc cenv.locals) s₄) E s₃) E s:=by
 refine wpAny_newObj_type (wpAny_newFunctionEnv S.Zl (by intro y hy;simp at hy) (λ h₁ hns₁ hsb₁=>?_) S.kind);dsimp only at hns₁ hsb₁ ⊢;generalize hH2:s.heap.push { cls:=.type "list",dict:=none,data:=.seq ([]:List Value).toArray }=H2 at hns₁ hsb₁ ⊢;have hC:H2.objs.size=s.heap.objs.size+1:=by rw[<- hH2,Heap.size_push]
 have hlt:s.heap.objs.size<H2.objs.size:=by rw[hC];exact zE2 _
 have old:∀ b o,s.heap.get? b=some o->h₁.get? b=some o:=λ b o e=>hsb₁.extBut b o (zB3 (Nat.lt_trans (zA8 e) hlt)) (zHp _ (hH2▸zHp _ e));have hacc:h₁.get? s.heap.objs.size=some { cls:=.type "list",data:=.seq #[] 0 }:=hsb₁.extBut _ _ (zB3 hlt) (zHp _ (hH2▸zA9 _ rfl));have hflt:∀ b∈fp,b<s.heap.objs.size:=λ b hb=>by
  obtain⟨o,e,_⟩:=T.obj _ _ t0 b hb;exact zA8 e
 have hDn:H s.heap.objs.size=none:=I.zM.fresh (zA4 _);obtain⟨W,⟨m0,w0⟩,turn⟩:=rd s.heap.objs.size hDn;have I0:=Pm (t':=s.toks+([]:List (Str×Value)).length) S I hfp hflt c1 c2 hlt old hns₁ hacc;have t1:tn 0 h₁:=T.keep _ _ _ t0 λ b _ o e=>old b o e;have hst:∀ b∈fp,b≠H2.objs.size/\b∉uD X.stack/\∀ x c,cl.lookup x=some c->c≠b:=λ b hb=>I0.ok.eP b hb |> λ q=>⟨q.1,I0.ok.l5 b hb,q.2⟩
 have loop:codeAny (model X.prog X.w) X.A (.compLoop (.ListComp elt [⟨tg,iter,ifs,0⟩] scope pos) 0 (.ref it) (.ref s.heap.objs.size) (compEnvC scope cl H2.objs.size X.env)) (RR (.ref s.heap.objs.size) H2.objs.size) { s with heap:=h₁,toks:=s.toks+([]:List (Str×Value)).length }:=by
  refine QM (B:=B) hc (hg _ _ _ _ _) (hf _ _ _ _ _) (he _ _ _ _ _) T hfp hst turn (fun B' H' s' I' q=>?_) I0 t1 (λ b hb=>?_) w0
  .obtain⟨m,hn,_⟩:=I'.loc;have hn':s'.heap.Ns H2.objs.size m:=hn;obtain⟨oC,es,ep,ho,hr⟩:=id hn';exact fin _ _ oC H' s' hlt (Pk I hfp hlt I' ho) ho ⟨m,hn'⟩ q
  .show upd H s.heap.objs.size (.lst []) b=none;rw[xo (zB3 (hflt b hb))];exact (hfp b hb).1
 exact codeAny_compStart_list loop (T.self _ 0 _ _ _ t1 loop)
def TH (S:o9 X N' pick scope) (hc:X.calm=true) (hi:PI X tg iter wi) (hg:∀ cl C s H fp,PG (xB X N' scope cl C s H fp) tg g) (hf:∀ cl C s H fp,PF (xB X N' scope cl C s H fp) ifs tc) (he:∀ cl C s H fp,PE (xB X N' scope cl C s H fp) elt te)
  (hs:∀ x,foldedSetIterable iter X.env x=pure x:=by intro _;rfl):PE X (.ListComp elt [⟨tg,iter,ifs,0⟩] scope pos) (iU pick wi g tc te):=by
 intro pins s B H Q I h;obtain⟨cl,hclos,c1,c2⟩:=YU (scope:=scope) (env:=X.env) λ y hy hk=>I.ok.has y.1 (S.free y hy hk);rw[eval_ListComp];refine wpAny_comprehension_free (use:=none) rfl hs hclos S.kind S.names (zU (hi pins s B H _ I h) λ v s1 h1=>zU h1 λ itv s2 h2=>?_);obtain⟨it,fp,tn,J,H2,e,I2,T,st2,f2,rd⟩:=h2;subst e;refine Z9 (RR:=λ acc C=>compPost (model X.prog X.w) X.A X.xe none (EP X pins B Q) acc C) S hc hg hf he c1 c2 I2 T st2 f2 rd λ C D oC H' s' hC J' ho hn q=>?_;obtain⟨m,hn⟩:=hn;exact⟨m,hn,λ h' hs'=>⟨.ref D,H',ZR I2 hC J' hs',rfl,q⟩⟩
def UU {i:Nat}{y:Str}{py spos:Pos}(S:o9 X N' pick scope) (hc:X.calm=true) (hi:PI X tg iter wi) (hg:∀ cl C s H fp,PG (xB X N' scope cl C s H fp) tg g) (hf:∀ cl C s H fp,PF (xB X N' scope cl C s H fp) ifs tc) (he:∀ cl C s H fp,PE (xB X N' scope cl C s H fp) elt te)
  (hN:X.N.Nodup) (hy:X.N[i]?=some y) (hx:Loc X.env.scope y)
  (hsw:swapsWith (.ListComp elt [⟨tg,iter,ifs,0⟩] scope pos) (some (.Name y py)) spos.line X.env=pure true:=by rfl)
  (hfn:X.fn y=true\/X.env.scope.names.lookup y=some .local:=by first | exact .inl rfl | exact .inr rfl | assumption)
  (hs:∀ x,foldedSetIterable iter X.env x=pure x:=by intro _;rfl):PS X (.Assign [.Name y py] (.ListComp elt [⟨tg,iter,ifs,0⟩] scope pos) spos) (mv (iU pick wi g tc te) (nu i)):=by
 intro pins s B H Q I h;obtain⟨cl,hclos,c1,c2⟩:=YU (scope:=scope) (env:=X.env) λ y hy hk=>I.ok.has y.1 (S.free y hy hk);rw[exec_Assign_Name_used _ _ _ _ hsw];refine zWb (wpAny_standAt (zWb ?_));show wpAny _ X.A (do let _ <- comprehension (.ListComp elt [⟨tg,iter,ifs,0⟩] scope pos) scope X.env _ (newList []) false (eval iter X.env) (some (assign (.Name y py) X.env))) _ _ s;refine zWb (wpAny_mono (wpAny_comprehension_free (use:=some (assign (.Name y py) X.env)) (Q:=λ _ s'=>SP X pins Q .next s') rfl hs hclos S.kind S.names
  (zU (hi pins s B H _ I h) λ v s1 h1=>zU h1 λ itv s2 h2=>?_)) (λ _ s' hq=>zD1 (zD1 hq)) λ _ _ e=>e)
 obtain⟨it,fp,tn,J,H2,e,I2,T,st2,f2,rd⟩:=h2;subst e;refine Z9 (Q:=λ x H1=>nu i x B H1 Q.nx) (RR:=λ acc C=>compPost (model X.prog X.w) X.A X.xe (some (assign (.Name y py) X.env)) (λ _ s'=>SP X pins Q .next s') acc C) S hc hg hf he c1 c2 I2 T st2 f2 rd λ C D oC H' s' hC J' ho hn q=>?_;show wpAny _ X.A (assign (.Name y py) X.env (.ref D)) _ _ _;refine wpAny_assign_Name (iX J' hN hy hx (v:=.ref D) rfl (λ s3 J3=>?_) hfn);have hp:=(J3.pin (C,oC) (zB4 _ (zB4 _ (zB6.mpr rfl)))).1;obtain⟨m,o,es,ep,ho',hr⟩:=hn;have:o=oC:=zD5 (ho'.symm.trans ho);subst this;exact⟨m,⟨o,es,ep,hp,hr⟩,λ h' hs'=>⟨_,H',ZR I2 hC J3 hs',q⟩⟩
end
end L2
namespace L3
open PySem PySem.Spec L2
open PyProof.Rows hiding St
inductive D where
 | zp | bl (b:Bool) | int (i:Int) | str (x:Str) | tup (ds:List D) | xm (ds:List D) | ref (a:Addr)
def nF (K:zFr) (H:Hp) (a:Addr) (xs:List V):Prop:=
 (∃ o,H a=some (.vm o (.lst xs)))\/
  ∃ (o:Obj) (its:Array Value) (n:Nat),K.lookup a=some o/\o.cls=.type "list"/\o.dict=none/\o.data=.seq its n/\its.size<=sizeLine/\Vals xs its.toList
def nF.sq {K:zFr}{H:Hp}{a:Addr}{xs:List V}(h:nF K H a xs):yg K H a xs:=by
 rcases h with h | h
 .exact .inl (.inr h)
 .exact .inr h
mutual
noncomputable def zo (K:zFr) (H:Hp):D->V->Prop
 | .zp,v=>v=.zp
 | .bl b,v=>v=.bl b
 | .int i,v=>v=.int i
 | .str x,v=>v=.str x
 | .tup ds,v=>∃ a xs,v=.ref a/\yp K H a xs/\zx K H ds xs
 | .xm ds,v=>∃ a xs,v=.ref a/\nF K H a xs/\zx K H ds xs
 | .ref a,v=>v=.ref a
noncomputable def zx (K:zFr) (H:Hp):List D->List V->Prop
 | [],xs=>xs=[]
 | d::ds,xs=>∃ x r,xs=x::r/\zo K H d x/\zx K H ds r
end
structure Ext (H H':Hp):Prop where
 tup:∀ b xs,H b=some (.tup xs)->H' b=some (.tup xs)
 vm:∀ b o u,H b=some (.vm o u)->H' b=some (.vm o u)
def Ext.refl (H:Hp):Ext H H:=⟨λ _ _ h=>h,λ _ _ _ h=>h⟩
def Ext.trans {H H1 H2:Hp}(a:Ext H H1) (b:Ext H1 H2):Ext H H2:=⟨λ c xs h=>b.tup c xs (a.tup c xs h),λ c o u h=>b.vm c o u (a.vm c o u h)⟩
def Ext.new {H:Hp}{p:Addr}(h:H p=none) (o:HO):Ext H (upd H p o):=
 ⟨λ b xs q=>by rw[xo (qG q h)];exact q,λ b ob u q=>by rw[xo (qG q h)];exact q⟩
theorem Ext.lst {H:Hp}{p:Addr}{xs:List V}(h:H p=some (.lst xs)) (o:HO):Ext H (upd H p o):=
 ⟨λ b ys q=>by rw[xo (mW q h (by intro z;cases z))];exact q,λ b ob u q=>by rw[xo (mW q h (by intro z;cases z))];exact q⟩
def Ext.kE {K:zFr}{H H':Hp}{a:Addr}{xs:List V}(e:Ext H H') (h:yp K H a xs):yp K H' a xs:=by
 rcases h with (h | ⟨o,h⟩) | h
 .exact .inl (.inl (e.tup _ _ h))
 .exact .inl (.inr ⟨o,e.vm _ _ _ h⟩)
 .exact .inr h
def Ext.kF {K:zFr}{H H':Hp}{a:Addr}{xs:List V}(e:Ext H H') (h:nF K H a xs):nF K H' a xs:=by
 rcases h with ⟨o,h⟩ | h
 .exact .inl ⟨o,e.vm _ _ _ h⟩
 .exact .inr h
section
variable {K:zFr}{H H':Hp}
mutual
theorem zo.ext (e:Ext H H'):∀ (d:D) {v:V},zo K H d v->zo K H' d v
 | .zp,v,h=>by simpa only [zo] using h
 | .bl b,v,h=>by simpa only [zo] using h
 | .int i,v,h=>by simpa only [zo] using h
 | .str x,v,h=>by simpa only [zo] using h
 | .ref a,v,h=>by simpa only [zo] using h
 | .tup ds,v,h=>by
  simp only[zo] at h ⊢;obtain⟨a,xs,h1,h2,h3⟩:=h;exact⟨a,xs,h1,e.kE h2,zx.ext e ds h3⟩
 | .xm ds,v,h=>by
  simp only[zo] at h ⊢;obtain⟨a,xs,h1,h2,h3⟩:=h;exact⟨a,xs,h1,e.kF h2,zx.ext e ds h3⟩
theorem zx.ext (e:Ext H H'):∀ (ds:List D) {xs:List V},zx K H ds xs->zx K H' ds xs
 | [],xs,h=>by simpa only [zx] using h
 | d::ds,xs,h=>by
  simp only[zx] at h ⊢;obtain⟨x,r,h1,h2,h3⟩:=h;exact⟨x,r,h1,zo.ext e d h2,zx.ext e ds h3⟩
end
theorem zx.length:∀ {ds:List D}{xs:List V},zx K H ds xs->ds.length=xs.length
 | [],xs,h=>by simp only[zx] at h;subst h;rfl
 | d::ds,xs,h=>by
  simp only[zx] at h;obtain⟨x,r,h1,_,h3⟩:=h;subst h1;simp[zx.length h3]
theorem zx.get:∀ {ds:List D}{xs:List V}{i:Nat}{d:D},zx K H ds xs->ds[i]?=some d->∃ x,xs[i]?=some x/\zo K H d x
 | [],_,i,d,_,e=>by simp at e
 | c::ds,xs,i,d,h,e=>by
  simp only[zx] at h;obtain⟨x,r,h1,h2,h3⟩:=h;subst h1;cases i with
  | zero=>simp at e;subst e;exact⟨x,rfl,h2⟩
  | succ i=>
   obtain⟨y,e1,e2⟩:=zx.get (i:=i) h3 (by simpa using e);exact⟨y,by simpa using e1,e2⟩
theorem zx.append:∀ {ds es:List D}{xs ys:List V},zx K H ds xs->zx K H es ys->zx K H (ds++es) (xs++ys)
 | [],es,xs,ys,h,h'=>by simp only[zx] at h;subst h;simpa using h'
 | d::ds,es,xs,ys,h,h'=>by
  simp only[zx] at h;obtain⟨x,r,h1,h2,h3⟩:=h;subst h1;show zx K H (d::(ds++es)) (x::(r++ys));simp only[zx];exact⟨x,r++ys,rfl,h2,zx.append h3 h'⟩
def zx.nil:zx K H [] []:=by simp only[zx]
def zx.cons {d:D}{ds:List D}{x:V}{xs:List V}(h:zo K H d x) (h':zx K H ds xs):zx K H (d::ds) (x::xs):=by
 simp only[zx];exact⟨x,xs,rfl,h,h'⟩
def zx.snoc {d:D}{ds:List D}{x:V}{xs:List V}(h':zx K H ds xs) (h:zo K H d x):zx K H (ds++[d]) (xs++[x]):=h'.append (.cons h .nil)
theorem zx.ints:∀ {ns:List Int}{xs:List V},zx K H (ns.map D.int) xs->xs=ns.map V.int
 | [],xs,h=>by simpa only [List.map_nil,zx] using h
 | n::ns,xs,h=>by
  rw[zA6] at h;simp only[zx,zo] at h;obtain⟨x,r,h1,h2,h3⟩:=h;subst h1 h2;rw[zA6,zx.ints h3]
theorem zx.fF:∀ (ns:List Int),zx K H (ns.map D.int) (ns.map V.int)
 | []=>.nil
 | n::ns=>.cons (by simp only[zo]) (zx.fF ns)
theorem zx.bools:∀ {ns:List Bool}{xs:List V},zx K H (ns.map D.bl) xs->xs=ns.map V.bl
 | [],xs,h=>by simpa only [List.map_nil,zx] using h
 | n::ns,xs,h=>by
  rw[zA6] at h;simp only[zx,zo] at h;obtain⟨x,r,h1,h2,h3⟩:=h;subst h1 h2;rw[zA6,zx.bools h3]
end
inductive O where
 | lst (ds:List D)
 | y6 (kvs:List (Key×D))
abbrev SS:=Addr->Option O
def xM (K:zFr) (H:Hp):List (Key×D)->List (Key×V)->Prop:=Paired λ p q=>p.1=q.1/\zo K H p.2 q.2
noncomputable def ox (K:zFr) (H:Hp) (a:Addr):O->Prop
 | .lst ds=>∃ xs,H a=some (.lst xs)/\zx K H ds xs
 | .y6 kvs=>∃ vs,H a=some (.dK vs)/\xM K H kvs vs
def yb (K:zFr) (H:Hp) (S:SS):Prop:=∀ a o,S a=some o->ox K H a o
noncomputable def ups (S:SS) (a:Addr) (o:O):SS:=λ b=>if b=a then some o else S b
def qm {S:SS}{a:Addr}{o:O}:ups S a o a=some o:=by unfold ups;rw[if_pos rfl]
def rm {S:SS}{a b:Addr}{o:O}(h:b≠a):ups S a o b=S b:=by unfold ups;rw[if_neg h]
def Sx (S S':SS):Prop:=∀ b o,S b=some o->S' b=some o
def Sx.refl (S:SS):Sx S S:=λ _ _ h=>h
def Sx.trans {S S1 S2:SS}(a:Sx S S1) (b:Sx S1 S2):Sx S S2:=λ c o h=>b c o (a c o h)
def Sx.new {S:SS}{p:Addr}(h:S p=none) (o:O):Sx S (ups S p o):=λ b u q=>by
 rw[rm (by intro z;subst z;rw[h] at q;cases q)];exact q
theorem Sx.none {S S':SS}(e:Sx S S') {p:Addr}(h:S' p=Option.none):S p=Option.none:=by
 cases q:S p with
 | none=>rfl
 | some o=>rw[e p o q] at h;cases h
section
variable {K:zFr}{H H':Hp}{S:SS}
def ox.has {a:Addr}{o:O}(h:ox K H a o):H a≠none:=by
 cases o with
 | lst ds=>obtain⟨xs,h,_⟩:=h;rw[h];simp
 | y6 kvs=>obtain⟨xs,h,_⟩:=h;rw[h];simp
theorem yb.none (r:yb K H S) {p:Addr}(h:H p=Option.none):S p=Option.none:=by
 cases q:S p with
 | none=>rfl
 | some o=>exact absurd h (r p o q).has
theorem xM.ext (e:Ext H H') {kvs:List (Key×D)}{vs:List (Key×V)}(h:xM K H kvs vs):xM K H' kvs vs:=
 Paired.ju h λ p q z=>⟨z.1,zo.ext e p.2 z.2⟩
def ox.keep {a:Addr}{o:O}(e:Ext H H') (k:∀ u,H a=some u->H' a=some u) (h:ox K H a o):ox K H' a o:=by
 cases o with
 | lst ds=>obtain⟨xs,h1,h2⟩:=h;exact⟨xs,k _ h1,zx.ext e ds h2⟩
 | y6 kvs=>obtain⟨xs,h1,h2⟩:=h;exact⟨xs,k _ h1,h2.ext e⟩
theorem yb.keep (e:Ext H H') (k:∀ a u o,S a=some o->H a=some u->H' a=some u) (r:yb K H S):yb K H' S:=λ a o h=>(r a o h).keep e λ u q=>k a u o h q
theorem yb.new {p:Addr}{u:HO}(hp:H p=Option.none) (r:yb K H S):yb K (upd H p u) S:=
 r.keep (Ext.new hp u) λ a v o _ q=>by rw[xo (qG q hp)];exact q
theorem yb.ups {p:Addr}{u:HO}{o:O}(e:Ext H (upd H p u)) (hn:ox K (upd H p u) p o) (r:yb K H S):yb K (upd H p u) (ups S p o):=λ a o' h=>by
 by_cases ha:a=p
 .subst ha;rw[qm] at h;cases h;exact hn
 .rw[rm ha] at h;exact (r a o' h).keep e λ v q=>by rw[xo ha];exact q
end
abbrev y8:=List (Option D)
def xw (K:zFr) (H:Hp) (L:y8) (B:St):Prop:=L.length=B.length/\∀ (i:Nat) (d:D),L[i]?=some (some d)->∃ v,B[i]?=some (some v)/\zo K H d v
theorem xw.ext {K:zFr}{H H':Hp}{L:y8}{B:St}(e:Ext H H') (r:xw K H L B):xw K H' L B:=⟨r.1,λ i d h=>by
 obtain⟨v,h1,h2⟩:=r.2 i d h;exact⟨v,h1,zo.ext e d h2⟩⟩
theorem xw.set {K:zFr}{H:Hp}{L:y8}{B:St}(i:Nat) {d:D}{v:V}(r:xw K H L B) (h:zo K H d v):xw K H (L.set i (some d)) (B.set i (some v)):=by
 refine⟨by rw[List.length_set,List.length_set];exact r.1,λ j c hc=>?_⟩;rw[List.getElem?_set] at hc ⊢;by_cases hj:i=j
 .subst hj;rw[if_pos rfl] at hc ⊢;by_cases hl:i < L.length
  .rw[if_pos hl] at hc;rw[if_pos (by rw[<- r.1];exact hl)];cases hc;exact⟨v,rfl,h⟩
  .rw[if_neg hl] at hc;cases hc
 .rw[if_neg hj] at hc ⊢;exact r.2 j c hc
abbrev DK:=D->SS->Prop
abbrev zI:=y8->SS->DK->Prop
abbrev xj:=y8->SS->(Bool->SS->Prop)->Prop
abbrev yQ:=y8->SS->(List D->SS->Prop)->Prop
def yA (t:zI):Prop:=∀ L S (Q Q':DK),(∀ d S',Q d S'->Q' d S')->t L S Q->t L S Q'
def vJ (t:xj):Prop:=∀ L S (Q Q':Bool->SS->Prop),(∀ d S',Q d S'->Q' d S')->t L S Q->t L S Q'
def qb (t:yQ):Prop:=∀ L S (Q Q':List D->SS->Prop),(∀ d S',Q d S'->Q' d S')->t L S Q->t L S Q'
noncomputable def vz (K:zFr) (H:Hp) (Q:VK):DK:=λ d S'=>∀ v H',zo K H' d v->Ext H H'->yb K H' S'->Q v H'
def lB (K:zFr) (H:Hp) (Q:Bool->Hp->Prop):Bool->SS->Prop:=λ b S'=>∀ H',Ext H H'->yb K H' S'->Q b H'
def O5 (K:zFr) (H:Hp) (Q:List V->Hp->Prop):List D->SS->Prop:=λ ds S'=>∀ vs H',zx K H' ds vs->Ext H H'->yb K H' S'->Q vs H'
def vV (K:zFr) (H:Hp) (Q:St->Hp->Prop):y8->SS->Prop:=fun L S'=>∀ B H',xw K H' L B->Ext H H'->yb K H' S'->Q B H'
def vz.ext {K:zFr}{H H':Hp}{Q:VK}(e:Ext H H') {d:D}{S:SS}(h:vz K H Q d S):vz K H' Q d S:=λ v H2 r x q=>h v H2 r (e.trans x) q
def lB.ext {K:zFr}{H H':Hp}{Q:Bool->Hp->Prop}(e:Ext H H') {d:Bool}{S:SS}(h:lB K H Q d S):lB K H' Q d S:=λ H2 x q=>h H2 (e.trans x) q
def vV.ext {K:zFr}{H H':Hp}{Q:St->Hp->Prop}(e:Ext H H') {d:y8}{S:SS}(h:vV K H Q d S):vV K H' Q d S:=λ v H2 r x q=>h v H2 r (e.trans x) q
def yd (K:zFr) (t:zI):TE:=fun B H Q=>∃ L S,xw K H L B/\yb K H S/\t L S (vz K H Q)
def vq (K:zFr) (t:xj):TT:=fun B H Q=>∃ L S,xw K H L B/\yb K H S/\t L S (lB K H Q)
def vK (K:zFr) (t:yQ):TA:=fun B H Q=>∃ L S,xw K H L B/\yb K H S/\t L S (O5 K H Q)
structure PD (X:Cx) (e:Expr) (t:zI):Prop where
 mo:yA t
 pe:PE X e (yd X.K t)
structure w6 (X:Cx) (e:Expr) (t:xj):Prop where
 mo:vJ t
 pt:PT X e (vq X.K t)
structure wY (X:Cx) (es:List Expr) (t:yQ):Prop where
 mo:qb t
 pa:PA X es (vK X.K t)
def PE.imp {X:Cx}{e:Expr}{t t':TE}(h:PE X e t) (hi:∀ B H Q,t' B H Q->t B H Q):PE X e t':=λ pins s B H Q I q=>h pins s B H Q I (hi B H Q q)
def PT.imp {X:Cx}{e:Expr}{t t':TT}(h:PT X e t) (hi:∀ B H Q,t' B H Q->t B H Q):PT X e t':=λ pins s B H Q I q=>h pins s B H Q I (hi B H Q q)
def PA.imp {X:Cx}{e:List Expr}{t t':TA}(h:PA X e t) (hi:∀ B H Q,t' B H Q->t B H Q):PA X e t':=λ pos pins s B H Q I q=>h pos pins s B H Q I (hi B H Q q)
def PS.imp {X:Cx}{e:Stmt}{t t':TS}(h:PS X e t) (hi:∀ D B H,t' D B H->t D B H):PS X e t':=λ pins s B H Q I q=>h pins s B H Q I (hi Q B H q)
def ve.imp {X:Cx}{e:List Stmt}{t t':TS}(h:ve X e t) (hi:∀ D B H,t' D B H->t D B H):ve X e t':=λ pins s B H Q I q=>h pins s B H Q I (hi Q B H q)
section
variable {X:Cx}{K:zFr}
def yd.go {t:zI}{B:St}{H:Hp}{Q:VK}{L:y8}{S:SS}{R:DK}(mo:yA t) (r1:xw K H L B) (r2:yb K H S) (h:t L S R) (k:∀ d S' v H',R d S'->zo K H' d v->Ext H H'->yb K H' S'->Q v H'):yd K t B H Q:=
 ⟨L,S,r1,r2,mo L S _ _ (λ d S' q v H' a b c=>k d S' v H' q a b c) h⟩
def vq.go {t:xj}{B:St}{H:Hp}{Q:Bool->Hp->Prop}{L:y8}{S:SS}{R:Bool->SS->Prop}(mo:vJ t) (r1:xw K H L B) (r2:yb K H S) (h:t L S R) (k:∀ d S' H',R d S'->Ext H H'->yb K H' S'->Q d H'):vq K t B H Q:=
 ⟨L,S,r1,r2,mo L S _ _ (λ d S' q H' b c=>k d S' H' q b c) h⟩
def vK.go {t:yQ}{B:St}{H:Hp}{Q:List V->Hp->Prop}{L:y8}{S:SS}{R:List D->SS->Prop}(mo:qb t) (r1:xw K H L B) (r2:yb K H S) (h:t L S R) (k:∀ d S' v H',R d S'->zx K H' d v->Ext H H'->yb K H' S'->Q v H'):vK K t B H Q:=
 ⟨L,S,r1,r2,mo L S _ _ (λ d S' q v H' a b c=>k d S' v H' q a b c) h⟩
def xi (i:Nat):zI:=fun L S Q=>match L[i]? with
 | some (some d)=>Q d S
 | _=>False
def dC (d:D):zI:=λ _ S Q=>Q d S
def za (i:Nat) {x:Str}{pos:Pos}(h:PE X (.Name x pos) (iR i)):PD X (.Name x pos) (xi i):=by
 refine⟨fun L S Q Q' hq h=>?_,PE.imp h fun B H Q hu=>?_⟩
 .unfold xi at h ⊢;split at h
  .exact hq _ _ h
  .exact h
 .obtain⟨L,S,r1,r2,h⟩:=hu;unfold xi at h;split at h
  .rename_i d e;obtain⟨v,h1,h2⟩:=r1.2 i d e;exact⟨v,h1,h v H h2 (Ext.refl H) r2⟩
  .exact h.elim
def dC.mo (d:D):yA (dC d):=λ _ _ _ _ hq h=>hq _ _ h
def mM {e:Expr}{d:D}{v:V}(h:PE X e (tC v)) (r:∀ H,zo X.K H d v):PD X e (dC d):=
 ⟨dC.mo d,PE.imp h λ _ H _ ⟨_,_,_,r2,h⟩=>h v H (r H) (Ext.refl H) r2⟩
def zh {i j pos}:PD X (.Constant (.int i) j pos) (dC (.int i)):=mM TK λ _=>by simp only[zo]
def sr {i j pos}:PD X (.Constant (.bool i) j pos) (dC (.bl i)):=mM T_ λ _=>by simp only[zo]
def vY {j pos}:PD X (.Constant .none j pos) (dC .zp):=mM TC λ _=>by simp only[zo]
def oX {x j pos}:PD X (.Constant (.str x) j pos) (dC (.str x)):=mM T6 λ _=>by simp only[zo]
abbrev xx:=D->D->SS->DK->Prop
def wI (f:xx):Prop:=∀ x y S (Q Q':DK),(∀ d S',Q d S'->Q' d S')->f x y S Q->f x y S Q'
def wo (K:zFr) (f:xx) (r:R2):Prop:=∀ x y d e H S Q,zo K H d x->zo K H e y->yb K H S->f d e S (vz K H Q)->r x y H Q
def yK (f:xx) (ta tb:zI):zI:=fun L S Q=>ta L S λ x S1=>tb L S1 λ y S2=>f x y S2 Q
def yK.mo {f:xx}{ta tb:zI}(hf:wI f) (ha:yA ta) (hb:yA tb):yA (yK f ta tb):=fun L S Q Q' hq h=>
 ha L S _ _ (λ x S1 h=>hb L S1 _ _ (λ y S2 h=>hf x y S2 _ _ hq h) h) h
def k7 {f:xx}{r:R2}{ta tb:zI}(hr:wo K f r) (hf:wI f) (ha:yA ta) (hb:yA tb) {B:St}{H:Hp}{Q:VK}(h:yd K (yK f ta tb) B H Q):mr r (yd K ta) (yd K tb) B H Q:=by
 obtain⟨L,S,r1,r2,h⟩:=h;refine yd.go ha r1 r2 h λ x S1 v H1 h1 q1 e1 p1=>?_;refine yd.go hb (r1.ext e1) p1 h1 λ y S2 w H2 h2 q2 e2 p2=>?_;exact hr v w x y H2 S2 Q (zo.ext e2 x q1) q2 p2 (hf x y S2 _ _ (λ d S' z=>z.ext (e1.trans e2)) h2)
def oY {a b:Expr}{op:Operator}{pos:Pos}{f:xx}{r:R2}{ta tb:zI}(ho:y9 X (binaryOp op) r) (hr:wo X.K f r) (hf:wI f) (ha:PD X a ta) (hb:PD X b tb):PD X (.BinOp a op b pos) (yK f ta tb):=
 ⟨yK.mo hf ha.mo hb.mo,PE.imp (T8 ho ha.pe hb.pe) λ _ _ _ h=>k7 hr hf ha.mo hb.mo h⟩
def fx {a b:Expr}{op:CmpOp}{pos:Pos}{f:xx}{r:R2}{ta tb:zI}(ho:y9 X (compareOp op) r) (hr:wo X.K f r) (hf:wI f) (ha:PD X a ta) (hb:PD X b tb) (hm:behindInMarks op b=false):PD X (.Compare a [op] [b] pos) (yK f ta tb):=
 ⟨yK.mo hf ha.mo hb.mo,PE.imp (TV ho ha.pe hb.pe hm) λ _ _ _ h=>k7 hr hf ha.mo hb.mo h⟩
def ud (t:zI):xj:=fun L S Q=>t L S λ x S1=>match x with
 | .bl b=>Q b S1
 | _=>False
def ud.mo {t:zI}(h:yA t):vJ (ud t):=fun L S Q Q' hq q=>h L S _ _ (λ d S' z=>by
 cases d <;> first
  | exact hq _ _ z
  | exact z) q
def rJ {a b:Expr}{op:CmpOp}{pos:Pos}{f:xx}{r:R2}{ta tb:zI}(ho:y9 X (compareOp op) r) (hr:wo X.K f r) (hf:wI f) (ha:PD X a ta) (hb:PD X b tb) (hm:behindInMarks op b=false):w6 X (.Compare a [op] [b] pos) (ud (yK f ta tb)):=by
 refine⟨ud.mo (yK.mo hf ha.mo hb.mo),PT.imp (UP ho ha.pe hb.pe hm) fun B H Q h=>?_⟩;obtain⟨L,S,r1,r2,h⟩:=h;refine k7 hr hf ha.mo hb.mo ⟨L,S,r1,r2,yK.mo hf ha.mo hb.mo L S _ _ (λ d S' z v H' a b c=>?_) h⟩;cases d with
 | bl k=>simp only[zo] at a;exact⟨k,a,z H' b c⟩
 | zp=>exact z.elim
 | int _=>exact z.elim
 | str _=>exact z.elim
 | tup _=>exact z.elim
 | xm _=>exact z.elim
 | ref _=>exact z.elim
def fI (C:Int->Int->Prop) (g:Int->Int->D):xx:=λ x y S Q=>match x,y with
 | .int i,.int j=>C i j/\Q (g i j) S
 | _,_=>False
def fI.mo {C:Int->Int->Prop}{g:Int->Int->D}:wI (fI C g):=λ x y S Q Q' hq h=>by
 unfold fI at h ⊢;split at h
 .exact⟨h.1,hq _ _ h.2⟩
 .exact h.elim
def wc (g:Int->Int->D):xx:=λ x y S Q=>match x,y with
 | .int i,.int j=>Q (g i j) S
 | _,_=>False
def wc.mo {g:Int->Int->D}:wI (wc g):=λ x y S Q Q' hq h=>by
 unfold wc at h ⊢;split at h
 .exact hq _ _ h
 .exact h.elim
def fI.fits {C:Int->Int->Prop}{g:Int->Int->D}{g':Int->Int->V}(hg:∀ i j H,zo K H (g i j) (g' i j)):wo K (fI C g) (rI C g'):=λ x y d e H S Q h1 h2 h3 h=>by
 unfold fI at h;split at h
 .simp only[zo] at h1 h2;exact⟨_,_,h1,h2,h.1,h.2 _ H (hg _ _ H) (Ext.refl H) h3⟩
 .exact h.elim
def wc.fits {g:Int->Int->D}{g':Int->Int->V}(hg:∀ i j H,zo K H (g i j) (g' i j)):wo K (wc g) (vN g'):=λ x y d e H S Q h1 h2 h3 h=>by
 unfold wc at h;split at h
 .simp only[zo] at h1 h2;exact⟨_,_,h1,h2,h _ H (hg _ _ H) (Ext.refl H) h3⟩
 .exact h.elim
variable {a b c:Expr}{ta tb tc:zI}{pos:Pos}
def vD (ha:PD X a ta) (hb:PD X b tb):PD X (.BinOp a .Sub b pos) (yK (wc λ i j=>.int (i-j)) ta tb):=oY SO (wc.fits λ _ _ _=>by simp only[zo]) wc.mo ha hb
def yI (ha:PD X a ta) (hb:PD X b tb):PD X (.BinOp a .Mod b pos) (yK (fI (λ _ j=>0<j) λ i j=>.int (i%j)) ta tb):=oY SY (fI.fits λ _ _ _=>by simp only[zo]) fI.mo ha hb
def wQ (ha:PD X a ta) (hb:PD X b tb):PD X (.BinOp a .FloorDiv b pos) (yK (fI wK λ i j=>.int (i/j)) ta tb):=oY Rh (fI.fits λ _ _ _=>by simp only[zo]) fI.mo ha hb
def aI (ha:PD X a ta) (hb:PD X b tb):PD X (.BinOp a .Pow b pos) (yK (fI pz λ i j=>.int (i ^ j.toNat)) ta tb):=oY SR (fI.fits λ _ _ _=>by simp only[zo]) fI.mo ha hb
abbrev jD:xx:=wc λ i j=>.bl (decide (i<=j))
abbrev eO:xx:=wc λ i j=>.bl (decide (j<i))
abbrev jE:xx:=wc λ i j=>.bl (decide (j<=i))
def fit_le:wo K jD (vN λ i j=>.bl (decide (i<=j))):=wc.fits λ _ _ _=>by simp only[zo]
def Oe:wo K eO (vN λ i j=>.bl (decide (j<i))):=wc.fits λ _ _ _=>by simp only[zo]
def Ym:wo K jE (vN λ i j=>.bl (decide (j<=i))):=wc.fits λ _ _ _=>by simp only[zo]
def aM (ha:PD X a ta) (hb:PD X b tb):PD X (.Compare a [.GtE] [b] pos) (yK jE ta tb):=fx aW Ym wc.mo ha hb (tH _)
def Sd (ha:PD X a ta) (hb:PD X b tb):w6 X (.Compare a [.LtE] [b] pos) (ud (yK jD ta tb)):=rJ f9 fit_le wc.mo ha hb (tH _)
def fm (ha:PD X a ta) (hb:PD X b tb):w6 X (.Compare a [.Gt] [b] pos) (ud (yK eO ta tb)):=rJ Rg Oe wc.mo ha hb (tH _)
def oU (ha:PD X a ta) (hb:PD X b tb):w6 X (.Compare a [.GtE] [b] pos) (ud (yK jE ta tb)):=rJ aW Ym wc.mo ha hb (tH _)
end
section
variable {X:Cx}{K:zFr}{a b c:Expr}{ta tb tc:zI}{pos:Pos}
def lI (ta tb:zI):zI:=fun L S Q=>ta L S λ x S1=>match x with
 | .bl k=>if k=true then tb L S1 Q else Q (.bl false) S1
 | _=>False
def lF (ta:zI):zI:=fun L S Q=>ta L S λ x S1=>match x with
 | .bl k=>Q (.bl (!k)) S1
 | _=>False
def vR {c:Prop} [Decidable c] {A B A' B':Prop}(h1:A->A') (h2:B->B') (h:if c then A else B):if c then A' else B':=by
 by_cases q:c
 .rw[if_pos q] at h ⊢;exact h1 h
 .rw[if_neg q] at h ⊢;exact h2 h
def lI.mo (ha:yA ta) (hb:yA tb):yA (lI ta tb):=fun L S Q Q' hq h=>ha L S _ _ (λ x S1 z=>by
 cases x <;> first
  | exact vR (hb L S1 _ _ hq) (hq _ _) z
  | exact z) h
def lF.mo (ha:yA ta):yA (lF ta):=fun L S Q Q' hq h=>ha L S _ _ (λ x S1 z=>by
 cases x <;> first
  | exact hq _ _ z
  | exact z) h
def mK {op} {t:zI}(h:PD X a t):PD X (.BoolOp op [a] pos) t:=⟨h.mo,T9 h.pe⟩
variable {rest:List Expr}
def mN (ha:PD X a ta) (hb:PD X (.BoolOp .And (b::rest) pos) tb):PD X (.BoolOp .And (a::b::rest) pos) (lI ta tb):=by
 refine⟨lI.mo ha.mo hb.mo,PE.imp (Sb ha.pe hb.pe) fun B H Q hu=>?_⟩;obtain⟨L,S,r1,r2,h⟩:=hu;refine yd.go ha.mo r1 r2 h λ x S1 v H1 h1 q1 e1 p1=>?_;cases x with
 | bl k=>
  simp only[zo] at q1;refine⟨k,q1,vR (λ z=>?_) (λ z=>?_) h1⟩
  .exact yd.go hb.mo (r1.ext e1) p1 z λ y S2 w H2 h2 q2 e2 p2=>h2 w H2 q2 (e1.trans e2) p2
  .exact z _ H1 (by simp only[zo]) e1 p1
 | zp=>exact h1.elim
 | int _=>exact h1.elim
 | str _=>exact h1.elim
 | tup _=>exact h1.elim
 | xm _=>exact h1.elim
 | ref _=>exact h1.elim
def Ss (ha:PD X a ta):PD X (.UnaryOp .Not a pos) (lF ta):=by
 refine⟨lF.mo ha.mo,PE.imp (TB ha.pe) fun B H Q hu=>?_⟩;obtain⟨L,S,r1,r2,h⟩:=hu;refine yd.go ha.mo r1 r2 h λ x S1 v H1 h1 q1 e1 p1=>?_;cases x with
 | bl k=>
  simp only[zo] at q1;exact⟨k,q1,h1 _ H1 (by simp only[zo]) e1 p1⟩
 | zp=>exact h1.elim
 | int _=>exact h1.elim
 | str _=>exact h1.elim
 | tup _=>exact h1.elim
 | xm _=>exact h1.elim
 | ref _=>exact h1.elim
def l9 (t u:xj):xj:=fun L S Q=>t L S λ k S1=>if k=true then u L S1 Q else Q false S1
def l7 (t u:xj):xj:=fun L S Q=>t L S λ k S1=>if k=true then Q true S1 else u L S1 Q
def l8 (t:xj):xj:=fun L S Q=>t L S λ k S1=>Q (!k) S1
variable {t u:xj}
def l9.mo (h:vJ t) (h':vJ u):vJ (l9 t u):=fun L S _ _ hq z=>h L S _ _ (λ k S1 z=>vR (h' L S1 _ _ hq) (hq _ _) z) z
def l7.mo (h:vJ t) (h':vJ u):vJ (l7 t u):=fun L S _ _ hq z=>h L S _ _ (λ k S1 z=>vR (hq _ _) (h' L S1 _ _ hq) z) z
def l8.mo (h:vJ t):vJ (l8 t):=fun L S _ _ hq z=>h L S _ _ (λ k S1 z=>hq _ _ z) z
structure xY (X:Cx) (e:Expr) (t:xj):Prop where
 mo:vJ t
 pw:PW X e (vq X.K t)
def PW.imp {e:Expr}{t t':TT}(h:PW X e t) (hi:∀ B H Q,t' B H Q->t B H Q):PW X e t':=λ whole pins s B H Q I q=>h whole pins s B H Q I (hi B H Q q)
theorem xY.pt {e:Expr}{t:xj}(h:xY X e t):w6 X e t:=⟨h.mo,PW.pt h.pw⟩
def rF (h:w6 X a t):xY X (.BoolOp .And [a] pos) t:=⟨h.mo,UJ h.pt⟩
def pH (h:w6 X a t):xY X (.BoolOp .Or [a] pos) t:=⟨h.mo,UH h.pt⟩
def rG (ha:w6 X a t) (hb:xY X (.BoolOp .And (b::rest) pos) u):xY X (.BoolOp .And (a::b::rest) pos) (l9 t u):=by
 refine⟨l9.mo ha.mo hb.mo,PW.imp (UK ha.pt hb.pw) fun B H Q hu=>?_⟩;obtain⟨L,S,r1,r2,h⟩:=hu;refine vq.go ha.mo r1 r2 h λ k S1 H1 h1 e1 p1=>vR (λ z=>?_) (λ z=>z H1 e1 p1) h1;exact vq.go hb.mo (r1.ext e1) p1 z λ y S2 H2 h2 e2 p2=>h2 H2 (e1.trans e2) p2
def pJ (ha:w6 X a t) (hb:xY X (.BoolOp .Or (b::rest) pos) u):xY X (.BoolOp .Or (a::b::rest) pos) (l7 t u):=by
 refine⟨l7.mo ha.mo hb.mo,PW.imp (UI ha.pt hb.pw) fun B H Q hu=>?_⟩;obtain⟨L,S,r1,r2,h⟩:=hu;refine vq.go ha.mo r1 r2 h λ k S1 H1 h1 e1 p1=>vR (λ z=>z H1 e1 p1) (λ z=>?_) h1;exact vq.go hb.mo (r1.ext e1) p1 z λ y S2 H2 h2 e2 p2=>h2 H2 (e1.trans e2) p2
def mJ (ha:w6 X a t):w6 X (.UnaryOp .Not a pos) (l8 t):=by
 refine⟨l8.mo ha.mo,PT.imp (UO ha.pt) fun B H Q hu=>?_⟩;obtain⟨L,S,r1,r2,h⟩:=hu;exact vq.go ha.mo r1 r2 h λ k S1 H1 h1 e1 p1=>h1 H1 e1 p1
def lG (t:xj) (ta tb:zI):zI:=fun L S Q=>t L S λ k S1=>if k=true then ta L S1 Q else tb L S1 Q
def lG.mo (h:vJ t) (ha:yA ta) (hb:yA tb):yA (lG t ta tb):=fun L S _ _ hq z=>h L S _ _ (λ k S1 z=>vR (ha L S1 _ _ hq) (hb L S1 _ _ hq) z) z
def S8 (hc:w6 X c t) (ha:PD X a ta) (hb:PD X b tb):PD X (.IfExp c a b pos) (lG t ta tb):=by
 refine⟨lG.mo hc.mo ha.mo hb.mo,PE.imp (TL hc.pt ha.pe hb.pe) fun B H Q hu=>?_⟩;obtain⟨L,S,r1,r2,h⟩:=hu;refine vq.go hc.mo r1 r2 h λ k S1 H1 h1 e1 p1=>vR (λ z=>?_) (λ z=>?_) h1
 .exact yd.go ha.mo (r1.ext e1) p1 z λ y S2 w H2 h2 q2 e2 p2=>h2 w H2 q2 (e1.trans e2) p2
 .exact yd.go hb.mo (r1.ext e1) p1 z λ y S2 w H2 h2 q2 e2 p2=>h2 w H2 q2 (e1.trans e2) p2
def uv (d:D) (S:SS) (Q:Bool->SS->Prop):Prop:=match d with
 | .zp=>Q false S
 | .bl k=>Q k S
 | .int i=>Q (i != 0) S
 | .str x=>x.length<=sizeLine/\Q ((x.length:Int) != 0) S
 | .tup ds=>Q (!ds.isEmpty) S
 | .xm ds=>Q (!ds.isEmpty) S
 | .ref p=>match S p with
  | some (.lst ds)=>Q (!ds.isEmpty) S
  | some (.y6 kvs)=>Q (!kvs.isEmpty) S
  | none=>False
def Y1 (ta:zI):xj:=fun L S Q=>ta L S λ x S1=>uv x S1 Q
def uv.mo {d:D}{S:SS}{Q Q':Bool->SS->Prop}(hq:∀ k S',Q k S'->Q' k S') (h:uv d S Q):uv d S Q':=by
 cases d with
 | str x=>exact⟨h.1,hq _ _ h.2⟩
 | ref p=>
  unfold uv at h ⊢;dsimp only at h ⊢;split at h
  .exact hq _ _ h
  .exact hq _ _ h
  .exact h
 | _=>exact hq _ _ h
theorem zx.isEmpty {H:Hp}{ds:List D}{xs:List V}(h:zx K H ds xs):ds.isEmpty=xs.isEmpty:=by
 have:=h.length;cases ds <;> cases xs <;> simp_all
def NV {α β:Type}{F:α->β->Prop}{xs:List α}{ys:List β}(h:Paired F xs ys):xs.isEmpty=ys.isEmpty:=by cases h <;> rfl
def uv.fits {H:Hp}{d:D}{v:V}{S:SS}{Q:Bool->Hp->Prop}(r:zo K H d v) (p:yb K H S) (h:uv d S (lB K H Q)):∃ k,dG K v H k/\Q k H:=by
 cases d with
 | zp=>simp only[zo] at r;subst r;exact⟨false,rfl,h H (.refl H) p⟩
 | bl k=>simp only[zo] at r;subst r;exact⟨k,rfl,h H (.refl H) p⟩
 | int i=>simp only[zo] at r;subst r;exact⟨_,rfl,h H (.refl H) p⟩
 | str x=>simp only[zo] at r;subst r;exact⟨_,⟨h.1,rfl⟩,h.2 H (.refl H) p⟩
 | tup ds=>
  simp only[zo] at r;obtain⟨a,xs,rfl,r1,r2⟩:=r;exact⟨_,.inr (.inl ⟨xs,r1,by rw[r2.isEmpty]⟩),h H (.refl H) p⟩
 | xm ds=>
  simp only[zo] at r;obtain⟨a,xs,rfl,r1,r2⟩:=r;exact⟨_,.inl ⟨xs,r1.sq,by rw[r2.isEmpty]⟩,h H (.refl H) p⟩
 | ref a=>
  simp only[zo] at r;subst r;unfold uv at h;dsimp only at h;split at h
  .rename_i ds e;obtain⟨xs,e1,r2⟩:=p a _ e;exact⟨_,.inl ⟨xs,yg.of e1,by rw[r2.isEmpty]⟩,h H (.refl H) p⟩
  .rename_i kvs e;obtain⟨xs,e1,r2⟩:=p a _ e;exact⟨_,.inr (.inr ⟨xs,e1,by rw[NV r2]⟩),h H (.refl H) p⟩
  .exact h.elim
def tE (ha:PD X a ta) (he:∀ whole,isTrue a X.env whole=(do let v <- whole;standAt a.pos;holding [v] (truthy v)):=by intro _;rfl):w6 X a (Y1 ta):=by
 refine⟨fun L S Q Q' hq h=>ha.mo L S _ _ (λ x S1 z=>uv.mo hq z) h,PT.imp (UN ha.pe he) fun B H Q hu=>?_⟩;obtain⟨L,S,r1,r2,h⟩:=hu;refine yd.go ha.mo r1 r2 h λ x S1 v H1 h1 q1 e1 p1=>?_;exact uv.fits q1 p1 (uv.mo (λ k S' z=>z.ext e1) h1)
def jG:yQ:=λ _ S Q=>Q [] S
def pY (te:zI) (tr:yQ):yQ:=fun L S Q=>te L S λ x S1=>tr L S1 λ xs S2=>Q (x::xs) S2
variable {e:Expr}{es:List Expr}{te:zI}{tA:yQ}
def pY.mo (h:yA te) (h':qb tA):qb (pY te tA):=fun L S _ _ hq z=>h L S _ _ (λ x S1 z=>h' L S1 _ _ (λ xs S2 z=>hq _ _ z) z) z
def zt:wY X [] jG:=⟨λ _ _ _ _ hq h=>hq _ _ h,PA.imp oZ fun B H Q ⟨_,_,_,r2,h⟩=>h [] H .nil (.refl H) r2⟩
def zf (ha:PD X e te) (hr:wY X es tA) (hs:starEach (e::es) X.env=(false,eval e X.env)::starEach es X.env:=by rfl):wY X (e::es) (pY te tA):=by
 refine⟨pY.mo ha.mo hr.mo,PA.imp (pL ha.pe hr.pa hs) fun B H Q hu=>?_⟩;obtain⟨L,S,r1,r2,h⟩:=hu;refine yd.go ha.mo r1 r2 h λ x S1 v H1 h1 q1 e1 p1=>?_;refine vK.go hr.mo (r1.ext e1) p1 h1 λ xs S2 w H2 h2 q2 e2 p2=>?_;exact h2 (v::w) H2 (.cons (zo.ext e2 x q1) q2) (e1.trans e2) p2
def YE (t:yQ):zI:=fun L S Q=>t L S λ ds S1=>ds.length<=sizeLine/\Q (.tup ds) S1
def YJ (t:yQ):zI:=fun L S Q=>t L S λ ds S1=>ds.length<=sizeLine/\∀ p,S1 p=none->Q (.ref p) (ups S1 p (.lst ds))
def xb {k} (h:wY X es tA):PD X (.Tuple es k pos) (YE tA):=by
 refine⟨fun L S _ _ hq z=>h.mo L S _ _ (λ ds S1 z=>⟨z.1,hq _ _ z.2⟩) z,PE.imp (T5 h.pa) fun B H Q hu=>?_⟩;obtain⟨L,S,r1,r2,h'⟩:=hu;refine vK.go h.mo r1 r2 h' λ ds S1 xs H1 h1 q1 e1 p1=>⟨by rw[<- q1.length];exact h1.1,λ p hp=>?_⟩;refine h1.2 _ _ ?_ (e1.trans (.new hp _)) (p1.new hp);simp only[zo];exact⟨p,xs,rfl,yp.of xl,zx.ext (.new hp _) ds q1⟩
def wu (h:wY X es tA):PD X (.List es pos) (YJ tA):=by
 refine⟨fun L S _ _ hq z=>h.mo L S _ _ (λ ds S1 z=>⟨z.1,λ p hp=>hq _ _ (z.2 p hp)⟩) z,PE.imp (TF h.pa) fun B H Q hu=>?_⟩;obtain⟨L,S,r1,r2,h'⟩:=hu;refine vK.go h.mo r1 r2 h' λ ds S1 xs H1 h1 q1 e1 p1=>⟨by rw[<- q1.length];exact h1.1,λ p hp=>?_⟩;refine h1.2 p (p1.none hp) _ _ (by simp only[zo]) (e1.trans (.new hp _)) ?_;exact p1.ups (.new hp _) ⟨xs,xl,zx.ext (.new hp _) ds q1⟩
def vy:xx:=λ x y S Q=>match x,y with
 | .tup ds,.int i=>match yh ds i with
  | some d=>Q d S
  | none=>False
 | .xm ds,.int i=>match yh ds i with
  | some d=>Q d S
  | none=>False
 | .ref p,.int i=>match S p with
  | some (.lst ds)=>match yh ds i with
   | some d=>Q d S
   | none=>False
  | _=>False
 | _,_=>False
def vy.mo:wI vy:=λ x y S Q Q' hq h=>by
 unfold vy at h ⊢;split at h
 .skip
  split at h
  .exact hq _ _ h
  .exact h
 .skip
  split at h
  .exact hq _ _ h
  .exact h
 .skip
  split at h
  .skip
   split at h
   .exact hq _ _ h
   .exact h
  .exact h.elim
 .exact h.elim
theorem zx.yh {H:Hp}{ds:List D}{xs:List V}{i:Int}{d:D}(h:zx K H ds xs) (e:L2.yh ds i=some d):∃ x,L2.yh xs i=some x/\zo K H d x:=by
 unfold L2.yh at e ⊢;rw[h.length] at e;cases q:vw xs.length i with
 | none=>rw[q] at e;cases e
 | some j=>
  rw[q] at e;exact h.get e
def vy.fits:wo K vy (ao K):=λ x y d e H S Q h1 h2 h3 h=>by
 unfold vy at h;split at h
 .split at h
  .rename_i q;simp only[zo] at h1 h2;obtain⟨a,xs,rfl,r1,r2⟩:=h1;obtain⟨x',e1,e2⟩:=r2.yh q;exact .inr (.inl ⟨a,xs,_,x',rfl,h2,r1,e1,h x' H e2 (.refl H) h3⟩)
  .exact h.elim
 .split at h
  .rename_i q;simp only[zo] at h1 h2;obtain⟨a,xs,rfl,r1,r2⟩:=h1;obtain⟨x',e1,e2⟩:=r2.yh q;exact .inl ⟨a,xs,_,x',rfl,h2,r1.sq,e1,h x' H e2 (.refl H) h3⟩
  .exact h.elim
 .split at h
  .rename_i q0;split at h
   .rename_i q;simp only[zo] at h1 h2;subst h1;obtain⟨xs,r1,r2⟩:=h3 _ _ q0;obtain⟨x',e1,e2⟩:=r2.yh q;exact .inl ⟨_,xs,_,x',rfl,h2,yg.of r1,e1,h x' H e2 (.refl H) h3⟩
   .exact h.elim
  .exact h.elim
 .exact h.elim
def zA (ha:PD X a ta) (hb:PD X b tb) (hs:X0 b:=by exact λ _ _=>rfl):PD X (.Subscript a b pos) (yK vy ta tb):=
 ⟨yK.mo vy.mo ha.mo hb.mo,PE.imp (TJ Pc ha.pe hb.pe hs) λ _ _ _ h=>k7 vy.fits vy.mo ha.mo hb.mo h⟩
abbrev wH:=List D->SS->DK->Prop
def uL (f:wH):Prop:=∀ ds S (Q Q':DK),(∀ d S',Q d S'->Q' d S')->f ds S Q->f ds S Q'
def tW (K:zFr) (f:wH) (r:List V->Hp->VK->Prop):Prop:=∀ xs ds H S Q,zx K H ds xs->yb K H S->f ds S (vz K H Q)->r xs H Q
def wD (f:wH) (t:yQ):zI:=fun L S Q=>t L S λ ds S1=>f ds S1 Q
def wD.mo {f:wH}(hf:uL f) (h:qb tA):yA (wD f tA):=fun L S _ _ hq z=>h L S _ _ (λ ds S1 z=>hf ds S1 _ _ hq z) z
def bj {f:wH}{r:List V->Hp->VK->Prop}(hf:uL f) (hr:tW K f r) (h:qb tA) {B:St}{H:Hp}{Q:VK}(hu:yd K (wD f tA) B H Q):kB r (vK K tA) B H Q:=by
 obtain⟨L,S,r1,r2,h'⟩:=hu;refine vK.go h r1 r2 h' λ ds S1 xs H1 h1 q1 e1 p1=>?_;exact hr xs ds H1 S1 Q q1 p1 (hf ds S1 _ _ (λ d S' z=>z.ext e1) h1)
def sj {f:wH}{r:List V->Hp->VK->Prop}{e:Expr}(h:PE X e (kB r (vK X.K tA))) (hf:uL f) (hr:tW X.K f r) (ha:qb tA):PD X e (wD f tA):=
 ⟨wD.mo hf ha,PE.imp h λ _ _ _ hu=>bj hf hr ha hu⟩
noncomputable def yz (d:D) (S:SS):Option (List D):=match d with
 | .tup ds=>some ds
 | .xm ds=>some ds
 | .ref p=>match S p with
  | some (.lst ds)=>some ds
  | _=>none
 | _=>none
theorem yz.sq {H:Hp}{S:SS}{d:D}{v:V}{ds:List D}(r:zo K H d v) (p:yb K H S) (e:yz d S=some ds):∃ a xs,v=.ref a/\(yg K H a xs\/yp K H a xs)/\zx K H ds xs:=by
 unfold yz at e;split at e
 .cases e;simp only[zo] at r;obtain⟨a,xs,h1,h2,h3⟩:=r;exact⟨a,xs,h1,.inr h2,h3⟩
 .cases e;simp only[zo] at r;obtain⟨a,xs,h1,h2,h3⟩:=r;exact⟨a,xs,h1,.inl h2.sq,h3⟩
 .split at e
  .rename_i q;cases e;simp only[zo] at r;subst r;obtain⟨xs,h1,h2⟩:=p _ _ q;exact⟨_,xs,rfl,.inl (yg.of h1),h2⟩
  .cases e
 .cases e
def zx.one {H:Hp}{d:D}{xs:List V}(h:zx K H [d] xs):∃ x,xs=[x]/\zo K H d x:=by
 simp only[zx] at h;obtain⟨x,r,rfl,h2,rfl⟩:=h;exact⟨x,rfl,h2⟩
def zx.two {H:Hp}{d d':D}{xs:List V}(h:zx K H [d,d'] xs):∃ x y,xs=[x,y]/\zo K H d x/\zo K H d' y:=by
 simp only[zx] at h;obtain⟨x,r,rfl,h2,y,r',rfl,h3,rfl⟩:=h;exact⟨x,y,rfl,h2,h3⟩
def tf:wH:=λ ds S Q=>match ds with
 | [d]=>match yz d S with
  | some ds=>Q (.int ds.length) S
  | none=>match d with
   | .str z=>z.length<=sizeLine/\Q (.int z.length) S
   | _=>False
 | _=>False
def tf.mo:uL tf:=λ ds S Q Q' hq h=>by
 unfold tf at h ⊢;split at h
 .skip
  split at h
  .exact hq _ _ h
  .split at h
   .exact⟨h.1,hq _ _ h.2⟩
   .exact h.elim
 .exact h.elim
abbrev UG (K:zFr):List V->Hp->VK->Prop:=λ xs H Q=>(∃ p ys,xs=[.ref p]/\(yg K H p ys\/yp K H p ys)/\Q (.int ys.length) H)\/(∃ z,xs=[.str z]/\z.length<=sizeLine/\Q (.int z.length) H)
def tf.fits:tW K tf (UG K):=λ xs ds H S Q h0 h2 h=>by
 unfold tf at h;split at h
 .obtain⟨x,hx,h1⟩:=h0.one;subst hx;split at h
  .rename_i e;obtain⟨a,ys,rfl,q,r⟩:=yz.sq h1 h2 e;refine .inl ⟨a,ys,rfl,q,?_⟩;rw[<- r.length];exact h _ H (by simp only[zo]) (.refl H) h2
  .split at h
   .simp only[zo] at h1;subst h1;exact .inr ⟨_,rfl,h.1,h.2 _ H (by simp only[zo]) (.refl H) h2⟩
   .exact h.elim
 .exact h.elim
def u_:wH:=λ ds S Q=>match ds with
 | [d]=>match yz d S with
  | some ds=>∀ p,S p=none->Q (.ref p) (ups S p (.lst ds))
  | none=>False
 | _=>False
def u_.mo:uL u_:=λ ds S Q Q' hq h=>by
 unfold u_ at h ⊢;split at h
 .skip
  split at h
  .exact λ p hp=>hq _ _ (h p hp)
  .exact h.elim
 .exact h.elim
def u_.fits:tW K u_ (λ xs H Q=>∃ p ys,xs=[.ref p]/\(yg K H p ys\/yp K H p ys)/\∀ l,H l=none->Q (.ref l) (upd H l (.lst ys))):=λ xs ds H S Q h0 h2 h=>by
 unfold u_ at h;split at h
 .obtain⟨x,hx,h1⟩:=h0.one;subst hx;split at h
  .rename_i e;obtain⟨a,ys,rfl,q,r⟩:=yz.sq h1 h2 e;refine⟨a,ys,rfl,q,λ l hl=>?_⟩;exact h l (h2.none hl) _ _ (by simp only[zo]) (.new hl _) (h2.ups (.new hl _) ⟨ys,xl,zx.ext (.new hl _) _ r⟩)
  .exact h.elim
 .exact h.elim
def uZ:wH:=λ ds S Q=>match ds with
 | [.tup ds]=>Q (.tup ds) S
 | [.xm ds]=>Q (.tup ds) S
 | [.ref p]=>match S p with
  | some (.lst ds)=>Q (.tup ds) S
  | _=>False
 | _=>False
def uZ.mo:uL uZ:=λ ds S Q Q' hq h=>by
 unfold uZ at h ⊢;split at h
 .exact hq _ _ h
 .exact hq _ _ h
 .skip
  split at h
  .exact hq _ _ h
  .exact h.elim
 .exact h.elim
def uZ.fits:tW K uZ (λ xs H Q=>∃ p ys,xs=[.ref p]/\((yg K H p ys/\∀ l,H l=none->Q (.ref l) (upd H l (.tup ys)))\/(yp K H p ys/\Q (.ref p) H))):=λ xs ds H S Q h0 h2 h=>by
 unfold uZ at h;split at h
 .obtain⟨x,hx,h1⟩:=h0.one;subst hx;have h1':=h1;simp only[zo] at h1;obtain⟨a,xs,rfl,r1,r2⟩:=h1;exact⟨a,xs,rfl,.inr ⟨r1,h _ H h1' (.refl H) h2⟩⟩
 .obtain⟨x,hx,h1⟩:=h0.one;subst hx;simp only[zo] at h1;obtain⟨a,xs,rfl,r1,r2⟩:=h1;refine⟨a,xs,rfl,.inl ⟨r1.sq,λ l hl=>h _ _ ?_ (.new hl _) (h2.new hl)⟩⟩;simp only[zo];exact⟨l,xs,rfl,yp.of xl,zx.ext (.new hl _) _ r2⟩
 .obtain⟨x,hx,h1⟩:=h0.one;subst hx;split at h
  .rename_i e;simp only[zo] at h1;subst h1;obtain⟨xs,r1,r2⟩:=h2 _ _ e;refine⟨_,xs,rfl,.inl ⟨yg.of r1,λ l hl=>h _ _ ?_ (.new hl _) (h2.new hl)⟩⟩;simp only[zo];exact⟨l,xs,rfl,yp.of xl,zx.ext (.new hl _) _ r2⟩
  .exact h.elim
 .exact h.elim
def uF (g:Int->Int->D):wH:=λ ds S Q=>match ds with
 | [.int i,.int j]=>Q (g i j) S
 | _=>False
def uF.mo {g:Int->Int->D}:uL (uF g):=λ ds S Q Q' hq h=>by
 unfold uF at h ⊢;split at h
 .exact hq _ _ h
 .exact h.elim
def uF.fits {g:Int->Int->D}{g':Int->Int->V}(hg:∀ i j H,zo K H (g i j) (g' i j)):tW K (uF g) (λ xs H Q=>∃ i j,xs=[.int i,.int j]/\Q (g' i j) H):=λ xs ds H S Q h0 h2 h=>by
 unfold uF at h;split at h
 .obtain⟨x,y,hx,h1,h3⟩:=h0.two;subst hx;simp only[zo] at h1 h3;subst h1 h3;exact⟨_,_,rfl,h _ H (hg _ _ H) (.refl H) h2⟩
 .exact h.elim
def zad:xx:=λ x y S Q=>match x,y with
 | .ref p,.ref q=>match S p,S q with
  | some (.lst ds),some (.lst es)=>ds.length+es.length<=sizeLine/\∀ r,S r=none->Q (.ref r) (ups S r (.lst (ds++es)))
  | _,_=>False
 | _,_=>False
def qV (to te:zI):zI:=fun L S Q=>to L S λ x S1=>match x with
 | .ref p=>(∃ ds,S1 p=some (.lst ds))/\te L S1 λ y S2=>match S2 p with
  | some (.lst ds)=>ds.length<sizeLine/\Q .zp (ups S2 p (.lst (ds++[y])))
  | _=>False
 | _=>False
def qV.mo {to te:zI}(h:yA to) (h':yA te):yA (qV to te):=fun L S Q Q' hq z=>h L S _ _ (λ x S1 z=>by
 cases x with
 | ref p=>
  refine⟨z.1,h' L S1 _ _ (λ y S2 w=>?_) z.2⟩;split at w
  .exact⟨w.1,hq _ _ w.2⟩
  .exact w.elim
 | _=>exact z) z
def SH {o e:Expr}{to te:zI}{e0:Expr}(hpe:PE X e0 (iW X.K "list" ax (yd X.K to) (iV (yd X.K te) iT))) (h:yA to) (h':yA te):PD X e0 (qV to te):=by
 refine⟨qV.mo h h',PE.imp hpe fun B H Q hu=>?_⟩;obtain⟨L,S,r1,r2,z⟩:=hu;refine yd.go h r1 r2 z λ x S1 v H1 h1 q1 e1 p1=>?_;cases x with
 | ref p=>
  obtain⟨⟨ds,hd⟩,h1⟩:=h1;simp only[zo] at q1;subst q1;obtain⟨xs,g1,g2⟩:=p1 _ _ hd;refine⟨.inl ⟨rfl,xs,yg.of g1⟩,?_⟩;refine yd.go h' (r1.ext e1) p1 h1 λ y S2 w H2 h2 q2 e2 p2=>?_;split at h2
  .rename_i ds' e3;obtain⟨xs',g3,g4⟩:=p2 _ _ e3;refine⟨p,xs',w,rfl,rfl,g3,by rw[<- g4.length];exact h2.1,?_⟩;have e4:Ext H2 (upd H2 p (.lst (xs'++[w]))):=.lst g3 _;exact h2.2 _ _ (by simp only[zo]) ((e1.trans e2).trans e4) (p2.ups e4 ⟨_,xl,zx.ext e4 _ (g4.snoc q2)⟩)
  .exact h2.elim
 | zp=>exact h1.elim
 | bl _=>exact h1.elim
 | int _=>exact h1.elim
 | str _=>exact h1.elim
 | tup _=>exact h1.elim
 | xm _=>exact h1.elim
end
structure pj where
 nx:y8->SS->Prop
 rt:DK
 bk:y8->SS->Prop:=λ _ _=>False
 ct:y8->SS->Prop:=λ _ _=>False
abbrev xC:=pj->y8->SS->Prop
structure pj.Le (E E':pj):Prop where
 nx:∀ L S,E.nx L S->E'.nx L S
 rt:∀ d S,E.rt d S->E'.rt d S
 bk:∀ L S,E.bk L S->E'.bk L S
 ct:∀ L S,E.ct L S->E'.ct L S
def s_ (t:xC):Prop:=∀ E E' L S,pj.Le E E'->t E L S->t E' L S
noncomputable def sP (K:zFr) (H:Hp) (D:Ends):pj:=⟨vV K H D.nx,vz K H D.rt,vV K H D.bk,vV K H D.ct⟩
theorem sP.ext {K:zFr}{H H':Hp}{D:Ends}(e:Ext H H'):(sP K H D).Le (sP K H' D):=⟨λ _ _ h=>vV.ext e h,λ _ _ h=>vz.ext e h,λ _ _ h=>vV.ext e h,λ _ _ h=>vV.ext e h⟩
def iM (K:zFr) (t:xC):TS:=λ D B H=>∃ L S,xw K H L B/\yb K H S/\t (sP K H D) L S
structure uk (X:Cx) (st:Stmt) (t:xC):Prop where
 mo:s_ t
 ps:PS X st (iM X.K t)
structure t6 (X:Cx) (st:List Stmt) (t:xC):Prop where
 mo:s_ t
 ps:ve X st (iM X.K t)
section
variable {X:Cx}{K:zFr}{st:Stmt}{rest:List Stmt}{t u:xC}{pos:Pos}{e:Expr}{te:zI}
def YG:xC:=λ E L S=>E.nx L S
def lE (t u:xC):xC:=λ E L S=>t { E with nx:=u E } L S
def lE.mo (h:s_ t) (h':s_ u):s_ (lE t u):=λ E E' L S hE z=>h { E with nx:=u E } { E' with nx:=u E' } L S ⟨fun L S q=>h' E E' L S hE q,hE.rt,hE.bk,hE.ct⟩ z
def yR:t6 X [] YG:=⟨λ _ _ _ _ hE h=>hE.nx _ _ h,ve.imp UR λ D B H ⟨L,S,r1,r2,h⟩=>h B H r1 (.refl H) r2⟩
def zH (h:uk X st t):t6 X [st] t:=⟨h.mo,UQ h.ps⟩
def zC (h:uk X st t) (h':t6 X rest u):t6 X (st::rest) (lE t u):=by
 refine⟨lE.mo h.mo h'.mo,ve.imp (US h.ps h'.ps) λ D B H hu=>?_⟩;obtain⟨L,S,r1,r2,z⟩:=hu;refine⟨L,S,r1,r2,h.mo { sP X.K H D with nx:=u (sP X.K H D) } _ L S ⟨fun L' S' q B' H' q1 q2 q3=>?_,λ _ _ q=>q,λ _ _ q=>q,λ _ _ q=>q⟩ z⟩;exact⟨L',S',q1,q3,h'.mo _ _ L' S' (sP.ext q2) q⟩
def jI (te:zI):xC:=λ E L S=>te L S λ _ S1=>E.nx L S1
def uz (he:PD X e te) (hs:swapsWith e none pos.line X.env=pure false:=by rfl):uk X (.Expr e pos) (jI te):=by
 refine⟨λ E E' L S hE z=>he.mo L S _ _ (λ _ _ q=>hE.nx _ _ q) z,PS.imp (U_ he.pe hs) λ D B H hu=>?_⟩;obtain⟨L,S,r1,r2,z⟩:=hu;exact yd.go he.mo r1 r2 z λ x S1 v H1 h1 q1 e1 p1=>h1 B H1 (r1.ext e1) e1 p1
def eY (te:zI):xC:=λ E L S=>te L S E.rt
def zX (he:PD X e te):uk X (.Return (some e) pos) (eY te):=by
 refine⟨λ E E' L S hE z=>he.mo L S _ _ (λ _ _ q=>hE.rt _ _ q) z,PS.imp (UX he.pe) λ D B H hu=>?_⟩;obtain⟨L,S,r1,r2,z⟩:=hu;exact yd.go he.mo r1 r2 z λ x S1 v H1 h1 q1 e1 p1=>h1 v H1 q1 e1 p1
def YL (c:xj) (t u:xC):xC:=λ E L S=>c L S λ k S1=>if k=true then t E L S1 else u E L S1
def yS {c:Expr}{p q:List Stmt}{tc:xj}(hc:w6 X c tc) (h:t6 X p t) (h':t6 X q u):uk X (.If c p q pos) (YL tc t u):=by
 refine⟨λ E E' L S hE z=>hc.mo L S _ _ (λ k S1 z=>vR (h.mo _ _ L S1 hE) (h'.mo _ _ L S1 hE) z) z,PS.imp (UY hc.pt h.ps h'.ps) λ D B H hu=>?_⟩;obtain⟨L,S,r1,r2,z⟩:=hu;refine vq.go hc.mo r1 r2 z λ k S1 H1 h1 e1 p1=>vR (λ z=>?_) (λ z=>?_) h1
 .exact⟨L,S1,r1.ext e1,p1,h.mo _ _ L S1 (sP.ext e1) z⟩
 .exact⟨L,S1,r1.ext e1,p1,h'.mo _ _ L S1 (sP.ext e1) z⟩
abbrev xX:=D->y8->SS->(y8->SS->Prop)->Prop
abbrev vH:=List D->y8->SS->(y8->SS->Prop)->Prop
def l_ (t:xX):Prop:=∀ d L S (Q Q':y8->SS->Prop),(∀ L S,Q L S->Q' L S)->t d L S Q->t d L S Q'
def X6 (t:vH):Prop:=∀ d L S (Q Q':y8->SS->Prop),(∀ L S,Q L S->Q' L S)->t d L S Q->t d L S Q'
noncomputable def ml (K:zFr) (t:xX):TG:=λ v B H Q=>∃ d L S,zo K H d v/\xw K H L B/\yb K H S/\t d L S (vV K H Q)
noncomputable def bh (K:zFr) (t:vH):rZ:=λ v B H Q=>∃ d L S,zx K H d v/\xw K H L B/\yb K H S/\t d L S (vV K H Q)
structure qa (X:Cx) (e:Expr) (t:xX):Prop where
 mo:l_ t
 pg:PG X e (ml X.K t)
structure ir (X:Cx) (es:List Expr) (t:vH):Prop where
 mo:X6 t
 pg:sZ X es (bh X.K t)
def PG.imp {e:Expr}{t t':TG}(h:PG X e t) (hi:∀ v B H Q,t' v B H Q->t v B H Q):PG X e t':=λ pins s B H v w Q I r q=>h pins s B H v w Q I r (hi v B H Q q)
def sZ.imp {e:List Expr}{t t':rZ}(h:sZ X e t) (hi:∀ v B H Q,t' v B H Q->t v B H Q):sZ X e t':=λ pins s B H v w Q I r q=>h pins s B H v w Q I r (hi v B H Q q)
def hName (i:Nat):xX:=λ d L S Q=>Q (L.set i (some d)) S
def Sq {e:Expr}{i:Nat}(h:PG X e (nu i)):qa X e (hName i):=
 ⟨λ _ _ _ _ _ hq z=>hq _ _ z,PG.imp h λ v B H Q ⟨d,L,S,r1,r2,r3,z⟩=>z _ H (r2.set i r1) (.refl H) r3⟩
def e7:vH:=λ ds L S Q=>ds=[]/\Q L S
def e9 (t:xX) (u:vH):vH:=λ ds L S Q=>match ds with
 | d::r=>t d L S fun L' S'=>u r L' S' Q
 | []=>False
def oV:ir X [] e7:=by
 refine⟨λ _ _ _ _ _ hq z=>⟨z.1,hq _ _ z.2⟩,sZ.imp Ts λ v B H Q hu=>?_⟩;obtain⟨d,L,S,r1,r2,r3,z1,z2⟩:=hu;subst z1;simp only[zx] at r1;exact⟨r1,z2 B H r2 (.refl H) r3⟩
def vO {e:Expr}{es:List Expr}{t:xX}{u:vH}(h:qa X e t) (h':ir X es u) (hs:(assignEach (e::es) X.env).map (·.2)=assign e X.env::(assignEach es X.env).map (·.2):=by rfl):ir X (e::es) (e9 t u):=by
 refine⟨λ ds L S Q Q' hq z=>?_,sZ.imp (Tt h.pg h'.pg hs) λ v B H Q hu=>?_⟩
 .cases ds with
  | nil=>exact z
  | cons d r=>exact h.mo d L S _ _ (fun L' S' z=>h'.mo r L' S' _ _ hq z) z
 .obtain⟨ds,L,S,r1,r2,r3,z⟩:=hu;cases ds with
  | nil=>exact z.elim
  | cons d r=>
   simp only[zx] at r1;obtain⟨x,xs,rfl,q1,q2⟩:=r1;refine⟨x,xs,rfl,d,L,S,q1,r2,r3,h.mo d L S _ _ (fun L' S' z B' H' g1 g2 g3=>?_) z⟩;exact⟨r,L',S',zx.ext g2 r q2,g1,g3,h'.mo r L' S' _ _ (fun L2 S2 z2=>vV.ext g2 z2) z⟩
def j5 (n:Nat) (t:vH):xX:=λ d L S Q=>match d with
 | .tup ds=>ds.length=n/\t ds L S Q
 | _=>False
def So {e:Expr}{n:Nat}{t:vH}(h:PG X e (Yh X.K n (bh X.K t))) (hm:X6 t):qa X e (j5 n t):=by
 refine⟨λ d L S Q Q' hq z=>?_,PG.imp h λ v B H Q hu=>?_⟩
 .cases d with
  | tup ds=>exact⟨z.1,hm ds L S _ _ hq z.2⟩
  | _=>exact z
 .obtain⟨d,L,S,r1,r2,r3,z⟩:=hu;cases d with
  | tup ds=>
   simp only[zo] at r1;obtain⟨a,xs,rfl,q1,q2⟩:=r1;exact⟨a,xs,rfl,q1,by rw[<- q2.length];exact z.1,ds,L,S,q2,r2,r3,z.2⟩
  | zp=>exact z.elim
  | bl _=>exact z.elim
  | int _=>exact z.elim
  | str _=>exact z.elim
  | xm _=>exact z.elim
  | ref _=>exact z.elim
def ue (te:zI) (g:xX):xC:=λ E L S=>te L S λ x S1=>g x L S1 E.nx
def ue.mo {g:xX}(h:yA te) (h':l_ g):s_ (ue te g):=λ E E' L S hE z=>h L S _ _ (λ x S1 q=>h' x L S1 _ _ (fun L S q=>hE.nx _ _ q) q) z
def Vg {g:xX}(h:yA te) (h':l_ g) {D:Ends}{B:St}{H:Hp}(hu:iM K (ue te g) D B H):mv (yd K te) (ml K g) D B H:=by
 obtain⟨L,S,r1,r2,z⟩:=hu;refine yd.go h r1 r2 z λ x S1 v H1 h1 q1 e1 p1=>?_;exact⟨x,L,S1,q1,r1.ext e1,p1,h' x L S1 _ _ (fun L S q=>vV.ext e1 q) h1⟩
def Sj {tg e:Expr}{g:xX}(he:PD X e te) (hg:qa X tg g) (hs:swapsWithSole [tg] e pos.line X.env=pure false:=by rfl) (hw:swappedStores [tg] e X.env=pure none:=by rfl)
  (h1:(assignEach [tg] X.env).map (·.2)=[assign tg X.env]:=by rfl):uk X (.Assign [tg] e pos) (ue te g):=
 ⟨ue.mo he.mo hg.mo,PS.imp (az he.pe hg.pg hs hw h1) λ _ _ _ hu=>Vg he.mo hg.mo hu⟩
def Sg {e0:Stmt}{i:Nat}(h:PS X e0 (mv (yd X.K te) (nu i))) (hm:yA te):uk X e0 (ue te (hName i)):=by
 refine⟨ue.mo hm λ _ _ _ _ _ hq z=>hq _ _ z,PS.imp h λ D B H hu=>?_⟩;obtain⟨L,S,r1,r2,z⟩:=hu;refine yd.go hm r1 r2 z λ x S1 v H1 h1 q1 e1 p1=>?_;exact h1 _ H1 ((r1.ext e1).set i q1) e1 p1
end
structure ky where
 items:List D
 keep:SS->Prop
abbrev vW:=y8->SS->(ky->SS->Prop)->Prop
def i6 (t:vW):Prop:=∀ L S (Q Q':ky->SS->Prop),(∀ I S',Q I S'->Q' I S')->t L S Q->t L S Q'
def dM (K:zFr) (H1:Hp) (J:It) (I:ky):Prop:=∀ (i:Nat) (H:Hp) (S:SS),Ext H1 H->yb K H S->I.keep S->
 (∀ d,I.items[i]?=some d->J.go i H/\∀ x H',J.oA i H x H'->Ext H H'/\yb K H' S/\zo K H' d x)/\(I.items.length<=i->J.stop i H)
def O6 (K:zFr) (H:Hp) (R:It->Hp->Prop):ky->SS->Prop:=λ I S1=>∀ J H1,Ext H H1->yb K H1 S1->dM K H1 J I->R J H1
def v9 (K:zFr) (t:vW):TI:=fun B H R=>∃ L S,xw K H L B/\yb K H S/\t L S (O6 K H R)
structure oz (X:Cx) (tg iter:Expr) (t:vW):Prop where
 mo:i6 t
 pi:PI X tg iter (v9 X.K t)
def PI.imp {X:Cx}{tg e:Expr}{t t':TI}(h:PI X tg e t) (hi:∀ B H Q,t' B H Q->t B H Q):PI X tg e t':=λ pins s B H Q I q=>h pins s B H Q I (hi B H Q q)
section
variable {X:Cx}{K:zFr}{tg e:Expr}{te:zI}{pos:Pos}
theorem zx.at {H:Hp}{ds:List D}{xs:List V}{i:Nat}{d:D}{x:V}(r:zx K H ds xs) (h1:ds[i]?=some d) (h2:xs[i]?=some x):zo K H d x:=by
 obtain⟨y,e1,e2⟩:=r.get h1;rw[h2] at e1;cases e1;exact e2
noncomputable def ux (lo:Int) (n:Nat):List D:=(List.range n).map λ(k:Nat)=>D.int (lo+(k:Int))
def UC {lo:Int}{n i:Nat}{d:D}(h:(ux lo n)[i]?=some d):i<n/\d=.int (lo+(i:Int)):=by
 unfold ux at h;rw[zA3] at h;cases q:(List.range n)[i]? with
 | none=>rw[q] at h;cases h
 | some j=>
  rw[q] at h;obtain⟨h1,h2⟩:=zA2.mp q;rw[zC5] at h1;rw[List.getElem_range] at h2;subst h2;cases h;exact⟨h1,rfl⟩
def UB (lo:Int) (n:Nat):(ux lo n).length=n:=by unfold ux;rw[zA7,zC5]
def dM.range {H1:Hp}{lo:Int}{n:Nat}:dM K H1 (i7 lo n) ⟨ux lo n,λ _=>True⟩:=λ i H S _ x2 _=>by
 refine⟨λ d hd=>?_,λ hl=>by rw[show (ky.mk (ux lo n) λ _=>True).items=ux lo n from rfl,UB] at hl;exact hl⟩;obtain⟨h1,rfl⟩:=UC hd;refine⟨h1,λ x H' q=>?_⟩;obtain⟨rfl,rfl⟩:=q;exact⟨.refl _,x2,by simp only[zo]⟩
def ea (t:yQ):vW:=fun L S R=>t L S λ ds S1=>match ds with
 | [.int j]=>(-(2 ^ 62)<=j/\j<2 ^ 62)/\R ⟨ux 0 j.toNat,λ _=>True⟩ S1
 | _=>False
variable {tA:yQ}
def Sk (h:PI X tg e (Z_ (vK X.K tA))) (hm:qb tA):oz X tg e (ea tA):=by
 refine⟨fun L S Q Q' hq z=>hm L S _ _ (λ ds S1 z=>?_) z,PI.imp h fun B H R hu=>?_⟩
 .split at z
  .exact⟨z.1,hq _ _ z.2⟩
  .exact z.elim
 .obtain⟨L,S,r1,r2,z⟩:=hu;refine vK.go hm r1 r2 z λ ds S1 xs H1 h1 q1 e1 p1=>?_;split at h1
  .obtain⟨x,rfl,q⟩:=q1.one;simp only[zo] at q;subst q;exact⟨_,rfl,h1.1.1,h1.1.2,h1.2 _ H1 e1 p1 .range⟩
  .exact h1.elim
def lH (ti:vW) (g:xX) (tb:xC):xC:=λ E L S=>ti L S λ I S1=>∃ W:Nat->y8->SS->Prop,W 0 L S1/\(∀ i L S,W i L S->I.keep S)/\
 (∀ i d L S,I.items[i]?=some d->W i L S->g d L S fun L2 S2=>tb { E with nx:=W (i+1),ct:=W (i+1),bk:=E.nx } L2 S2)/\∀ L S,W I.items.length L S->E.nx L S
def lH.mo {ti:vW}{g:xX}{tb:xC}(hi:i6 ti) (hg:l_ g) (hb:s_ tb):s_ (lH ti g tb):=λ E E' L S hE z=>hi L S _ _ (λ I S1 ⟨W,w0,wk,ws,wd⟩=>by
 refine⟨W,w0,wk,λ i d L S hd hw=>hg d L S _ _ (fun L2 S2 z=>hb { E with nx:=W (i+1),ct:=W (i+1),bk:=E.nx } { E' with nx:=W (i+1),ct:=W (i+1),bk:=E'.nx } L2 S2 ⟨λ _ _ q=>q,hE.rt,hE.nx,λ _ _ q=>q⟩ z) (ws i d L S hd hw),fun L S q=>hE.nx _ _ (wd L S q)⟩) z
def w_ {iter:Expr}{body:List Stmt}{ti:vW}{g:xX}{tb:xC}(hp:PassesOwn (model X.prog X.w) X.A X.env X.xe) (hc:X.calm=true) (hi:oz X tg iter ti) (hg:qa X tg g) (hb:t6 X body tb)
  (hs:∀ x,foldedSetIterable iter X.env x=pure x:=by intro _;rfl):uk X (.For tg iter body [] pos) (lH ti g tb):=by
 refine⟨lH.mo hi.mo hg.mo hb.mo,PS.imp (UZ hp hc hi.pi hg.pg hb.ps hs) λ D B H hu=>?_⟩;obtain⟨L,S,r1,r2,z⟩:=hu;refine⟨L,S,r1,r2,hi.mo L S _ _ (λ I S1 hW J H1 e1 p1 rep=>?_) z⟩;obtain⟨W,w0,wk,ws,wd⟩:=hW;refine⟨λ i m B H2=>m=I.items.length-i/\i<=I.items.length/\Ext H1 H2/\∃ L S,xw X.K H2 L B/\yb X.K H2 S/\W i L S,⟨_,rfl,zD4 _,.refl _,L,S1,r1.ext e1,p1,w0⟩,?_⟩;rintro i m B2 H2 ⟨rfl,hi',x2,L2,S2,q1,q2,w2⟩;obtain⟨g1,g2⟩:=rep i H2 S2 x2 q2 (wk i L2 S2 w2);by_cases hl:i<I.items.length
 .have hd:I.items[i]?=some I.items[i]:=by simp[hl]
  obtain⟨go,yl⟩:=g1 _ hd;refine .inr ⟨go,fun B' H'=>Ext H1 H'/\∃ L S,xw X.K H' L B'/\yb X.K H' S/\W (i+1) L S,fun B' H' q=>⟨_,by omega,rfl,hl,q⟩,λ x H3 hy=>?_⟩;obtain⟨x3,p3,d3⟩:=yl x H3 hy;refine⟨_,L2,S2,d3,q1.ext x3,p3,hg.mo _ L2 S2 _ _ (fun L4 S4 z4 B4 H4 a1 a2 a3=>?_) (ws i _ L2 S2 hd w2)⟩;refine⟨L4,S4,a1,a3,hb.mo _ _ L4 S4 ⟨fun L5 S5 w5 B5 H5 b1 b2 b3=>⟨((x2.trans x3).trans a2).trans b2,L5,S5,b1,b3,w5⟩,λ _ _ q=>vz.ext (((e1.trans x2).trans x3).trans a2) q,λ _ _ q=>vV.ext (((e1.trans x2).trans x3).trans a2) q,fun L5 S5 w5 B5 H5 b1 b2 b3=>⟨((x2.trans x3).trans a2).trans b2,L5,S5,b1,b3,w5⟩⟩ z4⟩
 .have e:i=I.items.length:=by omega
  subst e;exact .inl ⟨g2 (zA4 _),wd L2 S2 w2 B2 H2 q1 (e1.trans x2) q2⟩
abbrev qY:=List D->SS->DK->Prop
def dJ (sp:qY):Prop:=∀ ds S (Q Q':DK),(∀ d S',Q d S'->Q' d S')->sp ds S Q->sp ds S Q'
noncomputable def rn (K:zFr) (sp:qY):Sp:=λ vs H Q _=>∃ ds S,zx K H ds vs/\yb K H S/\sp ds S (vz K H Q)
def eZ (sp:qY) (t:yQ):zI:=fun L S Q=>t L S λ ds S1=>sp ds S1 Q
def SG {sp:qY}{E:XK}{e:Expr}(h:PE X e (bz (rn X.K sp) [] E (vK X.K tA))) (hs:dJ sp) (hm:qb tA):PD X e (eZ sp tA):=by
 refine⟨fun L S Q Q' hq z=>hm L S _ _ (λ ds S1 z=>hs ds S1 _ _ hq z) z,PE.imp h fun B H Q hu=>?_⟩;obtain⟨L,S,r1,r2,z⟩:=hu;refine vK.go hm r1 r2 z λ ds S1 xs H1 h1 q1 e1 p1=>?_;rw[List.append_nil];exact⟨ds,S1,q1,p1,hs ds S1 _ _ (λ d S' q=>vz.ext e1 q) h1⟩
noncomputable def r9 (N:List Str) (ds:List D):y8:=ds.map some++List.replicate (N.length-ds.length) none
def xw.init {H:Hp}{N:List Str}{ds:List D}{vs:List V}(r:zx K H ds vs):xw K H (r9 N ds) (start N vs):=by
 have hl:=r.length;refine⟨by unfold r9 L2.start;simp[hl],λ i d h=>?_⟩;unfold r9 at h;have hi:i<ds.length:=by
  rcases Nat.lt_or_ge i ds.length with q | q
  .exact q
  .rw[List.getElem?_append_right (by simpa using q),List.getElem?_replicate] at h;split at h <;> cases h
 rw[List.getElem?_append_left (by simpa using hi),zA3] at h;cases q:ds[i]? with
 | none=>rw[q] at h;cases h
 | some d'=>
  rw[q] at h;cases h;obtain⟨x,e1,e2⟩:=r.get q;refine⟨x,?_,e2⟩;unfold L2.start;rw[List.getElem?_append_left (by simpa using by omega),zA3,e1];rfl
def PV {P:Program}{w:World}{K:zFr}{mg:Str->Option Value}{base:Heap}{x qual:Str}{st:Stmt}{f:Addr}{fd:FuncData}{N ps:List Str}{k:Nat}{sp:qY}(F:tV K x qual st f fd) (Sc:yr N ps (zN st))
  (len:∀ ds S Q,sp ds S Q->ds.length=ps.length)
  (hbody:∀ (cdv:Value) (A:Around) (outer:List Env) (s:Shared) (H:Hp) (E:XK),y_ k (A.deeper (envOfC qual (zN st) s.heap.objs.size f cdv))->
   ∃ t,t6 (sR ur P w K mg base N qual (zN st) f cdv A outer s H E).qE (uc st) t/\∀ ds S Q,sp ds S Q->t { nx:=λ _ S'=>Q .zp S',rt:=Q } (r9 N ds) S):t8 P w K mg base ur (k+1) f fd ps (rn K sp):=by
 refine F.ok Sc (λ vs H Q E h=>?_) λ cdv A outer s H vs Q E hr h=>?_
 .obtain⟨ds,S,r1,_,z⟩:=h;rw[<- r1.length];exact len _ _ _ z
 .obtain⟨ds,S,r1,r2,z⟩:=h;obtain⟨t,ht,hq⟩:=hbody cdv A outer s H E hr;refine⟨_,ht.ps,r9 N ds,S,.init r1,r2,ht.mo { nx:=λ _ S'=>vz K H Q .zp S',rt:=vz K H Q } _ _ _ ⟨fun L S' q B' H' _ b c=>q .zp H' (by simp only[zo]) b c,λ _ _ q=>q,λ _ _ q=>False.elim q,λ _ _ q=>False.elim q⟩ (hq ds S _ z)⟩
noncomputable def uU (pick:List (Option Nat)) (L:y8):y8:=pick.map λ o=>o.bind λ i=>(L[i]?).join
theorem xw.pick {H:Hp}{L:y8}{B:St}(r:xw K H L B) (pick:List (Option Nat)):xw K H (uU pick L) (uT pick B):=by
 refine⟨by unfold uU uT;simp,λ i d h=>?_⟩;unfold uU at h;rw[zA3] at h;cases q:pick[i]? with
 | none=>rw[q] at h;cases h
 | some o=>
  rw[q] at h;cases o with
  | none=>simp at h
  | some j=>
   simp only[Option.map_some,zC9,Option.some.injEq] at h;have hj:L[j]?=some (some d):=by
    cases q2:L[j]? with
    | none=>rw[q2] at h;cases h
    | some o2=>rw[q2] at h;simp only[Option.join_some] at h;rw[h]
   obtain⟨v,e1,e2⟩:=r.2 j d hj;refine⟨v,?_,e2⟩;unfold uT;rw[zA3,q];simp[e1]
def ou (L L':y8):Prop:=L.length=L'.length/\∀ (i:Nat) d,L[i]?=some (some d)->L'[i]?=some (some d)
def ou.rep {H:Hp}{L L':y8}{B:St}(h:ou L L') (r:xw K H L' B):xw K H L B:=⟨h.1.trans r.1,λ i d q=>r.2 i d (h.2 i d q)⟩
structure iu (X:Cx) (ifs:List Expr) (t:xj):Prop where
 mo:vJ t
 pf:PF X ifs (vq X.K t)
def PF.imp {ifs:List Expr}{t t':TT}(h:PF X ifs t) (hi:∀ B H Q,t' B H Q->t B H Q):PF X ifs t':=λ pins s B H Q I q=>h pins s B H Q I (hi B H Q q)
def Y0:xj:=λ _ S Q=>Q true S
def sg:iu X [] Y0:=⟨λ _ _ _ _ hq z=>hq _ _ z,PF.imp Tz λ _ H _ ⟨_,_,_,r2,z⟩=>z H (.refl H) r2⟩
def qz {c:Expr}{t:xj}(h:w6 X c t):iu X [c] t:=⟨h.mo,Tx h.pt⟩
section
variable {N':List Str}{pick:List (Option Nat)}{scope:Scope}{elt iter:Expr}{ifs:List Expr}{ti:vW}{g:xX}{tc:xj}
end
end
end L3
namespace L2
open PySem PySem.Spec PyProof.Rows
def Pt (K:zFr) (tl:TE):TI:=fun B H R=>tl B H λ x H1=>∃ a,x=.ref a/\(((∃ xs,yg K H1 a xs)/\R (X8 K a) H1)\/((∃ xs,yp K H1 a xs)/\R (X7 K a) H1))
def Tp {X:Cx}{tg l:Expr}{tl:TE}(hl:PE X l tl):PI X tg l (Pt X.K tl):=by
 intro pins s B H R I h;refine zU (hl pins s B H _ I h) λ v s1 ⟨x,H1,I1,r1,a,hx,q1⟩=>?_;subst hx;cases r1;have new:∀ b∈[s1.heap.objs.size],uN X pins H1 b:=λ b hb=>by
  obtain rfl:b=s1.heap.objs.size:=zB6.mp hb;exact I1.eM (zA4 _) (I1.zM.fresh (zA4 _))
 rcases q1 with ⟨⟨xs,hq⟩,q⟩ | ⟨⟨xs,hq⟩,q⟩
 .obtain⟨its,_,pl,_⟩:=I1.list hq;exact wpAny_pyIter_list pl.isList ⟨_,_,_,_,H1,rfl,I1.kept (t':=s1.toks) λ b o eo=>zHp _ eo,Vo a _,⟨_,zA9 _ rfl,rfl,rfl⟩,new,q⟩
 .obtain⟨its,_,pt,_⟩:=I1.tuple hq;exact wpAny_pyIter_tuple (show s1.heap.IsTuple a its.toArray from pt) ⟨_,_,_,_,H1,rfl,I1.kept (t':=s1.toks) λ b o eo=>zHp _ eo,Vm a _,⟨_,zA9 _ rfl,rfl,rfl⟩,new,q⟩
def range_all (bs:List Bool):(List.range bs.length).all (λ i=>bs.getD i true)=bs.all id:=by
 rw[zC7,zE4,zE4];constructor
 .intro h b hb;obtain⟨i,hi,rfl⟩:=List.mem_iff_getElem.mp hb;have:=h i (zC1.mpr hi);simpa [hi] using this
 .intro h i hi;have hi':=zC1.mp hi;have:=h bs[i] (zD8 hi');simpa [hi'] using this
def range_any (bs:List Bool):(List.range bs.length).any (λ i=>bs.getD i true)=bs.any id:=by
 rw[zC7,zD0,zD0];constructor
 .rintro⟨i,hi,h⟩;have hi':=zC1.mp hi;exact⟨bs[i],zD8 hi',by simpa [hi'] using h⟩
 .rintro⟨b,hb,h⟩;obtain⟨i,hi,rfl⟩:=List.mem_iff_getElem.mp hb;exact⟨i,zC1.mpr hi,by simpa [hi] using h⟩
def Xj {bs:List Bool}{its:List Value}(r:Vals (bs.map V.bl) its) {i:Nat}{v:Value}(h:its.toArray[i]?=some v):v=.bool (bs.getD i true):=by
 have hl:=r.length;rw[zA7] at hl;have h':its[i]?=some v:=by simpa using h
 have hi:i<bs.length:=by
  rw[hl];rcases Nat.lt_or_ge i its.length with q | q
  .exact q
  .rw[List.getElem?_eq_none q] at h';cases h'
 obtain⟨u,e1,e2⟩:=r.get (i:=i) (x:=.bl bs[i]) (by simp[hi]);rw[h'] at e1;cases e1;have:v=.bool bs[i]:=e2;rw[this];simp[hi]
section
variable {X:Cx}
def N3 (hc:X.calm=true):xk X (.builtin "all") (λ xs H Q=>∃ p,∃ bs:List Bool,xs=[.ref p]/\yg X.K H p (bs.map V.bl)/\Q (.bl (bs.all id)) H):=by
 intro pins s B H xs us Q I r h;obtain⟨p,bs,rfl,hq,q⟩:=h;obtain⟨u,rfl,ru⟩:=vals1 r;cases ru;obtain⟨its,rv,pl,hz⟩:=I.list hq;have hl:=rv.length;rw[zA7] at hl;have hlt:p<s.heap.objs.size:=by obtain⟨o,n,e,_⟩:=pl;exact zA8 e
 refine call_all_walk (wpAny_pyIter_list pl.isList ?_);refine⟨s.heap.objs.size,_,_,_,_,_,λ i=>bs.getD i true,rfl,Walks.list (A:=X.A.in1) (I.ok.hd hc) s.heap.objs.size p (zB3 hlt) its.toArray,⟨⟨_,zA9 _ rfl,rfl,rfl⟩,pl.isList.push _⟩,λ i v s' Q' E' hv hq'=>?_,λ h' tk hk=>?_⟩
 .rw[Xj rv hv];exact wpAny_truthy_bool hq'
 .have e:(List.range its.toArray.size).all (λ i=>bs.getD i true)=bs.all id:=by rw[zA0,<- hl,range_all]
  rw[e];exact⟨.bl _,H,I.kept (t':=tk) λ b o eo=>hk b o (by simpa using zB3 (zA8 eo)) (zHp _ eo),rfl,q⟩
def N2 (hc:X.calm=true):xk X (.builtin "any") (λ xs H Q=>∃ p,∃ bs:List Bool,xs=[.ref p]/\yg X.K H p (bs.map V.bl)/\Q (.bl (bs.any id)) H):=by
 intro pins s B H xs us Q I r h;obtain⟨p,bs,rfl,hq,q⟩:=h;obtain⟨u,rfl,ru⟩:=vals1 r;cases ru;obtain⟨its,rv,pl,hz⟩:=I.list hq;have hl:=rv.length;rw[zA7] at hl;have hlt:p<s.heap.objs.size:=by obtain⟨o,n,e,_⟩:=pl;exact zA8 e
 refine call_any_walk (wpAny_pyIter_list pl.isList ?_);refine⟨s.heap.objs.size,_,_,_,_,_,λ i=>bs.getD i true,rfl,Walks.list (A:=X.A.in1) (I.ok.hd hc) s.heap.objs.size p (zB3 hlt) its.toArray,⟨⟨_,zA9 _ rfl,rfl,rfl⟩,pl.isList.push _⟩,λ i v s' Q' E' hv hq'=>?_,λ h' tk hk=>?_⟩
 .rw[Xj rv hv];exact wpAny_truthy_bool hq'
 .have e:(List.range its.toArray.size).any (λ i=>bs.getD i true)=bs.any id:=by rw[zA0,<- hl,range_any]
  rw[e];exact⟨.bl _,H,I.kept (t':=tk) λ b o eo=>hk b o (by simpa using zB3 (zA8 eo)) (zHp _ eo),rfl,q⟩
end
end L2
namespace L3
open PySem PySem.Spec L2
open PyProof.Rows hiding St
structure Bt (mg:Str->Option Value):Prop where
 len:mg "len"=none
 range:mg "range"=none
 any:mg "any"=none
 all:mg "all"=none
 sorted:mg "sorted"=none
 isinstance:mg "isinstance"=none
 bool:mg "bool"=none
 int:mg "int"=none
 str:mg "str"=none
 list:mg "list"=none
 tuple:mg "tuple"=none
 max:mg "max"=none
 min:mg "min"=none
section
variable {X:Cx}{K:zFr}{a b c e:Expr}{es:List Expr}{ta tb tc te:zI}{tA:yQ}{pos p:Pos}
def vn {N':List Str}{pick:List (Option Nat)}{scope esc:Scope}{N:List Str}(hE:X.env.scope=esc:=by rfl) (hN:X.N=N:=by rfl) (h1:scope.kind=.function:=by rfl) (h2:scope.names.all (λ y=>decide (y.2≠.cell))=true:=by decide +kernel)
  (h3:scope.names.all (λ y=>!decide (y.2=.local)||decide (scope.names.lookup y.1=some .local))=true:=by decide +kernel)
  (h4:scope.names.all (λ y=>!decide (y.2=.free)||(decide (esc.names.lookup y.1=some .cell)||decide (esc.names.lookup y.1=some .free)))=true:=by decide +kernel)
  (h5:pick.length=N'.length:=by rfl) (h6:oS N N' pick scope=true:=by decide +kernel):o9 X N' pick scope:=by
 refine⟨h1,λ y hy=>?_,λ y hy hl=>?_,λ y hy hf=>?_,h5,by rw[hN];exact h6⟩
 .exact of_decide_eq_true (zE4.mp h2 y hy)
 .have:=zE4.mp h3 y hy;rw[decide_eq_true hl] at this;simpa using this
 .have:=zE4.mp h4 y hy;rw[decide_eq_true hf] at this;rw[hE];simpa using this
def yt (i:Nat) {x:Str}(hN:X.N.Nodup) (hi:X.N[i]?=some x:=by rfl) (hx:Loc X.env.scope x:=by first | exact Or.inl rfl | exact Or.inr rfl) (hf:X.fn x=true\/X.env.scope.names.lookup x=some .local:=by first | exact .inl rfl | exact .inr rfl):qa X (.Name x pos) (hName i):=
 Sq (Tw hN hi hx hf)
def oW {k:Nat}{t:vH}{n:Nat}(h:ir X es t) (hc:X.calm=true:=by rfl) (hn:(assignEach es X.env).length=n:=by rfl) (hst:(assignEach es X.env).findIdx? (·.1)=none:=by rfl):qa X (.Tuple es k pos) (j5 n t):=
 So (Tu hc h.pg hn hst) h.mo
def zP (i:Nat) {x:Str}{pos':Pos}(hN:X.N.Nodup) (he:PD X e te) (hi:X.N[i]?=some x:=by rfl) (hx:Loc X.env.scope x:=by first | exact Or.inl rfl | exact Or.inr rfl) (hs:swapsWith e (some (.Name x pos')) pos.line X.env=pure false:=by rfl)
  (hf:X.fn x=true\/X.env.scope.names.lookup x=some .local:=by first | exact .inl rfl | exact .inr rfl):uk X (.Assign [.Name x pos'] e pos) (ue te (hName i)):=
 Sg (UW hN hi hx he.pe hs hf) he.mo
def f_ (te:zI):vW:=fun L S R=>te L S λ x S1=>match x with
 | .tup ds=>R ⟨ds,λ _=>True⟩ S1
 | .xm ds=>R ⟨ds,λ _=>True⟩ S1
 | .ref p=>match S1 p with
  | some (.lst ds)=>R ⟨ds,λ S=>S p=some (.lst ds)⟩ S1
  | _=>False
 | _=>False
def xU {tg:Expr}(h:PD X e te):oz X tg e (f_ te):=by
 refine⟨fun L S Q Q' hq z=>h.mo L S _ _ (λ x S1 z=>?_) z,?_⟩
 .cases x with
  | ref p=>
   dsimp only at z ⊢;split at z
   .exact hq _ _ z
   .exact z.elim
  | xm ds=>exact hq _ _ z
  | tup ds=>exact hq _ _ z
  | _=>exact z
 .refine PI.imp (Tp h.pe) fun B H R hu=>?_
  obtain⟨L,S,r1,r2,z⟩:=hu;refine yd.go h.mo r1 r2 z λ x S1 v H1 h1 q1 e1 p1=>?_;cases x with
  | tup ds=>
   simp only[zo] at q1;obtain⟨a,xs,rfl,g1,g2⟩:=q1;refine⟨a,rfl,.inr ⟨⟨xs,g1⟩,h1 _ H1 e1 p1 λ i H2 S2 x1 x2 _=>⟨λ d hd=>?_,λ hl=>⟨xs,x1.kE g1,by rw[<- g2.length];exact hl⟩⟩⟩⟩;obtain⟨y,hy,_⟩:=g2.get hd;refine⟨⟨xs,y,x1.kE g1,hy⟩,λ x H' q=>?_⟩;obtain⟨rfl,q⟩:=q;exact⟨.refl _,x2,(zx.ext x1 ds g2).at hd (q xs (x1.kE g1))⟩
  | ref p=>
   dsimp only at h1;split at h1
   .rename_i ds e2;simp only[zo] at q1;subst q1;obtain⟨xs0,g1,_⟩:=p1 _ _ e2;refine⟨p,rfl,.inl ⟨⟨xs0,yg.of g1⟩,h1 _ H1 e1 p1 λ i H2 S2 x1 x2 hk=>?_⟩⟩;obtain⟨xs,g3,g4⟩:=x2 _ _ hk;refine⟨λ d hd=>?_,λ hl=>⟨xs,yg.of g3,by rw[<- g4.length];exact hl⟩⟩;obtain⟨y,hy,_⟩:=g4.get hd;refine⟨⟨xs,y,yg.of g3,hy⟩,λ x H' q=>?_⟩;obtain⟨rfl,q⟩:=q;exact⟨.refl _,x2,g4.at hd (q xs (yg.of g3))⟩
   .exact h1.elim
  | xm ds=>
   simp only[zo] at q1;obtain⟨a,xs,rfl,g1,g2⟩:=q1;refine⟨a,rfl,.inl ⟨⟨xs,g1.sq⟩,h1 _ H1 e1 p1 λ i H2 S2 x1 x2 _=>⟨λ d hd=>?_,λ hl=>⟨xs,(x1.kF g1).sq,by rw[<- g2.length];exact hl⟩⟩⟩⟩;obtain⟨y,hy,_⟩:=g2.get hd;refine⟨⟨xs,y,(x1.kF g1).sq,hy⟩,λ x H' q=>?_⟩;obtain⟨rfl,q⟩:=q;exact⟨.refl _,x2,(zx.ext x1 ds g2).at hd (q xs (x1.kF g1).sq)⟩
  | zp=>exact h1.elim
  | bl _=>exact h1.elim
  | int _=>exact h1.elim
  | str _=>exact h1.elim
end
end L3
namespace L4
open PySem PySem.W PyProof.Rows
noncomputable def yX {α:Type}(n:Nat) (lt:Nat->Nat->Bool):KasT α->(α->Prop)->Prop
 | .ret a,Q=>Q a
 | .ask i j k,Q=>i<n/\j<n/\yX n lt (k (lt i j)) Q
theorem yX.mono {α:Type}{n:Nat}{lt:Nat->Nat->Bool}{Q Q':α->Prop}(hq:∀ a,Q a->Q' a):∀ {t:KasT α},yX n lt t Q->yX n lt t Q'
 | .ret _,h=>hq _ h
 | .ask _ _ _,h=>⟨h.1,h.2.1,yX.mono hq h.2.2⟩
theorem yX.bind {α β:Type}{n:Nat}{lt:Nat->Nat->Bool}{f:α->KasT β}{Q:β->Prop}:∀ {t:KasT α},yX n lt t (λ a=>yX n lt (f a) Q)->yX n lt (t.bind f) Q
 | .ret _,h=>h
 | .ask _ _ _,h=>⟨h.1,h.2.1,yX.bind h.2.2⟩
section
variable {n:Nat}{lt:Nat->Nat->Bool}
def Le (lt:Nat->Nat->Bool) (a b:Nat):Prop:=lt b a=false
structure Ord (lt:Nat->Nat->Bool):Prop where
 tr:∀ a b c,Le lt a b->Le lt b c->Le lt a c
 as:∀ a b,lt a b=true->Le lt a b
def Ord.refl (o:Ord lt) (a:Nat):Le lt a a:=by
 cases h:lt a a with
 | false=>exact h
 | true=>exact o.as a a h
def wg (n:Nat) (p:Array Nat):Prop:=p.Perm (List.range n).toArray
theorem wg.size {p:Array Nat}(h:wg n p):p.size=n:=by rw[Array.Perm.size_eq h];simp
def wg.below {p:Array Nat}(h:wg n p) {i:Nat}(hi:i<n):p.getD i 0<n:=by
 have hs:=h.size;have hm:p.getD i 0∈p:=by
  rw[Array.getD_eq_getD_getElem?,zB8 (by omega)];exact Array.getElem_mem (by omega)
 have:p.getD i 0∈(List.range n).toArray:=(Array.Perm.mem_iff h).mp hm;simpa using this
def lq {p q:Array Nat}{i j:Nat}(h:p[i]?=q[j]?):p.getD i 0=q.getD j 0:=by rw[Array.getD_eq_getD_getElem?,Array.getD_eq_getD_getElem?,h]
def uj (lt:Nat->Nat->Bool) (p:Array Nat) (k:Nat):Prop:=∀ i j,i<=j->j<k->Le lt (p.getD i 0) (p.getD j 0)
def rh (lt:Nat->Nat->Bool) (p:Array Nat) (k:Nat):Prop:=∀ i j,i<=j->j<k->Le lt (p.getD j 0) (p.getD i 0)
def uj.next (o:Ord lt) {p:Array Nat}{k:Nat}(h:uj lt p k) (hk:1<=k) (hl:Le lt (p.getD (k-1) 0) (p.getD k 0)):uj lt p (k+1):=λ i j hij hj=>by
 by_cases hjk:j<k
 .exact h i j hij hjk
 .have e:j=k:=by omega
  subst e;by_cases hi:i=j
  .subst hi;exact o.refl _
  .exact o.tr _ _ _ (h i (j-1) (by omega) (by omega)) hl
def rh.next (o:Ord lt) {p:Array Nat}{k:Nat}(h:rh lt p k) (hk:1<=k) (hl:Le lt (p.getD k 0) (p.getD (k-1) 0)):rh lt p (k+1):=λ i j hij hj=>by
 by_cases hjk:j<k
 .exact h i j hij hjk
 .have e:j=k:=by omega
  subst e;by_cases hi:i=j
  .subst hi;exact o.refl _
  .exact o.tr _ _ _ hl (h i (j-1) (by omega) (by omega))
theorem dA (o:Ord lt) {p:Array Nat}(hp:wg n p):∀ (f a:Nat),1<=a->a+f<=n->uj lt p a->
  yX n lt (kas_asc p f a) λ m=>a<=m/\m<=a+f/\uj lt p m/\(m=a+f\/lt (p.getD m 0) (p.getD (m-1) 0)=true)
 | 0,a,_,_,hs=>⟨zA4 _,zA4 _,hs,.inl rfl⟩
 | f+1,a,h1,h2,hs=>by
  refine⟨hp.below (by omega),hp.below (by omega),?_⟩;cases c:lt (p.getD a 0) (p.getD (a-1) 0) with
  | true=>exact⟨zA4 _,by omega,hs,.inr c⟩
  | false=>
   refine yX.mono ?_ (dA o hp f (a+1) (by omega) (by omega) (hs.next o h1 c));rintro m ⟨g1,g2,g3,g4⟩;exact⟨by omega,by omega,g3,g4.imp (λ e=>by omega) id⟩
def mB {p:Array Nat}(hp:wg n p) (i j:Nat):wg n (kas_rev p i j):=Array.Perm.trans (mirror_perm _ _ _ _) hp
def mC {p:Array Nat}(hp:wg n p) {i j:Nat}(hj:j<=n) (k:Nat):(kas_rev p i j).getD k 0=if i<=k/\k<j then p.getD (i+j-1-k) 0 else p.getD k 0:=by
 have e:=getElem?_mirror_all (xs:=p) (i:=i) (j:=j) (by rw[hp.size];exact hj) k;split
 .rename_i h;rw[if_pos h] at e;exact lq e
 .rename_i h;rw[if_neg h] at e;exact lq e
def rev_eq (o:Ord lt) {p:Array Nat}(hp:wg n p) {i j:Nat}(hj:j<=n) (he:∀ a b,i<=a->a<j->i<=b->b<j->Le lt (p.getD a 0) (p.getD b 0)) (k:Nat):
  Le lt ((kas_rev p i j).getD k 0) (p.getD k 0)/\Le lt (p.getD k 0) ((kas_rev p i j).getD k 0):=by
 rw[mC hp hj];split
 .rename_i h;exact⟨he _ _ (by omega) (by omega) h.1 h.2,he _ _ h.1 h.2 (by omega) (by omega)⟩
 .exact⟨o.refl _,o.refl _⟩
def rh.of_eq (o:Ord lt) {p q:Array Nat}{k:Nat}(h:rh lt p k) (e:∀ k,Le lt (q.getD k 0) (p.getD k 0)/\Le lt (p.getD k 0) (q.getD k 0)):rh lt q k:=λ i j hij hj=>
 o.tr _ _ _ (e j).1 (o.tr _ _ _ (h i j hij hj) (e i).2)
def cL (lt:Nat->Nat->Bool) (p:Array Nat) (m q:Nat):Prop:=∀ a b,m-(q+1)<=a->a<m->m-(q+1)<=b->b<m->Le lt (p.getD a 0) (p.getD b 0)
theorem jF (o:Ord lt):∀ (f:Nat) (p:Array Nat) (m q:Nat),wg n p->1<=m->m+f<=n->rh lt p m->q+1<=m->cL lt p m q->
  yX n lt (kas_desc f p m q) λ r=>wg n r.1/\m<=r.2.1/\r.2.1<=m+f/\rh lt r.1 r.2.1/\r.2.2+1<=r.2.1/\cL lt r.1 r.2.1 r.2.2
 | 0,p,m,q,hp,_,_,hd,hq,hb=>⟨hp,zA4 _,zA4 _,hd,hq,hb⟩
 | f+1,p,m,q,hp,h1,h2,hd,hq,hb=>by
  have one:∀ p':Array Nat,cL lt p' (m+1) 0:=λ p' a b a1 a2 b1 b2=>by
   have:a=b:=by omega
   subst this;exact o.refl _
  refine⟨hp.below (by omega),hp.below (by omega),?_⟩;cases c:lt (p.getD m 0) (p.getD (m-1) 0) with
  | true=>
   dsimp only;rw[if_pos rfl];have hl:=o.as _ _ c;by_cases h0:q>0
   .rw[if_pos h0];have e:=rev_eq o hp (i:=m-(q+1)) (j:=m) (by omega) hb;have hp':=mB hp (m-(q+1)) m;refine yX.mono ?_ (jF o f _ (m+1) 0 hp' (by omega) (by omega) ((hd.of_eq o e).next o h1 (o.tr _ _ _ (e m).1 (o.tr _ _ _ hl (e (m-1)).2))) (by omega) (one _));rintro r ⟨a1,a2,a3,a4⟩;exact⟨a1,by omega,by omega,a4⟩
   .rw[if_neg h0];refine yX.mono ?_ (jF o f _ (m+1) 0 hp (by omega) (by omega) (hd.next o h1 hl) (by omega) (one _));rintro r ⟨a1,a2,a3,a4⟩;exact⟨a1,by omega,by omega,a4⟩
  | false=>
   dsimp only;rw[if_neg Bool.false_ne_true];refine⟨hp.below (by omega),hp.below (by omega),?_⟩;cases d:lt (p.getD (m-1) 0) (p.getD m 0) with
   | true=>exact⟨hp,zA4 _,(by show m<=m+(f+1);omega),hd,hq,hb⟩
   | false=>
    dsimp only;rw[if_neg Bool.false_ne_true];refine yX.mono ?_ (jF o f _ (m+1) (q+1) hp (by omega) (by omega) (hd.next o h1 d) (by omega) λ a b a1 a2 b1 b2=>?_)
    .rintro r ⟨a1,a2,a3,a4⟩;exact⟨a1,by omega,by omega,a4⟩
    .by_cases ha:a=m
     .by_cases hb':b=m
      .subst ha;subst hb';exact o.refl _
      .subst ha;exact o.tr _ _ _ d (hb (a-1) b (by omega) (by omega) (by omega) (by omega))
     .by_cases hb':b=m
      .subst hb';exact o.tr _ _ _ (hb a (b-1) (by omega) (by omega) (by omega) (by omega)) c
      .exact hb a b (by omega) (by omega) (by omega) (by omega)
def bw (o:Ord lt) {p:Array Nat}{m:Nat}(hp:wg n p) (h1:1<=m) (h2:m<=n) (hd:rh lt p m):yX n lt (kas_tail3 m n p) λ r=>wg n r.2/\r.1<=n/\uj lt r.2 r.1:=by
 refine yX.bind (yX.mono ?_ (dA o (mB hp 0 m) (n-m) m h1 (by omega) λ i j hij hj=>?_))
 .rintro k ⟨a1,a2,a3,_⟩;exact⟨mB hp 0 m,by omega,a3⟩
 .rw[mC hp h2,mC hp h2,if_pos ⟨zD4 _,by omega⟩,if_pos ⟨zD4 _,hj⟩];exact hd _ _ (by omega) (by omega)
def Y6 (o:Ord lt) {p:Array Nat}{m:Nat}(hp:wg n p) (h1:1<=m) (h2:m<n) (hd:rh lt p m) (hl:lt (p.getD m 0) (p.getD (m-1) 0)=true):yX n lt (kas_descPart m n p) λ r=>wg n r.2/\r.1<=n/\uj lt r.2 r.1:=by
 refine yX.bind (yX.mono ?_ (jF o (n-(m+1)) p (m+1) 0 hp (by omega) (by omega) (hd.next o h1 (o.as _ _ hl)) (by omega) λ a b a1 a2 b1 b2=>?_))
 .rintro⟨p',m',q'⟩ ⟨a1,a2,a3,a4,a5,a6⟩;dsimp only at a1 a2 a3 a4 a5 a6 ⊢;by_cases h0:q'>0
  .rw[if_pos h0];exact bw o (mB a1 _ _) (by omega) (by omega) (a4.of_eq o (rev_eq o a1 (i:=m'-(q' + 1)) (j:=m') (by omega) a6))
  .rw[if_neg h0];exact bw o a1 (by omega) (by omega) a4
 .have:a=b:=by omega
  subst this;exact o.refl _
def OT (o:Ord lt) {p:Array Nat}(hp:wg n p) (h1:1<=n):yX n lt (kas_count n p) λ r=>wg n r.2/\r.1<=n/\uj lt r.2 r.1:=by
 refine yX.bind (yX.mono ?_ (dA o hp (n-1) 1 (zA4 _) (by omega) λ i j hij hj=>?_))
 .rintro m ⟨a1,a2,a3,a4⟩;by_cases hm:m=n
  .rw[if_pos (by simp[hm])];exact⟨hp,by omega,a3⟩
  .rw[if_neg (by simp[hm])];have hl:lt (p.getD m 0) (p.getD (m-1) 0)=true:=a4.resolve_left (by omega);by_cases h2:m>1
   .rw[if_pos h2];refine⟨hp.below (by omega),hp.below (by omega),?_⟩;cases c:lt (p.getD 0 0) (p.getD (m-1) 0) with
    | true=>exact⟨hp,by omega,a3⟩
    | false=>
     dsimp only;rw[if_neg Bool.false_ne_true];have all:∀ a b,0<=a->a<m->0<=b->b<m->Le lt (p.getD a 0) (p.getD b 0):=λ a b _ ha _ hb=>
      o.tr _ _ _ (a3 a (m-1) (by omega) (by omega)) (o.tr _ _ _ c (a3 0 b (by omega) hb))
     have e:=rev_eq o hp (i:=0) (j:=m) (by omega) all;refine Y6 o (mB hp 0 m) (by omega) (by omega) (λ i j hij hj=>o.tr _ _ _ (e j).1 (o.tr _ _ _ (all _ _ (zD4 _) hj (zD4 _) (by omega)) (e i).2)) ?_;rw[mC hp (by omega),mC hp (by omega),if_neg (by omega),if_pos (by omega)];cases q:lt (p.getD m 0) (p.getD (0+m-1-(m-1)) 0) with
     | true=>rfl
     | false=>
      have:=o.tr _ _ _ (all (m-1) (0+m-1-(m-1)) (zD4 _) (by omega) (zD4 _) (by omega)) q;unfold Le at this;rw[this] at hl;cases hl
   .rw[if_neg h2];have e:m=1:=by omega
    subst e;refine Y6 o hp (zA4 _) (by omega) (λ i j hij hj=>?_) hl;have:i=j:=by omega
    subst this;exact o.refl _
 .have:i=j:=by omega
  subst this;exact o.refl _
theorem fg {p:Array Nat}{k:Nat}(hp:wg n p) (hk:k<n) (hs:uj lt p k) (o:Ord lt):∀ (f l r:Nat),r-l<=f->l<=r->r<=k->(∀ i,i<l->Le lt (p.getD i 0) (p.getD k 0))->(∀ i,r<=i->i<k->lt (p.getD k 0) (p.getD i 0)=true)->
  yX n lt (kas_place p k f l r) λ m=>m<=k/\(∀ i,i<m->Le lt (p.getD i 0) (p.getD k 0))/\(∀ i,m<=i->i<k->lt (p.getD k 0) (p.getD i 0)=true)
 | 0,l,r,h0,h1,h2,ha,hb=>by
  have:l=r:=by omega
  subst this;exact⟨h2,ha,hb⟩
 | f+1,l,r,h0,h1,h2,ha,hb=>by
  unfold kas_place;by_cases hlr:l≥r
  .rw[if_pos hlr];have:l=r:=by omega
   subst this;exact⟨h2,ha,hb⟩
  .rw[if_neg hlr];refine⟨hp.below hk,hp.below (by omega),?_⟩;cases c:lt (p.getD k 0) (p.getD ((l+r)/2) 0) with
   | true=>
    dsimp only;rw[if_pos rfl];refine fg hp hk hs o f l ((l+r)/2) (by omega) (by omega) (by omega) ha λ i hi hik=>?_;cases q:lt (p.getD k 0) (p.getD i 0) with
    | true=>rfl
    | false=>
     have:=o.tr _ _ _ (hs ((l+r)/2) i hi hik) q;unfold Le at this;rw[this] at c;cases c
   | false=>
    dsimp only;rw[if_neg Bool.false_ne_true];refine fg hp hk hs o f ((l+r)/2+1) r (by omega) (by omega) h2 (λ i hi=>?_) hb;exact o.tr _ _ _ (hs i ((l+r)/2) (by omega) (by omega)) c
theorem Xr (o:Ord lt):∀ (f:Nat) (p:Array Nat) (k:Nat),wg n p->k+f=n->uj lt p k->yX n lt (kas_bin f p k) λ r=>wg n r/\uj lt r n
 | 0,p,k,hp,h1,hs=>by
  have:k=n:=by omega
  subst this;exact⟨hp,hs⟩
 | f+1,p,k,hp,h1,hs=>by
  refine yX.bind (yX.mono ?_ (fg hp (by omega) hs o k 0 k (by omega) (zD4 _) (zA4 _) (λ i hi=>absurd hi (Nat.not_lt_zero _)) λ i hi hik=>absurd hik (by omega)));rintro l ⟨a1,a2,a3⟩;refine Xr o f _ (k+1) (Array.Perm.trans (bubble_perm _ _ _) hp) (by omega) λ i j hij hj=>?_;have ev:∀ x,(bubble p k (k-l)).getD x 0=if x=l then p.getD k 0 else if l<x/\x<=k then p.getD (x-1) 0 else p.getD x 0:=λ x=>by
   have e:=getElem?_bubble (xs:=p) (src:=k) (by rw[hp.size];omega) (k-l) (by omega) x;rw[show k-(k-l)=l by omega] at e;split
   .rename_i h;rw[if_pos h] at e;exact lq e
   .rename_i h;rw[if_neg h] at e;split
    .rename_i h';rw[if_pos h'] at e;exact lq e
    .rename_i h';rw[if_neg h'] at e;exact lq e
  rw[ev i,ev j];by_cases hi:i=l
  .rw[if_pos hi];by_cases hj':j=l
   .rw[if_pos hj'];exact o.refl _
   .rw[if_neg hj',if_pos ⟨by omega,by omega⟩];exact o.as _ _ (a3 (j-1) (by omega) (by omega))
  .rw[if_neg hi];by_cases hj':j=l
   .rw[if_pos hj',if_neg (by omega)];exact a2 i (by omega)
   .rw[if_neg hj'];by_cases hi2:l<i/\i<=k
    .rw[if_pos hi2,if_pos ⟨by omega,by omega⟩];exact hs _ _ (by omega) (by omega)
    .rw[if_neg hi2];by_cases hj2:l<j/\j<=k
     .rw[if_pos hj2];exact hs _ _ (by omega) (by omega)
     .rw[if_neg hj2];exact hs _ _ hij (by omega)
def VT (o:Ord lt) (h1:1<=n):yX n lt (kas_sort n) λ r=>wg n r/\uj lt r n:=by
 have hp:wg n (List.range n).toArray:=Array.Perm.refl _;refine yX.bind (yX.mono ?_ (OT o hp h1));rintro⟨m,p⟩ ⟨a1,a2,a3⟩;dsimp only at a1 a2 a3 ⊢;by_cases hm:m<n
 .rw[if_pos hm];refine Xr o _ p (max m 1) a1 (by omega) ?_;by_cases h0:m=0
  .subst h0;intro i j hij hj;have:i=j:=by omega
   subst this;exact o.refl _
  .rw[show max m 1=m by omega];exact a3
 .rw[if_neg hm];have:m=n:=by omega
  subst this;exact⟨a1,a3⟩
end
end L4
namespace L4
open PySem PySem.W PySem.Calls PyProof.Rows
section
variable {prog:Program}{w:World}{A:Around}{E:Value->Shared->Prop}{s:Shared}
def Core (prog:Program) (w:World) (A:Around) (E:Value->Shared->Prop) (vs:List Value) (Out:Array Value->Prop) (s6:Shared):Prop:=
 wpAny (model prog w) A (keyKind' vs.toArray) (fun κ s'=>s'=s6/\wpAny (model prog w) A ((sortRuns').run (SortSt.mk' κ (vs.toArray.zip vs.toArray) #[] 7 none))
  (λ r s''=>s''=s6/\failedOf r.2=none/\Out ((arrOf r.2).map (·.2))/\(arrOf r.2).size=vs.length) E s') E s6
def fT {a:Addr}{vs:List Value}{n:Nat}{P:PySem.Fin->Shared->Prop}{Out:Array Value->Prop}(ho:s.heap.get? a=some (seqObj "list" vs.toArray n)) (hz:vs.length<=sizeLine)
  (core:2<=vs.length->∀ s6:Shared,(∀ b o,b≠a->s.heap.get? b=some o->s6.heap.get? b=some o)->Core prog w A E vs Out s6) (short:vs.length<2->Out vs.toArray)
  (fin:∀ out:Array Value,Out out->out.size=vs.length->P (.done (.ret .none)) { s with heap:=sortedHeap s.heap a vs out }):
  wpAny (model prog w) A (Builtin.«list.sort» ⟨[.ref a],[]⟩) P E s:=by
 have ha:a<s.heap.objs.size:=zA8 ho;obtain⟨e1,g1⟩:∃ e1,(s.heap.update a (Obj.mapSeq λ _=>#[])).get? a=some (seqObj "list" #[] e1):=⟨_,get?_update_seq ho (λ _=>#[])⟩
 have hz':vs.toArray.size<=sizeLine:=by rw[zA0];exact hz
 have g6:(((s.heap.update a (Obj.mapSeq λ _=>#[])).push (seqObj "tuple" vs.toArray 0)).push (seqObj "list" #[] 0)).get? a=some (seqObj "list" #[] e1):=zHp _ (zHp _ g1);have keep:∀ b o,b≠a->s.heap.get? b=some o->(((s.heap.update a (Obj.mapSeq λ _=>#[])).push (seqObj "tuple" vs.toArray 0)).push (seqObj "list" #[] 0)).get? b=some o:=
  λ b o hb e=>zHp _ (zHp _ (by rw[Heap.get?_update_ne _ _ _ _ hb];exact e))
 rw[list_sort_plain];refine zWb (listItems_at ho rfl (zWb (listUpdate_at ho rfl (zWb (seqEpoch_at g1 rfl (zWb (wpAny_newTuple (zWb (wpAny_newList (wpAny_holding ?_))) (by simpa using hz))))) hz' (zD4 _))));by_cases h2:vs.toArray.size<2
 .rw[if_pos h2,if_pos h2];have e2:(arrOf (SortSt.mk' general' (vs.toArray.zip vs.toArray) #[] 7 none)).map (·.2)=vs.toArray:=by
   show (vs.toArray.zip vs.toArray).map (·.2)=vs.toArray;apply Array.ext (by simp);intro i h1 h2;simp
  refine zWb (zD1 ?_);dsimp only;rw[StateT.run_pure];refine zWb (zD1 ?_);dsimp only;refine zWb (seqEpoch_at g6 rfl (zWb (listUpdate_at g6 rfl ?_ (zD4 _) ?_)))
  .simp only[bne_self_eq_false,zC4,if_false];have q:=fin _ (e2▸short (by simpa using h2)) (by rw[e2];simp);exact zD1 q
  .show (((arrOf (SortSt.mk' general' (vs.toArray.zip vs.toArray) #[] 7 none)).map (·.2))).size<=sizeLine+1;rw[e2];omega
 .rw[if_neg h2,if_neg h2];have h2':2<=vs.length:=by simpa using h2
  refine zWb (wpAny_mono (core h2' _ keep) (fun κ s7 ⟨hs,h7⟩=>?_) λ _ _ z=>z);subst hs;refine zWb (wpAny_mono h7 (λ r s8 ⟨hs,hf,hout,hsz⟩=>?_) λ _ _ z=>z);subst hs;obtain⟨⟨⟩,st⟩:=r;refine zWb (seqEpoch_at g6 rfl (zWb (listUpdate_at g6 rfl ?_ (zD4 _) ?_)))
  .have hf':failedOf st=none:=hf;rw[hf'];simp only[bne_self_eq_false,zC4,if_false];exact zD1 (fin _ hout (by rw[Array.size_map];exact hsz))
  .show ((arrOf st).map (·.2)).size<=sizeLine+1;rw[Array.size_map];have:(arrOf st).size=vs.length:=hsz;omega
def VS {l:Addr}{vs:List Value}{Q:Value->Shared->Prop}{Out:Array Value->Prop}(hl:s.heap.IsList l vs.toArray) (hz:vs.length<=sizeLine)
  (core:2<=vs.length->∀ s6:Shared,(∀ b o,s.heap.get? b=some o->s6.heap.get? b=some o)->Core prog w A.in1.in1 E vs Out s6) (short:vs.length<2->Out vs.toArray)
  (fin:∀ out:Array Value,Out out->out.size=vs.length->Q (.ref (s.heap.objs.size+1)) { s with heap:=sortedAll s.heap vs out }):
  wpAny (model prog w) A (call (.builtin "sorted") [.ref l]) Q E s:=by
 have hsz:((s.heap.push (seqObj "list" #[] 0)).update s.heap.objs.size (Obj.mapSeq (·++vs.toArray))).objs.size=s.heap.objs.size+1:=by
  rw[Heap.size_update,size_push']
 have hoL:(((s.heap.push (seqObj "list" #[] 0)).update s.heap.objs.size (Obj.mapSeq (·++vs.toArray))).push (seqObj "list" vs.toArray 0)).get? (s.heap.objs.size+1)=some (seqObj "list" vs.toArray 0):=hsz▸zA9 _ rfl;have keep:∀ b o,s.heap.get? b=some o->(((s.heap.push (seqObj "list" #[] 0)).update s.heap.objs.size (Obj.mapSeq (·++vs.toArray))).push (seqObj "list" vs.toArray 0)).get? b=some o:=λ b o q=>
  zHp _ (by rw[Heap.get?_update_ne _ _ _ _ (zB3 (zA8 q))];exact zHp _ q)
 refine Calls.call_function_entry kind_sorted plain_sorted entry_sorted (args_sorted1 _) ?_;unfold Builtin.«sorted»;refine zWb (m:=checkCount "sorted" 1 1 _) (zD1 (zWb (collect_list hl (zWb (wpAny_newList ?_ hz)) hz)));show wpAny _ _ _ _ _ { s with heap:=((s.heap.push (seqObj "list" #[] 0)).update s.heap.objs.size (Obj.mapSeq (·++vs.toArray))).push (seqObj "list" vs.toArray 0) };rw[hsz];refine zWb (wpAny_holding (wpAny_call_entry slot_list_sort ⟨_,hoL,rfl⟩ entry_list_sort (fT hoL hz (λ h2 s6 k=>core h2 s6 λ b o q=>k b o ?_ (keep b o q)) short λ out h1 h2=>⟨_,rfl,?_⟩) (args_list_sort _)))
 .exact zB3 (Nat.lt_succ_of_lt (zA8 q))
 .exact zD1 ⟨_,rfl,fin out h1 h2⟩
end
end L4
namespace L4
open PySem PySem.W PySem.Calls PyProof.Rows L2
theorem fW:∀ a b:List Int,HT.lexLt a b=true->HT.lexLt b a=false
 | [],[],h=>by cases h
 | [],_::_,_=>rfl
 | _::_,[],h=>by cases h
 | x::a,y::b,h=>by
  rw[HT.qH] at h ⊢;by_cases e:x=y
  .subst e;rw[if_pos rfl] at h ⊢;exact fW a b h
  .rw[if_neg e] at h;rw[if_neg (Ne.symm e)];have:=of_decide_eq_true h;exact decide_eq_false (by omega)
theorem Zy:∀ a b:List Int,HT.lexLt a b=false->HT.lexLt b a=false->a=b
 | [],[],_,_=>rfl
 | [],_::_,h,_=>by cases h
 | _::_,[],_,h=>by cases h
 | x::a,y::b,h,h'=>by
  rw[HT.qH] at h h';by_cases e:x=y
  .subst e;rw[if_pos rfl] at h h';rw[Zy a b h h']
  .rw[if_neg e] at h;rw[if_neg (Ne.symm e)] at h';have h1:=of_decide_eq_false h;have h2:=of_decide_eq_false h';omega
theorem fV:∀ a b c:List Int,HT.lexLt b a=false->HT.lexLt c b=false->HT.lexLt c a=false
 | [],[],[],_,_=>rfl
 | [],[],_::_,_,h=>h
 | [],_::_,[],_,h=>by cases h
 | [],_::_,_::_,_,_=>rfl
 | _::_,[],_,h,_=>by cases h
 | _::_,_::_,[],_,h=>by cases h
 | x::a,y::b,z::c,h,h'=>by
  rw[HT.qH] at h h' ⊢;by_cases e1:y=x
  .subst e1;rw[if_pos rfl] at h;by_cases e2:z=y
   .subst e2;rw[if_pos rfl] at h' ⊢;exact fV a b c h h'
   .rw[if_neg e2] at h' ⊢;exact h'
  .rw[if_neg e1] at h;have h1:=of_decide_eq_false h;by_cases e2:z=y
   .subst e2;rw[if_neg e1];exact h
   .rw[if_neg e2] at h';have h2:=of_decide_eq_false h';rw[if_neg (by omega)];exact decide_eq_false (by omega)
theorem fk {α:Type}{r:α->α->Prop}(an:∀ a b,r a b->r b a->a=b):∀ {l₁ l₂:List α},l₁.Perm l₂->l₁.Pairwise r->l₂.Pairwise r->l₁=l₂
 | [],l₂,h,_,_=>(List.nil_perm.mp h).symm
 | a::l₁,[],h,_,_=>absurd (List.perm_nil.mp h) (by simp)
 | a::l₁,b::l₂,h,h1,h2=>by
  have hab:a=b:=by
   have ha:a∈b::l₂:=h.mem_iff.mp zMc;have hb:b∈a::l₁:=h.mem_iff.mpr zMc;rcases zA5.mp ha with e | ha
   .exact e
   .rcases zA5.mp hb with e | hb
    .exact e.symm
    .exact an _ _ (List.rel_of_pairwise_cons h1 hb) (List.rel_of_pairwise_cons h2 ha)
  subst hab;rw[fk an (List.Perm.cons_inv h) (List.pairwise_cons.mp h1).2 (List.pairwise_cons.mp h2).2]
noncomputable def wN (rows:List (List Int)):List (List Int):=rows.mergeSort λ a b=>!HT.lexLt b a
def tD (rows:List (List Int)):(wN rows).Perm rows:=List.mergeSort_perm _ _
def iZ (rows:List (List Int)):(wN rows).Pairwise λ a b=>HT.lexLt b a=false:=by
 have:=List.pairwise_mergeSort (le:=λ a b:List Int=>!HT.lexLt b a) (λ a b c h1 h2=>by simp at h1 h2 ⊢;exact fV a b c h1 h2)
  (λ a b=>by
   cases h:HT.lexLt b a with
   | false=>simp
   | true=>simp[fW b a h]) rows
 exact this.imp λ h=>by simpa using h
def b8 {rows out:List (List Int)}(hp:out.Perm rows) (hs:out.Pairwise λ a b=>HT.lexLt b a=false):out=wN rows:=
 fk (λ a b h1 h2=>Zy a b h2 h1) (hp.trans (tD rows).symm) hs (iZ rows)
noncomputable def m9 (rows:List (List Int)) (i j:Nat):Bool:=HT.lexLt (rows.getD i []) (rows.getD j [])
def U1 (rows:List (List Int)):Ord (m9 rows):=⟨λ _ _ _ h1 h2=>fV _ _ _ h1 h2,λ _ _ h=>fW _ _ h⟩
section
variable {prog:Program}{w:World}{A:Around}{E:Value->Shared->Prop}{s:Shared}{Q:Bool->Shared->Prop}
theorem ZF {b:Bool}:∀ (ns ms:List Int) (us ws:List Value) (i:Nat),IntsAre us ns->IntsAre ws ms->Q (HT.lexLt ns ms) s->KatLex prog w A b (decide (ns.length<ms.length)) Q (us.zip ws) i s
 | [],[],_,_,_,.nil,.nil,h=>kat_nil (by simpa [HT.lexLt] using h)
 | [],_::_,_,_,_,.nil,.cons _ _ _,h=>kat_nil (by simpa [HT.lexLt] using h)
 | _::_,[],_,_,_,.cons _ _ _,.nil,h=>kat_nil (by simpa [HT.lexLt] using h)
 | n::ns,m::ms,_,_,i,.cons _ t hu,.cons _ u hw,h=>by
  rw[HT.qH] at h;refine kat_cons (SeqAt.EqAt.int_int n t m u prog w _ _ (kat_go (λ e=>kat_yes ?_) λ e=>kat_no ?_))
  .have e':n=m:=by simpa using e
   rw[if_pos e'] at h;rw[show decide ((n::ns).length<(m::ms).length)=decide (ns.length<ms.length) by simp];exact ZF ns ms _ _ (i+1) hu hw h
  .have e':¬ n=m:=by simpa using e
   rw[if_neg e'] at h;cases b&&i == 0 with
   | true=>exact kat_lt_int h
   | false=>exact kat_one _ _ (lt_int h)
def r_ (h:Heap):List Value->List (List Int)->Prop:=Paired λ v r=>r≠[]/\∃ b o its n,v=.ref b/\h.get? b=some o/\o.cls=.type "tuple"/\o.data=.seq its n/\IntsAre its.toList r
theorem r_.Yn {h:Heap}:∀ {vs:List Value}{rows:List (List Int)},r_ h vs rows->∃ fs,KatTups h vs fs/\fs.length=vs.length/\∀ v∈fs,∃ n t,v=Value.int n t
 | _,_,.nil=>⟨[],KatTups.nil,rfl,λ _ hv=>absurd hv (by simp)⟩
 | _,_,.cons ⟨hne,b,o,its,n,hv,ho,hc,hd,hi⟩ r=>by
  obtain⟨fs,h1,h2,h3⟩:=r_.Yn r;subst hv;obtain⟨its⟩:=its;cases hi with
  | nil=>exact absurd rfl hne
  | cons k t _=>exact⟨.int k t::fs,KatTups.cons ho hc hd rfl h1,by simp[h2],λ v hv=>(zA5.mp hv).elim (λ e=>⟨k,t,e⟩) (h3 v)⟩
theorem Paired.at' {α β:Type}{F:α->β->Prop}:∀ {l₁:List α}{l₂:List β}{i:Nat},Paired F l₁ l₂->i<l₁.length->∀ (d:α) (e:β),F (l₁.getD i d) (l₂.getD i e)
 | _,_,_,.nil,h,_,_=>absurd h (by simp)
 | _,_,0,.cons r _,_,_,_=>r
 | _,_,i+1,.cons _ t,h,d,e=>by simpa using Paired.at' (i:=i) t (by simpa using h) d e
def r_.ask {vs:List Value}{rows:List (List Int)}{b:Bool}(r:r_ s.heap vs rows) {i j:Nat}(hi:i<vs.length) (hj:j<vs.length) {C:Bool->Shared->Prop}(h:C (m9 rows i j) s):kas_ask prog w A (tuples' b) vs i j C s:=by
 obtain⟨_,b1,o1,its1,n1,e1,g1,_,d1,q1⟩:=Paired.at' r hi Value.none [];obtain⟨_,b2,o2,its2,n2,e2,g2,_,d2,q2⟩:=Paired.at' r hj Value.none [];unfold kas_ask;rw[e1,e2];refine kat_lt g1 d1 g2 d2 ?_;have l1:=q1.length;have l2:=q2.length;rw[zD2] at l1 l2;rw[l1,l2];exact ZF _ _ _ _ 0 q1 q2 h
theorem cV {α:Type}{n:Nat}{lt:Nat->Nat->Bool}{cmp:Nat->Nat->(Bool->Shared->Prop)->Shared->Prop}{Q:α->Shared->Prop}(hc:∀ i j C,i<n->j<n->C (lt i j) s->cmp i j C s):∀ {t:KasT α},yX n lt t (λ a=>Q a s)->t.kasWp cmp Q s
 | .ret _,h=>h
 | .ask i j _,h=>hc i j _ h.1 h.2.1 (cV hc h.2.2)
def lX (vs:List Value) (rows:List (List Int)) (out:Array Value):Prop:=
 ∃ idx:List Nat,idx.Perm (List.range vs.length)/\out.toList=idx.map (λ i=>vs.getD i Value.none)/\(idx.map λ i=>rows.getD i []).Pairwise λ a b=>HT.lexLt b a=false
def VP {rows:List (List Int)}{p:Array Nat}{n:Nat}(hn:p.size=n) (h:uj (m9 rows) p n):(p.toList.map λ i=>rows.getD i []).Pairwise λ a b=>HT.lexLt b a=false:=by
 rw[List.pairwise_map,List.pairwise_iff_getElem];intro i j hi hj hij;have:=h i j (zE3 hij) (by rw[<- hn];simpa using hj);simp only[zD2] at hi hj;unfold Le m9 at this;simpa [Array.getD_eq_getD_getElem?,hi,hj] using this
def da {vs:List Value}{rows:List (List Int)}(r:r_ s.heap vs rows) (h2:2<=vs.length) (h64:vs.length<64):Core prog w A E vs (lX vs rows) s:=by
 obtain⟨fs,t,hl,hf⟩:=r.Yn;unfold Core;refine kat_kind (T:=.type "int") t (by omega) (λ v hv=>?_) rfl ⟨rfl,?_⟩
 .obtain⟨n,t,rfl⟩:=hf v hv;exact Looks.of_pure rfl
 .refine kat_run (ks:=vs) (Q:=λ st s''=>s''=s/\failedOf st=none/\lX vs rows ((arrOf st).map (·.2))/\(arrOf st).size=vs.length) (G:=λ p s''=>s''=s/\wg vs.length p/\uj (m9 rows) p vs.length) rfl h2 h64 (λ p st s' hs ha hfl hg=>?_) ?_
  .obtain⟨h1,h3,h4⟩:=hg;refine⟨h1,hfl,⟨p.toList,?_,?_,VP hs h4⟩,by rw[ha,Array.size_map];exact hs⟩
   .have:=Array.Perm.toList h3;simpa using this
   .rw[kat_snds rfl ha]
  .exact cV (λ i j C hi hj hC=>r.ask hi hj hC) (yX.mono (λ p hp=>⟨rfl,hp⟩) (VT (U1 rows) (by omega)))
end
section
variable {X:Cx}
def Nl:xk X (.builtin "sorted") (λ xs H Q=>∃ p ys,∃ rows:List (List Int),xs=[.ref p]/\yg X.K H p ys/\Paired (λ v r=>r≠[]/\∃ b,v=V.ref b/\yp X.K H b (r.map V.int)) ys rows/\rows.length<64/\
  ∀ (l:Addr) (idx:List Nat),H l=none->idx.Perm (List.range ys.length)->(idx.map λ i=>rows.getD i []).Pairwise (λ a b=>HT.lexLt b a=false)->Q (.ref l) (upd H l (.lst (idx.map λ i=>ys.getD i .zp)))):=by
 intro pins s B H xs us Q I r h;obtain⟨p,ys,rows,rfl,hq,hr,h64,q⟩:=h;obtain⟨u,rfl,ru⟩:=vals1 r;cases ru;obtain⟨its,rv,pl,hz⟩:=I.list hq;have hl:=rv.length;have hlr:ys.length=rows.length:=Paired.length hr;have rows_at:∀ h6:Heap,(∀ b o,s.heap.get? b=some o->h6.get? b=some o)->r_ h6 its rows:=λ h6 k=>by
  clear q hz hl hlr h64 hq pl r
  induction hr generalizing its with
  | nil=>cases rv;exact .nil
  | cons g t ih=>
   cases rv with
   | cons r1 r2=>
    refine .cons ?_ (ih _ r2);obtain⟨hne,b,rfl,hb⟩:=g;cases r1;obtain⟨its2,rv2,⟨o,e,hc,n,hd⟩,_⟩:=I.tuple hb;exact⟨hne,b,o,_,n,rfl,k _ _ e,hc,hd,by simpa using intsAre_of rv2⟩
 refine VS (Out:=lX its rows) pl.isList (by rw[<- hl];exact hz) (λ h2 s6 k=>da (rows_at _ k) h2 (by omega)) (λ h1=>?_) λ out ho hs=>?_
 .refine⟨List.range its.length,.refl _,?_,?_⟩
  .refine List.ext_getElem (by simp) λ i h1 h2=>?_;simp at h1;simp[h1]
  .rw[List.pairwise_map,List.pairwise_iff_getElem];intro i j hi hj hij;simp at hi hj;omega
 .obtain⟨idx,g1,g2,g3⟩:=ho;obtain⟨e,ho⟩:=sortedAll_at s.heap its out;have hfr:H (s.heap.objs.size+1)=none:=I.zM.fresh (Nat.le_succ _);have g1':idx.Perm (List.range ys.length):=by rw[hl];exact g1
  refine⟨.ref (s.heap.objs.size+1),_,I.laid (t':=s.toks) (o:=.lst (idx.map λ i=>ys.getD i .zp)) (λ b o q=>sortedAll_old q) (Nat.le_succ _) ?_,rfl,q _ idx hfr g1' g3⟩;refine⟨by rw[zA7,g1'.length_eq,zC5];exact hz,out.toList,e,?_,by simpa using ho⟩;rw[g2];have hlt:∀ i∈idx,i<ys.length:=λ i hi=>by simpa using g1'.mem_iff.mp hi
  clear g1 g1' g2 g3 q
  induction idx with
  | nil=>exact .nil
  | cons i idx ih=>
   refine .cons ?_ (ih λ j hj=>hlt j (zMo _ hj));have hi:=hlt i zMc;obtain⟨u,e1,e2⟩:=rv.get (i:=i) (x:=ys[i]) (by simp[hi]);have e3:its.getD i Value.none=u:=by simp[e1]
   have e4:ys.getD i .zp=ys[i]:=by simp[hi]
   show RelV (ys.getD i .zp) (its.getD i Value.none);rw[e3,e4];exact e2
end
end L4
namespace L2
open PySem PySem.Spec PyProof.Rows
noncomputable def rP (ty T:String):Bool:=ty == T||(ty == "bool"&&T == "int")
noncomputable def k9 (ty T:String):Bool:=PySem.W.kitMeta T&&decide ((fastBuiltinMro ty).map (λ l=>l.contains (Value.type T))=some (rP ty T))
def Vl:(["NoneType","bool","int","str","tuple","list","dict"].all λ ty=>["int","bool","tuple","list","str"].all λ T=>k9 ty T)=true:=by decide +kernel
def QT {K:zFr}{ty T:String}(h:k9 ty T=true):PySem.W.kitOne K (.type ty) (.type T)=some (rP ty T):=by
 unfold k9 at h;rw[zE5] at h;unfold PySem.W.kitOne;split
 .rename_i e;have e':ty=T:=by have:=eq_of_beq e;injection this
  subst e';simp[rP]
 .show (if PySem.W.kitMeta T=true then PySem.W.subIn K (.type ty) (.type T) else none)=_;rw[if_pos h.1];exact of_decide_eq_true h.2
noncomputable def Xy (K:zFr) (H:Hp):V->String->Prop
 | .zp,t=>t="NoneType"
 | .bl _,t=>t="bool"
 | .int _,t=>t="int"
 | .str _,t=>t="str"
 | .ref a,t=>(t="tuple"/\∃ xs,yp K H a xs)\/(t="list"/\∃ xs,yg K H a xs)\/(t="dict"/\∃ kvs,H a=some (.dK kvs))
 | _,_=>False
def N1 {X:Cx}:xk X (.builtin "isinstance") (λ xs H Q=>∃ x T ty,xs=[x,.ty T]/\Xy X.K H x ty/\k9 ty T=true/\Q (.bl (rP ty T)) H):=by
 intro pins s B H xs us Q I r h;obtain⟨x,T,ty,rfl,hx,hT,q⟩:=h;obtain⟨u,c,rfl,ru,rc⟩:=vals2 r;cases (show c=Value.type T from rc);have e:PySem.W.kitOne X.K (.type ty) (.type T)=some (rP ty T):=QT hT;have fin:∀ tk,EP X pins B Q (.bool (rP ty T)) { s with toks:=tk }:=λ tk=>⟨.bl _,H,I.tok tk,rfl,q⟩;cases x with
 | zp=>cases (show u=Value.none from ru);cases (show ty=_ from hx);exact PySem.W.kia_one PySem.W.kitx_none I.uB True.intro e (λ z=>nomatch z) fin
 | bl y=>cases (show u=Value.bool y from ru);cases (show ty=_ from hx);exact PySem.W.kia_one PySem.W.kitx_bool I.uB True.intro e (λ z=>nomatch z) fin
 | int i=>obtain⟨t,rfl⟩:=(show ∃ t,u=Value.int i t from ru);cases (show ty=_ from hx);exact PySem.W.kia_one PySem.W.kitx_int I.uB True.intro e (λ z=>nomatch z) fin
 | str y=>obtain⟨t,rfl⟩:=(show ∃ t,u=Value.str y t from ru);cases (show ty=_ from hx);exact PySem.W.kia_one PySem.W.kitx_str I.uB True.intro e (λ z=>nomatch z) fin
 | ref a=>
  cases (show u=Value.ref a from ru);rcases hx with ⟨rfl,ys,hq⟩ | ⟨rfl,ys,hq⟩ | ⟨rfl,kvs,hq⟩
  .obtain⟨its,_,⟨o,h1,h2,_⟩,_⟩:=I.tuple hq;exact PySem.W.kia_one PySem.W.kitx_tuple I.uB ⟨o,h1,h2⟩ e (λ z=>nomatch z) fin
  .obtain⟨its,_,⟨o,n,h1,h2,_⟩,_⟩:=I.list hq;exact PySem.W.kia_one PySem.W.kitx_list I.uB ⟨o,h1,h2⟩ e (λ z=>nomatch z) fin
  .obtain⟨_,_,vs,_,p⟩:=(show xS X.prog X.w H s.heap a (.dK kvs) from I.zM a _ hq)
   obtain⟨o,es,ep,h1,h2,_⟩:=p;exact PySem.W.kia_one PySem.W.kitx_dict I.uB ⟨o,h1,h2.1⟩ e (λ z=>nomatch z) fin
 | n9 _=>exact hx.elim
 | j9 _=>exact hx.elim
 | ty _=>exact hx.elim
end L2
namespace L3
open PySem PySem.Spec L2
open PyProof.Rows hiding St
section
variable {X:Cx}{K:zFr}{a b c e:Expr}{es:List Expr}{ta tb tc te:zI}{tA:yQ}{pos p q:Pos}
def u5 (hm:X.mg "len"=none) (ha:wY X (e::es) tA) (hg:Gl X "len":=by rfl) (he:starEach (e::es) X.env=(false,eval e X.env)::starEach es X.env:=by rfl) (hpl:(backTo pos (starEach es X.env)).any (·.1)=false:=by rfl):PD X (.Call (.Name "len" p) (e::es) [] pos) (wD tf tA):=
 sj (rE (Ny.or Nx) hg hm PySem.boot_len ha.pa (by decide) (by decide) he hpl) tf.mo tf.fits ha.mo
def jf (hm:X.mg "list"=none) (ha:wY X (e::es) tA) (hg:Gl X "list":=by rfl) (he:starEach (e::es) X.env=(false,eval e X.env)::starEach es X.env:=by rfl) (hpl:(backTo pos (starEach es X.env)).any (·.1)=false:=by rfl):PD X (.Call (.Name "list" p) (e::es) [] pos) (wD u_ tA):=
 sj (oT Nv hg hm PyProof.Rows.boot_list ha.pa (by decide) (by decide) he hpl) u_.mo u_.fits ha.mo
def pK (hm:X.mg "tuple"=none) (ha:wY X (e::es) tA) (hg:Gl X "tuple":=by rfl) (he:starEach (e::es) X.env=(false,eval e X.env)::starEach es X.env:=by rfl) (hpl:(backTo pos (starEach es X.env)).any (·.1)=false:=by rfl):PD X (.Call (.Name "tuple" p) (e::es) [] pos) (wD uZ tA):=
 sj (oT Nh hg hm PyProof.Rows.boot_tuple ha.pa (by decide) (by decide) he hpl) uZ.mo uZ.fits ha.mo
abbrev Yq:wH:=uF λ i j=>.int (if j>i then j else i)
abbrev Yp:wH:=uF λ i j=>.int (if j<i then j else i)
def je (hm:X.mg "max"=none) (ha:wY X (e::es) tA) (hc:X.calm=true:=by rfl) (hg:Gl X "max":=by rfl) (he:starEach (e::es) X.env=(false,eval e X.env)::starEach es X.env:=by rfl) (hpl:(backTo pos (starEach es X.env)).any (·.1)=false:=by rfl):PD X (.Call (.Name "max" p) (e::es) [] pos) (wD Yq tA):=
 sj (rE (Nu hc) hg hm boot_max ha.pa (by decide) (by decide) he hpl) uF.mo (uF.fits λ _ _ _=>by simp only[zo]) ha.mo
def rK (hm:X.mg "min"=none) (ha:wY X (e::es) tA) (hc:X.calm=true:=by rfl) (hg:Gl X "min":=by rfl) (he:starEach (e::es) X.env=(false,eval e X.env)::starEach es X.env:=by rfl) (hpl:(backTo pos (starEach es X.env)).any (·.1)=false:=by rfl):PD X (.Call (.Name "min" p) (e::es) [] pos) (wD Yp tA):=
 sj (rE (Nt hc) hg hm boot_min ha.pa (by decide) (by decide) he hpl) uF.mo (uF.fits λ _ _ _=>by simp only[zo]) ha.mo
noncomputable def vh (r:List Int):D:=.tup (r.map D.int)
theorem m7 {H:Hp}:∀ {rows:List (List Int)}{ys:List V},zx K H (rows.map vh) ys->(∀ r∈rows,r≠[])->Paired (λ v r=>r≠[]/\∃ b,v=V.ref b/\yp K H b (r.map V.int)) ys rows
 | [],ys,h,_=>by simp only[List.map_nil,zx] at h;subst h;exact .nil
 | r::rows,ys,h,hn=>by
  rw[zA6] at h;simp only[zx,vh,zo] at h;obtain⟨x,ys',rfl,⟨a,xs,rfl,g1,g2⟩,h3⟩:=h;rw[g2.ints] at g1;exact .cons ⟨hn r zMc,a,rfl,g1⟩ (m7 h3 λ r' hr=>hn r' (zMo _ hr))
def Zt {α:Type}{rows:List α}{d:α}{idx:List Nat}(h:idx.Perm (List.range rows.length)):(idx.map λ i=>rows.getD i d).Perm rows:=by
 refine (h.map _).trans ?_;have:(List.range rows.length).map (λ i=>rows.getD i d)=rows:=by
  refine List.ext_getElem (by simp) λ i h1 h2=>?_;simp[h2]
 rw[this]
theorem zx.perm {H:Hp}{rows:List (List Int)}{ys:List V}(h:zx K H (rows.map vh) ys):∀ {idx:List Nat},(∀ i∈idx,i<rows.length)->zx K H ((idx.map λ i=>rows.getD i []).map vh) (idx.map λ i=>ys.getD i .zp)
 | [],_=>.nil
 | i::idx,hi=>by
  have h1:=hi i zMc;obtain⟨x,e1,e2⟩:=h.get (i:=i) (d:=vh rows[i]) (by simp[h1]);refine .cons ?_ (zx.perm h λ j hj=>hi j (zMo _ hj));have e3:ys.getD i .zp=x:=by simp[e1]
  have e4:rows.getD i []=rows[i]:=by simp[h1]
  show zo K H (vh (rows.getD i [])) (ys.getD i .zp);rw[e3,e4];exact e2
def se {tg:Expr}(hm:X.mg "range"=none) (ha:wY X [a] tA) (hg:Gl X "range":=by rfl) (hs:starEach [a] X.env=[(false,eval a X.env)]:=by rfl):oz X tg (.Call (.Name "range" p) [a] [] pos) (ea tA):=Sk (Tq hg hm ha.pa hs) ha.mo
noncomputable def qp (d:D) (S:SS):Option String:=match d with
 | .zp=>some "NoneType"
 | .bl _=>some "bool"
 | .int _=>some "int"
 | .str _=>some "str"
 | .tup _=>some "tuple"
 | .xm _=>some "list"
 | .ref p=>match S p with
  | some (.lst _)=>some "list"
  | some (.y6 _)=>some "dict"
  | none=>none
def jH (T:String) (te:zI):zI:=fun L S Q=>te L S λ x S1=>match qp x S1 with
 | some ty=>Q (.bl (rP ty T)) S1
 | none=>False
def qp.ok {H:Hp}{d:D}{v:V}{S:SS}{ty:String}(r:zo K H d v) (p:yb K H S) (h:qp d S=some ty):Xy K H v ty/\ty∈["NoneType","bool","int","str","tuple","list","dict"]:=by
 cases d with
 | zp=>simp only[zo] at r;subst r;cases h;exact⟨rfl,by simp⟩
 | bl _=>simp only[zo] at r;subst r;cases h;exact⟨rfl,by simp⟩
 | int _=>simp only[zo] at r;subst r;cases h;exact⟨rfl,by simp⟩
 | str _=>simp only[zo] at r;subst r;cases h;exact⟨rfl,by simp⟩
 | tup ds=>
  simp only[zo] at r;obtain⟨a,xs,rfl,g1,_⟩:=r;cases h;exact⟨.inl ⟨rfl,xs,g1⟩,by simp⟩
 | xm ds=>
  simp only[zo] at r;obtain⟨a,xs,rfl,g1,_⟩:=r;cases h;exact⟨.inr (.inl ⟨rfl,xs,g1.sq⟩),by simp⟩
 | ref a=>
  simp only[zo] at r;subst r;unfold qp at h;dsimp only at h;split at h
  .rename_i e;cases h;obtain⟨xs,g1,_⟩:=p _ _ e;exact⟨.inr (.inl ⟨rfl,xs,yg.of g1⟩),by simp⟩
  .rename_i e;cases h;obtain⟨xs,g1,_⟩:=p _ _ e;exact⟨.inr (.inr ⟨rfl,xs,g1⟩),by simp⟩
  .cases h
def aK {T:String}{x:Str}(hT:T∈["int","bool","tuple","list","str"]) (hm:X.mg "isinstance"=none) (hm2:X.mg x=none) (hv:bootBuiltins x=some (.type T)) (hg2:Gl X x) (hn:x≠"__name__") (hd:(x == ("__debug__":Str))=false) (he:PD X e te) (hg:Gl X "isinstance":=by rfl)
  (h1:starEach (e::[.Name x q]) X.env=(false,eval e X.env)::starEach [.Name x q] X.env:=by rfl) (h2:(backTo pos (starEach [.Name x q] X.env)).any (·.1)=false:=by rfl) (h3:starEach [.Name x q] X.env=(false,eval (.Name x q) X.env)::starEach [] X.env:=by rfl):
  PD X (.Call (.Name "isinstance" p) [e,.Name x q] [] pos) (jH T te):=by
 refine⟨fun L S Q Q' hq z=>he.mo L S _ _ (λ y S1 z=>?_) z,PE.imp (rE N1 hg hm boot_isinstance (pL he.pe (pL (TZ (v:=.ty T) hg2 hm2 hv rfl hn hd) oZ h3) h1) (by decide) (by decide) h1 h2) fun B H Q hu=>?_⟩
 .split at z
  .exact hq _ _ z
  .exact z
 .obtain⟨L,S,r1,r2,z⟩:=hu;refine yd.go he.mo r1 r2 z λ y S1 v H1 z1 q1 e1 p1=>?_;split at z1
  .rename_i ty ht;obtain⟨g1,g2⟩:=qp.ok q1 p1 ht;refine⟨v,T,ty,rfl,g1,?_,z1 _ H1 (by simp only[zo]) e1 p1⟩;exact zE4.mp (zE4.mp Vl ty g2) T hT
  .exact z1.elim
def Sz (T:Bt X.mg) (he:PD X e te) (hg:Gl X "isinstance":=by rfl) (hg2:Gl X "bool":=by rfl) (h1:starEach (e::[.Name "bool" q]) X.env=(false,eval e X.env)::starEach [.Name "bool" q] X.env:=by rfl) (h2:(backTo pos (starEach [.Name "bool" q] X.env)).any (·.1)=false:=by rfl) (h3:starEach [.Name "bool" q] X.env=(false,eval (.Name "bool" q) X.env)::starEach [] X.env:=by rfl):
  PD X (.Call (.Name "isinstance" p) [e,.Name "bool" q] [] pos) (jH "bool" te):=aK (by simp) T.isinstance T.bool PyProof.Rows.boot_bool hg2 (by decide) (by decide) he hg h1 h2 h3
def Sy (T:Bt X.mg) (he:PD X e te) (hg:Gl X "isinstance":=by rfl) (hg2:Gl X "int":=by rfl) (h1:starEach (e::[.Name "int" q]) X.env=(false,eval e X.env)::starEach [.Name "int" q] X.env:=by rfl) (h2:(backTo pos (starEach [.Name "int" q] X.env)).any (·.1)=false:=by rfl) (h3:starEach [.Name "int" q] X.env=(false,eval (.Name "int" q) X.env)::starEach [] X.env:=by rfl):
  PD X (.Call (.Name "isinstance" p) [e,.Name "int" q] [] pos) (jH "int" te):=aK (by simp) T.isinstance T.int PyProof.Rows.boot_int hg2 (by decide) (by decide) he hg h1 h2 h3
def qA {o:Expr}{to:zI}{apos cpos:Pos}(ho:PD X o to) (he:PD X e te)
  (hbase:attributeBase o "append" X.env (eval o X.env)=eval o X.env:=by rfl)
  (hfew:((backTo cpos (starEach [e] X.env)).all (λ x=>!x.1)&&(backToKw cpos (keywordEach [] X.env)).all (λ x=>x.1.isSome)
   && decide ([e].length+([]:List Keyword).length+(if ([]:List Keyword).isEmpty then 0 else 1)<30))=true:=by rfl)
  (hline:(apos.endLine == cpos.line)=true:=by rfl) (hs:starEach [e] X.env=(false,eval e X.env)::starEach [] X.env:=by rfl) (hplain:(backTo cpos (starEach [] X.env)).any (·.1)=false:=by rfl):
  PD X (.Call (.Attribute o "append" apos) [e] [] cpos) (qV to te):=
 SH (o:=o) (e:=e) (aD PySem.F.plainAttrs_list PySem.F.slot_list_append PySem.F.type_list_append Zs ho.pe (pL he.pe oZ hs) hbase hfew hline hs hplain) ho.mo he.mo
structure FD (P:Program) (w:World) (K:zFr) (mg:Str->Option Value) (base:Heap) (x:Str) (k:Nat) (ps:List Str) (sp:qY):Prop where
 ex:∃ (f:Addr) (fd:FuncData),t8 P w K mg base ur k f fd ps (rn K sp)/\mg x=some (.ref f)/\PySem.W.keepIn K (.ref f)=true/\Binds K fd ps []
 mo:dJ sp
def zY {x:Str}{k:Nat}{ps:List Str}{sp:qY}(F:FD X.prog X.w X.K X.mg X.base x k ps sp) (hr:y_ k X.A) (ha:wY X (e::es) tA) (hg:Gl X x:=by rfl) (hdb:(x == ("__debug__":Str))=false:=by decide)
  (he:starEach (e::es) X.env=(false,eval e X.env)::starEach es X.env:=by rfl) (hpl:(backTo pos (starEach es X.env)).any (·.1)=false:=by rfl):PD X (.Call (.Name x p) (e::es) [] pos) (eZ sp tA):=by
 obtain⟨⟨f,fd,h1,h2,h3,h4⟩,hm⟩:=F;exact SG (E:=E0) (TY h1 hr hg h2 h3 h4 .nil SK ha.pa hdb he hpl) hm ha.mo
end
section
variable {P:Program}{w:World}{K:zFr}{mg:Str->Option Value}{base:Heap}{f:Addr}{fd:FuncData}
end
def Oi {S:SS}{p:Addr}{ds:List D}{Q:DK}(e:S p=some (.lst ds)) (h:Q (.tup ds) S):uZ [.ref p] S Q:=by
 unfold uZ;dsimp only;rw[e];exact h
def Oj {S:SS}{d:D}{ds:List D}{Q:DK}(e:yz d S=some ds) (h:∀ p,S p=none->Q (.ref p) (ups S p (.lst ds))):u_ [d] S Q:=by
 unfold u_;dsimp only;rw[e];exact h
def Ol {S:SS}{d:D}{ds:List D}{Q:DK}(e:yz d S=some ds) (h:Q (.int ds.length) S):tf [d] S Q:=by
 unfold tf;dsimp only;rw[e];exact h
def Vr {S:SS}{p:Addr}{ds:List D}{Q:Bool->SS->Prop}(e:S p=some (.lst ds)) (h:Q (!ds.isEmpty) S):uv (.ref p) S Q:=by
 unfold uv;dsimp only;rw[e];exact h
def Oq {S:SS}{p:Addr}{ds:List D}{i:Int}{d:D}{Q:DK}(e:S p=some (.lst ds)) (e2:L2.yh ds i=some d) (h:Q d S):vy (.ref p) (.int i) S Q:=by
 unfold vy;dsimp only;rw[e];dsimp only;rw[e2];exact h
def Om {S:SS}{ds:List D}{i:Int}{d:D}{Q:DK}(e2:L2.yh ds i=some d) (h:Q d S):vy (.tup ds) (.int i) S Q:=by
 unfold vy;dsimp only;rw[e2];exact h
def Oo {S:SS}{ds:List D}{i:Int}{d:D}{Q:DK}(e2:L2.yh ds i=some d) (h:Q d S):vy (.xm ds) (.int i) S Q:=by
 unfold vy;dsimp only;rw[e2];exact h
inductive T where
 | zp | bl (b:Bool) | int (i:Int) | str (x:Str) | tup (ts:List T) | lst (ts:List T) | yo
mutual
noncomputable def eqT:T->T->Bool
 | .zp,.zp=>true
 | .bl a,.bl b=>a == b
 | .bl a,.int b=>(if a then 1 else 0) == b
 | .int a,.bl b=>a == (if b then 1 else 0)
 | .int a,.int b=>a == b
 | .str a,.str b=>a == b
 | .tup a,.tup b=>we a b
 | .lst a,.lst b=>we a b
 | .yo,.yo=>true
 | _,_=>false
noncomputable def we:List T->List T->Bool
 | [],[]=>true
 | a::as,b::bs=>eqT a b&&we as bs
 | _,_=>false
end
mutual
noncomputable def dep:T->Nat
 | .tup ts=>1+yH ts
 | .lst ts=>1+yH ts
 | .yo=>cLine
 | _=>0
noncomputable def yH:List T->Nat
 | []=>0
 | t::ts=>max (dep t) (yH ts)
end
noncomputable def fA:List T->Bool
 | []=>true
 | .int _::ts=>fA ts
 | _=>false
def Rp (ns:List Int):fA (ns.map T.int)=true:=by
 induction ns with
 | nil=>rfl
 | cons n ns ih=>exact ih
mutual
noncomputable def Sn (S:SS):T->D->Prop
 | .zp,d=>d=.zp
 | .bl b,d=>d=.bl b
 | .int i,d=>d=.int i
 | .str x,d=>d=.str x
 | .tup ts,d=>∃ ds,d=.tup ds/\zu S ts ds
 | .lst ts,d=>∃ ds,((d=.xm ds/\fA ts=true)\/∃ a,d=.ref a/\S a=some (.lst ds))/\zu S ts ds
 | .yo,d=>∃ a kvs,d=.ref a/\S a=some (.y6 kvs)
noncomputable def zu (S:SS):List T->List D->Prop
 | [],ds=>ds=[]
 | t::ts,ds=>∃ c cs,ds=c::cs/\Sn S t c/\zu S ts cs
end
mutual
theorem eS:∀ t:T,eqT t t=true
 | .zp=>by simp[eqT]
 | .bl b=>by simp[eqT]
 | .int i=>by simp[eqT]
 | .str x=>by simp[eqT]
 | .tup ts=>by simp only[eqT];exact eR ts
 | .lst ts=>by simp only[eqT];exact eR ts
 | .yo=>by simp[eqT]
theorem eR:∀ ts:List T,we ts ts=true
 | []=>by simp[we]
 | t::ts=>by simp only[we,eS t,eR ts,Bool.and_self]
end
theorem sM:∀ ts us:List T,we ts us=((List.range (min ts.length us.length)).all (λ j=>eqT (ts.getD j .zp) (us.getD j .zp))&&ts.length == us.length)
 | [],[]=>by simp[we]
 | [],_::_=>by simp[we]
 | _::_,[]=>by simp[we]
 | t::ts,u::us=>by
  simp only[we,sM ts us,zC0];rw[show min (ts.length+1) (us.length+1)=min ts.length us.length+1 by omega,List.range_succ_eq_map,List.all_cons,List.all_map];have:(ts.length+1 == us.length+1)=(ts.length == us.length):=by rw[zC7];simp
  rw[this,Bool.and_assoc];rfl
theorem zu.length {S:SS}:∀ {ts:List T}{ds:List D},zu S ts ds->ts.length=ds.length
 | [],ds,h=>by simp only[zu] at h;subst h;rfl
 | t::ts,ds,h=>by
  simp only[zu] at h;obtain⟨c,cs,rfl,_,h2⟩:=h;simp[zu.length h2]
section
variable {X:Cx}{pins:List (Addr×Obj)}{B:St}{H:Hp}{s:Shared}{S:SS}
def ZO (I:Inv X pins B H s) {a:Addr}{xs ys:List V}(h1:yp X.K H a xs) (h2:yg X.K H a ys):False:=by
 obtain⟨_,_,⟨o,e,c,_⟩,_⟩:=I.tuple h1;obtain⟨_,_,⟨o',n,e',c',_⟩,_⟩:=I.list h2;rw[e] at e';cases e';rw[c] at c'
 injection c' with q
 exact absurd q (by decide)
def Sn.xA (p:yb X.K H S) {ts:List T}{d:D}{x:V}(h:Sn S (.lst ts) d) (r:zo X.K H d x):∃ a xs ds,x=.ref a/\yg X.K H a xs/\zx X.K H ds xs/\zu S ts ds:=by
 simp only[Sn] at h;obtain⟨ds,⟨h,_⟩ | ⟨a,h,e⟩,h2⟩:=h
 .subst h;simp only[zo] at r;obtain⟨a,xs,rfl,g1,g2⟩:=r;exact⟨a,xs,ds,rfl,g1.sq,g2,h2⟩
 .subst h;simp only[zo] at r;obtain⟨xs,g1,g2⟩:=p _ _ e;exact⟨a,xs,ds,r,yg.of g1,g2,h2⟩
def Sn.x8 {ts:List T}{d:D}{x:V}(h:Sn S (.tup ts) d) (r:zo X.K H d x):∃ a xs ds,x=.ref a/\yp X.K H a xs/\zx X.K H ds xs/\zu S ts ds:=by
 simp only[Sn] at h;obtain⟨ds,rfl,h2⟩:=h;simp only[zo] at r;obtain⟨a,xs,rfl,g1,g2⟩:=r;exact⟨a,xs,ds,rfl,g1,g2,h2⟩
def Sn.pX (p:yb X.K H S) {d:D}{x:V}(h:Sn S .yo d) (r:zo X.K H d x):∃ a vs,x=.ref a/\H a=some (.dK vs):=by
 simp only[Sn] at h;obtain⟨a,kvs,rfl,e⟩:=h;simp only[zo] at r;obtain⟨xs,g1,g2⟩:=p _ _ e;exact⟨a,xs,r,g1⟩
def ZT (I:Inv X pins B H s) {a:Addr}{vs:List (Key×V)}(h:H a=some (.dK vs)):∃ o,s.heap.get? a=some o/\o.cls=.type "dict":=by
 obtain⟨_,_,_,_,o,_,_,e,c⟩:=(show xS X.prog X.w H s.heap a (.dK vs) from I.zM a _ h)
 exact⟨o,e,c.1.1⟩
def ZQ (I:Inv X pins B H s) {a:Addr}{xs:List V}{vs:List (Key×V)}(h1:yp X.K H a xs) (h2:H a=some (.dK vs)):False:=by
 obtain⟨_,_,⟨o,e,c,_⟩,_⟩:=I.tuple h1;obtain⟨o',e',c'⟩:=ZT I h2;rw[e] at e';cases e';rw[c] at c'
 injection c' with q
 exact absurd q (by decide)
def ZS (I:Inv X pins B H s) {a:Addr}{xs:List V}{vs:List (Key×V)}(h1:yg X.K H a xs) (h2:H a=some (.dK vs)):False:=by
 obtain⟨_,_,⟨o,n,e,c,_⟩,_⟩:=I.list h1;obtain⟨o',e',c'⟩:=ZT I h2;rw[e] at e';cases e';rw[c] at c'
 injection c' with q
 exact absurd q (by decide)
theorem Sn.flat {t:T}{d:D}{x:V}(h:Sn S t d) (r:zo X.K H d x):match t with
  | .zp=>x=.zp
  | .bl b=>x=.bl b
  | .int i=>x=.int i
  | .str y=>x=.str y
  | _=>True:=by
 cases t <;> first
  | trivial
  | (simp only[Sn] at h;subst h;simpa only [zo] using r)
mutual
theorem k8 (I:Inv X pins B H s) (p:yb X.K H S):∀ (t u:T) {d e:D}{x:V},Sn S t d->Sn S u e->zo X.K H d x->zo X.K H e x->t=u
 | .tup ts,u,d,e,x,h1,h2,r1,r2=>by
  obtain⟨a,xs,ds,rfl,g1,g2,g3⟩:=h1.x8 r1;cases u with
  | yo=>obtain⟨_,_,q,g⟩:=h2.pX p r2;cases q;exact (ZQ I g1 g).elim
  | tup us=>
   obtain⟨a',xs',ds',q,k1,k2,k3⟩:=h2.x8 r2;cases q;have:=I.iP g1 k1;subst this;rw[iO I p ts us g3 k3 g2 k2]
  | lst us=>
   obtain⟨a',xs',ds',q,k1,k2,k3⟩:=h2.xA p r2;cases q;exact (ZO I g1 k1).elim
  | zp=>exact nomatch h2.flat r2
  | bl _=>exact nomatch h2.flat r2
  | int _=>exact nomatch h2.flat r2
  | str _=>exact nomatch h2.flat r2
 | .lst ts,u,d,e,x,h1,h2,r1,r2=>by
  obtain⟨a,xs,ds,rfl,g1,g2,g3⟩:=h1.xA p r1;cases u with
  | yo=>obtain⟨_,_,q,g⟩:=h2.pX p r2;cases q;exact (ZS I g1 g).elim
  | lst us=>
   obtain⟨a',xs',ds',q,k1,k2,k3⟩:=h2.xA p r2;cases q;have:=I.fU g1 k1;subst this;rw[iO I p ts us g3 k3 g2 k2]
  | tup us=>
   obtain⟨a',xs',ds',q,k1,k2,k3⟩:=h2.x8 r2;cases q;exact (ZO I k1 g1).elim
  | zp=>exact nomatch h2.flat r2
  | bl _=>exact nomatch h2.flat r2
  | int _=>exact nomatch h2.flat r2
  | str _=>exact nomatch h2.flat r2
 | .zp,u,d,e,x,h1,h2,r1,r2=>by
  have q:=h1.flat r1;subst q;cases u with
  | yo=>obtain⟨_,_,q,g⟩:=h2.pX p r2;cases q
  | zp=>rfl
  | tup us=>obtain⟨_,_,_,q,_⟩:=h2.x8 r2;cases q
  | lst us=>obtain⟨_,_,_,q,_⟩:=h2.xA p r2;cases q
  | bl _=>exact nomatch h2.flat r2
  | int _=>exact nomatch h2.flat r2
  | str _=>exact nomatch h2.flat r2
 | .bl b,u,d,e,x,h1,h2,r1,r2=>by
  have q:=h1.flat r1;subst q;cases u with
  | yo=>obtain⟨_,_,q,g⟩:=h2.pX p r2;cases q
  | bl _=>have q:=h2.flat r2;cases q;rfl
  | tup us=>obtain⟨_,_,_,q,_⟩:=h2.x8 r2;cases q
  | lst us=>obtain⟨_,_,_,q,_⟩:=h2.xA p r2;cases q
  | zp=>exact nomatch h2.flat r2
  | int _=>exact nomatch h2.flat r2
  | str _=>exact nomatch h2.flat r2
 | .int b,u,d,e,x,h1,h2,r1,r2=>by
  have q:=h1.flat r1;subst q;cases u with
  | yo=>obtain⟨_,_,q,g⟩:=h2.pX p r2;cases q
  | int _=>have q:=h2.flat r2;cases q;rfl
  | tup us=>obtain⟨_,_,_,q,_⟩:=h2.x8 r2;cases q
  | lst us=>obtain⟨_,_,_,q,_⟩:=h2.xA p r2;cases q
  | zp=>exact nomatch h2.flat r2
  | bl _=>exact nomatch h2.flat r2
  | str _=>exact nomatch h2.flat r2
 | .str b,u,d,e,x,h1,h2,r1,r2=>by
  have q:=h1.flat r1;subst q;cases u with
  | yo=>obtain⟨_,_,q,g⟩:=h2.pX p r2;cases q
  | str _=>have q:=h2.flat r2;cases q;rfl
  | tup us=>obtain⟨_,_,_,q,_⟩:=h2.x8 r2;cases q
  | lst us=>obtain⟨_,_,_,q,_⟩:=h2.xA p r2;cases q
  | zp=>exact nomatch h2.flat r2
  | bl _=>exact nomatch h2.flat r2
  | int _=>exact nomatch h2.flat r2
 | .yo,u,d,e,x,h1,h2,r1,r2=>by
  obtain⟨a,vs,rfl,g⟩:=h1.pX p r1;cases u with
  | yo=>rfl
  | tup us=>obtain⟨_,_,_,q,g1,_⟩:=h2.x8 r2;cases q;exact (ZQ I g1 g).elim
  | lst us=>obtain⟨_,_,_,q,g1,_⟩:=h2.xA p r2;cases q;exact (ZS I g1 g).elim
  | zp=>exact nomatch h2.flat r2
  | bl _=>exact nomatch h2.flat r2
  | int _=>exact nomatch h2.flat r2
  | str _=>exact nomatch h2.flat r2
theorem iO (I:Inv X pins B H s) (p:yb X.K H S):∀ (ts us:List T) {ds es:List D}{xs:List V},zu S ts ds->zu S us es->zx X.K H ds xs->zx X.K H es xs->ts=us
 | [],us,ds,es,xs,h1,h2,r1,r2=>by
  have e:=h1.length.trans (r1.length.trans (r2.length.symm.trans h2.length.symm));cases us with
  | nil=>rfl
  | cons _ _=>simp at e
 | t::ts,[],ds,es,xs,h1,h2,r1,r2=>by
  have e:=h1.length.trans (r1.length.trans (r2.length.symm.trans h2.length.symm));simp at e
 | t::ts,u::us,ds,es,xs,h1,h2,r1,r2=>by
  simp only[zu] at h1 h2;obtain⟨c,cs,rfl,a1,a2⟩:=h1;obtain⟨c',cs',rfl,b1,b2⟩:=h2;simp only[zx] at r1 r2;obtain⟨y,ys,rfl,g1,g2⟩:=r1;obtain⟨y',ys',q,k1,k2⟩:=r2;cases q;rw[k8 I p t u a1 b1 g1 k1,iO I p ts us a2 b2 g2 k2]
end
def zu.get {ts:List T}{ds:List D}(h:zu S ts ds):∀ {j:Nat},j<ts.length->∃ c,ds[j]?=some c/\Sn S (ts.getD j .zp) c:=by
 induction ts generalizing ds with
 | nil=>intro j hj;simp at hj
 | cons t ts ih=>
  intro j hj;simp only[zu] at h;obtain⟨c,cs,rfl,h1,h2⟩:=h;cases j with
  | zero=>exact⟨c,rfl,h1⟩
  | succ j=>
   obtain⟨c',e,h3⟩:=ih h2 (j:=j) (by simpa using hj);exact⟨c',by simpa using e,by simpa using h3⟩
theorem Y7:∀ {ts:List T}{j:Nat},j<ts.length->dep (ts.getD j .zp)<=yH ts
 | [],j,h=>by simp at h
 | t::ts,0,_=>by simp only[yH,List.getD_cons_zero];omega
 | t::ts,j+1,h=>by
  have:=Y7 (ts:=ts) (j:=j) (by simpa using h);simp only[yH,List.getD_cons_succ];omega
mutual
theorem Yu (I:Inv X pins B H s) (p:yb X.K H S):∀ (t u:T) {A:Around}{d e:D}{x y:V}{a b:Value},A.units+dep t<cLine->A.units+dep u<cLine->Sn S t d->Sn S u e->zo X.K H d x->zo X.K H e y->RelV x a->RelV y b->SeqAt.EqAt A s a b (eqT t u)
 | .zp,u,A,d,e,x,y,a,b,hu,hu',h1,h2,r1,r2,v1,v2=>by
  have q:=h1.flat r1;subst q;cases v1;cases u with
  | yo=>simp only[dep] at hu';omega
  | zp=>have q:=h2.flat r2;subst q;cases v2;simp only[eqT];exact SeqAt.EqAt.same _
  | bl b=>have q:=h2.flat r2;subst q;cases v2;simp only[eqT];exact SeqAt.EqAt.none_bool _
  | int i=>have q:=h2.flat r2;subst q;obtain⟨t,rfl⟩:=v2;simp only[eqT];exact SeqAt.EqAt.none_int _ _
  | str i=>have q:=h2.flat r2;subst q;obtain⟨t,rfl⟩:=v2;simp only[eqT];exact SeqAt.EqAt.none_str _ _
  | tup us=>obtain⟨a',xs',ds',rfl,k1,k2,k3⟩:=h2.x8 r2;cases v2;obtain⟨_,_,pt,_⟩:=I.tuple k1;simp only[eqT];exact SeqAt.EqAt.none_tuple pt (by omega)
  | lst us=>obtain⟨a',xs',ds',rfl,k1,k2,k3⟩:=h2.xA p r2;cases v2;obtain⟨_,_,pl,_⟩:=I.list k1;simp only[eqT];exact SeqAt.EqAt.none_list pl.isList (by omega)
 | .bl c,u,A,d,e,x,y,a,b,hu,hu',h1,h2,r1,r2,v1,v2=>by
  have q:=h1.flat r1;subst q;cases v1;cases u with
  | yo=>simp only[dep] at hu';omega
  | zp=>have q:=h2.flat r2;subst q;cases v2;simp only[eqT];exact SeqAt.EqAt.bool_none _
  | bl b=>have q:=h2.flat r2;subst q;cases v2;simp only[eqT];exact SeqAt.EqAt.bool_bool _ _
  | int i=>have q:=h2.flat r2;subst q;obtain⟨t,rfl⟩:=v2;simp only[eqT];exact SeqAt.EqAt.bool_int _ _ _
  | str i=>have q:=h2.flat r2;subst q;obtain⟨t,rfl⟩:=v2;simp only[eqT];exact SeqAt.EqAt.bool_str _ _ _
  | tup us=>obtain⟨a',xs',ds',rfl,k1,k2,k3⟩:=h2.x8 r2;cases v2;obtain⟨_,_,pt,_⟩:=I.tuple k1;simp only[eqT];exact SeqAt.EqAt.bool_tuple _ pt (by omega)
  | lst us=>obtain⟨a',xs',ds',rfl,k1,k2,k3⟩:=h2.xA p r2;cases v2;obtain⟨_,_,pl,_⟩:=I.list k1;simp only[eqT];exact SeqAt.EqAt.bool_list _ pl.isList (by omega)
 | .int c,u,A,d,e,x,y,a,b,hu,hu',h1,h2,r1,r2,v1,v2=>by
  have q:=h1.flat r1;subst q;obtain⟨tk,rfl⟩:=v1;cases u with
  | yo=>simp only[dep] at hu';omega
  | zp=>have q:=h2.flat r2;subst q;cases v2;simp only[eqT];exact SeqAt.EqAt.int_none _ _
  | bl b=>have q:=h2.flat r2;subst q;cases v2;simp only[eqT];exact SeqAt.EqAt.int_bool _ _ _
  | int i=>have q:=h2.flat r2;subst q;obtain⟨t,rfl⟩:=v2;simp only[eqT];exact SeqAt.EqAt.int_int _ _ _ _
  | str i=>have q:=h2.flat r2;subst q;obtain⟨t,rfl⟩:=v2;simp only[eqT];exact SeqAt.EqAt.int_str _ _ _ _
  | tup us=>obtain⟨a',xs',ds',rfl,k1,k2,k3⟩:=h2.x8 r2;cases v2;obtain⟨_,_,pt,_⟩:=I.tuple k1;simp only[eqT];exact SeqAt.EqAt.int_tuple _ _ pt (by omega)
  | lst us=>obtain⟨a',xs',ds',rfl,k1,k2,k3⟩:=h2.xA p r2;cases v2;obtain⟨_,_,pl,_⟩:=I.list k1;simp only[eqT];exact SeqAt.EqAt.int_list _ _ pl.isList (by omega)
 | .str c,u,A,d,e,x,y,a,b,hu,hu',h1,h2,r1,r2,v1,v2=>by
  have q:=h1.flat r1;subst q;obtain⟨tk,rfl⟩:=v1;cases u with
  | yo=>simp only[dep] at hu';omega
  | zp=>have q:=h2.flat r2;subst q;cases v2;simp only[eqT];exact SeqAt.EqAt.str_none _ _
  | bl b=>have q:=h2.flat r2;subst q;cases v2;simp only[eqT];exact SeqAt.EqAt.str_bool _ _ _
  | int i=>have q:=h2.flat r2;subst q;obtain⟨t,rfl⟩:=v2;simp only[eqT];exact SeqAt.EqAt.str_int _ _ _ _
  | str i=>have q:=h2.flat r2;subst q;obtain⟨t,rfl⟩:=v2;simp only[eqT];exact SeqAt.EqAt.str_str _ _ _ _
  | tup us=>obtain⟨a',xs',ds',rfl,k1,k2,k3⟩:=h2.x8 r2;cases v2;obtain⟨_,_,pt,_⟩:=I.tuple k1;simp only[eqT];exact SeqAt.EqAt.str_tuple _ _ pt (by omega)
  | lst us=>obtain⟨a',xs',ds',rfl,k1,k2,k3⟩:=h2.xA p r2;cases v2;obtain⟨_,_,pl,_⟩:=I.list k1;simp only[eqT];exact SeqAt.EqAt.str_list _ _ pl.isList (by omega)
 | .tup ts,u,A,d,e,x,y,a,b,hu,hu',h1,h2,r1,r2,v1,v2=>by
  have hd1:=h1;have hr1:=r1;obtain⟨l,xs,ds,rfl,g1,g2,g3⟩:=h1.x8 r1;cases v1;obtain⟨its,w1,pt,_⟩:=I.tuple g1;simp only[dep] at hu;cases u with
  | yo=>simp only[dep] at hu';omega
  | zp=>have q:=h2.flat r2;subst q;cases v2;simp only[eqT];exact SeqAt.EqAt.tuple_none pt (by omega)
  | bl b=>have q:=h2.flat r2;subst q;cases v2;simp only[eqT];exact SeqAt.EqAt.tuple_bool _ pt (by omega)
  | int i=>have q:=h2.flat r2;subst q;obtain⟨t,rfl⟩:=v2;simp only[eqT];exact SeqAt.EqAt.tuple_int _ _ pt (by omega)
  | str i=>have q:=h2.flat r2;subst q;obtain⟨t,rfl⟩:=v2;simp only[eqT];exact SeqAt.EqAt.tuple_str _ _ pt (by omega)
  | tup us=>
   by_cases hlb:(Value.ref l)=b
   .subst hlb;have hy:y=.ref l:=RelV.inj v2 rfl;subst hy;have:=k8 I p (.tup ts) (.tup us) hd1 h2 hr1 r2;rw[<- this,eS];exact SeqAt.EqAt.same _
   .obtain⟨l',xs',ds',rfl,k1,k2,k3⟩:=h2.x8 r2;cases v2;obtain⟨its',w2,pt',_⟩:=I.tuple k1;simp only[dep] at hu';have e1:its.toArray.size=ts.length:=by rw[zA0,<- w1.length,<- g2.length,<- g3.length]
    have e2:its'.toArray.size=us.length:=by rw[zA0,<- w2.length,<- k2.length,<- k3.length]
    have q:=SeqAt.RcAt.tuples (A:=A) (e:=λ j=>eqT (ts.getD j .zp) (us.getD j .zp)) pt pt' (by omega) λ j h1 h2=>by
     have:=pW I p ts us (A:=A.in1) (by show A.units+1+yH ts<cLine;omega) (by show A.units+1+yH us<cLine;omega) g3 k3 g2 k2 w1 w2 j (by simpa using h1) (by simpa using h2);simpa using this
    rw[e1,e2] at q;have q':=SeqAt.EqAt.of_refs (λ z=>hlb (by rw[z])) q;simp only[eqT,sM];exact q'
  | lst us=>obtain⟨l',xs',ds',rfl,k1,k2,k3⟩:=h2.xA p r2;cases v2;obtain⟨_,_,pl,_⟩:=I.list k1;simp only[eqT];exact SeqAt.EqAt.tuple_list pt pl.isList (by omega)
 | .lst ts,u,A,d,e,x,y,a,b,hu,hu',h1,h2,r1,r2,v1,v2=>by
  have hd1:=h1;have hr1:=r1;obtain⟨l,xs,ds,rfl,g1,g2,g3⟩:=h1.xA p r1;cases v1;obtain⟨its,w1,pl,_⟩:=I.list g1;simp only[dep] at hu;cases u with
  | yo=>simp only[dep] at hu';omega
  | zp=>have q:=h2.flat r2;subst q;cases v2;simp only[eqT];exact SeqAt.EqAt.list_none pl.isList (by omega)
  | bl b=>have q:=h2.flat r2;subst q;cases v2;simp only[eqT];exact SeqAt.EqAt.list_bool _ pl.isList (by omega)
  | int i=>have q:=h2.flat r2;subst q;obtain⟨t,rfl⟩:=v2;simp only[eqT];exact SeqAt.EqAt.list_int _ _ pl.isList (by omega)
  | str i=>have q:=h2.flat r2;subst q;obtain⟨t,rfl⟩:=v2;simp only[eqT];exact SeqAt.EqAt.list_str _ _ pl.isList (by omega)
  | tup us=>obtain⟨l',xs',ds',rfl,k1,k2,k3⟩:=h2.x8 r2;cases v2;obtain⟨_,_,pt,_⟩:=I.tuple k1;simp only[eqT];exact SeqAt.EqAt.list_tuple pl.isList pt (by omega)
  | lst us=>
   by_cases hlb:(Value.ref l)=b
   .subst hlb;have hy:y=.ref l:=RelV.inj v2 rfl;subst hy;have:=k8 I p (.lst ts) (.lst us) hd1 h2 hr1 r2;rw[<- this,eS];exact SeqAt.EqAt.same _
   .obtain⟨l',xs',ds',rfl,k1,k2,k3⟩:=h2.xA p r2;cases v2;obtain⟨its',w2,pl',_⟩:=I.list k1;simp only[dep] at hu';have e1:its.toArray.size=ts.length:=by rw[zA0,<- w1.length,<- g2.length,<- g3.length]
    have e2:its'.toArray.size=us.length:=by rw[zA0,<- w2.length,<- k2.length,<- k3.length]
    have hne:l≠l':=λ z=>hlb (by rw[z]);by_cases hsz:ts.length=us.length
    .have q:=SeqAt.RcAt.lists (A:=A) (e:=λ j=>eqT (ts.getD j .zp) (us.getD j .zp)) pl.isList pl'.isList (by rw[e1,e2];exact hsz) (by omega) λ j h1 h2=>by
      have:=pW I p ts us (A:=A.in1) (by show A.units+1+yH ts<cLine;omega) (by show A.units+1+yH us<cLine;omega) g3 k3 g2 k2 w1 w2 j (by simpa using h1) (by simpa using h2);simpa using this
     rw[e1] at q;have q':=SeqAt.EqAt.of_refs hne q;simp only[eqT,sM];rw[<- hsz,Nat.min_self];simpa using q'
    .have q:=SeqAt.RcAt.lists_lengths (A:=A) pl.isList pl'.isList (by rw[e1,e2];simpa using hsz) (by omega);have q':=SeqAt.EqAt.of_refs hne q;simp only[eqT,sM];have:(ts.length == us.length)=false:=by simpa using hsz
     rw[this,Bool.and_false];exact q'
 | .yo,u,A,d,e,x,y,a,b,hu,hu',h1,h2,r1,r2,v1,v2=>by simp only[dep] at hu;omega
theorem pW (I:Inv X pins B H s) (p:yb X.K H S):∀ (ts us:List T) {A:Around}{ds es:List D}{xs ys:List V}{its its':List Value},A.units+yH ts<cLine->A.units+yH us<cLine->zu S ts ds->zu S us es->zx X.K H ds xs->zx X.K H es ys->Vals xs its->Vals ys its'->
  ∀ (j:Nat) (h1:j<its.length) (h2:j<its'.length),SeqAt.EqAt A s its[j] its'[j] (eqT (ts.getD j .zp) (us.getD j .zp))
 | [],us,A,ds,es,xs,ys,its,its',hu,hu',s1,s2,r1,r2,v1,v2,j,h1,h2=>by
  rw[<- v1.length,<- r1.length,<- s1.length] at h1;simp at h1
 | t::ts,[],A,ds,es,xs,ys,its,its',hu,hu',s1,s2,r1,r2,v1,v2,j,h1,h2=>by
  rw[<- v2.length,<- r2.length,<- s2.length] at h2;simp at h2
 | t::ts,u::us,A,ds,es,xs,ys,its,its',hu,hu',s1,s2,r1,r2,v1,v2,j,h1,h2=>by
  simp only[zu] at s1 s2;obtain⟨c,cs,rfl,a1,a2⟩:=s1;obtain⟨c',cs',rfl,b1,b2⟩:=s2;simp only[zx] at r1 r2;obtain⟨y,ys,rfl,g1,g2⟩:=r1;obtain⟨y',ys',rfl,k1,k2⟩:=r2;cases v1 with
  | cons m1 m2=>
   cases v2 with
   | cons n1 n2=>
    simp only[yH] at hu hu';cases j with
    | zero=>simpa using Yu I p t u (A:=A) (by omega) (by omega) a1 b1 g1 k1 m1 n1
    | succ j=>simpa using pW I p ts us (A:=A) (by omega) (by omega) a2 b2 g2 k2 m2 n2 j (by simpa using h1) (by simpa using h2)
end
end
section
variable {X:Cx}{pins:List (Addr×Obj)}{B:St}{H:Hp}{s:Shared}{S:SS}
theorem U9 (I:Inv X pins B H s) (p:yb X.K H S):∀ (t u:T) {A:Around}{d e:D}{x y:V}{a b:Value},A.units+dep t<cLine->A.units+dep u<cLine->Sn S t d->Sn S u e->zo X.K H d x->zo X.K H e y->RelV x a->RelV y b->SeqAt.RcAt A s a b (eqT t u)
 | .zp,u,A,d,e,x,y,a,b,hu,hu',h1,h2,r1,r2,v1,v2=>by
  have q:=h1.flat r1;subst q;cases v1;cases u with
  | yo=>simp only[dep] at hu';omega
  | zp=>have q:=h2.flat r2;subst q;cases v2;simp only[eqT];exact SeqAt.RcAt.none_none
  | bl c2=>have q:=h2.flat r2;subst q;cases v2;simp only[eqT];exact SeqAt.RcAt.none_bool _
  | int c2=>have q:=h2.flat r2;subst q;obtain⟨tk2,rfl⟩:=v2;simp only[eqT];exact SeqAt.RcAt.none_int _ _
  | str c2=>have q:=h2.flat r2;subst q;obtain⟨tk2,rfl⟩:=v2;simp only[eqT];exact SeqAt.RcAt.none_str _ _
  | tup c2=>obtain⟨l',xs',ds',rfl,k1,k2,k3⟩:=h2.x8 r2;cases v2;obtain⟨its',w2,pt',_⟩:=I.tuple k1;simp only[dep] at hu';simp only[eqT];exact SeqAt.RcAt.none_tuple pt' (by omega)
  | lst c2=>obtain⟨l',xs',ds',rfl,k1,k2,k3⟩:=h2.xA p r2;cases v2;obtain⟨its',w2,pl',_⟩:=I.list k1;simp only[dep] at hu';simp only[eqT];exact SeqAt.RcAt.none_list pl'.isList (by omega)
 | .bl c,u,A,d,e,x,y,a,b,hu,hu',h1,h2,r1,r2,v1,v2=>by
  have q:=h1.flat r1;subst q;cases v1;cases u with
  | yo=>simp only[dep] at hu';omega
  | zp=>have q:=h2.flat r2;subst q;cases v2;simp only[eqT];exact SeqAt.RcAt.bool_none _
  | bl c2=>have q:=h2.flat r2;subst q;cases v2;simp only[eqT];exact SeqAt.RcAt.bool_bool _ _
  | int c2=>have q:=h2.flat r2;subst q;obtain⟨tk2,rfl⟩:=v2;simp only[eqT];exact SeqAt.RcAt.bool_int _ _ _
  | str c2=>have q:=h2.flat r2;subst q;obtain⟨tk2,rfl⟩:=v2;simp only[eqT];exact SeqAt.RcAt.bool_str _ _ _
  | tup c2=>obtain⟨l',xs',ds',rfl,k1,k2,k3⟩:=h2.x8 r2;cases v2;obtain⟨its',w2,pt',_⟩:=I.tuple k1;simp only[dep] at hu';simp only[eqT];exact SeqAt.RcAt.bool_tuple _ pt' (by omega)
  | lst c2=>obtain⟨l',xs',ds',rfl,k1,k2,k3⟩:=h2.xA p r2;cases v2;obtain⟨its',w2,pl',_⟩:=I.list k1;simp only[dep] at hu';simp only[eqT];exact SeqAt.RcAt.bool_list _ pl'.isList (by omega)
 | .int c,u,A,d,e,x,y,a,b,hu,hu',h1,h2,r1,r2,v1,v2=>by
  have q:=h1.flat r1;subst q;obtain⟨tk,rfl⟩:=v1;cases u with
  | yo=>simp only[dep] at hu';omega
  | zp=>have q:=h2.flat r2;subst q;cases v2;simp only[eqT];exact SeqAt.RcAt.int_none _ _
  | bl c2=>have q:=h2.flat r2;subst q;cases v2;simp only[eqT];exact SeqAt.RcAt.int_bool _ _ _
  | int c2=>have q:=h2.flat r2;subst q;obtain⟨tk2,rfl⟩:=v2;simp only[eqT];exact SeqAt.RcAt.int_int _ _ _ _
  | str c2=>have q:=h2.flat r2;subst q;obtain⟨tk2,rfl⟩:=v2;simp only[eqT];exact SeqAt.RcAt.int_str _ _ _ _
  | tup c2=>obtain⟨l',xs',ds',rfl,k1,k2,k3⟩:=h2.x8 r2;cases v2;obtain⟨its',w2,pt',_⟩:=I.tuple k1;simp only[dep] at hu';simp only[eqT];exact SeqAt.RcAt.int_tuple _ _ pt' (by omega)
  | lst c2=>obtain⟨l',xs',ds',rfl,k1,k2,k3⟩:=h2.xA p r2;cases v2;obtain⟨its',w2,pl',_⟩:=I.list k1;simp only[dep] at hu';simp only[eqT];exact SeqAt.RcAt.int_list _ _ pl'.isList (by omega)
 | .str c,u,A,d,e,x,y,a,b,hu,hu',h1,h2,r1,r2,v1,v2=>by
  have q:=h1.flat r1;subst q;obtain⟨tk,rfl⟩:=v1;cases u with
  | yo=>simp only[dep] at hu';omega
  | zp=>have q:=h2.flat r2;subst q;cases v2;simp only[eqT];exact SeqAt.RcAt.str_none _ _
  | bl c2=>have q:=h2.flat r2;subst q;cases v2;simp only[eqT];exact SeqAt.RcAt.str_bool _ _ _
  | int c2=>have q:=h2.flat r2;subst q;obtain⟨tk2,rfl⟩:=v2;simp only[eqT];exact SeqAt.RcAt.str_int _ _ _ _
  | str c2=>have q:=h2.flat r2;subst q;obtain⟨tk2,rfl⟩:=v2;simp only[eqT];exact SeqAt.RcAt.str_str _ _ _ _
  | tup c2=>obtain⟨l',xs',ds',rfl,k1,k2,k3⟩:=h2.x8 r2;cases v2;obtain⟨its',w2,pt',_⟩:=I.tuple k1;simp only[dep] at hu';simp only[eqT];exact SeqAt.RcAt.str_tuple _ _ pt' (by omega)
  | lst c2=>obtain⟨l',xs',ds',rfl,k1,k2,k3⟩:=h2.xA p r2;cases v2;obtain⟨its',w2,pl',_⟩:=I.list k1;simp only[dep] at hu';simp only[eqT];exact SeqAt.RcAt.str_list _ _ pl'.isList (by omega)
 | .tup c,u,A,d,e,x,y,a,b,hu,hu',h1,h2,r1,r2,v1,v2=>by
  obtain⟨l,xs,ds,rfl,g1,g2,g3⟩:=h1.x8 r1;cases v1;obtain⟨its,w1,pt,_⟩:=I.tuple g1;simp only[dep] at hu;cases u with
  | yo=>simp only[dep] at hu';omega
  | zp=>have q:=h2.flat r2;subst q;cases v2;simp only[eqT];exact SeqAt.RcAt.tuple_none pt (by omega)
  | bl c2=>have q:=h2.flat r2;subst q;cases v2;simp only[eqT];exact SeqAt.RcAt.tuple_bool _ pt (by omega)
  | int c2=>have q:=h2.flat r2;subst q;obtain⟨tk2,rfl⟩:=v2;simp only[eqT];exact SeqAt.RcAt.tuple_int _ _ pt (by omega)
  | str c2=>have q:=h2.flat r2;subst q;obtain⟨tk2,rfl⟩:=v2;simp only[eqT];exact SeqAt.RcAt.tuple_str _ _ pt (by omega)
  | tup c2=>
   obtain⟨l',xs',ds',rfl,k1,k2,k3⟩:=h2.x8 r2;cases v2;obtain⟨its',w2,pt',_⟩:=I.tuple k1;simp only[dep] at hu';have e1:its.toArray.size=c.length:=by rw[zA0,<- w1.length,<- g2.length,<- g3.length]
   have e2:its'.toArray.size=c2.length:=by rw[zA0,<- w2.length,<- k2.length,<- k3.length]
   have q:=SeqAt.RcAt.tuples (A:=A) (e:=λ j=>eqT (c.getD j .zp) (c2.getD j .zp)) pt pt' (by omega) λ j h1 h2=>by
    have:=pW I p c c2 (A:=A.in1) (by show A.units+1+yH c<cLine;omega) (by show A.units+1+yH c2<cLine;omega) g3 k3 g2 k2 w1 w2 j (by simpa using h1) (by simpa using h2);simpa using this
   rw[e1,e2] at q;simp only[eqT,sM];exact q
  | lst c2=>obtain⟨l',xs',ds',rfl,k1,k2,k3⟩:=h2.xA p r2;cases v2;obtain⟨its',w2,pl',_⟩:=I.list k1;simp only[dep] at hu';simp only[eqT];exact SeqAt.RcAt.tuple_list pt pl'.isList (by omega)
 | .lst c,u,A,d,e,x,y,a,b,hu,hu',h1,h2,r1,r2,v1,v2=>by
  obtain⟨l,xs,ds,rfl,g1,g2,g3⟩:=h1.xA p r1;cases v1;obtain⟨its,w1,pl,_⟩:=I.list g1;simp only[dep] at hu;cases u with
  | yo=>simp only[dep] at hu';omega
  | zp=>have q:=h2.flat r2;subst q;cases v2;simp only[eqT];exact SeqAt.RcAt.list_none pl.isList (by omega)
  | bl c2=>have q:=h2.flat r2;subst q;cases v2;simp only[eqT];exact SeqAt.RcAt.list_bool _ pl.isList (by omega)
  | int c2=>have q:=h2.flat r2;subst q;obtain⟨tk2,rfl⟩:=v2;simp only[eqT];exact SeqAt.RcAt.list_int _ _ pl.isList (by omega)
  | str c2=>have q:=h2.flat r2;subst q;obtain⟨tk2,rfl⟩:=v2;simp only[eqT];exact SeqAt.RcAt.list_str _ _ pl.isList (by omega)
  | tup c2=>obtain⟨l',xs',ds',rfl,k1,k2,k3⟩:=h2.x8 r2;cases v2;obtain⟨its',w2,pt',_⟩:=I.tuple k1;simp only[dep] at hu';simp only[eqT];exact SeqAt.RcAt.list_tuple pl.isList pt' (by omega)
  | lst c2=>
   obtain⟨l',xs',ds',rfl,k1,k2,k3⟩:=h2.xA p r2;cases v2;obtain⟨its',w2,pl',_⟩:=I.list k1;simp only[dep] at hu';have e1:its.toArray.size=c.length:=by rw[zA0,<- w1.length,<- g2.length,<- g3.length]
   have e2:its'.toArray.size=c2.length:=by rw[zA0,<- w2.length,<- k2.length,<- k3.length]
   by_cases hsz:c.length=c2.length
   .have q:=SeqAt.RcAt.lists (A:=A) (e:=λ j=>eqT (c.getD j .zp) (c2.getD j .zp)) pl.isList pl'.isList (by rw[e1,e2];exact hsz) (by omega) λ j h1 h2=>by
     have:=pW I p c c2 (A:=A.in1) (by show A.units+1+yH c<cLine;omega) (by show A.units+1+yH c2<cLine;omega) g3 k3 g2 k2 w1 w2 j (by simpa using h1) (by simpa using h2);simpa using this
    rw[e1] at q;simp only[eqT,sM];rw[<- hsz,Nat.min_self];simpa using q
   .have q:=SeqAt.RcAt.lists_lengths (A:=A) pl.isList pl'.isList (by rw[e1,e2];simpa using hsz) (by omega);simp only[eqT,sM];have z:(c.length == c2.length)=false:=by simpa using hsz
    rw[z,Bool.and_false];exact q
 | .yo,u,A,d,e,x,y,a,b,hu,hu',h1,h2,r1,r2,v1,v2=>by simp only[dep] at hu;omega
theorem U7 (I:Inv X pins B H s) (p:yb X.K H S):∀ (t u:T) {A:Around}{d e:D}{x y:V}{a b:Value},A.units+dep t<cLine->A.units+dep u<cLine->Sn S t d->Sn S u e->zo X.K H d x->zo X.K H e y->RelV x a->RelV y b->SeqAt.RcNeAt A s a b (!eqT t u)
 | .zp,u,A,d,e,x,y,a,b,hu,hu',h1,h2,r1,r2,v1,v2=>by
  have q:=h1.flat r1;subst q;cases v1;cases u with
  | yo=>simp only[dep] at hu';omega
  | zp=>have q:=h2.flat r2;subst q;cases v2;simp only[eqT,zB2,zB5];exact SeqAt.RcNeAt.none_none
  | bl c2=>have q:=h2.flat r2;subst q;cases v2;simp only[eqT,zB2,zB5];exact SeqAt.RcNeAt.none_bool _
  | int c2=>have q:=h2.flat r2;subst q;obtain⟨tk2,rfl⟩:=v2;simp only[eqT,zB2,zB5];exact SeqAt.RcNeAt.none_int _ _
  | str c2=>have q:=h2.flat r2;subst q;obtain⟨tk2,rfl⟩:=v2;simp only[eqT,zB2,zB5];exact SeqAt.RcNeAt.none_str _ _
  | tup c2=>obtain⟨l',xs',ds',rfl,k1,k2,k3⟩:=h2.x8 r2;cases v2;obtain⟨its',w2,pt',_⟩:=I.tuple k1;simp only[dep] at hu';simp only[eqT,zB2,zB5];exact SeqAt.RcNeAt.none_tuple pt' (by omega)
  | lst c2=>obtain⟨l',xs',ds',rfl,k1,k2,k3⟩:=h2.xA p r2;cases v2;obtain⟨its',w2,pl',_⟩:=I.list k1;simp only[dep] at hu';simp only[eqT,zB2,zB5];exact SeqAt.RcNeAt.none_list pl'.isList (by omega)
 | .bl c,u,A,d,e,x,y,a,b,hu,hu',h1,h2,r1,r2,v1,v2=>by
  have q:=h1.flat r1;subst q;cases v1;cases u with
  | yo=>simp only[dep] at hu';omega
  | zp=>have q:=h2.flat r2;subst q;cases v2;simp only[eqT,zB2,zB5];exact SeqAt.RcNeAt.bool_none _
  | bl c2=>have q:=h2.flat r2;subst q;cases v2;simp only[eqT];exact SeqAt.RcNeAt.bool_bool _ _
  | int c2=>have q:=h2.flat r2;subst q;obtain⟨tk2,rfl⟩:=v2;simp only[eqT];exact SeqAt.RcNeAt.bool_int _ _ _
  | str c2=>have q:=h2.flat r2;subst q;obtain⟨tk2,rfl⟩:=v2;simp only[eqT,zB2,zB5];exact SeqAt.RcNeAt.bool_str _ _ _
  | tup c2=>obtain⟨l',xs',ds',rfl,k1,k2,k3⟩:=h2.x8 r2;cases v2;obtain⟨its',w2,pt',_⟩:=I.tuple k1;simp only[dep] at hu';simp only[eqT,zB2,zB5];exact SeqAt.RcNeAt.bool_tuple _ pt' (by omega)
  | lst c2=>obtain⟨l',xs',ds',rfl,k1,k2,k3⟩:=h2.xA p r2;cases v2;obtain⟨its',w2,pl',_⟩:=I.list k1;simp only[dep] at hu';simp only[eqT,zB2,zB5];exact SeqAt.RcNeAt.bool_list _ pl'.isList (by omega)
 | .int c,u,A,d,e,x,y,a,b,hu,hu',h1,h2,r1,r2,v1,v2=>by
  have q:=h1.flat r1;subst q;obtain⟨tk,rfl⟩:=v1;cases u with
  | yo=>simp only[dep] at hu';omega
  | zp=>have q:=h2.flat r2;subst q;cases v2;simp only[eqT,zB2,zB5];exact SeqAt.RcNeAt.int_none _ _
  | bl c2=>have q:=h2.flat r2;subst q;cases v2;simp only[eqT];exact SeqAt.RcNeAt.int_bool _ _ _
  | int c2=>have q:=h2.flat r2;subst q;obtain⟨tk2,rfl⟩:=v2;simp only[eqT];exact SeqAt.RcNeAt.int_int _ _ _ _
  | str c2=>have q:=h2.flat r2;subst q;obtain⟨tk2,rfl⟩:=v2;simp only[eqT,zB2,zB5];exact SeqAt.RcNeAt.int_str _ _ _ _
  | tup c2=>obtain⟨l',xs',ds',rfl,k1,k2,k3⟩:=h2.x8 r2;cases v2;obtain⟨its',w2,pt',_⟩:=I.tuple k1;simp only[dep] at hu';simp only[eqT,zB2,zB5];exact SeqAt.RcNeAt.int_tuple _ _ pt' (by omega)
  | lst c2=>obtain⟨l',xs',ds',rfl,k1,k2,k3⟩:=h2.xA p r2;cases v2;obtain⟨its',w2,pl',_⟩:=I.list k1;simp only[dep] at hu';simp only[eqT,zB2,zB5];exact SeqAt.RcNeAt.int_list _ _ pl'.isList (by omega)
 | .str c,u,A,d,e,x,y,a,b,hu,hu',h1,h2,r1,r2,v1,v2=>by
  have q:=h1.flat r1;subst q;obtain⟨tk,rfl⟩:=v1;cases u with
  | yo=>simp only[dep] at hu';omega
  | zp=>have q:=h2.flat r2;subst q;cases v2;simp only[eqT,zB2,zB5];exact SeqAt.RcNeAt.str_none _ _
  | bl c2=>have q:=h2.flat r2;subst q;cases v2;simp only[eqT,zB2,zB5];exact SeqAt.RcNeAt.str_bool _ _ _
  | int c2=>have q:=h2.flat r2;subst q;obtain⟨tk2,rfl⟩:=v2;simp only[eqT,zB2,zB5];exact SeqAt.RcNeAt.str_int _ _ _ _
  | str c2=>have q:=h2.flat r2;subst q;obtain⟨tk2,rfl⟩:=v2;simp only[eqT];exact SeqAt.RcNeAt.str_str _ _ _ _
  | tup c2=>obtain⟨l',xs',ds',rfl,k1,k2,k3⟩:=h2.x8 r2;cases v2;obtain⟨its',w2,pt',_⟩:=I.tuple k1;simp only[dep] at hu';simp only[eqT,zB2,zB5];exact SeqAt.RcNeAt.str_tuple _ _ pt' (by omega)
  | lst c2=>obtain⟨l',xs',ds',rfl,k1,k2,k3⟩:=h2.xA p r2;cases v2;obtain⟨its',w2,pl',_⟩:=I.list k1;simp only[dep] at hu';simp only[eqT,zB2,zB5];exact SeqAt.RcNeAt.str_list _ _ pl'.isList (by omega)
 | .tup c,u,A,d,e,x,y,a,b,hu,hu',h1,h2,r1,r2,v1,v2=>by
  obtain⟨l,xs,ds,rfl,g1,g2,g3⟩:=h1.x8 r1;cases v1;obtain⟨its,w1,pt,_⟩:=I.tuple g1;simp only[dep] at hu;cases u with
  | yo=>simp only[dep] at hu';omega
  | zp=>have q:=h2.flat r2;subst q;cases v2;simp only[eqT,zB2,zB5];exact SeqAt.RcNeAt.tuple_none pt (by omega)
  | bl c2=>have q:=h2.flat r2;subst q;cases v2;simp only[eqT,zB2,zB5];exact SeqAt.RcNeAt.tuple_bool _ pt (by omega)
  | int c2=>have q:=h2.flat r2;subst q;obtain⟨tk2,rfl⟩:=v2;simp only[eqT,zB2,zB5];exact SeqAt.RcNeAt.tuple_int _ _ pt (by omega)
  | str c2=>have q:=h2.flat r2;subst q;obtain⟨tk2,rfl⟩:=v2;simp only[eqT,zB2,zB5];exact SeqAt.RcNeAt.tuple_str _ _ pt (by omega)
  | tup c2=>
   obtain⟨l',xs',ds',rfl,k1,k2,k3⟩:=h2.x8 r2;cases v2;obtain⟨its',w2,pt',_⟩:=I.tuple k1;simp only[dep] at hu';have e1:its.toArray.size=c.length:=by rw[zA0,<- w1.length,<- g2.length,<- g3.length]
   have e2:its'.toArray.size=c2.length:=by rw[zA0,<- w2.length,<- k2.length,<- k3.length]
   have q:=SeqAt.RcNeAt.tuples (A:=A) (e:=λ j=>eqT (c.getD j .zp) (c2.getD j .zp)) pt pt' (by omega) λ j h1 h2=>by
    have:=pW I p c c2 (A:=A.in1) (by show A.units+1+yH c<cLine;omega) (by show A.units+1+yH c2<cLine;omega) g3 k3 g2 k2 w1 w2 j (by simpa using h1) (by simpa using h2);simpa using this
   rw[e1,e2] at q;simp only[eqT,sM];exact q
  | lst c2=>obtain⟨l',xs',ds',rfl,k1,k2,k3⟩:=h2.xA p r2;cases v2;obtain⟨its',w2,pl',_⟩:=I.list k1;simp only[dep] at hu';simp only[eqT,zB2,zB5];exact SeqAt.RcNeAt.tuple_list pt pl'.isList (by omega)
 | .lst c,u,A,d,e,x,y,a,b,hu,hu',h1,h2,r1,r2,v1,v2=>by
  obtain⟨l,xs,ds,rfl,g1,g2,g3⟩:=h1.xA p r1;cases v1;obtain⟨its,w1,pl,_⟩:=I.list g1;simp only[dep] at hu;cases u with
  | yo=>simp only[dep] at hu';omega
  | zp=>have q:=h2.flat r2;subst q;cases v2;simp only[eqT,zB2,zB5];exact SeqAt.RcNeAt.list_none pl.isList (by omega)
  | bl c2=>have q:=h2.flat r2;subst q;cases v2;simp only[eqT,zB2,zB5];exact SeqAt.RcNeAt.list_bool _ pl.isList (by omega)
  | int c2=>have q:=h2.flat r2;subst q;obtain⟨tk2,rfl⟩:=v2;simp only[eqT,zB2,zB5];exact SeqAt.RcNeAt.list_int _ _ pl.isList (by omega)
  | str c2=>have q:=h2.flat r2;subst q;obtain⟨tk2,rfl⟩:=v2;simp only[eqT,zB2,zB5];exact SeqAt.RcNeAt.list_str _ _ pl.isList (by omega)
  | tup c2=>obtain⟨l',xs',ds',rfl,k1,k2,k3⟩:=h2.x8 r2;cases v2;obtain⟨its',w2,pt',_⟩:=I.tuple k1;simp only[dep] at hu';simp only[eqT,zB2,zB5];exact SeqAt.RcNeAt.list_tuple pl.isList pt' (by omega)
  | lst c2=>
   obtain⟨l',xs',ds',rfl,k1,k2,k3⟩:=h2.xA p r2;cases v2;obtain⟨its',w2,pl',_⟩:=I.list k1;simp only[dep] at hu';have e1:its.toArray.size=c.length:=by rw[zA0,<- w1.length,<- g2.length,<- g3.length]
   have e2:its'.toArray.size=c2.length:=by rw[zA0,<- w2.length,<- k2.length,<- k3.length]
   by_cases hsz:c.length=c2.length
   .have q:=SeqAt.RcNeAt.lists (A:=A) (e:=λ j=>eqT (c.getD j .zp) (c2.getD j .zp)) pl.isList pl'.isList (by rw[e1,e2];exact hsz) (by omega) λ j h1 h2=>by
     have:=pW I p c c2 (A:=A.in1) (by show A.units+1+yH c<cLine;omega) (by show A.units+1+yH c2<cLine;omega) g3 k3 g2 k2 w1 w2 j (by simpa using h1) (by simpa using h2);simpa using this
    rw[e1] at q;simp only[eqT,sM];rw[<- hsz,Nat.min_self];simpa using q
   .have q:=SeqAt.RcNeAt.lists_lengths (A:=A) pl.isList pl'.isList (by rw[e1,e2];simpa using hsz) (by omega);simp only[eqT,sM];have z:(c.length == c2.length)=false:=by simpa using hsz
    rw[z,Bool.and_false];exact q
 | .yo,u,A,d,e,x,y,a,b,hu,hu',h1,h2,r1,r2,v1,v2=>by simp only[dep] at hu;omega
end
def g_ (K:zFr) (neg:Bool):R2:=λ x y H Q=>∃ S d e t u,zo K H d x/\zo K H e y/\yb K H S/\Sn S t d/\Sn S u e/\dep t<=60/\dep u<=60/\Q (.bl (cond neg (!eqT t u) (eqT t u))) H
def tP (neg:Bool):xx:=λ x y S Q=>∃ t u,Sn S t x/\Sn S u y/\dep t<=60/\dep u<=60/\Q (.bl (cond neg (!eqT t u) (eqT t u))) S
def tP.mo {neg:Bool}:wI (tP neg):=λ _ _ _ _ _ hq ⟨t,u,a,b,c,d,h⟩=>⟨t,u,a,b,c,d,hq _ _ h⟩
def tP.fits {K:zFr}{neg:Bool}:wo K (tP neg) (g_ K neg):=λ x y d e H S Q h1 h2 h3 ⟨t,u,a,b,c,c',h⟩=>⟨S,d,e,t,u,h1,h2,h3,a,b,c,c',h _ H (by simp only[zo]) (.refl H) h3⟩
section
variable {X:Cx}{a b:Expr}{ta tb:zI}{pos:Pos}
def Ri (hu:X.A.units+64<cLine):y9 X (compareOp .Eq) (g_ X.K false):=by
 intro pins s B H x y v u Q I rx ry h;obtain⟨S,d,e,t,u',a1,a2,a3,a4,a5,a6,a7,q⟩:=h;exact U9 I a3 t u' (A:=X.A) (by omega) (by omega) a4 a5 a1 a2 rx ry X.prog X.w X.xe _ ⟨.bl _,H,I,rfl,q⟩
def SU (hu:X.A.units+64<cLine):y9 X (compareOp .NotEq) (g_ X.K true):=by
 intro pins s B H x y v u Q I rx ry h;obtain⟨S,d,e,t,u',a1,a2,a3,a4,a5,a6,a7,q⟩:=h;exact U7 I a3 t u' (A:=X.A) (by omega) (by omega) a4 a5 a1 a2 rx ry X.prog X.w X.xe _ ⟨.bl _,H,I,rfl,q⟩
def x_ {k:Nat}(hr:y_ k X.A) (ha:PD X a ta) (hb:PD X b tb):w6 X (.Compare a [.Eq] [b] pos) (ud (yK (tP false) ta tb)):=rJ (Ri hr.units) tP.fits tP.mo ha hb (tH _)
def ja {k:Nat}(hr:y_ k X.A) (ha:PD X a ta) (hb:PD X b tb):w6 X (.Compare a [.NotEq] [b] pos) (ud (yK (tP true) ta tb)):=rJ (SU hr.units) tP.fits tP.mo ha hb (tH _)
def aq (K:zFr) (neg:Bool):R2:=λ x y H Q=>∃ S d e u ts ds,zo K H d x/\zo K H e y/\yb K H S/\Sn S u d/\yz e S=some ds/\zu S ts ds/\dep u<=60/\yH ts<=60/\Q (.bl (cond neg (!(ts.any λ t=>eqT t u)) (ts.any λ t=>eqT t u))) H
def qP (neg:Bool):xx:=λ x y S Q=>∃ u ts ds,Sn S u x/\yz y S=some ds/\zu S ts ds/\dep u<=60/\yH ts<=60/\Q (.bl (cond neg (!(ts.any λ t=>eqT t u)) (ts.any λ t=>eqT t u))) S
def qP.mo {neg:Bool}:wI (qP neg):=λ _ _ _ _ _ hq ⟨u,ts,ds,a,b,c,d,e,h⟩=>⟨u,ts,ds,a,b,c,d,e,hq _ _ h⟩
def qP.fits {K:zFr}{neg:Bool}:wo K (qP neg) (aq K neg):=λ x y d e H S Q h1 h2 h3 ⟨u,ts,ds,a,b,c,c',c2,h⟩=>⟨S,d,e,u,ts,ds,h1,h2,h3,a,b,c,c',c2,h _ H (by simp only[zo]) (.refl H) h3⟩
open Classical in
noncomputable def sW (its:List Value) (ts:List T) (u:T) (v:Value):Bool:=if h:∃ j,its[j]?=some v then eqT (ts.getD (Classical.choose h) .zp) u else false
def dB {pins:List (Addr×Obj)}{B:St}{H:Hp}{s:Shared}{S:SS}(I:Inv X pins B H s) (p:yb X.K H S) {ts:List T}{ds:List D}{xs:List V}{its:List Value}(h1:zu S ts ds) (h2:zx X.K H ds xs) (h3:Vals xs its) (u:T) {j:Nat}{v:Value}(hj:its[j]?=some v):
  sW its ts u v=eqT (ts.getD j .zp) u:=by
 have h:∃ j,its[j]?=some v:=⟨j,hj⟩
 unfold sW;rw[dif_pos h];have hc:=Classical.choose_spec h;have lt:∀ i,its[i]?=some v->i<ts.length:=λ i hi=>by
  rw[h1.length,h2.length,h3.length];exact (zA2.mp hi).1
 obtain⟨c1,e1,s1⟩:=h1.get (lt _ hc);obtain⟨c2,e2,s2⟩:=h1.get (lt _ hj);obtain⟨x1,f1,r1⟩:=h2.get e1;obtain⟨x2,f2,r2⟩:=h2.get e2;obtain⟨v1,g1,q1⟩:=h3.get f1;obtain⟨v2,g2,q2⟩:=h3.get f2;rw[hc] at g1;cases g1;rw[hj] at g2;cases g2;have hx:=q1.inj q2;subst hx;rw[k8 I p _ _ s1 s2 r1 r2]
def Xv {pins:List (Addr×Obj)}{B:St}{H:Hp}{s:Shared}{S:SS}(I:Inv X pins B H s) (p:yb X.K H S) {ts:List T}{ds:List D}{xs:List V}{its:List Value}(h1:zu S ts ds) (h2:zx X.K H ds xs) (h3:Vals xs its) (u:T):its.any (sW its ts u)=ts.any λ t=>eqT t u:=by
 have hl:ts.length=its.length:=by rw[h1.length,h2.length,h3.length]
 rw[zC7,zD0,zD0];constructor
 .rintro⟨v,hv,h⟩;obtain⟨j,hj,rfl⟩:=List.mem_iff_getElem.mp hv;rw[dB I p h1 h2 h3 u (j:=j) (by simp[hj])] at h;have hj':j<ts.length:=by omega
  exact⟨ts[j],zD8 hj',by simpa [hj'] using h⟩
 .rintro⟨t,ht,h⟩;obtain⟨j,hj,rfl⟩:=List.mem_iff_getElem.mp ht;have hj':j<its.length:=by omega
  exact⟨its[j],zD8 hj',by rw[dB I p h1 h2 h3 u (j:=j) (by simp[hj'])];simpa [hj] using h⟩
def Xw {pins:List (Addr×Obj)}{B:St}{H:Hp}{s:Shared}{S:SS}(I:Inv X pins B H s) (p:yb X.K H S) {ts:List T}{ds:List D}{xs:List V}{its:List Value}(h1:zu S ts ds) (h2:zx X.K H ds xs) (h3:Vals xs its) {u:T}{d:D}{x:V}{v:Value}(hu:Sn S u d) (hd:zo X.K H d x) (hx:RelV x v) {A:Around}(b1:A.units+yH ts<cLine) (b2:A.units+dep u<cLine) {y:Value}(hy:y∈its):
  SeqAt.EqAt A s y v (sW its ts u y):=by
 obtain⟨j,hj,rfl⟩:=List.mem_iff_getElem.mp hy;have hjt:j<ts.length:=by rw[h1.length,h2.length,h3.length];exact hj
 rw[dB I p h1 h2 h3 u (j:=j) (by simp[hj])];obtain⟨c1,e1,s1⟩:=h1.get hjt;obtain⟨x1,f1,r1⟩:=h2.get e1;obtain⟨v1,g1,q1⟩:=h3.get f1;have:its[j]=v1:=by
  have:=zA2.mp g1;exact this.2
 rw[this];have:=Y7 hjt;exact Yu I p _ u (A:=A) (by omega) b2 s1 hu r1 hd q1 hx
def Rf (hu:X.A.units+64<cLine):y9 X (compareOp .In) (aq X.K false):=by
 intro pins s B H x y v w Q I rx ry h;obtain⟨S,d,e,u,ts,ds,a1,a2,a3,a4,a5,a6,a7,a8,q⟩:=h;obtain⟨l,xs,rfl,g1,g2⟩:=yz.sq a2 a3 a5;cases ry;rcases g1 with g1 | g1
 .obtain⟨its,w1,pl,_⟩:=I.list g1;refine SeqAt.in_listAt (sW its ts u) pl.isList (λ y hy=>Xw I a3 a6 g2 w1 a4 a1 rx (A:=X.A.in1) (by show X.A.units+1+_<_;omega) (by show X.A.units+1+_<_;omega) (by simpa using hy)) ⟨.bl _,H,I,rfl,?_⟩;rw[show its.toArray.any (sW its ts u)=its.any (sW its ts u) by simp,Xv I a3 a6 g2 w1];exact q
 .obtain⟨its,w1,pt,_⟩:=I.tuple g1;refine SeqAt.in_tupleAt (sW its ts u) pt (λ y hy=>Xw I a3 a6 g2 w1 a4 a1 rx (A:=X.A.in1) (by show X.A.units+1+_<_;omega) (by show X.A.units+1+_<_;omega) (by simpa using hy)) ⟨.bl _,H,I,rfl,?_⟩;rw[show its.toArray.any (sW its ts u)=its.any (sW its ts u) by simp,Xv I a3 a6 g2 w1];exact q
def Sf {k:Nat}(hr:y_ k X.A) (ha:PD X a ta) (hb:PD X b tb) (hm:behindInMarks .In b=false:=by rfl):w6 X (.Compare a [.In] [b] pos) (ud (yK (qP false) ta tb)):=rJ (Rf hr.units) qP.fits qP.mo ha hb hm
end
end L3
namespace L2
open PySem PySem.Spec PyProof.Rows
section
variable {κ:Type} [DecidableEq κ]
noncomputable def vp (kvs:List (κ × V)) (k:κ):Option V:=(kvs.find? λ kv=>decide (kv.1=k)).map (·.2)
noncomputable def putK (kvs:List (κ × V)) (k:κ) (v:V):List (κ × V):=
 if (kvs.any λ kv=>decide (kv.1=k))=true then kvs.map (λ kv=>if kv.1=k then (kv.1,v) else kv) else kvs++[(k,v)]
def iK {p:κ × V}{r:List (κ × V)}{k:κ}(e:p.1=k):vp (p::r) k=some p.2:=by simp[vp,List.find?_cons,e]
def iL {p:κ × V}{r:List (κ × V)}{k:κ}(e:¬ p.1=k):vp (p::r) k=vp r k:=by simp[vp,List.find?_cons,e]
theorem c_ (k:κ):∀ kvs:List (κ × V),(kvs.any λ kv=>decide (kv.1=k))=(vp kvs k).isSome
 | []=>rfl
 | p::r=>by
  rw[List.any_cons];by_cases e:p.1=k
  .simp only[iK e,decide_eq_true e,Bool.true_or,Option.isSome_some]
  .rw[iL e,decide_eq_false e,Bool.false_or];exact c_ k r
def Zz (kvs:List (κ × V)) (k:κ) (v:V):(putK kvs k v).length<=kvs.length+1:=by
 unfold putK;split
 .rw[zA7];omega
 .rw[zD7,zC0,List.length_nil];omega
def t4.Pf {o:Option V}{u:Option Value}(r:t4 o u):o.isSome=u.isSome:=by
 cases o with
 | none=>cases u with
  | none=>rfl
  | some _=>exact (show False from r).elim
 | some _=>cases u with
  | none=>exact (show False from r).elim
  | some _=>rfl
theorem t4.getD {o:Option V}{u:Option Value}{d:V}{d':Value}(r:t4 o u) (rd:RelV d d'):RelV (o.getD d) (u.getD d'):=by
 cases o with
 | none=>cases u with
  | none=>exact rd
  | some _=>exact (show False from r).elim
 | some _=>cases u with
  | none=>exact (show False from r).elim
  | some _=>exact r
def KV.val {kvs:List (κ × V)}{vs:List (κ × Value)}(r:KV kvs vs) (k:κ):t4 (vp kvs k) (valueAt vs k):=by
 unfold KV at r
 induction r with
 | nil=>exact True.intro
 | @cons p q ps qs h t ih=>
  obtain⟨h1,h2⟩:=h;by_cases e:p.1=k
  .have e':q.1=k:=h1.symm.trans e;have b:valueAt (q::qs) k=some q.2:=by simp[valueAt,List.find?_cons,e']
   rw[iK e,b];exact h2
  .have e':¬ q.1=k:=λ z=>e (h1.trans z);have b:valueAt (q::qs) k=valueAt qs k:=by simp[valueAt,List.find?_cons,e']
   rw[iL e,b];exact ih
theorem KV.any {kvs:List (κ × V)}{vs:List (κ × Value)}(r:KV kvs vs) (k:κ):(kvs.any λ kv=>decide (kv.1=k))=vs.any λ kv=>decide (kv.1=k):=by
 unfold KV at r
 induction r with
 | nil=>rfl
 | cons h t ih=>rw[List.any_cons,List.any_cons,ih,h.1]
def KV.sd {kvs:List (κ × V)}{vs:List (κ × Value)}(r:KV kvs vs) (k:κ) {y:V}{u:Value}(ry:RelV y u):
  KV (kvs.map λ kv=>if kv.1=k then (kv.1,y) else kv) (vs.map λ kv=>if kv.1=k then (kv.1,u) else kv):=by
 unfold KV at r ⊢
 induction r with
 | nil=>exact .nil
 | @cons p q ps qs h t ih=>
  rw[zA6,zA6];refine .cons ?_ ih;obtain⟨h1,h2⟩:=h;by_cases e:p.1=k
  .rw[if_pos e,if_pos (h1.symm.trans e)];exact⟨h1,ry⟩
  .rw[if_neg e,if_neg (λ z=>e (h1.trans z))];exact⟨h1,h2⟩
def KV.put {kvs:List (κ × V)}{vs:List (κ × Value)}(r:KV kvs vs) (k:κ) {y:V}{u:Value}(ry:RelV y u):KV (putK kvs k y) (stored vs k u):=by
 unfold putK stored;rw[r.any k];by_cases e:(vs.any λ kv=>decide (kv.1=k))=true
 .rw[if_pos e,if_pos e];exact r.sd k ry
 .rw[if_neg e,if_neg e];exact Paired.snoc r ⟨rfl,ry⟩
theorem KV.length {kvs:List (κ × V)}{vs:List (κ × Value)}(r:KV kvs vs):kvs.length=vs.length:=Paired.length r
end
def jz {P:Program}{w:World}{k:Key}{u:Value}(r:RelV (kV k) u):(vF P w).is k u=true:=by
 cases k with
 | inl i=>obtain⟨t,e⟩:=(show ∃ t,u=Value.int i t from r);subst e;exact Q3 P w i t
 | inr x=>obtain⟨t,e⟩:=(show ∃ t,u=Value.str x t from r);subst e;exact Q2 P w x t
theorem ZJ {P:Program}{w:World}:∀ {ks:List Key}{us:List Value},Vals (ks.map kV) us->ItemsAre (vF P w) ks us
 | [],_,r=>by rw[List.map_nil] at r;cases r;exact .nil
 | k::ks,_,r=>by
  rw[zA6] at r;cases r with
  | cons h t=>exact .cons (jz h) (ZJ t)
abbrev KT (H:Hp):List (List Key×V)->List (List Key×Addr×Value)->Prop:=Paired λ p q=>p.1=q.1/\H q.2.1=some (.tup (p.1.map kV))/\RelV p.2 q.2.2
def KT.val {H:Hp}{kvs:List (List Key×V)}{xs:List (List Key×Addr×Value)}(r:KT H kvs xs) (k:List Key):t4 (vp kvs k) ((atKey xs k).map (·.2)):=by
 induction r with
 | nil=>exact True.intro
 | @cons p q ps qs h t ih=>
  obtain⟨h1,_,h2⟩:=h;by_cases e:p.1=k
  .have e':q.1=k:=h1.symm.trans e;have b:atKey (q::qs) k=some q.2:=by simp[atKey,List.find?_cons,e']
   rw[iK e,b];exact h2
  .have e':¬ q.1=k:=λ z=>e (h1.trans z);have b:atKey (q::qs) k=atKey qs k:=by simp[atKey,List.find?_cons,e']
   rw[iL e,b];exact ih
def KT.sd {H:Hp}{kvs:List (List Key×V)}{xs:List (List Key×Addr×Value)}(r:KT H kvs xs) (k:List Key) {y:V}{u:Value}(ry:RelV y u):
  KT H (kvs.map λ kv=>if kv.1=k then (kv.1,y) else kv) (xs.map (putAt k u)):=by
 induction r with
 | nil=>exact .nil
 | @cons p q ps qs h t ih=>
  rw[zA6,zA6];refine .cons ?_ ih;obtain⟨h1,h2,h3⟩:=h;unfold putAt;by_cases e:p.1=k
  .rw[if_pos e,if_pos (h1.symm.trans e)];exact⟨h1,h2,ry⟩
  .rw[if_neg e,if_neg (λ z=>e (h1.trans z))];exact⟨h1,h2,h3⟩
def KT.put {H:Hp}{kvs:List (List Key×V)}{xs:List (List Key×Addr×Value)}(r:KT H kvs xs) (k:List Key) {b:Addr}{y:V}{u:Value}(hb:H b=some (.tup (k.map kV))) (ry:RelV y u):
  KT H (putK kvs k y) (storedH xs k b u):=by
 have e:(kvs.any λ kv=>decide (kv.1=k))=(atKey xs k).isSome:=by
  rw[c_,(r.val k).Pf,Option.isSome_map]
 unfold putK storedH;rw[e];by_cases q:(atKey xs k).isSome=true
 .rw[if_pos q,if_pos q];exact r.sd k ry
 .rw[if_neg q,if_neg q];exact Paired.snoc r ⟨rfl,hb,ry⟩
def KT.keeps {H H':Hp}{kvs:List (List Key×V)}{xs:List (List Key×Addr×Value)}(r:KT H kvs xs) (ht:∀ b ys,H b=some (.tup ys)->H' b=some (.tup ys)):KT H' kvs xs:=
 Paired.ju r λ _ _ z=>⟨z.1,ht _ _ z.2.1,z.2.2⟩
section
variable {P:Program}{w:World}{H:Hp}{h:Heap}{a:Addr}
def aa {u:HO}(ok:xE P w H h) (e:Rd H a u):xS P w H h a u:=e.ok ok
def n4 {kvs:List (Key×V)}(ok:xE P w H h) (e:Rd H a (.dK kvs)):kvs.length<=sizeLine/\(a == sysModules)=false/\∃ vs,KV kvs vs/\h.DictOf (vF P w) a vs:=
 show xS P w H h a (.dK kvs) from aa ok e
def O7 {kvs:List (Key×V)}(ok:xE P w H h) (e:H a=some (.dK kvs)):kvs.length<=sizeLine/\(a == sysModules)=false/\∃ vs,KV kvs vs/\h.DictOf (vF P w) a vs:=n4 ok (.inl e)
def jy {ks:List Key}(ok:xE P w H h) (e:H a=some (.tup (ks.map kV))):(tupleKind (vF P w)).is h ks a:=by
 obtain⟨_,its,r,o,h1,h2,n,h3⟩:=(show xS P w H h a (.tup (ks.map kV)) from ok a _ e)
 exact⟨o,its.toArray,n,h1,h2,h3,by simpa using ZJ r⟩
def lA {kvs:List (List Key×V)}(ok:xE P w H h) (e:Rd H a (.dT kvs)):kvs.length<=sizeLine/\(a == sysModules)=false/\
  ∃ xs,KT H kvs xs/\h.DictOfH (tupleKind (vF P w)) a xs:=by
 obtain⟨z,y,xs,r,o,es,ep,h1,h2,h3,h4,h5⟩:=(show xS P w H h a (.dT kvs) from aa ok e)
 refine⟨z,y,xs,r,o,es,ep,h1,h2,h3,h4,λ x hx=>?_,h5⟩;have all:∀ {l:List (List Key×V)}{m:List (List Key×Addr×Value)},KT H l m->∀ x∈m,(tupleKind (vF P w)).is h x.1 x.2.1:=by
  intro l m q
  induction q with
  | nil=>intro x hx;exact nomatch hx
  | @cons p q ps qs hq t ih=>
   intro x hx;rcases zA5.mp hx with e | hx
   .subst e;exact jy ok (by rw[<- hq.1];exact hq.2.1)
   .exact ih x hx
 exact all r x hx
def O2 {kvs:List (List Key×V)}(ok:xE P w H h) (e:H a=some (.dT kvs)):kvs.length<=sizeLine/\(a == sysModules)=false/\
  ∃ xs,KT H kvs xs/\h.DictOfH (tupleKind (vF P w)) a xs:=lA ok (.inl e)
end
def ql (H:Hp) (a:Addr) (y:V) (r:Option V):Prop:=
 (∃ kvs k,Rd H a (.dK kvs)/\y=kV k/\r=vp kvs k)\/∃ kvs k b,Rd H a (.dT kvs)/\y=.ref b/\H b=some (.tup (k.map kV))/\r=vp kvs k
def kx (H:Hp) (a:Addr) (y v:V) (H':Hp):Prop:=
 (∃ kvs k,H a=some (.dK kvs)/\y=kV k/\kvs.length<sizeLine/\H'=upd H a (.dK (putK kvs k v)))\/
 ∃ kvs k b,H a=some (.dT kvs)/\y=.ref b/\H b=some (.tup (k.map kV))/\kvs.length<sizeLine/\H'=upd H a (.dT (putK kvs k v))
theorem ql.k {H:Hp}{a:Addr}{kvs:List (Key×V)}{k:Key}(e:H a=some (.dK kvs)):ql H a (kV k) (vp kvs k):=.inl ⟨kvs,k,.inl e,rfl,rfl⟩
theorem kx.k {H:Hp}{a:Addr}{kvs:List (Key×V)}{k:Key}{v:V}(e:H a=some (.dK kvs)) (hl:kvs.length<sizeLine):kx H a (kV k) v (upd H a (.dK (putK kvs k v))):=.inl ⟨kvs,k,e,rfl,hl,rfl⟩
section
variable {X:Cx}{pins:List (Addr×Obj)}{B:St}{H:Hp}{s:Shared}{a:Addr}{y v:V}{u r:Value}{o:Option V}{A:Around}{E:Value->Shared->Prop}
def Inv.big (I:Inv X pins B H s):sysModules<s.heap.objs.size:=by
 have h:mainGlobals<s.heap.objs.size:=(I.mod.glob.keeps I.bk).lt;exact Nat.lt_trans (by decide) h
def OI {Q:Value->Shared->Prop}(hu:A.units+1<cLine) (I:Inv X pins B H s) (g:ql H a y (some v)) (ry:RelV y u) (h:∀ w' s',Inv X pins B H s'->RelV v w'->Q w' s'):
  wpAny (model X.prog X.w) A (getItem (.ref a) u) Q E s:=by
 rcases g with ⟨kvs,k,e,ey,l⟩ | ⟨kvs,k,b,e,ey,eb,l⟩
 .subst ey;obtain⟨z,hd,vs,rel,dd⟩:=n4 I.zM e;obtain⟨w',hw,rw'⟩:=t4.some_of (v:=v) (o:=valueAt vs k) (by rw[l];exact rel.val k);exact wpAny_getItem_of (jz ry) dd.mapOf hw (h w' _ (I.tok _) rw')
 .subst ey;cases (show u=Value.ref b from ry);obtain⟨z,hd,xs,rel,dd⟩:=lA I.zM e;obtain⟨w',hw,rw'⟩:=t4.some_of (v:=v) (o:=(atKey xs k).map (·.2)) (by rw[l];exact rel.val k);obtain⟨p,hp,Pw⟩:=zOm hw;refine wpAny_getItem_heap (tupleKind_room_in1 hu) (jy I.zM eb) dd hp ?_;rw[Pw];exact h w' _ (I.tok _) rw'
def YD {h':Heap}{t':Nat}{ob:HO}(I:Inv X pins B H s) (mu:lZ (H a)) (hs:Heap.SameBut a s.heap h') (he:∃ q,h'.get? a=some q) (new:xS X.prog X.w (upd H a ob) h' a ob):
  Inv X pins B (upd H a ob) { s with heap:=h',toks:=t' }:=
 I.write (x:=a) (e:=a) mu (.inl rfl) (λ b q hb z=>(hs.2 b hb).trans z) he new
def O8 {P:Program}{w:World}{H':Hp}{h':Heap}{kvs:List (Key×V)}{vs:List (Key×Value)}(z:kvs.length<=sizeLine) (hd:(a == sysModules)=false) (rel:KV kvs vs) (dd:h'.DictOf (vF P w) a vs):
  xS P w H' h' a (.dK kvs):=⟨z,hd,vs,rel,dd⟩
def OG {H':Hp}{Q:Unit->Shared->Prop}(hu:A.units+1<cLine) (I:Inv X pins B H s) (g:kx H a y v H') (ry:RelV y u) (rv:RelV v r) (h:∀ s',Inv X pins B H' s'->Q () s'):
  wpAny (model X.prog X.w) A (setItem (.ref a) u r) Q E s:=by
 rcases g with ⟨kvs,k,e,ey,l,eH⟩ | ⟨kvs,k,b,e,ey,eb,l,eH⟩
 .subst ey eH;obtain⟨z,hd,vs,rel,dd⟩:=O7 I.zM e;have hz:vs.length<=sizeLine:=by rw[<- rel.length];exact z
  have hl:(putK kvs k v).length<=sizeLine:=by have:=Zz kvs k v;omega
  refine wpAny_setItem_pairs (hsz:=hz) (jz ry) dd λ h' dd' hs=>h _ ?_;have he:∃ q,h'.get? a=some q:=let ⟨q,_,_,hq,_⟩:=dd';⟨q,hq⟩
  exact YD I (by rw[e];exact True.intro) hs he (O8 hl hd (rel.put k rv) dd')
 .subst ey eH;cases (show u=Value.ref b from ry);obtain⟨z,hd,xs,rel,dd⟩:=O2 I.zM e;have hz:xs.length<=sizeLine:=by rw[<- Paired.length rel];exact z
  have hl:(putK kvs k v).length<=sizeLine:=by have:=Zz kvs k v;omega
  refine wpAny_setItem_heap (hsz:=hz) (tupleKind_room_in1 hu) (jy I.zM eb) dd λ h' dd' hs=>h _ ?_;obtain⟨q,es,ep,hq,h2,h3,h4,_,h5⟩:=dd';refine YD I (by rw[e];exact True.intro) hs ⟨q,hq⟩ ⟨hl,hd,_,(rel.put k eb rv).keeps λ c ys ec=>?_,q,es,ep,hq,h2,h3,h4,h5⟩;rw[xo (mW ec e (λ z=>nomatch z))];exact ec
end
section
variable {X:Cx}{pins:List (Addr×Obj)}{B:St}{H:Hp}{s:Shared}{a:Addr}{kvs:List (Key×V)}{k:Key}{u:Value}{A:Around}{E:Value->Shared->Prop}
def OH {Q:Value->Shared->Prop}(I:Inv X pins B H s) (e:Rd H a (.dK kvs)) (h:∀ t s',Inv X pins B H s'->Q (.int kvs.length t) s'):wpAny (model X.prog X.w) A (call (.builtin "len") [.ref a]) Q E s:=by
 obtain⟨z,hd,vs,rel,dd⟩:=n4 I.zM e;refine call_len_dict hd dd (by rw[<- rel.length];rw[sizeLine_eq] at z;omega) ?_;rw[<- rel.length];exact h _ _ (I.tok _)
end
def dI (i:Expr):Prop:=∀ ov iv,subscripted i false ov iv=operate [ov,iv] (getItem ov iv)
def VI {prog:Program}{w:World}{A:Around}{E:Value->Shared->Prop}{s:Shared}{env:Env}{value slice:Expr}{pos:Pos}{T id:String}{Q:Value->Shared->Prop}
  (hl:typeLookup (.type T) "__getitem__"=pure (some (.builtin id))) (hs:dI slice)
  (h:wpAny (model prog w) A (eval value env) (λ o s₁=>wpAny (model prog w) A (eval slice env) (λ i s₂=>s₂.TypeIs o T/\wpAny (model prog w) A (getItem o i) Q E s₂) E s₁) E s):
  wpAny (model prog w) A (eval (.Subscript value slice pos) env) Q E s:=by
 refine Subscript_ (wpAny_mono h (λ o s₁ h₁=>wpAny_mono h₁ (λ i s₂ h₂=>?_) λ _ _ x=>x) λ _ _ x=>x);obtain⟨hT,h₂⟩:=h₂;unfold subscriptTail;refine zWb ?_;rw[getitemInPython_of_ne hT.not_modules];refine zWb (wpAny_specialOf hT hl ?_);have fin:wpAny (model prog w) A (subscripted slice false o i) (λ r s₃=>wpAny (model prog w) A (letTemporaryGo value o r >>= λ _=>pure r) Q E s₃) E s₂:=by
  rw[hs o i];exact wpAny_operating (wpAny_mono h₂ (λ r s₃ h₃=>zWb (wpAny_letTemporaryGo (zD1 h₃))) λ _ _ x=>x)
 first
  | exact zD1 (zWb fin)
  | exact zWb (zD1 (zWb fin))
  | exact zWb fin
def OA {X:Cx}{pins:List (Addr×Obj)}{B:St}{H:Hp}{s:Shared}{a:Addr}{y:V}{o:Option V}(I:Inv X pins B H s) (g:ql H a y o):s.TypeIs (.ref a) "dict":=by
 rcases g with ⟨kvs,k,e,_,_⟩ | ⟨kvs,k,b,e,_,_,_⟩
 .obtain⟨_,_,vs,_,dd⟩:=n4 I.zM e;exact dd.typeIs
 .obtain⟨_,_,xs,_,dd⟩:=lA I.zM e;exact dd.typeIs
def VF (td ty:TE):TE:=fun B H Q=>td B H λ x H1=>ty B H1 λ y H2=>∃ a v,x=.ref a/\ql H2 a y (some v)/\Q v H2
def Ux (td ty tv:TE):TS:=λ D B H=>tv B H λ v H1=>td B H1 λ x H2=>ty B H2 λ y H3=>∃ a H4,x=.ref a/\kx H3 a y v H4/\D.nx B H4
section
variable {X:Cx}{o i e value:Expr}{pos pos' tpos:Pos}{td ty tv:TE}
def TU (hu:X.A.units+1<cLine) (ho:PE X o td) (hi:PE X i ty) (hs:dI i):PE X (.Subscript o i pos) (VF td ty):=by
 intro pins s B H Q I h;refine VI PySem.F.slot_dict_getitem.lookup hs (zU (ho pins s B H _ I h) λ u s1 ⟨x,H1,I1,rx,q1⟩=>zU (hi pins s1 B H1 _ I1 q1) λ iv s2 ⟨y,H2,I2,ry,a,v,ex,g,q2⟩=>?_);subst ex;obtain rfl:u=Value.ref a:=rx;exact⟨OA I2 g,OI hu I2 g ry λ w' s3 I3 rw'=>⟨v,H2,I3,rw',q2⟩⟩
def Ta (hu:X.A.units+1<cLine) (ho:PE X o td) (hi:PE X i ty) (hv:PE X value tv) (hs:swapsWith value (some (.Subscript o i pos')) pos.line X.env=pure false):
  PS X (.Assign [.Subscript o i pos'] value pos) (Ux td ty tv):=by
 intro pins s B H D I h;refine wpAny_Assign_Subscript (zU (hv pins s B H _ I h) λ r s1 ⟨v,H1,I1,rv,q1⟩=>zU (ho pins s1 B H1 _ I1 q1) λ u s2 ⟨x,H2,I2,rx,q2⟩=>zU (hi pins s2 B H2 _ I2 q2) λ iv s3 ⟨y,H3,I3,ry,a,H4,ex,g,q3⟩=>?_) hs;subst ex;obtain rfl:u=Value.ref a:=rx;exact OG hu I3 g ry rv λ s4 I4=>⟨B,H4,I4,q3⟩
end
def O9 {P:Program}{w:World}{H:Hp}(h:Heap) (hb:sysModules<h.objs.size):xS P w H (h.push { cls:=.type "dict",data:=.dict #[] }) h.objs.size (.dK []):=
 ⟨zD4 _,beq_eq_false_iff_ne.mpr (Ne.symm (zB3 hb)),[],.nil,Heap.DictOf.new h⟩
def VD:TE:=λ _ H Q=>∀ p,H p=none->Q (.ref p) (upd H p (.dK []))
section
variable {X:Cx}{pos:Pos}
def TQ:PE X (.Dict [] [] pos) VD:=λ pins s B H Q I h=>
 wpAny_Dict_empty ⟨.ref s.heap.objs.size,_,I.laid (a:=s.heap.objs.size) (o:=.dK []) (t':=s.toks) (λ _ _ q=>zHp _ q) (zA4 _) (O9 s.heap I.big),rfl,h _ (I.zM.fresh (zA4 _))⟩
end
structure M2 (X:Cx) (o:Expr) (m:Str) (apos:Pos) (e f:Expr) (cpos:Pos):Prop where
 base:attributeBase o m X.env (eval o X.env)=eval o X.env
 ly:((backTo cpos (starEach [e,f] X.env)).all (λ x=>!x.1)&&(backToKw cpos (keywordEach [] X.env)).all (λ x=>x.1.isSome)
  && decide (([e,f]:List Expr).length+([]:List Keyword).length+(if ([]:List Keyword).isEmpty then 0 else 1)<30))=true
 line:(apos.endLine == cpos.line)=true
 trees:backTo cpos (starEach [e,f] X.env)=[(false,eval e X.env),(false,eval f X.env)]
def XA (H:Hp) (a:Addr):Prop:=(∃ kvs,Rd H a (.dK kvs))\/∃ kvs,Rd H a (.dT kvs)
def Pj {X:Cx}{pins:List (Addr×Obj)}{B:St}{H:Hp}{s:Shared}{a:Addr}(I:Inv X pins B H s) (d:XA H a):
  s.TypeIs (.ref a) "dict"/\(∀ b,Value.ref a=.ref b->∃ ob,s.heap.get? b=some ob/\ob.dict=none)/\(a == sysModules)=false:=by
 rcases d with ⟨kvs,e⟩ | ⟨kvs,e⟩
 .obtain⟨_,hd,vs,_,dd⟩:=n4 I.zM e;refine⟨dd.typeIs,λ b q=>?_,hd⟩;cases q;obtain⟨ob,_,_,h1,h2,_⟩:=dd;exact⟨ob,h1,h2.2.1⟩
 .obtain⟨_,hd,xs,_,dd⟩:=lA I.zM e;refine⟨dd.typeIs,λ b q=>?_,hd⟩;cases q;obtain⟨ob,_,_,h1,h2,_⟩:=dd;exact⟨ob,h1,h2.2.1⟩
section
variable {X:Cx}{pins:List (Addr×Obj)}{B:St}{H:Hp}{s:Shared}{a:Addr}{y d:V}{u r:Value}{o:Option V}{A:Around}{E:Value->Shared->Prop}
def OJ {Q:Value->Shared->Prop}(hu:A.units+1<cLine) (I:Inv X pins B H s) (g:ql H a y o) (ry:RelV y u) (rd:RelV d r) (h:∀ w' s',Inv X pins B H s'->RelV (o.getD d) w'->Q w' s'):
  wpAny (model X.prog X.w) A (call (.builtin "dict.get") [.ref a,u,r]) Q E s:=by
 rcases g with ⟨kvs,k,e,ey,l⟩ | ⟨kvs,k,b,e,ey,eb,l⟩
 .subst ey;obtain⟨z,hd,vs,rel,dd⟩:=n4 I.zM e;refine call_meetsIn PySem.F.slot_dict_get dd.typeIs PySem.F.entry_dict_get (PySem.F.args_dict_get_3 _ _ _) (meets_dict_get_default (vF X.prog X.w) a (jz ry) hd r) ⟨_,dd.mapOf,h _ _ (I.tok _) ?_⟩;rw[l];exact (rel.val k).getD rd
 .subst ey;cases (show u=Value.ref b from ry);obtain⟨z,hd,xs,rel,dd⟩:=lA I.zM e;refine call_meetsIn PySem.F.slot_dict_get dd.typeIs PySem.F.entry_dict_get (PySem.F.args_dict_get_3 _ _ _) (meetsH_dict_get_default (tupleKind (vF X.prog X.w)) a b hd r) ⟨tupleKind_room_in1 hu,k,xs,jy I.zM eb,dd,h _ _ (I.tok _) ?_⟩;rw[l];exact (rel.val k).getD rd
end
def VE (td ty tx:TE):TE:=fun B H Q=>td B H λ x H1=>∃ a,x=.ref a/\XA H1 a/\ty B H1 λ y H2=>tx B H2 λ z H3=>∃ o,ql H3 a y o/\Q (o.getD z) H3
section
variable {X:Cx}{o e f:Expr}{apos cpos:Pos}{td ty tx:TE}
def TR (hu:X.A.units+1<cLine) (ho:PE X o td) (he:PE X e ty) (hf:PE X f tx) (m:M2 X o "get" apos e f cpos):PE X (.Call (.Attribute o "get" apos) [e,f] [] cpos) (VE td ty tx):=by
 intro pins s B H Q I h;refine wpAny_Call_method m.base m.ly m.line PySem.F.plainAttrs_dict PySem.F.slot_dict_get PySem.F.type_dict_get (zU (ho pins s B H _ I h) λ u s1 ⟨x,H1,I1,rx,a,ex,d,q1⟩=>?_);subst ex;obtain rfl:u=Value.ref a:=rx;obtain⟨t1,t2,_⟩:=Pj I1 d;refine⟨t1,t2,?_⟩;rw[m.trees];refine Calls.callWith_builtin rfl (Calls.evalArgs_plain (Calls.spliced_cons (zU (he pins s1 B H1 _ I1 q1) λ iv s2 ⟨y,H2,I2,ry,q2⟩=>
  Calls.spliced_cons (zU (hf pins s2 B H2 _ I2 q2) λ fv s3 ⟨z,H3,I3,rz,ov,g,q3⟩=>Calls.spliced_nil ?_))))
 exact OJ hu I3 g ry rz λ w' s4 I4 rw'=>⟨_,H3,I4,rw',q3⟩
end
section
variable {X:Cx}{pins:List (Addr×Obj)}{B:St}{H:Hp}{s:Shared}{a:Addr}{kvs:List (Key×V)}{A:Around}{E:Value->Shared->Prop}
end
section
variable {X:Cx}{pins:List (Addr×Obj)}{B:St}{H:Hp}{s:Shared}{a:Addr}{y:V}{u:Value}{A:Around}{E:Value->Shared->Prop}
end
end L2
namespace L3
open PySem PySem.Spec L2
open PyProof.Rows hiding St
noncomputable def uP (kvs:List (Key×D)) (k:Key):Option D:=(kvs.find? λ kv=>decide (kv.1=k)).map (·.2)
noncomputable def putD (kvs:List (Key×D)) (k:Key) (v:D):List (Key×D):=
 if (kvs.any λ kv=>decide (kv.1=k))=true then kvs.map (λ kv=>if kv.1=k then (kv.1,v) else kv) else kvs++[(k,v)]
section
variable {K:zFr}{H:Hp}
theorem xM.val:∀ {kvs:List (Key×D)}{vs:List (Key×V)},xM K H kvs vs->∀ k,(uP kvs k=none/\vp vs k=none)\/∃ d v,uP kvs k=some d/\vp vs k=some v/\zo K H d v
 | _,_,.nil,k=>.inl ⟨rfl,rfl⟩
 | (a,d)::kvs,(b,v)::vs,.cons ⟨e,r⟩ t,k=>by
  have e':a=b:=e;subst e';by_cases h:a=k
  .subst h;exact .inr ⟨d,v,by simp[uP],by simp[vp],r⟩
  .rcases xM.val t k with ⟨h1,h2⟩ | ⟨d',v',h1,h2,h3⟩
   .exact .inl ⟨by simpa [uP,h] using h1,by simpa [vp,h] using h2⟩
   .exact .inr ⟨d',v',by simpa [uP,h] using h1,by simpa [vp,h] using h2,h3⟩
theorem xM.any {kvs:List (Key×D)}{vs:List (Key×V)}(h:xM K H kvs vs) (k:Key):(kvs.any λ kv=>decide (kv.1=k))=vs.any λ kv=>decide (kv.1=k):=by
 induction h with
 | nil=>rfl
 | cons r _ ih=>rw[List.any_cons,List.any_cons,ih,r.1]
def xM.len {kvs:List (Key×D)}{vs:List (Key×V)}(h:xM K H kvs vs):kvs.length=vs.length:=Paired.length h
theorem xM.sd {k:Key}{d:D}{v:V}(r:zo K H d v):∀ {kvs:List (Key×D)}{vs:List (Key×V)},xM K H kvs vs->xM K H (kvs.map λ kv=>if kv.1=k then (kv.1,d) else kv) (vs.map λ kv=>if kv.1=k then (kv.1,v) else kv)
 | _,_,.nil=>.nil
 | (a1,a2)::_,(b1,b2)::_,.cons ⟨e,q⟩ t=>by
  have e':a1=b1:=e;subst e';refine .cons ?_ (xM.sd r t);by_cases hk:a1=k
  .simp[hk,r]
  .simpa [hk] using q
theorem xM.snoc {k:Key}{d:D}{v:V}(r:zo K H d v):∀ {kvs:List (Key×D)}{vs:List (Key×V)},xM K H kvs vs->xM K H (kvs++[(k,d)]) (vs++[(k,v)])
 | _,_,.nil=>.cons ⟨rfl,r⟩ .nil
 | _,_,.cons q t=>.cons q (xM.snoc r t)
def xM.put {kvs:List (Key×D)}{vs:List (Key×V)}(h:xM K H kvs vs) (k:Key) {d:D}{v:V}(r:zo K H d v):xM K H (putD kvs k d) (putK vs k v):=by
 unfold putD putK;rw[h.any k];split
 .exact xM.sd r h
 .exact xM.snoc r h
end
section
variable {X:Cx}{K:zFr}{o i e f v:Expr}{td ty tx tv:zI}{pos pos' apos cpos:Pos}
def YM:zI:=λ _ S Q=>∀ p,S p=none->Q (.ref p) (ups S p (.y6 []))
def SD:PD X (.Dict [] [] pos) YM:=by
 refine⟨λ _ _ _ _ hq z p hp=>hq _ _ (z p hp),PE.imp TQ fun B H Q hu p hp=>?_⟩;obtain⟨L,S,r1,r2,z⟩:=hu;exact z p (r2.none hp) _ _ (by simp only[zo]) (.new hp _) (r2.ups (.new hp _) ⟨[],xl,.nil⟩)
def YQ (td ty:zI):zI:=fun L S Q=>td L S λ x S1=>ty L S1 λ y S2=>∃ p kvs k d,x=.ref p/\y=.int k/\S2 p=some (.y6 kvs)/\uP kvs (.inl k)=some d/\Q d S2
def aN {k:Nat}(hr:y_ k X.A) (ho:PD X o td) (hi:PD X i ty) (hs:dI i:=by exact λ _ _=>rfl):PD X (.Subscript o i pos) (YQ td ty):=by
 refine⟨fun L S Q Q' hq z=>ho.mo L S _ _ (λ x S1 z=>hi.mo L S1 _ _ (λ y S2 ⟨p,kvs,k,d,a,b,c,e,h⟩=>⟨p,kvs,k,d,a,b,c,e,hq _ _ h⟩) z) z,PE.imp (TU (el hr) ho.pe hi.pe hs) fun B H Q hu=>?_⟩;obtain⟨L,S,r1,r2,z⟩:=hu;refine yd.go ho.mo r1 r2 z λ x S1 w H1 h1 q1 e1 p1=>?_;refine yd.go hi.mo (r1.ext e1) p1 h1 λ y S2 w2 H2 h2 q2 e2 p2=>?_;obtain⟨p,kvs,k,d,rfl,rfl,c1,c2,h⟩:=h2;simp only[zo] at q1 q2;subst q1 q2;obtain⟨vs,g1,g2⟩:=p2 _ _ c1;rcases xM.val g2 (.inl k) with ⟨n1,_⟩ | ⟨d',v',n1,n2,n3⟩
 .rw[c2] at n1;cases n1
 .rw[c2] at n1;cases n1;exact⟨p,v',rfl,n2▸ql.k (k:=Sum.inl k) g1,h v' H2 n3 (e1.trans e2) p2⟩
def YO (td ty tx:zI):zI:=fun L S Q=>td L S λ x S1=>∃ p,x=.ref p/\(∃ kvs,S1 p=some (.y6 kvs))/\ty L S1 λ y S2=>tx L S2 λ z S3=>∃ k kvs,y=.int k/\S3 p=some (.y6 kvs)/\Q ((uP kvs (.inl k)).getD z) S3
def SE {k:Nat}(hr:y_ k X.A) (ho:PD X o td) (he:PD X e ty) (hf:PD X f tx) (m:M2 X o "get" apos e f cpos:=by exact⟨rfl,rfl,rfl,rfl⟩):PD X (.Call (.Attribute o "get" apos) [e,f] [] cpos) (YO td ty tx):=by
 refine⟨fun L S Q Q' hq z=>ho.mo L S _ _ (λ x S1 ⟨p,a,b,z⟩=>⟨p,a,b,he.mo L S1 _ _ (λ y S2 z=>hf.mo L S2 _ _ (λ w S3 ⟨k,kvs,a,b,h⟩=>⟨k,kvs,a,b,hq _ _ h⟩) z) z⟩) z,PE.imp (TR (el hr) ho.pe he.pe hf.pe m) fun B H Q hu=>?_⟩;obtain⟨L,S,r1,r2,z⟩:=hu;refine yd.go ho.mo r1 r2 z λ x S1 w H1 h1 q1 e1 p1=>?_;obtain⟨p,rfl,⟨kvs0,c0⟩,h1⟩:=h1;simp only[zo] at q1;subst q1;obtain⟨vs0,g0,_⟩:=p1 _ _ c0;refine⟨p,rfl,.inl ⟨vs0,.inl g0⟩,?_⟩;refine yd.go he.mo (r1.ext e1) p1 h1 λ y S2 w2 H2 h2 q2 e2 p2=>?_;refine yd.go hf.mo ((r1.ext e1).ext e2) p2 h2 λ y3 S3 w3 H3 h3 q3 e3 p3=>?_;obtain⟨k,kvs,rfl,c1,h⟩:=h3;simp only[zo] at q2;subst q2;obtain⟨vs,g1,g2⟩:=p3 _ _ c1;refine⟨vp vs (.inl k),ql.k (k:=Sum.inl k) g1,?_⟩;rcases xM.val g2 (.inl k) with ⟨n1,n2⟩ | ⟨d',v',n1,n2,n3⟩
 .rw[n1] at h;rw[n2];exact h _ H3 q3 ((e1.trans e2).trans e3) p3
 .rw[n1] at h;rw[n2];exact h _ H3 n3 ((e1.trans e2).trans e3) p3
def YN (td ty tv:zI):xC:=λ E L S=>tv L S λ v S1=>td L S1 λ x S2=>ty L S2 λ y S3=>∃ p kvs k,x=.ref p/\y=.int k/\S3 p=some (.y6 kvs)/\kvs.length<sizeLine/\E.nx L (ups S3 p (.y6 (putD kvs (.inl k) v)))
theorem Ext.dK {H:Hp}{p:Addr}{kvs:List (Key×V)}(h:H p=some (.dK kvs)) (o:HO):Ext H (upd H p o):=
 ⟨λ b ys q=>by rw[xo (mW q h (by intro z;cases z))];exact q,λ b ob u q=>by rw[xo (mW q h (by intro z;cases z))];exact q⟩
def Si {k:Nat}(hr:y_ k X.A) (ho:PD X o td) (hi:PD X i ty) (hv:PD X v tv) (hs:swapsWith v (some (.Subscript o i pos')) pos.line X.env=pure false:=by rfl):uk X (.Assign [.Subscript o i pos'] v pos) (YN td ty tv):=by
 refine⟨λ E E' L S hE z=>hv.mo L S _ _ (λ w S1 z=>ho.mo L S1 _ _ (λ x S2 z=>hi.mo L S2 _ _ (λ y S3 ⟨p,kvs,k,a,b,c,d,h⟩=>⟨p,kvs,k,a,b,c,d,hE.nx _ _ h⟩) z) z) z,PS.imp (Ta (el hr) ho.pe hi.pe hv.pe hs) λ D B H hu=>?_⟩;obtain⟨L,S,r1,r2,z⟩:=hu;refine yd.go hv.mo r1 r2 z λ w S1 w1 H1 h1 q1 e1 p1=>?_;refine yd.go ho.mo (r1.ext e1) p1 h1 λ x S2 w2 H2 h2 q2 e2 p2=>?_;refine yd.go hi.mo ((r1.ext e1).ext e2) p2 h2 λ y S3 w3 H3 h3 q3 e3 p3=>?_;obtain⟨p,kvs,k,rfl,rfl,c1,c2,h⟩:=h3;simp only[zo] at q2 q3;subst q2 q3;obtain⟨vs,g1,g2⟩:=p3 _ _ c1;have e4:Ext H3 (upd H3 p (.dK (putK vs (.inl k) w1))):=.dK g1 _;refine⟨p,_,rfl,kx.k (k:=Sum.inl k) g1 (by rw[<- g2.len];exact c2),?_⟩;exact h B _ ((((r1.ext e1).ext e2).ext e3).ext e4) (((e1.trans e2).trans e3).trans e4) (p3.ups e4 ⟨_,xl,(xM.put g2 _ (zo.ext (e2.trans e3) w q1)).ext e4⟩)
def Nz:xk X (.builtin "len") (λ xs H Q=>∃ p kvs,xs=[.ref p]/\H p=some (.dK kvs)/\Q (.int kvs.length) H):=by
 intro pins s B H xs us Q I r h;obtain⟨p,kvs,rfl,e,q⟩:=h;obtain⟨u,rfl,ru⟩:=vals1 r;cases ru;exact OH I (.inl e) λ t s' I'=>⟨.int _,H,I',⟨_,rfl⟩,q⟩
def Yr:wH:=λ ds S Q=>∃ p kvs,ds=[.ref p]/\S p=some (.y6 kvs)/\Q (.int kvs.length) S
def SA {es:List Expr}{tA:yQ}{p:Pos}(hm:X.mg "len"=none) (ha:wY X (e::es) tA) (hg:Gl X "len":=by rfl) (he:starEach (e::es) X.env=(false,eval e X.env)::starEach es X.env:=by rfl) (hpl:(backTo pos (starEach es X.env)).any (·.1)=false:=by rfl):PD X (.Call (.Name "len" p) (e::es) [] pos) (wD Yr tA):=
 sj (rE Nz hg hm PySem.boot_len ha.pa (by decide) (by decide) he hpl) (λ _ _ _ _ hq ⟨p,kvs,a,b,h⟩=>⟨p,kvs,a,b,hq _ _ h⟩) (λ xs ds H S Q h0 h2 ⟨p,kvs,a,b,h⟩=>by
  subst a;obtain⟨x,rfl,h1⟩:=h0.one;simp only[zo] at h1;subst h1;obtain⟨vs,g1,g2⟩:=h2 _ _ b;refine⟨p,vs,rfl,g1,?_⟩;rw[<- g2.len];exact h _ H (by simp only[zo]) (.refl H) h2) ha.mo
end
end L3
namespace L3
open PySem L2
section
variable {S S':SS}
mutual
theorem Sn.sx (h:Sx S S'):∀ (t:T) {d:D},Sn S t d->Sn S' t d
 | .zp,d,q=>by simpa only [Sn] using q
 | .bl b,d,q=>by simpa only [Sn] using q
 | .int i,d,q=>by simpa only [Sn] using q
 | .str x,d,q=>by simpa only [Sn] using q
 | .tup ts,d,q=>by
  simp only[Sn] at q ⊢;obtain⟨ds,q1,q2⟩:=q;exact⟨ds,q1,zu.sx h ts q2⟩
 | .lst ts,d,q=>by
  simp only[Sn] at q ⊢;obtain⟨ds,q1,q2⟩:=q;refine⟨ds,?_,zu.sx h ts q2⟩;rcases q1 with q1 | ⟨a,q1,q3⟩
  .exact .inl q1
  .exact .inr ⟨a,q1,h _ _ q3⟩
 | .yo,d,q=>by
  simp only[Sn] at q ⊢;obtain⟨a,kvs,q1,q2⟩:=q;exact⟨a,kvs,q1,h _ _ q2⟩
theorem zu.sx (h:Sx S S'):∀ (ts:List T) {ds:List D},zu S ts ds->zu S' ts ds
 | [],ds,q=>by simpa only [zu] using q
 | t::ts,ds,q=>by
  simp only[zu] at q ⊢;obtain⟨c,cs,q1,q2,q3⟩:=q;exact⟨c,cs,q1,Sn.sx h t q2,zu.sx h ts q3⟩
end
def zu.nil:zu S [] []:=by simp only[zu]
def zu.cons {t:T}{ts:List T}{d:D}{ds:List D}(h:Sn S t d) (h':zu S ts ds):zu S (t::ts) (d::ds):=by
 simp only[zu];exact⟨d,ds,rfl,h,h'⟩
theorem zu.append:∀ {ts us:List T}{ds es:List D},zu S ts ds->zu S us es->zu S (ts++us) (ds++es)
 | [],us,ds,es,h,h'=>by simp only[zu] at h;subst h;simpa using h'
 | t::ts,us,ds,es,h,h'=>by
  simp only[zu] at h;obtain⟨c,cs,rfl,h1,h2⟩:=h;exact zu.cons h1 (zu.append h2 h')
theorem zu.eF:∀ {ts:List T}{ds:List D}{i:Nat}{t:T},zu S ts ds->ts[i]?=some t->∃ d,ds[i]?=some d/\Sn S t d
 | [],_,i,t,_,e=>by simp at e
 | u::ts,ds,i,t,h,e=>by
  simp only[zu] at h;obtain⟨c,cs,rfl,h1,h2⟩:=h;cases i with
  | zero=>simp at e;subst e;exact⟨c,rfl,h1⟩
  | succ i=>
   obtain⟨y,e1,e2⟩:=zu.eF (i:=i) h2 (by simpa using e);exact⟨y,by simpa using e1,e2⟩
theorem zu.eJ:∀ {ts:List T}{ds:List D}{i:Nat}{d:D},zu S ts ds->ds[i]?=some d->∃ t,ts[i]?=some t/\Sn S t d
 | [],ds,i,t,h,e=>by simp only[zu] at h;subst h;simp at e
 | u::ts,ds,i,t,h,e=>by
  simp only[zu] at h;obtain⟨c,cs,rfl,h1,h2⟩:=h;cases i with
  | zero=>simp at e;subst e;exact⟨u,rfl,h1⟩
  | succ i=>
   obtain⟨y,e1,e2⟩:=zu.eJ (i:=i) h2 (by simpa using e);exact⟨y,by simpa using e1,e2⟩
def zu.len {ts:List T}{ds:List D}(h:zu S ts ds):ds.length=ts.length:=(L3.zu.length h).symm
theorem zu.at {ts:List T}{ds:List D}{i:Int}{t:T}(h:zu S ts ds) (e:L2.yh ts i=some t):∃ d,L2.yh ds i=some d/\Sn S t d:=by
 unfold L2.yh at e ⊢;rw[h.len];cases q:L2.vw ts.length i with
 | none=>rw[q] at e;cases e
 | some j=>
  rw[q] at e;exact h.eF e
theorem zu.bK:∀ {ts:List T}{ds:List D}{t:T}{d:D}(i:Nat),zu S ts ds->Sn S t d->zu S (ts.set i t) (ds.set i d)
 | [],ds,t,d,i,h,_=>by simp only[zu] at h;subst h;simpa using zu.nil
 | u::ts,ds,t,d,0,h,hd=>by
  simp only[zu] at h;obtain⟨c,cs,rfl,h1,h2⟩:=h;exact zu.cons hd h2
 | u::ts,ds,t,d,i+1,h,hd=>by
  simp only[zu] at h;obtain⟨c,cs,rfl,h1,h2⟩:=h;exact zu.cons h1 (zu.bK i h2 hd)
theorem zu.take':∀ {ts:List T}{ds:List D}(n:Nat),zu S ts ds->zu S (ts.take n) (ds.take n)
 | ts,ds,0,h=>by simpa using zu.nil
 | [],ds,n+1,h=>by simp only[zu] at h;subst h;simpa using zu.nil
 | t::ts,ds,n+1,h=>by
  simp only[zu] at h;obtain⟨c,cs,rfl,h1,h2⟩:=h;exact zu.cons h1 (zu.take' n h2)
theorem zu.drop':∀ {ts:List T}{ds:List D}(n:Nat),zu S ts ds->zu S (ts.drop n) (ds.drop n)
 | ts,ds,0,h=>h
 | [],ds,n+1,h=>by simp only[zu] at h;subst h;simpa using zu.nil
 | t::ts,ds,n+1,h=>by
  simp only[zu] at h;obtain⟨c,cs,rfl,h1,h2⟩:=h;exact zu.drop' n h2
def zu.empty {ts:List T}{ds:List D}(h:zu S ts ds):ds.isEmpty=ts.isEmpty:=by
 have:=h.len;cases ds <;> cases ts <;> simp_all
theorem zu.Xm:∀ {bs:List Bool}{ds:List D},zu S (bs.map T.bl) ds->ds=bs.map D.bl
 | [],ds,h=>by simpa only [List.map_nil,zu] using h
 | b::bs,ds,h=>by
  rw[zA6] at h;simp only[zu,Sn] at h;obtain⟨c,cs,rfl,rfl,h3⟩:=h;rw[zu.Xm h3];rfl
end
end L3
namespace L5
open PySem L2 L3
noncomputable def yk (S:SS) (Z:Addr->Prop):SS:=open Classical in λ a=>if Z a then none else S a
section
variable {S S' S1:SS}{Z Z':Addr->Prop}{a p:Addr}
def uX (h:¬ Z a):yk S Z a=S a:=if_neg h
def ez (h:Z a):yk S Z a=none:=if_pos h
def sF {o:O}(h:yk S Z a=some o):¬ Z a/\S a=some o:=by
 by_cases z:Z a
 .rw[ez z] at h;cases h
 .rw[uX z] at h;exact⟨z,h⟩
def j4 (S:SS) (Z:Addr->Prop):Sx (yk S Z) S:=λ _ _ h=>(sF h).2
def vG (h:Sx S S'):Sx (yk S Z) (yk S' Z):=λ b o q=>by
 obtain⟨q1,q2⟩:=sF q;rw[uX q1];exact h _ _ q2
def sG (h:∀ a,Z' a->Z a):Sx (yk S Z) (yk S Z'):=λ b o q=>by
 obtain⟨q1,q2⟩:=sF q;rw[uX (λ z=>q1 (h _ z))];exact q2
def nq (h:Sx S S') (hp:S p=none):Sx (yk S Z) (yk S' λ a=>Z a\/a=p):=λ b o q=>by
 obtain⟨q1,q2⟩:=sF q;rw[uX]
 .exact h _ _ q2
 .rintro (z | z)
  .exact q1 z
  .subst z;rw[hp] at q2;cases q2
def Px {o:O}(h:Z p):yk (ups S p o) Z=yk S Z:=by
 funext b;by_cases z:Z b
 .rw[ez z,ez z]
 .rw[uX z,uX z,rm (λ e=>z (by rw[e];exact h))]
end
inductive C where
 | lst (ts:List T) | y6 (kvs:List (Key×T))
noncomputable def yY (S:SS):List (Key×T)->List (Key×D)->Prop
 | [],l=>l=[]
 | (k,t)::r,l=>∃ d m,l=(k,d)::m/\Sn S t d/\yY S r m
theorem yY.sx {S S':SS}(h:Sx S S'):∀ {a:List (Key×T)}{b:List (Key×D)},yY S a b->yY S' a b
 | [],_,q=>q
 | (k,t)::r,_,q=>by
  obtain⟨d,m,q1,q2,q3⟩:=q;exact⟨d,m,q1,Sn.sx h t q2,yY.sx h q3⟩
noncomputable def sY (S:SS):C->O->Prop
 | .lst ts,.lst ds=>zu S ts ds
 | .y6 a,.y6 b=>yY S a b
 | _,_=>False
theorem sY.sx {S S':SS}(h:Sx S S'):∀ {c:C}{o:O},sY S c o->sY S' c o
 | .lst ts,.lst ds,q=>zu.sx h ts q
 | .y6 a,.y6 b,q=>yY.sx h q
inductive W where
 | im (t:T) | own (c:C)
abbrev Ev:=List (Option W)
structure ER (S:SS) (Z:Addr->Prop) (L:y8) (J:Ev):Prop where
 zd:∀ a,Z a->S a≠none
 im:∀ (i:Nat) t,J[i]?=some (some (.im t))->∃ d,L[i]?=some (some d)/\Sn (yk S Z) t d
 ow:∀ (i:Nat) c,J[i]?=some (some (.own c))->∃ p o,L[i]?=some (some (.ref p))/\S p=some o/\sY (yk S Z) c o/\Z p
def Vw (S:SS) (Z:Addr->Prop) (y:T) (d:D):Prop:=Sn (yk S Z) y d\/∃ ts p ds,y=.lst ts/\d=.ref p/\S p=some (.lst ds)/\zu (yk S Z) ts ds/\Z p
abbrev Rk:=SS->SS->(Addr->Prop)->T->D->Prop
def Xz:Rk:=λ _ S' Z y d=>Vw S' Z y d
def uK:Rk:=λ _ S' Z y d=>Sn (yk S' Z) y d
def zV:Rk:=λ S S' Z y d=>Sn (yk S' Z) y d/\∀ ts,y=.lst ts->∃ p ds,d=.ref p/\S p=none/\S' p=some (.lst ds)/\zu (yk S' λ a=>Z a\/a=p) ts ds
class Cl (R:Rk):Prop where
 cl:∀ {S S1 S':SS}{Z:Addr->Prop}{y:T}{d:D},Sx S S1->R S1 S' Z y d->R S S' Z y d
 of:∀ {S S':SS}{Z:Addr->Prop}{y:T}{d:D},(∀ ts,y≠.lst ts)->Sn (yk S' Z) y d->R S S' Z y d
instance:Cl Xz:=⟨λ _ h=>h,λ _ h=>.inl h⟩
instance:Cl uK:=⟨λ _ h=>h,λ _ h=>h⟩
instance:Cl zV:=⟨λ s h=>⟨h.1,λ ts e=>by
 obtain⟨p,ds,h1,h2,h3⟩:=h.2 ts e;exact⟨p,ds,h1,s.none h2,h3⟩⟩,λ n h=>⟨h,λ ts e=>absurd e (n ts)⟩⟩
section
variable {S S' S1:SS}{Z Z':Addr->Prop}{L:y8}{J:Ev}{y:T}{d:D}
def ER.grow (h:ER S Z L J) (s:Sx S S'):ER S' Z L J:=
 ⟨λ a z q=>h.zd a z (s.none q),λ i t e=>by
  obtain⟨d,h1,h2⟩:=h.im i t e;exact⟨d,h1,Sn.sx (vG s) t h2⟩,λ i ts e=>by
  obtain⟨p,ds,h1,h2,h3,h4⟩:=h.ow i ts e;exact⟨p,ds,h1,s _ _ h2,sY.sx (vG s) h3,h4⟩⟩
def Vw.grow (h:Vw S Z y d) (s:Sx S S'):Vw S' Z y d:=by
 rcases h with h | ⟨ts,p,ds,h1,h2,h3,h4,h5⟩
 .exact .inl (Sn.sx (vG s) y h)
 .exact .inr ⟨ts,p,ds,h1,h2,s _ _ h3,zu.sx (vG s) ts h4,h5⟩
def Vw.sn (h:Vw S Z y d):Sn S y d:=by
 rcases h with h | ⟨ts,p,ds,rfl,rfl,h3,h4,_⟩
 .exact Sn.sx (j4 S Z) y h
 .simp only[Sn];exact⟨ds,.inr ⟨p,rfl,h3⟩,zu.sx (j4 S Z) ts h4⟩
theorem Vw.zp (h:Vw S Z .zp d):d=.zp:=by
 rcases h with h | ⟨_,_,_,h,_⟩
 .simpa only [Sn] using h
 .cases h
theorem Vw.bl {b:Bool}(h:Vw S Z (.bl b) d):d=.bl b:=by
 rcases h with h | ⟨_,_,_,h,_⟩
 .simpa only [Sn] using h
 .cases h
theorem Vw.int {b:Int}(h:Vw S Z (.int b) d):d=.int b:=by
 rcases h with h | ⟨_,_,_,h,_⟩
 .simpa only [Sn] using h
 .cases h
theorem Vw.str {b:Str}(h:Vw S Z (.str b) d):d=.str b:=by
 rcases h with h | ⟨_,_,_,h,_⟩
 .simpa only [Sn] using h
 .cases h
theorem Vw.tup {ts:List T}(h:Vw S Z (.tup ts) d):∃ ds,d=.tup ds/\zu (yk S Z) ts ds:=by
 rcases h with h | ⟨_,_,_,h,_⟩
 .simpa only [Sn] using h
 .cases h
theorem Vw.lst {ts:List T}(h:Vw S Z (.lst ts) d):∃ ds,(d=.xm ds\/∃ a,d=.ref a/\S a=some (.lst ds))/\zu (yk S Z) ts ds:=by
 rcases h with h | ⟨us,p,ds,h1,h2,h3,h4,_⟩
 .simp only[Sn] at h;obtain⟨ds,h1,h2⟩:=h;refine⟨ds,?_,h2⟩;rcases h1 with h1 | ⟨a,h1,h3⟩
  .exact .inl h1.1
  .exact .inr ⟨a,h1,(sF h3).2⟩
 .cases h1;exact⟨ds,.inr ⟨p,h2,h3⟩,h4⟩
noncomputable def wZ:T->Option (List T)
 | .tup ts=>some ts
 | .lst ts=>some ts
 | _=>none
@[simp] theorem zab (ts:List T):wZ (.tup ts)=some ts:=rfl
@[simp] theorem zac (ts:List T):wZ (.lst ts)=some ts:=rfl
def Vw.seq {ts:List T}(h:Vw S Z y d) (e:wZ y=some ts):∃ ds,yz d S=some ds/\zu (yk S Z) ts ds:=by
 cases y with
 | tup us=>cases e;obtain⟨ds,rfl,h2⟩:=h.tup;exact⟨ds,rfl,h2⟩
 | lst us=>
  cases e;obtain⟨ds,h1 | ⟨a,rfl,h1⟩,h2⟩:=h.lst
  .subst h1;exact⟨ds,rfl,h2⟩
  .exact⟨ds,by unfold yz;dsimp only;rw[h1],h2⟩
 | zp=>cases e
 | bl _=>cases e
 | int _=>cases e
 | str _=>cases e
 | yo=>cases e
theorem Vw.yo (h:Vw S Z .yo d):∃ a kvs,d=.ref a/\S a=some (.y6 kvs):=by
 rcases h with h | ⟨_,_,_,h,_⟩
 .simp only[Sn] at h;obtain⟨a,kvs,h1,h2⟩:=h;exact⟨a,kvs,h1,(sF h2).2⟩
 .cases h
def bE:Sn S .zp .zp:=by simp only[Sn]
def vB {b:Bool}:Sn S (.bl b) (.bl b):=by simp only[Sn]
def vL {i:Int}:Sn S (.int i) (.int i):=by simp only[Sn]
def bD {x:Str}:Sn S (.str x) (.str x):=by simp only[Sn]
def oH {ts:List T}{ds:List D}(h:zu S ts ds):Sn S (.tup ts) (.tup ds):=by simp only[Sn];exact⟨ds,rfl,h⟩
def rD {ts:List T}{ds:List D}{p:Addr}(hz:∀ a,Z a->S a≠none) (hp:S p=none) (h:zu (yk S Z) ts ds):zV S (ups S p (.lst ds)) Z (.lst ts) (.ref p):=by
 have nz:¬ Z p:=λ z=>hz p z hp;have s:Sx S (ups S p (.lst ds)):=.new hp _;refine⟨?_,λ us e=>?_⟩
 .simp only[Sn];exact⟨ds,.inr ⟨p,rfl,by rw[uX nz,qm]⟩,zu.sx (vG s) ts h⟩
 .cases e;exact⟨p,ds,rfl,hp,qm,zu.sx (nq s hp) ts h⟩
end
def vf (R:Rk) (f:Ev->Option T) (t:zI):Prop:=∀ S Z L J y Q,ER S Z L J->f J=some y->(∀ d S',Sx S S'->R S S' Z y d->Q d S')->t L S Q
abbrev um:=vf uK
abbrev yN:=vf Xz
abbrev wj:=vf zV
def vf.imp {R R':Rk}{f:Ev->Option T}{t:zI}(h:vf R f t) (i:∀ S S' Z y d,R S S' Z y d->R' S S' Z y d):vf R' f t:=λ S Z L J y Q hE e hq=>h S Z L J y Q hE e λ d S' s r=>hq d S' s (i _ _ _ _ _ r)
def vf.er {f:Ev->Option T}{t:zI}(h:um f t):yN f t:=h.imp λ _ _ _ _ _ r=>.inl r
def vf.fe {f:Ev->Option T}{t:zI}(h:wj f t):um f t:=h.imp λ _ _ _ _ _ r=>r.1
def vf.fr {f:Ev->Option T}{t:zI}(h:wj f t):yN f t:=h.fe.er
@[simp] noncomputable def zr (i:Nat):Ev->Option T:=fun J=>match J[i]? with
 | some (some (.im t))=>some t
 | _=>none
@[simp] noncomputable def zc (i:Nat):Ev->Option T:=fun J=>match J[i]? with
 | some (some (.im t))=>some t
 | some (some (.own (.lst ts)))=>some (.lst ts)
 | _=>none
@[simp] noncomputable def cS (t:T):Ev->Option T:=λ _=>some t
def zw (i:Nat):um (zr i) (xi i):=λ S Z L J y Q hE e hq=>by
 unfold zr at e;split at e
 .rename_i t h;cases e;obtain⟨d,h1,h2⟩:=hE.im i _ h;unfold xi;rw[h1];exact hq d S (.refl S) h2
 .cases e
def zg (i:Nat):yN (zc i) (xi i):=λ S Z L J y Q hE e hq=>by
 unfold zc at e;split at e
 .rename_i t h;cases e;obtain⟨d,h1,h2⟩:=hE.im i _ h;unfold xi;rw[h1];exact hq d S (.refl S) (.inl h2)
 .rename_i ts h;cases e;obtain⟨p,o,h1,h2,h3,h4⟩:=hE.ow i _ h;unfold xi;rw[h1];cases o with
  | y6 _=>exact h3.elim
  | lst ds=>exact hq _ S (.refl S) (.inr ⟨ts,p,ds,rfl,rfl,h2,h3,h4⟩)
 .cases e
def zi (i:Int):wj (cS (.int i)) (dC (.int i)):=λ S Z L J y Q hE e hq=>by cases e;exact hq _ S (.refl S) (Cl.of (λ _=>nofun) vL)
def sA (i:Bool):wj (cS (.bl i)) (dC (.bl i)):=λ S Z L J y Q hE e hq=>by cases e;exact hq _ S (.refl S) (Cl.of (λ _=>nofun) vB)
def qC (i:Str):wj (cS (.str i)) (dC (.str i)):=λ S Z L J y Q hE e hq=>by cases e;exact hq _ S (.refl S) (Cl.of (λ _=>nofun) bD)
def vZ:wj (cS .zp) (dC .zp):=λ S Z L J y Q hE e hq=>by cases e;exact hq _ S (.refl S) (Cl.of (λ _=>nofun) bE)
@[simp] noncomputable def zb (f:T->T->Option T) (fa fb:Ev->Option T):Ev->Option T:=fun J=>(fa J).bind λ x=>(fb J).bind λ y=>f x y
def Good2 (R:Rk) (f:T->T->Option T) (g:xx):Prop:=∀ S Z x y z d e Q,(∀ a,Z a->S a≠none)->Vw S Z x d->Vw S Z y e->f x y=some z->(∀ c S',Sx S S'->R S S' Z z c->Q c S')->g d e S Q
def zm {R:Rk} [Cl R] {f:T->T->Option T}{g:xx}{fa fb:Ev->Option T}{ta tb:zI}(hg:Good2 R f g) (ha:yN fa ta) (hb:yN fb tb):vf R (zb f fa fb) (yK g ta tb):=λ S Z L J y Q hE e hq=>by
 unfold zb at e;obtain⟨x,e1,e⟩:=zOb e;obtain⟨z,e2,e⟩:=zOb e;refine ha S Z L J x _ hE e1 λ d S1 s1 r1=>?_;refine hb S1 Z L J z _ (hE.grow s1) e2 λ d2 S2 s2 r2=>?_;exact hg S2 Z x z y d d2 Q ((hE.grow (s1.trans s2)).zd) (Vw.grow r1 s2) r2 e λ c S' s r=>hq c S' ((s1.trans s2).trans s) (Cl.cl (s1.trans s2) r)
@[simp] noncomputable def i2 (g:Int->Int->T):T->T->Option T
 | .int i,.int j=>some (g i j)
 | _,_=>none
instance {i j:Int}:Decidable (vo i j):=by unfold vo;infer_instance
instance {i j:Int}:Decidable (wK i j):=by unfold wK;infer_instance
instance {i j:Int}:Decidable (pz i j):=by unfold pz;infer_instance
@[simp] noncomputable def lj (C:Int->Int->Prop) [∀ i j,Decidable (C i j)] (g:Int->Int->T):T->T->Option T
 | .int i,.int j=>if C i j then some (g i j) else none
 | _,_=>none
def lp {g:Int->Int->T}{g':Int->Int->D}(h:∀ i j S,Sn S (g i j) (g' i j)) (n:∀ i j ts,g i j≠.lst ts):Good2 zV (i2 g) (wc g'):=λ S Z x y z d e Q hz hx hy ef hq=>by
 unfold i2 at ef;split at ef
 .cases ef;cases hx.int;cases hy.int;exact hq _ S (.refl S) (Cl.of (n _ _) (h _ _ _))
 .cases ef
def eC {C:Int->Int->Prop} [∀ i j,Decidable (C i j)] {g:Int->Int->T}{g':Int->Int->D}(h:∀ i j S,Sn S (g i j) (g' i j)) (n:∀ i j ts,g i j≠.lst ts):Good2 zV (lj C g) (fI C g'):=λ S Z x y z d e Q hz hx hy ef hq=>by
 unfold lj at ef;split at ef
 .split at ef
  .rename_i hh;cases ef;cases hx.int;cases hy.int;exact⟨hh,hq _ S (.refl S) (Cl.of (n _ _) (h _ _ _))⟩
  .cases ef
 .cases ef
@[simp] noncomputable def wM:T->T->Option T:=i2 λ i j=>.int (i-j)
@[simp] noncomputable def yj:T->T->Option T:=lj (λ _ j=>0<j) λ i j=>.int (i%j)
@[simp] noncomputable def xt:T->T->Option T:=lj wK λ i j=>.int (i/j)
@[simp] noncomputable def mF:T->T->Option T:=lj pz λ i j=>.int (i ^ j.toNat)
@[simp] noncomputable def pQ:T->T->Option T:=i2 λ i j=>.bl (decide (i<=j))
@[simp] noncomputable def j6:T->T->Option T:=i2 λ i j=>.bl (decide (j<i))
@[simp] noncomputable def vT:T->T->Option T:=i2 λ i j=>.bl (decide (j<=i))
section
variable {fa fb:Ev->Option T}{ta tb:zI}
def vE (ha:yN fa ta) (hb:yN fb tb):wj (zb wM fa fb) (yK (wc λ i j=>.int (i-j)) ta tb):=zm (lp (λ _ _ _=>vL) λ _ _ _=>nofun) ha hb
def yJ (ha:yN fa ta) (hb:yN fb tb):wj (zb yj fa fb) (yK (fI (λ _ j=>0<j) λ i j=>.int (i%j)) ta tb):=zm (eC (λ _ _ _=>vL) λ _ _ _=>nofun) ha hb
def wU (ha:yN fa ta) (hb:yN fb tb):wj (zb xt fa fb) (yK (fI wK λ i j=>.int (i/j)) ta tb):=zm (eC (λ _ _ _=>vL) λ _ _ _=>nofun) ha hb
def Zd (ha:yN fa ta) (hb:yN fb tb):wj (zb mF fa fb) (yK (fI pz λ i j=>.int (i ^ j.toNat)) ta tb):=zm (eC (λ _ _ _=>vL) λ _ _ _=>nofun) ha hb
def R9 (ha:yN fa ta) (hb:yN fb tb):wj (zb pQ fa fb) (yK jD ta tb):=zm (lp (λ _ _ _=>vB) λ _ _ _=>nofun) ha hb
def fE (ha:yN fa ta) (hb:yN fb tb):wj (zb j6 fa fb) (yK eO ta tb):=zm (lp (λ _ _ _=>vB) λ _ _ _=>nofun) ha hb
def qD (ha:yN fa ta) (hb:yN fb tb):wj (zb vT fa fb) (yK jE ta tb):=zm (lp (λ _ _ _=>vB) λ _ _ _=>nofun) ha hb
end
noncomputable def zK (neg:Bool):T->T->Option T:=λ x y=>if dep x<=60/\dep y<=60 then some (.bl (cond neg (!eqT x y) (eqT x y))) else none
noncomputable def nk (neg:Bool):T->T->Option T:=λ x y=>match wZ y with
 | some ts=>if dep x<=60/\yH ts<=60 then some (.bl (cond neg (!(ts.any λ t=>eqT t x)) (ts.any λ t=>eqT t x))) else none
 | none=>none
def xJ {neg:Bool}:Good2 zV (zK neg) (tP neg):=λ S Z x y z d e Q hz hx hy ef hq=>by
 unfold zK at ef;split at ef
 .rename_i h;cases ef;exact⟨x,y,hx.sn,hy.sn,h.1,h.2,hq _ S (.refl S) (Cl.of (λ _=>nofun) vB)⟩
 .cases ef
def PM {neg:Bool}:Good2 zV (nk neg) (qP neg):=λ S Z x y z d e Q hz hx hy ef hq=>by
 unfold nk at ef;split at ef
 .rename_i ts ht;split at ef
  .rename_i h;cases ef;obtain⟨ds,h1,h2⟩:=hy.seq ht;exact⟨x,ts,ds,hx.sn,h1,zu.sx (j4 S Z) ts h2,h.1,h.2,hq _ S (.refl S) (Cl.of (λ _=>nofun) vB)⟩
  .cases ef
 .cases ef
@[simp] noncomputable def zj:T->T->Option T:=λ x y=>match wZ x,y with
 | some ts,.int i=>L2.yh ts i
 | _,_=>none
def zB:Good2 uK zj vy:=λ S Z x y z d e Q hz hx hy ef hq=>by
 unfold zj at ef;split at ef
 .rename_i ts i ht;cases hy.int;obtain⟨ds,h1,h2⟩:=hx.seq ht;obtain⟨c,h3,h4⟩:=h2.at ef;unfold yz at h1;split at h1
  .cases h1;exact Om h3 (hq c S (.refl S) h4)
  .cases h1;exact Oo h3 (hq c S (.refl S) h4)
  .split at h1
   .rename_i q;cases h1;exact Oq q h3 (hq c S (.refl S) h4)
   .cases h1
  .cases h1
 .cases ef
@[simp] noncomputable def yE:T->T->Option T
 | .int i,.int j=>some (.int (i+j))
 | .str i,.str j=>if i.length+j.length<=sizeLine then some (.str (i++j)) else none
 | .lst ts,.lst us=>if ts.length+us.length<=sizeLine then some (.lst (ts++us)) else none
 | .tup ts,.tup us=>if ts.length+us.length<=sizeLine then some (.tup (ts++us)) else none
 | _,_=>none
def tj:xx:=λ x y S Q=>match x,y with
 | .int i,.int j=>Q (.int (i+j)) S
 | .str i,.str j=>i.length+j.length<=sizeLine/\Q (.str (i++j)) S
 | .tup ds,.tup es=>ds.length+es.length<=sizeLine/\Q (.tup (ds++es)) S
 | .zp,_=>False
 | .bl _,_=>False
 | .int _,_=>False
 | .str _,_=>False
 | .tup _,_=>False
 | x,y=>match yz x S,yz y S with
  | some ds,some es=>(∀ ts,y≠.tup ts)/\ds.length+es.length<=sizeLine/\∀ r,S r=none->Q (.ref r) (ups S r (.lst (ds++es)))
  | _,_=>False
def good_add:Good2 zV yE tj:=λ S Z x y z d e Q hz hx hy ef hq=>by
 unfold yE at ef;split at ef
 .cases ef;cases hx.int;cases hy.int;exact hq _ S (.refl S) (Cl.of (λ _=>nofun) vL)
 .split at ef
  .rename_i h;cases ef;cases hx.str;cases hy.str;exact⟨h,hq _ S (.refl S) (Cl.of (λ _=>nofun) bD)⟩
  .cases ef
 .split at ef
  .rename_i h;cases ef;obtain⟨ds,h1,h2⟩:=hx.seq rfl;obtain⟨es,h3,h4⟩:=hy.seq rfl;have nt:∀ ts,e≠.tup ts:=by
    obtain⟨_,q | ⟨_,q,_⟩,_⟩:=hy.lst <;> subst q <;> exact λ _=>nofun
   have key:(∀ ts,e≠.tup ts)/\ds.length+es.length<=sizeLine/\∀ r,S r=none->Q (.ref r) (ups S r (.lst (ds++es))):=
    ⟨nt,by rw[h2.len,h4.len];exact h,λ r hr=>hq _ _ (.new hr _) (rD hz hr (h2.append h4))⟩
   obtain⟨_,q | ⟨a,q,_⟩,_⟩:=hx.lst
   .subst q;unfold tj;dsimp only;rw[h1,h3];exact key
   .subst q;unfold tj;dsimp only;rw[h1,h3];exact key
  .cases ef
 .split at ef
  .rename_i h;cases ef;obtain⟨ds,rfl,h2⟩:=hx.tup;obtain⟨es,rfl,h4⟩:=hy.tup;exact⟨by rw[h2.len,h4.len];exact h,hq _ S (.refl S) (Cl.of (λ _=>nofun) (oH (h2.append h4)))⟩
  .cases ef
 .cases ef
def vX (f:Ev->Option Bool) (t:xj):Prop:=∀ S Z L J y Q,ER S Z L J->f J=some y->(∀ S',Sx S S'->Q y S')->t L S Q
@[simp] noncomputable def zO (f:Ev->Option T):Ev->Option Bool:=fun J=>(f J).bind λ x=>match x with
 | .bl b=>some b
 | _=>none
@[simp] noncomputable def qq:T->Option Bool
 | .zp=>some false
 | .bl b=>some b
 | .int i=>some (i != 0)
 | .str x=>if x.length<=sizeLine then some ((x.length:Int) != 0) else none
 | .tup ts=>some (!ts.isEmpty)
 | .lst ts=>some (!ts.isEmpty)
 | .yo=>none
@[simp] noncomputable def w9 (f:Ev->Option T):Ev->Option Bool:=fun J=>(f J).bind qq
@[simp] noncomputable def vU (f g:Ev->Option Bool):Ev->Option Bool:=fun J=>(f J).bind λ b=>if b=true then g J else some false
@[simp] noncomputable def sO (f g:Ev->Option Bool):Ev->Option Bool:=fun J=>(f J).bind λ b=>if b=true then some true else g J
@[simp] noncomputable def qS (f:Ev->Option Bool):Ev->Option Bool:=fun J=>(f J).map (!·)
section
variable {f g:Ev->Option T}{t u:zI}{fb gb:Ev->Option Bool}{tb ub:xj}{R:Rk}
def ym (h:yN f t):vX (zO f) (ud t):=λ S Z L J y Q hE e hq=>by
 obtain⟨x,e1,e2⟩:=zOb e;refine h S Z L J x _ hE e1 λ d S1 s1 r1=>?_;split at e2
 .cases e2;cases Vw.bl r1;exact hq S1 s1
 .cases e2
def tG (h:yN f t):vX (w9 f) (Y1 t):=λ S Z L J y Q hE e hq=>by
 obtain⟨x,e1,e2⟩:=zOb e;refine h S Z L J x _ hE e1 λ d S1 s1 r1=>?_;cases x with
 | zp=>cases Vw.zp r1;cases e2;exact hq S1 s1
 | bl b=>cases Vw.bl r1;cases e2;exact hq S1 s1
 | int b=>cases Vw.int r1;cases e2;exact hq S1 s1
 | str b=>
  cases Vw.str r1;simp only[qq] at e2;split at e2
  .rename_i hh;cases e2;exact⟨hh,hq S1 s1⟩
  .cases e2
 | tup ts=>
  obtain⟨ds,rfl,h2⟩:=Vw.tup r1;cases e2;show Q (!ds.isEmpty) S1;rw[h2.empty];exact hq S1 s1
 | lst ts=>
  obtain⟨ds,rfl | ⟨a,rfl,h1⟩,h2⟩:=Vw.lst r1
  .cases e2;show Q (!ds.isEmpty) S1;rw[h2.empty];exact hq S1 s1
  .cases e2;refine Vr h1 ?_;rw[h2.empty];exact hq S1 s1
 | yo=>cases e2
def rM (h:vX fb tb) (h':vX gb ub):vX (vU fb gb) (l9 tb ub):=λ S Z L J y Q hE e hq=>by
 obtain⟨b,e1,e2⟩:=zOb e;refine h S Z L J b _ hE e1 λ S1 s1=>?_;split at e2
 .rename_i hb;rw[if_pos hb];exact h' S1 Z L J y _ (hE.grow s1) e2 λ S2 s2=>hq S2 (s1.trans s2)
 .rename_i hb;rw[if_neg hb];cases e2;exact hq S1 s1
def pN (h:vX fb tb) (h':vX gb ub):vX (sO fb gb) (l7 tb ub):=λ S Z L J y Q hE e hq=>by
 obtain⟨b,e1,e2⟩:=zOb e;refine h S Z L J b _ hE e1 λ S1 s1=>?_;split at e2
 .rename_i hb;rw[if_pos hb];cases e2;exact hq S1 s1
 .rename_i hb;rw[if_neg hb];exact h' S1 Z L J y _ (hE.grow s1) e2 λ S2 s2=>hq S2 (s1.trans s2)
def mS (h:vX fb tb):vX (qS fb) (l8 tb):=λ S Z L J y Q hE e hq=>by
 unfold qS at e;obtain⟨b,e1,rfl⟩:=zOm e;exact h S Z L J b _ hE e1 λ S1 s1=>hq S1 s1
@[simp] noncomputable def nE (f g:Ev->Option T):Ev->Option T:=fun J=>(f J).bind λ x=>match x with
 | .bl k=>if k=true then g J else some (.bl false)
 | _=>none
@[simp] noncomputable def Zh (f:Ev->Option T):Ev->Option T:=fun J=>(f J).bind λ x=>match x with
 | .bl k=>some (.bl (!k))
 | _=>none
@[simp] noncomputable def ZZ (c:Ev->Option Bool) (f g:Ev->Option T):Ev->Option T:=fun J=>(c J).bind λ b=>if b=true then f J else g J
def mT [Cl R] (h:yN f t) (h':vf R g u):vf R (nE f g) (lI t u):=λ S Z L J y Q hE e hq=>by
 obtain⟨x,e1,e2⟩:=zOb e;refine h S Z L J x _ hE e1 λ d S1 s1 r1=>?_;split at e2
 .cases Vw.bl r1;split at e2
  .rename_i hb;dsimp only;rw[if_pos hb];exact h' S1 Z L J y _ (hE.grow s1) e2 λ d S2 s2 r2=>hq d S2 (s1.trans s2) (Cl.cl s1 r2)
  .rename_i hb;dsimp only;rw[if_neg hb];cases e2;exact hq _ S1 s1 (Cl.of (λ _=>nofun) vB)
 .cases e2
def R4 [Cl R] (h:yN f t):vf R (Zh f) (lF t):=λ S Z L J y Q hE e hq=>by
 obtain⟨x,e1,e2⟩:=zOb e;refine h S Z L J x _ hE e1 λ d S1 s1 r1=>?_;split at e2
 .cases Vw.bl r1;cases e2;exact hq _ S1 s1 (Cl.of (λ _=>nofun) vB)
 .cases e2
def RU [Cl R] (hc:vX fb tb) (h:vf R f t) (h':vf R g u):vf R (ZZ fb f g) (lG tb t u):=λ S Z L J y Q hE e hq=>by
 obtain⟨b,e1,e2⟩:=zOb e;refine hc S Z L J b _ hE e1 λ S1 s1=>?_;split at e2
 .rename_i hb;rw[if_pos hb];exact h S1 Z L J y _ (hE.grow s1) e2 λ d S2 s2 r2=>hq d S2 (s1.trans s2) (Cl.cl s1 r2)
 .rename_i hb;rw[if_neg hb];exact h' S1 Z L J y _ (hE.grow s1) e2 λ d S2 s2 r2=>hq d S2 (s1.trans s2) (Cl.cl s1 r2)
end
noncomputable def lW (S:SS) (Z:Addr->Prop):List T->List D->Prop
 | [],ds=>ds=[]
 | t::ts,ds=>∃ c cs,ds=c::cs/\Vw S Z t c/\lW S Z ts cs
def nI (f:Ev->Option (List T)) (t:yQ):Prop:=∀ S Z L J ys Q,ER S Z L J->f J=some ys->(∀ ds S',Sx S S'->lW S' Z ys ds->Q ds S')->t L S Q
def nH (f:Ev->Option (List T)) (t:yQ):Prop:=∀ S Z L J ys Q,ER S Z L J->f J=some ys->(∀ ds S',Sx S S'->zu (yk S' Z) ys ds->Q ds S')->t L S Q
@[simp] noncomputable def zq:Ev->Option (List T):=λ _=>some []
@[simp] noncomputable def ze (f:Ev->Option T) (g:Ev->Option (List T)):Ev->Option (List T):=fun J=>(f J).bind λ x=>(g J).bind λ xs=>some (x::xs)
section
variable {f:Ev->Option T}{g:Ev->Option (List T)}{t:zI}{u:yQ}
def ye:nI zq jG:=λ S Z L J y Q hE e hq=>by cases e;exact hq [] S (.refl S) rfl
def zG:nH zq jG:=λ S Z L J y Q hE e hq=>by cases e;exact hq [] S (.refl S) .nil
def zT (h:yN f t) (h':nI g u):nI (ze f g) (pY t u):=λ S Z L J y Q hE e hq=>by
 obtain⟨x,e1,e0⟩:=zOb e;obtain⟨xs,e2,e3⟩:=zOb e0;cases e3;refine h S Z L J x _ hE e1 λ d S1 s1 r1=>?_;refine h' S1 Z L J xs _ (hE.grow s1) e2 λ ds S2 s2 r2=>?_;exact hq _ S2 (s1.trans s2) ⟨d,ds,rfl,Vw.grow r1 s2,r2⟩
def zl (h:um f t) (h':nH g u):nH (ze f g) (pY t u):=λ S Z L J y Q hE e hq=>by
 obtain⟨x,e1,e0⟩:=zOb e;obtain⟨xs,e2,e3⟩:=zOb e0;cases e3;refine h S Z L J x _ hE e1 λ d S1 s1 r1=>?_;refine h' S1 Z L J xs _ (hE.grow s1) e2 λ ds S2 s2 r2=>?_;exact hq _ S2 (s1.trans s2) (.cons (Sn.sx (vG s2) x r1) r2)
@[simp] noncomputable def tupS (g:Ev->Option (List T)):Ev->Option T:=fun J=>(g J).bind λ xs=>if xs.length<=sizeLine then some (.tup xs) else none
@[simp] noncomputable def xV (g:Ev->Option (List T)):Ev->Option T:=fun J=>(g J).bind λ xs=>if xs.length<=sizeLine then some (.lst xs) else none
def xc (h:nH g u):wj (tupS g) (YE u):=λ S Z L J y Q hE e hq=>by
 obtain⟨xs,e1,e2⟩:=zOb e;split at e2
 .rename_i hl;cases e2;refine h S Z L J xs _ hE e1 λ ds S1 s1 r1=>⟨by rw[r1.len];exact hl,hq _ S1 s1 (Cl.of (λ _=>nofun) (oH r1))⟩
 .cases e2
def wx (h:nH g u):wj (xV g) (YJ u):=λ S Z L J y Q hE e hq=>by
 obtain⟨xs,e1,e2⟩:=zOb e;split at e2
 .rename_i hl;cases e2;refine h S Z L J xs _ hE e1 λ ds S1 s1 r1=>⟨by rw[r1.len];exact hl,λ p hp=>hq _ _ (s1.trans (.new hp _)) (Cl.cl s1 (rD (hE.grow s1).zd hp r1))⟩
 .cases e2
end
@[simp] noncomputable def zF (F:List T->Option T) (g:Ev->Option (List T)):Ev->Option T:=fun J=>(g J).bind F
def uM (R:Rk) (F:List T->Option T) (f:wH):Prop:=∀ S Z ys z ds Q,(∀ a,Z a->S a≠none)->lW S Z ys ds->F ys=some z->(∀ c S',Sx S S'->R S S' Z z c->Q c S')->f ds S Q
def yv {R:Rk} [Cl R] {F:List T->Option T}{f:wH}{g:Ev->Option (List T)}{u:yQ}(hf:uM R F f) (h:nI g u):vf R (zF F g) (wD f u):=λ S Z L J y Q hE e hq=>by
 obtain⟨xs,e1,e2⟩:=zOb e;refine h S Z L J xs _ hE e1 λ ds S1 s1 r1=>?_;exact hf S1 Z xs y ds Q (hE.grow s1).zd r1 e2 λ c S' s r=>hq c S' (s1.trans s) (Cl.cl s1 r)
@[simp] noncomputable def yZ:List T->Option T
 | [.str z]=>if z.length<=sizeLine then some (.int z.length) else none
 | [y]=>(wZ y).map λ ts=>.int ts.length
 | _=>none
def uu {S:SS}{Z:Addr->Prop}{y:T}{ds:List D}(h:lW S Z [y] ds):∃ d,ds=[d]/\Vw S Z y d:=by
 obtain⟨c,cs,rfl,h1,h2⟩:=h;cases h2;exact⟨c,rfl,h1⟩
def Vc {S:SS}{Z:Addr->Prop}{y z:T}{ds:List D}(h:lW S Z [y,z] ds):∃ d e,ds=[d,e]/\Vw S Z y d/\Vw S Z z e:=by
 obtain⟨c,cs,rfl,h1,c2,cs2,rfl,h2,h3⟩:=h;cases h3;exact⟨c,c2,rfl,h1,h2⟩
def uC:uM zV yZ tf:=λ S Z ys z ds Q hz hv e hq=>by
 unfold yZ at e;split at e
 .obtain⟨d,rfl,h1⟩:=uu hv;split at e
  .rename_i hl;cases e;cases h1.str;exact⟨hl,hq _ S (.refl S) (Cl.of (λ _=>nofun) vL)⟩
  .cases e
 .obtain⟨d,rfl,h1⟩:=uu hv;obtain⟨ts,e1,rfl⟩:=zOm e;obtain⟨es,h2,h3⟩:=h1.seq e1;refine Ol h2 ?_;rw[h3.len];exact hq _ S (.refl S) (Cl.of (λ _=>nofun) vL)
 .cases e
@[simp] noncomputable def listS:List T->Option T
 | [y]=>(wZ y).map .lst
 | _=>none
def j8:uM zV listS u_:=λ S Z ys z ds Q hz hv e hq=>by
 unfold listS at e;split at e
 .obtain⟨d,rfl,h1⟩:=uu hv;obtain⟨ts,e1,rfl⟩:=zOm e;obtain⟨es,h2,h3⟩:=h1.seq e1;exact Oj h2 λ p hp=>hq _ _ (.new hp _) (rD hz hp h3)
 .cases e
@[simp] noncomputable def rp:List T->Option T
 | [y]=>(wZ y).map .tup
 | _=>none
def pT:uM zV rp uZ:=λ S Z ys z ds Q hz hv e hq=>by
 unfold rp at e;split at e
 .rename_i y;obtain⟨d,rfl,h1⟩:=uu hv;obtain⟨ts,e1,rfl⟩:=zOm e;obtain⟨es,h2,h3⟩:=h1.seq e1;have k:Q (.tup es) S:=hq _ S (.refl S) (Cl.of (λ _=>nofun) (oH h3));unfold yz at h2;split at h2
  .cases h2;exact k
  .cases h2;exact k
  .split at h2
   .rename_i q;cases h2;exact Oi q k
   .cases h2
  .cases h2
 .cases e
@[simp] noncomputable def pS (g:Int->Int->Int):List T->Option T
 | [.int i,.int j]=>some (.int (g i j))
 | _=>none
def Yd {g:Int->Int->Int}:uM zV (pS g) (uF λ i j=>.int (g i j)):=λ S Z ys z ds Q hz hv e hq=>by
 unfold pS at e;split at e
 .obtain⟨d,d',rfl,h1,h2⟩:=Vc hv;cases e;cases h1.int;cases h2.int;exact hq _ S (.refl S) (Cl.of (λ _=>nofun) vL)
 .cases e
@[simp] noncomputable def mY:List T->Option T:=pS λ i j=>if j>i then j else i
@[simp] noncomputable def tI:List T->Option T:=pS λ i j=>if j<i then j else i
noncomputable def oh:List T->Option (List Bool)
 | []=>some []
 | .bl b::ts=>(oh ts).map (b::·)
 | _::_=>none
theorem Xk:∀ {ts:List T}{bs:List Bool},oh ts=some bs->ts=bs.map T.bl
 | [],bs,h=>by cases h;rfl
 | .bl b::ts,bs,h=>by
  unfold oh at h;obtain⟨cs,h1,rfl⟩:=zOm h;rw[zA6,<- Xk h1]
 | .zp::ts,bs,h=>by cases h
 | .int _::ts,bs,h=>by cases h
 | .str _::ts,bs,h=>by cases h
 | .tup _::ts,bs,h=>by cases h
 | .lst _::ts,bs,h=>by cases h
def Xl (bs:List Bool):oh (bs.map T.bl)=some bs:=by
 induction bs with
 | nil=>rfl
 | cons b bs ih=>rw[zA6];unfold oh;rw[ih];rfl
@[simp] noncomputable def lO (g:List Bool->Bool):List T->Option T
 | [.lst ts]=>(oh ts).map λ bs=>.bl (g bs)
 | _=>none
def uG (g:List Bool->Bool):wH:=λ ds S Q=>match ds with
 | [.tup _]=>False
 | [d]=>∃ bs:List Bool,yz d S=some (bs.map D.bl)/\Q (.bl (g bs)) S
 | _=>False
def eD {g:List Bool->Bool}:uM zV (lO g) (uG g):=λ S Z ys z ds Q hz hv e hq=>by
 unfold lO at e;split at e
 .obtain⟨d,rfl,h1⟩:=uu hv;obtain⟨bs,e1,rfl⟩:=zOm e;cases Xk e1;obtain⟨es,h2,h3⟩:=h1.seq rfl;cases h3.Xm;have key:∃ bs:List Bool,yz d S=some (bs.map D.bl)/\Q (.bl (g bs)) S:=⟨bs,h2,hq _ S (.refl S) (Cl.of (λ _=>nofun) vB)⟩
  obtain⟨_,q | ⟨a,q,_⟩,_⟩:=h1.lst
  .subst q;exact key
  .subst q;exact key
 .cases e
structure FR (S0:SS) (Z0:Addr->Prop) (S:SS) (Z:Addr->Prop) (L:y8) (J:Ev):Prop where
 er:ER S Z L J
 len:L.length=J.length
 sx:Sx S0 S
 z0:∀ a,Z0 a->S0 a≠none
 zz:∀ a,Z0 a->Z a
 zn:∀ a,Z a->Z0 a\/S0 a=none
 fr:∀ (i:Nat) ts p,J[i]?=some (some (.own ts))->L[i]?=some (some (.ref p))->S0 p=none
 dj:∀ (i j:Nat) ts us p,i≠j->J[i]?=some (some (.own ts))->J[j]?=some (some (.own us))->L[i]?=some (some (.ref p))->L[j]?=some (some (.ref p))->False
def x9 {α:Type}{l:List α}{i j:Nat}{a b:α}(h:(l.set i a)[j]?=some b):(i=j/\i<l.length/\b=a)\/(i≠j/\l[j]?=some b):=by
 rw[List.getElem?_set] at h;by_cases e:i=j
 .subst e;rw[if_pos rfl] at h;by_cases hl:i<l.length
  .rw[if_pos hl] at h;cases h;exact .inl ⟨rfl,hl,rfl⟩
  .rw[if_neg hl] at h;cases h
 .rw[if_neg e] at h;exact .inr ⟨e,h⟩
def vS {α:Type}{l:List α}{i j:Nat}{a:α}(h:i≠j):(l.set i a)[j]?=l[j]?:=by rw[List.getElem?_set,if_neg h]
def nr {α:Type}{l:List α}{i:Nat}{a:α}(h:i<l.length):(l.set i a)[i]?=some a:=by rw[List.getElem?_set,if_pos rfl,if_pos h]
section
variable {S0 S S':SS}{Z0 Z:Addr->Prop}{L:y8}{J:Ev}{y:T}{d:D}
theorem FR.grow (h:FR S0 Z0 S Z L J) (s:Sx S S'):FR S0 Z0 S' Z L J:=⟨h.er.grow s,h.len,h.sx.trans s,h.z0,h.zz,h.zn,h.fr,h.dj⟩
def FR.t_ (h:FR S0 Z0 S Z L J) (i:Nat) (r:Sn (yk S Z) y d):FR S0 Z0 S Z (L.set i (some d)) (J.set i (some (.im y))):=by
 refine⟨⟨h.er.zd,λ j t e=>?_,λ j ts e=>?_⟩,by simp[h.len],h.sx,h.z0,h.zz,h.zn,λ j ts p e e'=>?_,λ j k ts us p n e1 e2 e3 e4=>?_⟩
 .rcases x9 e with ⟨rfl,hl,e⟩ | ⟨n,e⟩
  .cases e;exact⟨d,nr (by rw[h.len];exact hl),r⟩
  .rw[vS n];exact h.er.im j t e
 .rcases x9 e with ⟨rfl,hl,e⟩ | ⟨n,e⟩
  .cases e
  .rw[vS n];exact h.er.ow j ts e
 .rcases x9 e with ⟨rfl,hl,e⟩ | ⟨n,e⟩
  .cases e
  .rw[vS n] at e';exact h.fr j ts p e e'
 .rcases x9 e1 with ⟨rfl,hl,e⟩ | ⟨n1,e1⟩
  .cases e
  rcases x9 e2 with ⟨rfl,hl,e⟩ | ⟨n2,e2⟩
  .cases e
  rw[vS n1] at e3;rw[vS n2] at e4;exact h.dj j k ts us p n e1 e2 e3 e4
def FR.bJ {ts:C}{ds:O}{p:Addr}(h:FR S0 Z0 S Z L J) (s:Sx S S') (i:Nat) (hp:S p=none) (hd:S' p=some ds) (r:sY (yk S' λ a=>Z a\/a=p) ts ds):
  FR S0 Z0 S' (λ a=>Z a\/a=p) (L.set i (some (.ref p))) (J.set i (some (.own ts))):=by
 have np:∀ (j:Nat) us q,J[j]?=some (some (.own us))->L[j]?=some (some (.ref q))->q≠p:=λ j us q e e' z=>by
  subst z;obtain⟨p',ds',h1,h2,_⟩:=h.er.ow j us e;rw[e'] at h1;cases h1;rw[hp] at h2;cases h2
 refine⟨⟨λ a z=>?_,λ j t e=>?_,λ j us e=>?_⟩,by simp[h.len],h.sx.trans s,h.z0,λ a z=>.inl (h.zz a z),λ a z=>z.elim (h.zn a) (λ q=>.inr (by subst q;exact h.sx.none hp)),λ j us q e e'=>?_,λ j k us vs q n e1 e2 e3 e4=>?_⟩
 .rcases z with z | rfl
  .exact λ q=>h.er.zd a z (s.none q)
  .rw[hd];nofun
 .rcases x9 e with ⟨rfl,hl,e⟩ | ⟨n,e⟩
  .cases e
  .rw[vS n];obtain⟨d,h1,h2⟩:=h.er.im j t e;exact⟨d,h1,Sn.sx (nq s hp) t h2⟩
 .rcases x9 e with ⟨rfl,hl,e⟩ | ⟨n,e⟩
  .cases e;exact⟨p,ds,nr (by rw[h.len];exact hl),hd,r,.inr rfl⟩
  .rw[vS n];obtain⟨q,es,h1,h2,h3,h4⟩:=h.er.ow j us e;exact⟨q,es,h1,s _ _ h2,sY.sx (nq s hp) h3,.inl h4⟩
 .rcases x9 e with ⟨rfl,hl,e⟩ | ⟨n,e⟩
  .rw[nr (by rw[h.len];exact hl)] at e';cases e';exact h.sx.none hp
  .rw[vS n] at e';exact h.fr j us q e e'
 .rcases x9 e1 with ⟨rfl,hl,e⟩ | ⟨n1,e1⟩
  .rcases x9 e2 with ⟨rfl,_,_⟩ | ⟨n2,e2⟩
   .exact n rfl
   .rw[nr (by rw[h.len];exact hl)] at e3;cases e3;rw[vS n2] at e4;exact np k vs p e2 e4 rfl
  .rcases x9 e2 with ⟨rfl,hl,_⟩ | ⟨n2,e2⟩
   .rw[nr (by rw[h.len];exact hl)] at e4;cases e4;rw[vS n1] at e3;exact np j us p e1 e3 rfl
   .rw[vS n1] at e3;rw[vS n2] at e4;exact h.dj j k us vs q n e1 e2 e3 e4
def FR.forget (h:FR S0 Z0 S Z L J) (i:Nat):FR S0 Z0 S Z L (J.set i none):=by
 refine⟨⟨h.er.zd,λ j t e=>?_,λ j ts e=>?_⟩,by simp[h.len],h.sx,h.z0,h.zz,h.zn,λ j ts p e e'=>?_,λ j k ts us p n e1 e2 e3 e4=>?_⟩
 .rcases x9 e with ⟨rfl,hl,e⟩ | ⟨n,e⟩
  .cases e
  .exact h.er.im j t e
 .rcases x9 e with ⟨rfl,hl,e⟩ | ⟨n,e⟩
  .cases e
  .exact h.er.ow j ts e
 .rcases x9 e with ⟨rfl,hl,e⟩ | ⟨n,e⟩
  .cases e
  .exact h.fr j ts p e e'
 .rcases x9 e1 with ⟨rfl,hl,e⟩ | ⟨n1,e1⟩
  .cases e
  rcases x9 e2 with ⟨rfl,hl,e⟩ | ⟨n2,e2⟩
  .cases e
  exact h.dj j k ts us p n e1 e2 e3 e4
@[simp] noncomputable def yP (is:List Nat) (J:Ev):Ev:=is.foldl (fun J i=>J.set i none) J
theorem FR.yP:∀ (is:List Nat) {J:Ev},FR S0 Z0 S Z L J->FR S0 Z0 S Z L (yP is J)
 | [],_,h=>h
 | i::is,_,h=>FR.yP is (h.forget i)
def FR.freeze {ts:List T}{p:Addr}(h:FR S0 Z0 S Z L J) (i:Nat) (e:J[i]?=some (some (.own (.lst ts)))) (ed:L[i]?=some (some (.ref p))):
  FR S0 Z0 S (λ a=>Z a/\a≠p) L (J.set i (some (.im (.lst ts))))/\Sn (yk S λ a=>Z a/\a≠p) (.lst ts) (.ref p):=by
 obtain⟨p',o,h1,h2,h3,h4⟩:=h.er.ow i _ e;rw[ed] at h1;cases h1;obtain⟨ds,rfl⟩:∃ ds,o=.lst ds:=by
  cases o with
  | lst ds=>exact⟨ds,rfl⟩
  | y6 _=>exact h3.elim
 replace h3:zu (yk S Z) ts ds:=h3;have hS:Sn (yk S λ a=>Z a/\a≠p) (.lst ts) (.ref p):=by
  simp only[Sn];exact⟨ds,.inr ⟨p,rfl,by rw[uX (λ z=>z.2 rfl)];exact h2⟩,zu.sx (sG λ a z=>z.1) ts h3⟩
 refine⟨?_,hS⟩;refine⟨⟨λ a z=>h.er.zd a z.1,λ j t e'=>?_,λ j us e'=>?_⟩,by simp[h.len],h.sx,h.z0,λ a z=>⟨h.zz a z,λ q=>?_⟩,λ a z=>h.zn a z.1,λ j us q e' ed'=>?_,λ j k us vs q n e1 e2 e3 e4=>?_⟩
 .rcases x9 e' with ⟨rfl,hl,e'⟩ | ⟨n,e'⟩
  .cases e';exact⟨_,ed,hS⟩
  .obtain⟨d,g1,g2⟩:=h.er.im j t e';exact⟨d,g1,Sn.sx (sG λ a z=>z.1) t g2⟩
 .rcases x9 e' with ⟨rfl,hl,e'⟩ | ⟨n,e'⟩
  .cases e'
  .obtain⟨q,es,g1,g2,g3,g4⟩:=h.er.ow j us e';exact⟨q,es,g1,g2,sY.sx (sG λ a z=>z.1) g3,g4,λ z=>by subst z;exact h.dj i j _ us q n e e' ed g1⟩
 .subst q;exact h.z0 a z (h.fr i _ a e ed)
 .rcases x9 e' with ⟨rfl,hl,e'⟩ | ⟨n,e'⟩
  .cases e'
  .exact h.fr j us q e' ed'
 .rcases x9 e1 with ⟨rfl,hl,e⟩ | ⟨n1,e1⟩
  .cases e
  rcases x9 e2 with ⟨rfl,hl,e⟩ | ⟨n2,e2⟩
  .cases e
  exact h.dj j k us vs q n e1 e2 e3 e4
def FR.mut {ts us:C}{es:O}{p:Addr}(h:FR S0 Z0 S Z L J) (i:Nat) (e:J[i]?=some (some (.own ts))) (ed:L[i]?=some (some (.ref p))) (r:sY (yk S Z) us es):
  FR S0 Z0 (ups S p es) Z L (J.set i (some (.own us))):=by
 obtain⟨p',ds,h1,h2,h3,h4⟩:=h.er.ow i ts e;rw[ed] at h1;cases h1;have hh:yk (ups S p es) Z=yk S Z:=Px h4;have hpn:=h.fr i ts p e ed;refine⟨⟨λ a z=>?_,λ j t e'=>?_,λ j vs e'=>?_⟩,by simp[h.len],λ b o q=>?_,h.z0,h.zz,h.zn,λ j vs q e' ed'=>?_,λ j k vs ws q n e1 e2 e3 e4=>?_⟩
 .by_cases hp:a=p
  .subst hp;rw[qm];nofun
  .rw[rm hp];exact h.er.zd a z
 .rw[hh];rcases x9 e' with ⟨rfl,hl,e'⟩ | ⟨n,e'⟩
  .cases e'
  .exact h.er.im j t e'
 .rw[hh];rcases x9 e' with ⟨rfl,hl,e'⟩ | ⟨n,e'⟩
  .cases e';exact⟨p,es,ed,qm,r,h4⟩
  .obtain⟨q,es',g1,g2,g3,g4⟩:=h.er.ow j vs e';refine⟨q,es',g1,?_,g3,g4⟩;rw[rm (λ z=>by subst z;exact h.dj i j ts vs q n e e' ed g1)];exact g2
 .rw[rm (λ z=>by subst z;rw[hpn] at q;cases q)];exact h.sx b o q
 .rcases x9 e' with ⟨rfl,hl,_⟩ | ⟨n,e'⟩
  .rw[ed] at ed';cases ed';exact hpn
  .exact h.fr j vs q e' ed'
 .rcases x9 e1 with ⟨rfl,hl,_⟩ | ⟨n1,e1⟩
  .rcases x9 e2 with ⟨rfl,hl,_⟩ | ⟨n2,e2⟩
   .exact n rfl
   .exact h.dj _ k ts ws q n e e2 e3 e4
  .rcases x9 e2 with ⟨rfl,hl,_⟩ | ⟨n2,e2⟩
   .exact h.dj j _ vs ts q n e1 e e3 e4
   .exact h.dj j k vs ws q n e1 e2 e3 e4
noncomputable def gW (S0 S:SS) (Z:Addr->Prop):SS:=open Classical in λ a=>if S0 a=none/\Z a then none else S a
def kX {a:Addr}(h:¬ (S0 a=none/\Z a)):gW S0 S Z a=S a:=if_neg h
def gU {a:Addr}(h:S0 a=none/\Z a):gW S0 S Z a=none:=if_pos h
def FR.rebase (h:FR S0 Z0 S Z L J):∃ S1,Sx S0 S1/\FR S1 Z0 S Z L J/\Sx (yk S Z) S1:=by
 refine⟨gW S0 S Z,λ b o q=>?_,⟨h.er,h.len,λ b o q=>?_,λ a z=>?_,h.zz,λ a z=>?_,λ i ts p e ed=>?_,h.dj⟩,λ b o q=>?_⟩
 .rw[kX (λ z=>by rw[z.1] at q;cases q)];exact h.sx _ _ q
 .by_cases w:S0 b=none/\Z b
  .rw[gU w] at q;cases q
  .rw[kX w] at q;exact q
 .rw[kX (λ q=>h.z0 a z q.1)];exact h.er.zd a (h.zz a z)
 .rcases h.zn a z with w | w
  .exact .inl w
  .exact .inr (gU ⟨w,z⟩)
 .obtain⟨p',ds,h1,h2,h3,h4⟩:=h.er.ow i ts e;rw[ed] at h1;cases h1;exact gU ⟨h.fr i ts p e ed,h4⟩
 .obtain⟨q1,q2⟩:=sF q;rw[kX (λ z=>q1 z.2)];exact q2
def FR.back {S1:SS}(h:FR S1 Z0 S Z L J) (s:Sx S0 S1) (z0:∀ a,Z0 a->S0 a≠none):FR S0 Z0 S Z L J:=⟨h.er,h.len,s.trans h.sx,z0,h.zz,λ a z=>(h.zn a z).imp id s.none,λ i ts p e ed=>s.none (h.fr i ts p e ed),h.dj⟩
def FR.Ue {S1:SS}{Z1:Addr->Prop}(h:FR S0 Z0 S Z L J) (b:Sx (yk S1 Z1) S0) (zz:∀ a,Z0 a->Z1 a):Sx (yk S1 Z1) (yk S Z):=λ a o q=>by
 have q0:=b _ _ q;obtain⟨q1,q2⟩:=sF q;rw[uX]
 .exact h.sx _ _ q0
 .intro z;rcases h.zn a z with w | w
  .exact q1 (zz a w)
  .rw[w] at q0;cases q0
end
inductive Out where
 | nx (J:Ev) | rt (t:T) | bk (J:Ev) | ct (J:Ev)
abbrev Sm:=Ev->Option Out
def NU (R:Rk) (S0:SS) (Z0:Addr->Prop) (o:Out) (E:pj):Prop:=match o with
 | .nx J=>∀ S Z L,FR S0 Z0 S Z L J->E.nx L S
 | .bk J=>∀ S Z L,FR S0 Z0 S Z L J->E.bk L S
 | .ct J=>∀ S Z L,FR S0 Z0 S Z L J->E.ct L S
 | .rt y=>∀ d S,Sx S0 S->R S0 S Z0 y d->E.rt d S
def xD (R:Rk) (g:Sm) (t:xC):Prop:=∀ S0 Z0 S Z L J o E,FR S0 Z0 S Z L J->g J=some o->NU R S0 Z0 o E->t E L S
class Lo (R:Rk):Prop extends Cl R where
 lo:∀ {S0 S S':SS}{Z0 Z:Addr->Prop}{y:T}{d:D},Sx S0 S->(∀ a,Z0 a->Z a)->R S S' Z y d->R S0 S' Z0 y d
instance:Lo uK:=⟨λ _ z h=>Sn.sx (sG z) _ h⟩
instance:Lo zV:=⟨λ s z h=>⟨Sn.sx (sG z) _ h.1,λ ts e=>by
 obtain⟨p,ds,h1,h2,h3,h4⟩:=h.2 ts e;exact⟨p,ds,h1,s.none h2,h3,zu.sx (sG λ a q=>q.imp (z a) id) ts h4⟩⟩⟩
@[simp] noncomputable def zy (g h:Sm):Sm:=fun J=>(g J).bind λ o=>match o with
 | .nx J'=>h J'
 | o=>some o
@[simp] noncomputable def yB:Sm:=fun J=>some (.nx J)
@[simp] noncomputable def zL (i:Nat) (f:Ev->Option T):Sm:=fun J=>(f J).map λ y=>.nx (J.set i (some (.im y)))
@[simp] noncomputable def uh (i:Nat) (f:Ev->Option T):Sm:=fun J=>(f J).bind λ y=>match y with
 | .lst ts=>some (.nx (J.set i (some (.own (.lst ts)))))
 | y=>some (.nx (J.set i (some (.im y))))
@[simp] noncomputable def eV (f:Ev->Option T):Sm:=fun J=>(f J).map λ _=>.nx J
@[simp] noncomputable def retS (f:Ev->Option T):Sm:=fun J=>(f J).map .rt
@[simp] noncomputable def pG (i:Nat):Sm:=fun J=>match J[i]? with
 | some (some (.own (.lst ts)))=>some (.rt (.lst ts))
 | _=>none
@[simp] noncomputable def yC (c:Ev->Option Bool) (g h:Sm):Sm:=fun J=>(c J).bind λ b=>if b=true then g J else h J
@[simp] noncomputable def eL (i:Nat) (J:Ev):Ev:=match J[i]? with
 | some (some (.own (.lst ts)))=>J.set i (some (.im (.lst ts)))
 | _=>J
@[simp] noncomputable def eK (i:Nat) (g:Sm):Sm:=fun J=>g (eL i J)
section
variable {R:Rk}{g h:Sm}{t u:xC}{f:Ev->Option T}{te:zI}
def zD (hg:xD R g t) (hh:xD R h u):xD R (zy g h) (lE t u):=λ S0 Z0 S Z L J o E F e P=>by
 obtain⟨o1,e1,e2⟩:=zOb e;refine hg S0 Z0 S Z L J o1 { E with nx:=u E } F e1 ?_;cases o1 with
 | nx J1=>exact λ S1 Z1 L1 F1=>hh S0 Z0 S1 Z1 L1 J1 o E F1 e2 P
 | rt y=>cases e2;exact P
 | bk y=>cases e2;exact P
 | ct y=>cases e2;exact P
def yT:xD R yB YG:=λ S0 Z0 S Z L J o E F e P=>by cases e;exact P S Z L F
def zS (i:Nat) (hf:um f te):xD R (zL i f) (ue te (hName i)):=λ S0 Z0 S Z L J o E F e P=>by
 obtain⟨y,e1,rfl⟩:=zOm e;exact hf S Z L J y _ F.er e1 λ d S1 s1 r1=>P S1 Z _ ((F.grow s1).t_ i r1)
def u6 (i:Nat) (hf:wj f te):xD R (uh i f) (ue te (hName i)):=λ S0 Z0 S Z L J o E F e P=>by
 obtain⟨y,e1,e2⟩:=zOb e;refine hf S Z L J y _ F.er e1 λ d S1 s1 r1=>?_;cases y with
 | lst ts=>
  cases e2;obtain⟨p,ds,rfl,h1,h2,h3⟩:=r1.2 ts rfl;exact P S1 _ _ (F.bJ (ts:=.lst ts) (ds:=.lst ds) s1 i h1 h2 h3)
 | zp=>cases e2;exact P S1 Z _ ((F.grow s1).t_ i r1.1)
 | bl _=>cases e2;exact P S1 Z _ ((F.grow s1).t_ i r1.1)
 | int _=>cases e2;exact P S1 Z _ ((F.grow s1).t_ i r1.1)
 | str _=>cases e2;exact P S1 Z _ ((F.grow s1).t_ i r1.1)
 | tup _=>cases e2;exact P S1 Z _ ((F.grow s1).t_ i r1.1)
 | yo=>cases e2;exact P S1 Z _ ((F.grow s1).t_ i r1.1)
def aZ (hf:yN f te):xD R (eV f) (jI te):=λ S0 Z0 S Z L J o E F e P=>by
 obtain⟨y,e1,rfl⟩:=zOm e;exact hf S Z L J y _ F.er e1 λ d S1 s1 r1=>P S1 Z _ (F.grow s1)
def ya [Lo R] (hf:vf R f te):xD R (retS f) (eY te):=λ S0 Z0 S Z L J o E F e P=>by
 obtain⟨y,e1,rfl⟩:=zOm e;exact hf S Z L J y _ F.er e1 λ d S1 s1 r1=>P d S1 (F.sx.trans s1) (Lo.lo F.sx F.zz r1)
def mQ (i:Nat):xD zV (pG i) (eY (xi i)):=λ S0 Z0 S Z L J o E F e P=>by
 unfold pG at e;split at e
 .rename_i ts h;cases e;obtain⟨p,ob,h1,h2,h3,h4⟩:=F.er.ow i _ h;obtain⟨ds,rfl⟩:∃ ds,ob=.lst ds:=by
   cases ob with
   | lst ds=>exact⟨ds,rfl⟩
   | y6 _=>exact h3.elim
  replace h3:zu (yk S Z) ts ds:=h3;have hn:=F.fr i _ p h h1;have nz:¬ Z0 p:=λ z=>F.z0 p z hn;show xi i L S E.rt;unfold xi;rw[h1];refine P _ S F.sx ⟨?_,λ us e=>?_⟩
  .simp only[Sn];exact⟨ds,.inr ⟨p,rfl,by rw[uX nz];exact h2⟩,zu.sx (sG F.zz) ts h3⟩
  .cases e;exact⟨p,ds,rfl,hn,h2,zu.sx (sG λ a q=>q.elim (F.zz a) λ q=>q▸h4) ts h3⟩
 .cases e
def yU {c:Ev->Option Bool}{tc:xj}(hc:vX c tc) (hg:xD R g t) (hh:xD R h u):xD R (yC c g h) (YL tc t u):=λ S0 Z0 S Z L J o E F e P=>by
 obtain⟨b,e1,e2⟩:=zOb e;refine hc S Z L J b _ F.er e1 λ S1 s1=>?_;split at e2
 .rename_i hb;rw[if_pos hb];exact hg S0 Z0 S1 Z L J o E (F.grow s1) e2 P
 .rename_i hb;rw[if_neg hb];exact hh S0 Z0 S1 Z L J o E (F.grow s1) e2 P
def FR.fz {S0 S:SS}{Z0 Z:Addr->Prop}{L:y8}{J:Ev}(F:FR S0 Z0 S Z L J) (i:Nat):∃ Z',FR S0 Z0 S Z' L (eL i J):=by
 unfold eL;split
 .rename_i ts h;obtain⟨p,ds,h1,_⟩:=F.er.ow i _ h;exact⟨_,(F.freeze i h h1).1⟩
 .exact⟨Z,F⟩
def aY (i:Nat) (hg:xD R g t):xD R (eK i g) t:=λ S0 Z0 S Z L J o E F e P=>by
 obtain⟨Z',F'⟩:=F.fz i;exact hg S0 Z0 S Z' L _ o E F' e P
def lY (g:T->Ev->Option Ev) (t:xX):Prop:=∀ S0 Z0 S Z L J J' y d Q,FR S0 Z0 S Z L J->Sn (yk S Z) y d->g y J=some J'->(∀ L',FR S0 Z0 S Z L' J'->Q L' S)->t d L S Q
def iy (g:List T->Ev->Option Ev) (t:vH):Prop:=∀ S0 Z0 S Z L J J' ys ds Q,FR S0 Z0 S Z L J->zu (yk S Z) ys ds->g ys J=some J'->(∀ L',FR S0 Z0 S Z L' J'->Q L' S)->t ds L S Q
@[simp] noncomputable def zJ (i:Nat):T->Ev->Option Ev:=λ y J=>some (J.set i (some (.im y)))
@[simp] noncomputable def v_:List T->Ev->Option Ev
 | [],J=>some J
 | _::_,_=>none
@[simp] noncomputable def yW (g:T->Ev->Option Ev) (h:List T->Ev->Option Ev):List T->Ev->Option Ev
 | y::ys,J=>(g y J).bind fun J'=>h ys J'
 | [],_=>none
@[simp] noncomputable def vA (n:Nat) (g:List T->Ev->Option Ev):T->Ev->Option Ev
 | .tup ys,J=>if ys.length=n then g ys J else none
 | _,_=>none
def xH (i:Nat):lY (zJ i) (hName i):=λ S0 Z0 S Z L J J' y d Q F r e hq=>by cases e;exact hq _ (F.t_ i r)
def jk:iy v_ e7:=λ S0 Z0 S Z L J J' ys ds Q F r e hq=>by
 cases ys with
 | nil=>simp only[zu] at r;subst r;cases e;exact⟨rfl,hq _ F⟩
 | cons _ _=>cases e
def tF {g:T->Ev->Option Ev}{h:List T->Ev->Option Ev}{t:xX}{u:vH}(hg:lY g t) (hh:iy h u):iy (yW g h) (e9 t u):=λ S0 Z0 S Z L J J' ys ds Q F r e hq=>by
 cases ys with
 | nil=>cases e
 | cons y ys=>
  simp only[zu] at r;obtain⟨c,cs,rfl,r1,r2⟩:=r;obtain⟨J1,e1,e2⟩:=zOb e;exact hg S0 Z0 S Z L J J1 y c _ F r1 e1 fun L1 F1=>hh S0 Z0 S Z L1 J1 J' ys cs Q F1 r2 e2 hq
def jl {n:Nat}{g:List T->Ev->Option Ev}{t:vH}(hg:iy g t):lY (vA n g) (j5 n t):=λ S0 Z0 S Z L J J' y d Q F r e hq=>by
 cases y with
 | tup ys=>
  simp only[Sn] at r;obtain⟨ds,rfl,r⟩:=r;simp only[vA] at e;split at e
  .rename_i hl;exact⟨by rw[r.len];exact hl,hg S0 Z0 S Z L J J' ys ds Q F r e hq⟩
  .cases e
 | zp=>cases e
 | bl _=>cases e
 | int _=>cases e
 | str _=>cases e
 | lst _=>cases e
 | yo=>cases e
@[simp] noncomputable def bu (f:Ev->Option T) (g:T->Ev->Option Ev):Sm:=fun J=>(f J).bind λ y=>(g y J).map .nx
def Rq {g:T->Ev->Option Ev}{tg:xX}(hf:um f te) (hg:lY g tg):xD R (bu f g) (ue te tg):=λ S0 Z0 S Z L J o E F e P=>by
 obtain⟨y,e1,e2⟩:=zOb e;obtain⟨J',e3,rfl⟩:=zOm e2;exact hf S Z L J y _ F.er e1 λ d S1 s1 r1=>hg S0 Z0 S1 Z L J J' y d _ (F.grow s1) r1 e3 fun L' F'=>P S1 Z L' F'
def nG (free:Bool) (f:Ev->Option (List T)) (ti:vW):Prop:=∀ S Z L J ts Q,ER S Z L J->f J=some ts->(∀ I S',Sx S S'->zu (yk S' Z) ts I.items->(∀ S'',Sx (if free=true then yk S' Z else S') S''->I.keep S'')->Q I S')->ti L S Q
@[simp] noncomputable def xg (f:Ev->Option T):Ev->Option (List T):=fun J=>(f J).bind wZ
def uV {f:Ev->Option T}{te:zI}(hf:yN f te):nG false (xg f) (f_ te):=λ S Z L J ts Q hE e hq=>by
 obtain⟨y,e1,e2⟩:=zOb e;refine hf S Z L J y _ hE e1 λ d S1 s1 r1=>?_;cases y with
 | tup us=>
  cases e2;obtain⟨ds,rfl,h2⟩:=Vw.tup r1;exact hq _ S1 s1 h2 λ _ _=>trivial
 | lst us=>
  cases e2;obtain⟨ds,rfl | ⟨a,rfl,h1⟩,h2⟩:=Vw.lst r1
  .exact hq _ S1 s1 h2 λ _ _=>trivial
  .dsimp only;rw[h1];exact hq ⟨ds,_⟩ S1 s1 h2 λ S'' s=>s _ _ h1
 | zp=>cases e2
 | bl _=>cases e2
 | int _=>cases e2
 | str _=>cases e2
 | yo=>cases e2
def u7 {f:Ev->Option T}{te:zI}(hf:um f te):nG true (xg f) (f_ te):=λ S Z L J ts Q hE e hq=>by
 obtain⟨y,e1,e2⟩:=zOb e;refine hf S Z L J y _ hE e1 λ d S1 s1 r1=>?_;cases y with
 | tup us=>
  cases e2;obtain⟨ds,rfl,h2⟩:=Vw.tup (.inl r1);exact hq _ S1 s1 h2 λ _ _=>trivial
 | lst us=>
  cases e2;have r2:=r1;unfold uK at r2;simp only[Sn] at r2;obtain⟨ds,⟨rfl,_⟩ | ⟨a,rfl,h1⟩,h2⟩:=r2
  .exact hq _ S1 s1 h2 λ _ _=>trivial
  .dsimp only;rw[(sF h1).2];exact hq ⟨ds,_⟩ S1 s1 h2 λ S'' s=>s _ _ h1
 | zp=>cases e2
 | bl _=>cases e2
 | int _=>cases e2
 | str _=>cases e2
 | yo=>cases e2
noncomputable def rangeT (lo:Int) (n:Nat):List T:=(List.range n).map λ(k:Nat)=>T.int (lo+(k:Int))
def bB {S:SS}(lo:Int) (n:Nat):zu S (rangeT lo n) (ux lo n):=by
 unfold rangeT ux
 induction List.range n with
 | nil=>exact .nil
 | cons k l ih=>exact .cons vL ih
noncomputable def inR (j:Int):Bool:=decide (-100000000<=j)&&decide (j<=100000000)
def ZY {j:Int}:inR j=true↔-100000000<=j/\j<=100000000:=by simp[inR]
def Pr {j:Int}(h:inR j=true):-(2 ^ 62)<=j/\j<2 ^ 62:=by have:=ZY.mp h;omega
noncomputable def vM:List T->Option (List T)
 | [.int j]=>if inR j=true then some (rangeT 0 j.toNat) else none
 | _=>none
@[simp] noncomputable def vk (F:List T->Option (List T)) (g:Ev->Option (List T)):Ev->Option (List T):=fun J=>(g J).bind F
def su {b:Bool}{g:Ev->Option (List T)}{tA:yQ}(h:nI g tA):nG b (vk vM g) (ea tA):=λ S Z L J ts Q hE e hq=>by
 obtain⟨ys,e1,e2⟩:=zOb e;refine h S Z L J ys _ hE e1 λ ds S1 s1 r1=>?_;unfold vM at e2;split at e2
 .split at e2
  .rename_i hc;cases e2;obtain⟨d,rfl,h1⟩:=uu r1;cases h1.int;exact⟨Pr hc,hq _ S1 s1 (bB _ _) λ _ _=>trivial⟩
  .cases e2
 .cases e2
noncomputable def vj (is:List Nat) (g:T->Ev->Option Ev) (b:Sm):List T->Ev->Option Out
 | [],J=>some (.nx (yP is J))
 | y::ys,J=>(g y (yP is J)).bind fun J1=>(b J1).bind λ o=>match o with
  | .nx J2=>vj is g b ys J2
  | .ct J2=>vj is g b ys J2
  | .bk J2=>some (.nx (yP is J2))
  | .rt t=>some (.rt t)
@[simp] noncomputable def wC (is:List Nat) (f:Ev->Option (List T)) (g:T->Ev->Option Ev) (b:Sm):Sm:=fun J=>(f J).bind λ ts=>vj is g b ts J
def va {is:List Nat}{fi:Ev->Option (List T)}{ti:vW}{g:T->Ev->Option Ev}{tg:xX}{b:Sm}{tb:xC} [Lo R] (hi:nG true fi ti) (hg:lY g tg) (hb:xD R b tb):xD R (wC is fi g b) (lH ti tg tb):=λ S0 Z0 S Z L J o E F e P=>by
 obtain⟨ts,e1,e2⟩:=zOb e;refine hi S Z L J ts _ F.er e1 λ I S1 s1 r1 hk=>?_;rw[if_pos rfl] at hk;obtain⟨SB,b1,FB,b2⟩:=(F.grow s1).rebase;have lo:∀ S' d y,R SB S' Z0 y d->R S0 S' Z0 y d:=λ S' d y r=>Lo.lo b1 (λ _ z=>z) r;have zz:=F.zz;refine⟨λ i L' S'=>∃ Z' J',FR SB Z0 S' Z' L' J'/\vj is g b (ts.drop i) J'=some o,⟨Z,J,FB,e2⟩,λ i L' S' ⟨Z',J',F',_⟩=>hk S' (b2.trans F'.sx),λ i d L' S' hd ⟨Z',J',F',e'⟩=>?_,fun L' S' ⟨Z',J',F',e'⟩=>?_⟩
 .obtain⟨y,hy,r2⟩:=r1.eJ hd;have hlt:=(zA2.mp hy).1;have hdt:ts.drop i=y::ts.drop (i+1):=by
   rw[List.drop_eq_getElem_cons hlt,(zA2.mp hy).2]
  rw[hdt] at e';unfold vj at e';obtain⟨J1,g1,e'⟩:=zOb e';obtain⟨o1,g2,e'⟩:=zOb e';refine hg SB Z0 S' Z' L' _ J1 y d _ (F'.yP is) (Sn.sx (F'.Ue b2 zz) y r2) g1 fun L2 F2=>?_
  refine hb SB Z0 S' Z' L2 J1 o1 _ F2 g2 ?_;cases o1 with
  | nx J2=>exact λ S3 Z3 L3 F3=>⟨Z3,J2,F3,e'⟩
  | ct J2=>exact λ S3 Z3 L3 F3=>⟨Z3,J2,F3,e'⟩
  | bk J2=>cases e';exact λ S3 Z3 L3 F3=>P S3 Z3 L3 ((F3.yP is).back b1 F.z0)
  | rt y=>cases e';exact λ d S3 s3 r3=>P d S3 (b1.trans s3) (lo _ _ _ r3)
 .rw[show I.items.length=ts.length from r1.len,List.drop_length] at e';unfold vj at e';cases e';exact P S' Z' L' ((F'.yP is).back b1 F.z0)
end
@[simp] noncomputable def tu (i:Nat) (f:Ev->Option T):Sm:=fun J=>match J[i]? with
 | some (some (.own (.lst ts)))=>(f J).bind λ y=>if ts.length<sizeLine then some (.nx (J.set i (some (.own (.lst (ts++[y])))))) else none
 | _=>none
section
variable {R:Rk}{f:Ev->Option T}{te:zI}
def qB (i:Nat) (hf:um f te):xD R (tu i f) (jI (qV (xi i) te)):=λ S0 Z0 S Z L J o E F e P=>by
 unfold tu at e;split at e
 .rename_i ts h;obtain⟨y,e1,e2⟩:=zOb e;split at e2
  .rename_i hl;cases e2;obtain⟨p,ob,h1,h2,h3,h4⟩:=F.er.ow i _ h;obtain⟨ds,rfl⟩:∃ ds,ob=.lst ds:=by
    cases ob with
    | lst ds=>exact⟨ds,rfl⟩
    | y6 _=>exact h3.elim
   replace h3:zu (yk S Z) ts ds:=h3;show qV (xi i) te L S _;unfold qV xi;rw[h1];refine⟨⟨ds,h2⟩,hf S Z L J y _ F.er e1 λ d S1 s1 r1=>?_⟩;dsimp only;rw[s1 _ _ h2];have F1:=F.grow s1;refine⟨by rw[h3.len];exact hl,P _ Z L (F1.mut (us:=.lst (ts++[y])) (es:=.lst (ds++[d])) i h h1 ((zu.sx (vG s1) ts h3).append (.cons r1 .nil)))⟩
  .cases e2
 .cases e
end
def rX (pick:List (Option Nat)) (ti:vW) (g:xX) (tc:xj) (te:zI):zI:=fun L S Q=>ti L S λ I S1=>I.items.length<=sizeLine/\(∀ S,Sx S1 S->I.keep S)/\∀ p,S1 p=none->∃ W:Nat->SS->List D->Prop,W 0 S1 []/\
 (∀ i S S' acc,(∀ b o,b≠p->S b=some o->S' b=some o)->W i S acc->W i S' acc)/\
 (∀ i d S acc,I.items[i]?=some d->Sx S1 S->S p=some (.lst acc)->W i S acc->g d (uU pick L) S fun L2 S2=>ou (uU pick L) L2/\tc L2 S2 λ b S3=>if b=true then te L2 S3 λ y S4=>Sx S S4/\W (i+1) S4 (acc++[y]) else Sx S S3/\W (i+1) S3 acc)/\
 ∀ S2 acc,Sx S1 S2->S2 p=some (.lst acc)->W I.items.length S2 acc->Q (.ref p) S2
@[simp] noncomputable def mI (pick:List (Option Nat)) (J:Ev):Ev:=pick.map λ o=>o.bind λ i=>(J[i]?).join
noncomputable def pZ (h:T->Option (Option T)):List T->Option (List T)
 | []=>some []
 | y::ys=>(h y).bind λ o=>(pZ h ys).map λ zs=>match o with
  | some z=>z::zs
  | none=>zs
@[simp] noncomputable def nh (pick:List (Option Nat)) (g:T->Ev->Option Ev) (c:Ev->Option Bool) (f:Ev->Option T) (J:Ev) (y:T):Option (Option T):=
 (g y (mI pick J)).bind fun J2=>(c J2).bind λ b=>if b=true then (f J2).map some else some none
noncomputable def wa (pick:List (Option Nat)) (it:Ev->Option (List T)) (g:T->Ev->Option Ev) (c:Ev->Option Bool) (f:Ev->Option T):Ev->Option T:=fun J=>(it J).bind λ ts=>if ts.length<=sizeLine then (pZ (nh pick g c f J) ts).map .lst else none
@[simp] noncomputable def tS:Ev->Option Bool:=λ _=>some true
def sy:vX tS Y0:=λ S Z L J y Q hE e hq=>by cases e;exact hq S (.refl S)
def i4 (pick:List (Option Nat)) (g:T->Ev->Option Ev) (t:xX):Prop:=∀ B S Z L J J' y d Q,(∀ i:Nat,pick[i]?=some none->B[i]?=some none)->ou B L->L.length=J.length->ER S Z L J->Sn (yk S Z) y d->g y J=some J'->
 (∀ L',ER S Z L' J'->ou B L'->L'.length=J'.length->Q L' S)->t d L S Q
def iz (pick:List (Option Nat)) (g:List T->Ev->Option Ev) (t:vH):Prop:=∀ B S Z L J J' y d Q,(∀ i:Nat,pick[i]?=some none->B[i]?=some none)->ou B L->L.length=J.length->ER S Z L J->zu (yk S Z) y d->g y J=some J'->
 (∀ L',ER S Z L' J'->ou B L'->L'.length=J'.length->Q L' S)->t d L S Q
def ER.t_ {S:SS}{Z:Addr->Prop}{L:y8}{J:Ev}{y:T}{d:D}(h:ER S Z L J) (hl:L.length=J.length) (i:Nat) (r:Sn (yk S Z) y d):ER S Z (L.set i (some d)) (J.set i (some (.im y))):=by
 refine⟨h.zd,λ j t e=>?_,λ j ts e=>?_⟩
 .rcases x9 e with ⟨rfl,hl',e⟩ | ⟨n,e⟩
  .cases e;exact⟨d,nr (by rw[hl];exact hl'),r⟩
  .rw[vS n];exact h.im j t e
 .rcases x9 e with ⟨rfl,hl',e⟩ | ⟨n,e⟩
  .cases e
  .rw[vS n];exact h.ow j ts e
variable {pick:List (Option Nat)}
def wR (i:Nat) (hi:pick[i]?=some none:=by rfl):i4 pick (zJ i) (hName i):=λ B S Z L J J' y d Q hB hs hl hE r e hq=>by
 cases e;refine hq _ (hE.t_ hl i r) ⟨by rw[List.length_set];exact hs.1,λ j c q=>?_⟩ (by simp[hl]);by_cases hj:i=j
 .subst hj;rw[hB i hi] at q;cases q
 .rw[vS hj];exact hs.2 j c q
def Za:iz pick v_ e7:=λ B S Z L J J' y d Q hB hs hl hE r e hq=>by
 cases y with
 | nil=>simp only[zu] at r;subst r;cases e;exact⟨rfl,hq _ hE hs hl⟩
 | cons _ _=>cases e
def jm {g:T->Ev->Option Ev}{h:List T->Ev->Option Ev}{t:xX}{u:vH}(hg:i4 pick g t) (hh:iz pick h u):iz pick (yW g h) (e9 t u):=λ B S Z L J J' y d Q hB hs hl hE r e hq=>by
 cases y with
 | nil=>cases e
 | cons y ys=>
  simp only[zu] at r;obtain⟨c,cs,rfl,r1,r2⟩:=r;obtain⟨J1,e1,e2⟩:=zOb e;exact hg B S Z L J J1 y c _ hB hs hl hE r1 e1 fun L1 E1 s1 l1=>hh B S Z L1 J1 J' ys cs Q hB s1 l1 E1 r2 e2 hq
def Zb {n:Nat}{g:List T->Ev->Option Ev}{t:vH}(hg:iz pick g t):i4 pick (vA n g) (j5 n t):=λ B S Z L J J' y d Q hB hs hl hE r e hq=>by
 cases y with
 | tup ys=>
  simp only[Sn] at r;obtain⟨ds,rfl,r⟩:=r;simp only[vA] at e;split at e
  .rename_i hn;exact⟨by rw[r.len];exact hn,hg B S Z L J J' ys ds Q hB hs hl hE r e hq⟩
  .cases e
 | zp=>cases e
 | bl _=>cases e
 | int _=>cases e
 | str _=>cases e
 | lst _=>cases e
 | yo=>cases e
def aA {J:Ev}{i:Nat}{w:W}(h:(mI pick J)[i]?=some (some w)):∃ j:Nat,pick[i]?=some (some j)/\J[j]?=some (some w):=by
 unfold mI at h;rw[zA3] at h;cases q:pick[i]? with
 | none=>rw[q] at h;cases h
 | some o=>
  rw[q] at h;cases o with
  | none=>simp at h
  | some j=>
   simp only[Option.map_some,zC9,Option.some.injEq] at h;refine⟨j,rfl,?_⟩;cases q2:J[j]? with
   | none=>rw[q2] at h;cases h
   | some o2=>rw[q2] at h;simp only[Option.join_some] at h;rw[h]
def aB {L:y8}{i j:Nat}{d:D}(h:pick[i]?=some (some j)) (h':L[j]?=some (some d)):(uU pick L)[i]?=some (some d):=by
 unfold uU;rw[zA3,h];simp[h']
def ER.Tn {S:SS}{Z:Addr->Prop}{L:y8}{J:Ev}(h:ER S Z L J):ER S Z (uU pick L) (mI pick J):=by
 refine⟨h.zd,λ i t e=>?_,λ i ts e=>?_⟩
 .obtain⟨j,h1,h2⟩:=aA e;obtain⟨d,h3,h4⟩:=h.im j t h2;exact⟨d,aB h1 h3,h4⟩
 .obtain⟨j,h1,h2⟩:=aA e;obtain⟨p,ds,h3,h4⟩:=h.ow j ts h2;exact⟨p,ds,aB h1 h3,h4⟩
def ER.hide {S S':SS}{Z:Addr->Prop}{L:y8}{J:Ev}{p:Addr}(h:ER S Z L J) (s:Sx S S') (hp:S p=none) (hp':S' p≠none):ER S' (λ a=>Z a\/a=p) L J:=by
 refine⟨λ a z q=>?_,λ i t e=>?_,λ i ts e=>?_⟩
 .rcases z with z | rfl
  .exact h.zd a z (s.none q)
  .exact hp' q
 .obtain⟨d,h1,h2⟩:=h.im i t e;exact⟨d,h1,Sn.sx (nq s hp) t h2⟩
 .obtain⟨q,ds,h1,h2,h3,h4⟩:=h.ow i ts e;exact⟨q,ds,h1,s _ _ h2,sY.sx (nq s hp) h3,.inl h4⟩
def vi {it:Ev->Option (List T)}{ti:vW}{g:T->Ev->Option Ev}{tg:xX}{c:Ev->Option Bool}{tc:xj}{f:Ev->Option T}{te:zI}{b:Bool}(hi:nG b it ti) (hg:i4 pick g tg) (hc:vX c tc) (hf:um f te):
  wj (wa pick it g c f) (rX pick ti tg tc te):=λ S Z L J y Q hE e hq=>by
 obtain⟨ts,e1,e2⟩:=zOb e;split at e2
 case isFalse=>cases e2
 rename_i hlen;obtain⟨zs,e3,rfl⟩:=zOm e2;refine hi S Z L J ts _ hE e1 λ I S1 s1 r1 hk=>⟨by rw[r1.len];exact hlen,λ S' s'=>hk S' ?_,λ p hp=>?_⟩
 .cases b
  .exact s'
  .exact (j4 _ _).trans s'
 have E1:=hE.grow s1;have nz:¬ Z p:=λ z=>E1.zd p z hp;refine⟨λ i S' acc=>∃ us ws,zu (yk S' λ a=>Z a\/a=p) us acc/\pZ (nh pick g c f J) (ts.drop i)=some ws/\zs=us++ws,⟨[],zs,.nil,e3,rfl⟩,λ i S' S'' acc hh ⟨us,ws,h1,h2⟩=>⟨us,ws,zu.sx (λ a o q=>?_) us h1,h2⟩,λ i d S2 acc hd s2 hacc ⟨us,ws,h1,h2,h3⟩=>?_,λ S2 acc s2 hacc ⟨us,ws,h1,h2,h3⟩=>?_⟩
 .obtain⟨q1,q2⟩:=sF q;rw[uX q1];exact hh a o (λ z=>q1 (.inr z)) q2
 .obtain⟨x,hx,rx⟩:=r1.eJ hd;have hlt:=(zA2.mp hx).1;have hdt:ts.drop i=x::ts.drop (i+1):=by rw[List.drop_eq_getElem_cons hlt,(zA2.mp hx).2]
  rw[hdt] at h2;unfold pZ at h2;obtain⟨o,o1,h2⟩:=zOb h2;obtain⟨ws',o2,rfl⟩:=zOm h2;have E2:=(E1.hide s2 hp (by rw[hacc];nofun)).Tn (pick:=pick);unfold nh at o1;obtain⟨J2,g1,o1⟩:=zOb o1;obtain⟨bb,g2,o1⟩:=zOb o1;refine hg (uU pick L) S2 _ _ _ J2 x d _ (λ j hj=>?_) ⟨rfl,λ _ _ q=>q⟩ (by unfold uU mI;simp) E2 (Sn.sx (nq s2 hp) x rx) g1 fun L2 E3 l3 _=>⟨l3,?_⟩
  .unfold uU;rw[zA3,hj];rfl
  refine hc S2 _ L2 J2 bb _ E3 g2 λ S3 s3=>?_;split at o1
  .rename_i hb;rw[if_pos hb];obtain⟨z,g3,rfl⟩:=zOm o1;refine hf S3 _ L2 J2 z _ (E3.grow s3) g3 λ dz S4 s4 r4=>⟨s3.trans s4,us++[z],ws',?_,o2,by rw[h3];simp⟩;exact (zu.sx (vG (s3.trans s4)) us h1).append (.cons r4 .nil)
  .rename_i hb;rw[if_neg hb];cases o1;exact⟨s3,us,ws',zu.sx (vG s3) us h1,o2,h3⟩
 .rw[show I.items.length=ts.length from r1.len,List.drop_length] at h2;cases h2;rw[List.append_nil] at h3;subst h3;refine hq _ S2 (s1.trans s2) ⟨?_,λ vs e=>?_⟩
  .simp only[Sn];exact⟨acc,.inr ⟨p,rfl,by rw[uX nz];exact hacc⟩,zu.sx (sG λ a z=>.inl z) zs h1⟩
  .cases e;exact⟨p,acc,rfl,s1.none hp,hacc,h1⟩
class Sr (R:Rk):Prop extends Lo R where
 sn:∀ {S S':SS}{Z:Addr->Prop}{y:T}{d:D},R S S' Z y d->Sn (yk S' Z) y d
instance:Sr uK:=⟨λ h=>h⟩
instance:Sr zV:=⟨λ h=>h.1⟩
def yf (R:Rk) (F:List T->Option T):qY:=λ ds S Q=>∃ Z ys y,(∀ a,Z a->S a≠none)/\zu (yk S Z) ys ds/\F ys=some y/\∀ d S',Sx S S'->R S S' Z y d->Q d S'
def yf.mo {R:Rk}{F:List T->Option T}:dJ (yf R F):=λ _ _ _ _ hq ⟨Z,ys,y,h1,h2,h3,h4⟩=>⟨Z,ys,y,h1,h2,h3,λ d S' s r=>hq _ _ (h4 d S' s r)⟩
def zZ {R:Rk} [Lo R] {F:List T->Option T}{g:Ev->Option (List T)}{u:yQ}(h:nH g u):vf R (zF F g) (eZ (yf R F) u):=λ S Z L J y Q hE e hq=>by
 obtain⟨xs,e1,e2⟩:=zOb e;refine h S Z L J xs _ hE e1 λ ds S1 s1 r1=>?_;exact⟨Z,xs,y,(hE.grow s1).zd,r1,e2,λ d S' s r=>hq d S' (s1.trans s) (Cl.cl s1 r)⟩
@[simp] noncomputable def p9 (N:List Str) (ys:List T):Ev:=ys.map (λ y=>some (.im y))++List.replicate (N.length-ys.length) none
@[simp] noncomputable def aQ:Option Out->Option T
 | some (.rt y)=>some y
 | some (.nx _)=>some .zp
 | _=>none
@[simp] noncomputable def yn (N:List Str) (n:Nat) (g:Sm):List T->Option T:=λ ys=>if ys.length=n then aQ (g (p9 N ys)) else none
theorem yf.len {R:Rk}{N:List Str}{n:Nat}{g:Sm}{ds:List D}{S:SS}{Q:DK}(hs:yf R (yn N n g) ds S Q):ds.length=n:=by
 obtain⟨Z,ys,y,hz,r,e,hq⟩:=hs;unfold yn at e;split at e
 .rename_i h;rw[r.len];exact h
 .cases e
def VN {N:List Str}{ds:List D}{i:Nat}{d:D}(h:ds[i]?=some d):(r9 N ds)[i]?=some (some d):=by
 have hi:=(zA2.mp h).1;unfold r9;rw[List.getElem?_append_left (by simpa using hi),zA3,h];rfl
def kD {N:List Str}{ys:List T}{i:Nat}{w:W}(h:(p9 N ys)[i]?=some (some w)):∃ y,ys[i]?=some y/\w=.im y:=by
 unfold p9 at h;have hi:i<ys.length:=by
  rcases Nat.lt_or_ge i ys.length with q | q
  .exact q
  .rw[List.getElem?_append_right (by simpa using q),List.getElem?_replicate] at h;split at h <;> cases h
 rw[List.getElem?_append_left (by simpa using hi),zA3] at h;cases q:ys[i]? with
 | none=>rw[q] at h;cases h
 | some y=>rw[q] at h;cases h;exact⟨y,rfl,rfl⟩
def N9 {R:Rk} [Lo R] {N:List Str}{n:Nat}{g:Sm}{t:xC}(h:xD R g t) {ds:List D}{S:SS}{Q:DK}(hs:yf R (yn N n g) ds S Q):t { nx:=λ _ S'=>Q .zp S',rt:=Q } (r9 N ds) S:=by
 obtain⟨Z,ys,y,hz,r,e,hq⟩:=hs;unfold yn at e;split at e
 case isFalse=>cases e
 obtain⟨o,e1,e2⟩:∃ o,g (p9 N ys)=some o/\aQ (some o)=some y:=by
  cases q:g (p9 N ys) with
  | none=>rw[q] at e;cases e
  | some o=>exact⟨o,rfl,by rw[<- q];exact e⟩
 refine h S Z S Z _ _ o _ ⟨⟨hz,λ i t e=>?_,λ i ts e=>?_⟩,?_,.refl S,hz,λ _ z=>z,λ _ z=>.inl z,λ i ts p e _=>?_,λ i j ts us p _ e _ _ _=>?_⟩ e1 ?_
 .obtain⟨y',h1,h2⟩:=kD e;cases h2;obtain⟨d,h3,h4⟩:=r.eF h1;exact⟨d,VN h3,h4⟩
 .obtain⟨y',h1,h2⟩:=kD e;cases h2
 .unfold r9 p9;have:=r.len;simp[this]
 .obtain⟨y',h1,h2⟩:=kD e;cases h2
 .obtain⟨y',h1,h2⟩:=kD e;cases h2
 .cases o with
  | rt y'=>cases e2;exact λ d S' s r=>hq d S' s r
  | nx J'=>
   cases e2;exact λ S' Z' L' F=>hq .zp S' F.sx (Cl.of (λ _=>nofun) bE)
  | bk _=>cases e2
  | ct _=>cases e2
noncomputable def xZ (kvs:List (Key×T)) (k:Key):Option T:=(kvs.find? λ kv=>decide (kv.1=k)).map (·.2)
noncomputable def uR (kvs:List (Key×T)) (k:Key) (v:T):List (Key×T):=
 if (kvs.any λ kv=>decide (kv.1=k))=true then kvs.map (λ kv=>if kv.1=k then (kv.1,v) else kv) else kvs++[(k,v)]
section
variable {S:SS}
theorem yY.len:∀ {a:List (Key×T)}{b:List (Key×D)},yY S a b->b.length=a.length
 | [],_,h=>by cases h;rfl
 | (k,t)::r,_,h=>by
  obtain⟨d,m,rfl,_,h2⟩:=h;simp[yY.len h2]
theorem yY.val:∀ {a:List (Key×T)}{b:List (Key×D)}(k:Key),yY S a b->(xZ a k=none/\uP b k=none)\/∃ t d,xZ a k=some t/\uP b k=some d/\Sn S t d
 | [],_,k,h=>by cases h;exact .inl ⟨rfl,rfl⟩
 | (j,t)::r,_,k,h=>by
  obtain⟨d,m,rfl,h1,h2⟩:=h;by_cases e:j=k
  .subst e;exact .inr ⟨t,d,by simp[xZ],by simp[uP],h1⟩
  .rcases yY.val k h2 with ⟨g1,g2⟩ | ⟨t',d',g1,g2,g3⟩
   .exact .inl ⟨by simpa [xZ,e] using g1,by simpa [uP,e] using g2⟩
   .exact .inr ⟨t',d',by simpa [xZ,e] using g1,by simpa [uP,e] using g2,g3⟩
theorem yY.any:∀ {a:List (Key×T)}{b:List (Key×D)}(k:Key),yY S a b->(b.any λ kv=>decide (kv.1=k))=a.any λ kv=>decide (kv.1=k)
 | [],_,k,h=>by cases h;rfl
 | (j,t)::r,_,k,h=>by
  obtain⟨d,m,rfl,h1,h2⟩:=h;rw[List.any_cons,List.any_cons,yY.any k h2]
theorem yY.sd {k:Key}{t:T}{d:D}(r:Sn S t d):∀ {a:List (Key×T)}{b:List (Key×D)},yY S a b->yY S (a.map λ kv=>if kv.1=k then (kv.1,t) else kv) (b.map λ kv=>if kv.1=k then (kv.1,d) else kv)
 | [],_,h=>by cases h;rfl
 | (j,u)::a,_,h=>by
  obtain⟨e,m,rfl,h1,h2⟩:=h;rw[zA6,zA6];by_cases q:j=k
  .rw[if_pos q,if_pos q];exact⟨d,_,rfl,r,yY.sd r h2⟩
  .rw[if_neg q,if_neg q];exact⟨e,_,rfl,h1,yY.sd r h2⟩
theorem yY.snoc {k:Key}{t:T}{d:D}(r:Sn S t d):∀ {a:List (Key×T)}{b:List (Key×D)},yY S a b->yY S (a++[(k,t)]) (b++[(k,d)])
 | [],_,h=>by cases h;exact⟨d,[],rfl,r,rfl⟩
 | (j,u)::a,_,h=>by
  obtain⟨e,m,rfl,h1,h2⟩:=h;exact⟨e,_,rfl,h1,yY.snoc r h2⟩
def yY.put {a:List (Key×T)}{b:List (Key×D)}(h:yY S a b) (k:Key) {t:T}{d:D}(r:Sn S t d):yY S (uR a k t) (putD b k d):=by
 unfold uR putD;rw[h.any k];split
 .exact yY.sd r h
 .exact yY.snoc r h
end
@[simp] noncomputable def Y4 (i:Nat):Sm:=fun J=>some (.nx (J.set i (some (.own (.y6 [])))))
@[simp] noncomputable def eX (i:Nat) (f:Ev->Option T):Ev->Option T:=fun J=>(f J).bind λ y=>match J[i]?,y with
 | some (some (.own (.y6 kvs))),.int k=>xZ kvs (.inl k)
 | _,_=>none
@[simp] noncomputable def Y5 (i:Nat) (f g:Ev->Option T):Ev->Option T:=fun J=>(f J).bind λ y=>(g J).bind λ z=>match J[i]?,y with
 | some (some (.own (.y6 kvs))),.int k=>some ((xZ kvs (.inl k)).getD z)
 | _,_=>none
@[simp] noncomputable def Y3 (i:Nat) (f v:Ev->Option T):Sm:=fun J=>(v J).bind λ z=>(f J).bind λ y=>match J[i]?,y with
 | some (some (.own (.y6 kvs))),.int k=>if kvs.length<sizeLine then some (.nx (J.set i (some (.own (.y6 (uR kvs (.inl k) z)))))) else none
 | _,_=>none
@[simp] noncomputable def eW (i:Nat):Ev->Option T:=fun J=>match J[i]? with
 | some (some (.own (.y6 kvs)))=>some (.int kvs.length)
 | _=>none
def jg {S:SS}{Z:Addr->Prop}{L:y8}{J:Ev}(hE:ER S Z L J) {i:Nat}{kvs:List (Key×T)}(h:J[i]?=some (some (.own (.y6 kvs)))):∃ p b,L[i]?=some (some (.ref p))/\S p=some (.y6 b)/\yY (yk S Z) kvs b:=by
 obtain⟨p,o,h1,h2,h3,_⟩:=hE.ow i _ h;cases o with
 | y6 b=>exact⟨p,b,h1,h2,h3⟩
 | lst _=>exact h3.elim
section
variable {R:Rk}{f g v:Ev->Option T}{ty tx tv:zI}
def Ru (i:Nat):xD R (Y4 i) (ue YM (hName i)):=λ S0 Z0 S Z L J o E F e P=>by
 cases e;intro p hp;exact P _ _ _ (F.bJ (ts:=.y6 []) (ds:=.y6 []) (.new hp _) i hp qm rfl)
def Zf (i:Nat) (hf:yN f ty):um (eX i f) (YQ (xi i) ty):=λ S Z L J y Q hE e hq=>by
 obtain⟨x,e1,e2⟩:=zOb e;split at e2
 .rename_i kvs k h;obtain⟨p,b,h1,h2,h3⟩:=jg hE h;show xi i L S _;unfold xi;rw[h1];refine hf S Z L J _ _ hE e1 λ d S1 s1 r1=>?_;cases Vw.int r1;rcases (yY.sx (vG s1) h3).val (.inl k) with ⟨g1,_⟩ | ⟨t,d,g1,g2,g3⟩
  .rw[g1] at e2;cases e2
  .rw[g1] at e2;cases e2;exact⟨p,b,k,d,rfl,rfl,s1 _ _ h2,g2,hq d S1 s1 g3⟩
 .cases e2
def RY (i:Nat) (hf:yN f ty) (hg:um g tx):um (Y5 i f g) (YO (xi i) ty tx):=λ S Z L J y Q hE e hq=>by
 obtain⟨x,e1,e⟩:=zOb e;obtain⟨z,e2,e3⟩:=zOb e;split at e3
 .rename_i kvs k h;cases e3;obtain⟨p,b,h1,h2,h3⟩:=jg hE h;show xi i L S _;unfold xi;rw[h1];refine⟨p,rfl,⟨b,h2⟩,hf S Z L J _ _ hE e1 λ d S1 s1 r1=>?_⟩;cases Vw.int r1;refine hg S1 Z L J z _ (hE.grow s1) e2 λ dz S2 s2 r2=>⟨k,b,rfl,(s1.trans s2) _ _ h2,?_⟩;rcases (yY.sx (vG (s1.trans s2)) h3).val (.inl k) with ⟨g1,g2⟩ | ⟨t,d,g1,g2,g3⟩
  .rw[g2];rw[g1] at hq;exact hq _ S2 (s1.trans s2) r2
  .rw[g2];rw[g1] at hq;exact hq _ S2 (s1.trans s2) g3
 .cases e3
def Rt (i:Nat) (hf:yN f ty) (hv:um v tv):xD R (Y3 i f v) (YN (xi i) ty tv):=λ S0 Z0 S Z L J o E F e P=>by
 obtain⟨z,e1,e⟩:=zOb e;obtain⟨x,e2,e3⟩:=zOb e;split at e3
 .rename_i kvs k h;split at e3
  .rename_i hl;cases e3;refine hv S Z L J z _ F.er e1 λ dz S1 s1 r1=>?_;have F1:=F.grow s1;obtain⟨p,b,h1,h2,h3⟩:=jg F1.er h;show xi i L S1 _;unfold xi;rw[h1];refine hf S1 Z L J _ _ F1.er e2 λ d S2 s2 r2=>?_;cases Vw.int r2;have h4:=yY.sx (vG s2) h3;exact⟨p,b,k,rfl,rfl,s2 _ _ h2,by rw[h4.len];exact hl,P _ Z L ((F1.grow s2).mut (us:=.y6 (uR kvs (.inl k) z)) (es:=.y6 (putD b (.inl k) dz)) i h h1 (h4.put _ (Sn.sx (vG s2) z r1)))⟩
  .cases e3
 .cases e3
def RX (i:Nat):wj (eW i) (wD Yr (pY (xi i) jG)):=λ S Z L J y Q hE e hq=>by
 unfold eW at e;split at e
 .rename_i kvs h;cases e;obtain⟨p,b,h1,h2,h3⟩:=jg hE h;show xi i L S _;unfold xi;rw[h1];refine⟨p,b,rfl,h2,?_⟩;rw[h3.len];exact hq _ S (.refl S) (Cl.of (λ _=>nofun) vL)
 .cases e
end
@[simp] noncomputable def rN (f:Ev->Option T):Ev->Option T:=fun J=>(f J).bind λ x=>match x with
 | .int i=>some (.int (-i))
 | _=>none
def YI (ta:zI):zI:=fun L S Q=>ta L S λ x S1=>match x with
 | .int i=>Q (.int (-i)) S1
 | _=>False
def mR {f:Ev->Option T}{te:zI}(h:yN f te):wj (rN f) (YI te):=λ S Z L J y Q hE e hq=>by
 obtain⟨x,e1,e2⟩:=zOb e;refine h S Z L J x _ hE e1 λ d S1 s1 r1=>?_;split at e2
 .cases Vw.int r1;cases e2;exact hq _ S1 s1 (Cl.of (λ _=>nofun) vL)
 .cases e2
def j7:uM zV mY Yq:=Yd
def rR:uM zV tI Yp:=Yd
noncomputable def uW:List T->Option (List Int)
 | []=>some []
 | .int i::ts=>(uW ts).map (i::·)
 | _::_=>none
noncomputable def wA:List T->Option (List (List Int))
 | []=>some []
 | .tup r::ts=>(uW r).bind λ x=>(wA ts).map (x::·)
 | _::_=>none
noncomputable def yG (r:List Int):T:=.tup (r.map T.int)
theorem lh:∀ {ts:List T}{is:List Int},uW ts=some is->ts=is.map T.int
 | [],is,h=>by cases h;rfl
 | .int b::ts,is,h=>by
  unfold uW at h;obtain⟨cs,h1,rfl⟩:=zOm h;rw[zA6,<- lh h1]
 | .zp::ts,bs,h=>by cases h
 | .bl _::ts,bs,h=>by cases h
 | .str _::ts,bs,h=>by cases h
 | .tup _::ts,bs,h=>by cases h
 | .lst _::ts,bs,h=>by cases h
theorem gR:∀ {ts:List T}{rs:List (List Int)},wA ts=some rs->ts=rs.map yG
 | [],is,h=>by cases h;rfl
 | .tup r::ts,is,h=>by
  unfold wA at h;obtain⟨x,h1,h⟩:=zOb h;obtain⟨cs,h2,rfl⟩:=zOm h;rw[zA6,<- gR h2,lh h1];rfl
 | .zp::ts,bs,h=>by cases h
 | .bl _::ts,bs,h=>by cases h
 | .str _::ts,bs,h=>by cases h
 | .int _::ts,bs,h=>by cases h
 | .lst _::ts,bs,h=>by cases h
def ZV (is:List Int):uW (is.map T.int)=some is:=by
 induction is with
 | nil=>rfl
 | cons b bs ih=>rw[zA6];unfold uW;rw[ih];rfl
def gS (rs:List (List Int)):wA (rs.map yG)=some rs:=by
 induction rs with
 | nil=>rfl
 | cons b bs ih=>
  show wA (.tup (b.map T.int)::bs.map yG)=_;unfold wA;rw[ZV,ih];rfl
theorem rB {S:SS}:∀ {is:List Int}{ds:List D},zu S (is.map T.int) ds↔ds=is.map D.int
 | [],ds=>by simp only[List.map_nil,zu]
 | i::is,ds=>by
  rw[zA6];simp only[zu,Sn];constructor
  .rintro⟨c,cs,rfl,rfl,h⟩;rw[rB.mp h];rfl
  .rintro rfl;exact⟨.int i,_,rfl,rfl,rB.mpr rfl⟩
theorem oG {S:SS}:∀ {rs:List (List Int)}{ds:List D},zu S (rs.map yG) ds↔ds=rs.map vh
 | [],ds=>by simp only[List.map_nil,zu]
 | r::rs,ds=>by
  rw[zA6];simp only[zu,yG,Sn];constructor
  .rintro⟨c,cs,rfl,⟨es,rfl,h1⟩,h⟩;rw[oG.mp h,rB.mp h1];rfl
  .rintro rfl;exact⟨vh r,_,rfl,⟨_,rfl,rB.mpr rfl⟩,oG.mpr rfl⟩
@[simp] noncomputable def bp:T->String
 | .zp=>"NoneType"
 | .bl _=>"bool"
 | .int _=>"int"
 | .str _=>"str"
 | .tup _=>"tuple"
 | .lst _=>"list"
 | .yo=>"dict"
@[simp] noncomputable def instS (ty:String) (f:Ev->Option T):Ev->Option T:=fun J=>(f J).map λ x=>.bl (rP (bp x) ty)
def Ze {ty:String}{f:Ev->Option T}{te:zI}(hf:yN f te):wj (instS ty f) (jH ty te):=λ S Z L J y Q hE e hq=>by
 obtain⟨x,e1,rfl⟩:=zOm e;refine hf S Z L J x _ hE e1 λ d S1 s1 r1=>?_;have key:qp d S1=some (bp x):=by
  cases x with
  | zp=>cases Vw.zp r1;rfl
  | bl _=>cases Vw.bl r1;rfl
  | int _=>cases Vw.int r1;rfl
  | str _=>cases Vw.str r1;rfl
  | tup _=>obtain⟨ds,rfl,_⟩:=Vw.tup r1;rfl
  | lst _=>
   obtain⟨ds,rfl | ⟨a,rfl,h1⟩,h2⟩:=Vw.lst r1
   .rfl
   .unfold qp;dsimp only;rw[h1];rfl
  | yo=>
   obtain⟨a,kvs,rfl,h1⟩:=Vw.yo r1;unfold qp;dsimp only;rw[h1];rfl
 rw[key];exact hq _ S1 s1 (Cl.of (λ _=>nofun) vB)
@[simp] noncomputable def isNone:T->Bool
 | .zp=>true
 | _=>false
noncomputable def nj:D->Bool
 | .zp=>true
 | _=>false
noncomputable def zk (p:Int×Int):T:=.tup [.int p.1,.int p.2]
noncomputable def yi (ns:List Int):T:=.lst (ns.map .int)
@[simp] theorem zaa:sizeLine=16777216:=rfl
def QD {n:Nat}(h:n<=10000):n<=sizeLine:=zE0 h (by decide)
def wF {α:Type}{xs:List α}{k:Nat}{x:α}(h:xs[k]?=some x):L2.yh xs (k:Int)=some x:=by
 unfold L2.yh L2.vw;have hk:=(zA2.mp h).1;rw[if_pos (by omega),if_pos (by omega)];simpa using h
@[simp] theorem lU {α:Type}{xs:List α}{x:α}:L2.yh (xs++[x]) (-1)=some x:=by
 unfold L2.yh L2.vw;rw[if_neg (by omega),if_pos (by simp;omega)];have:(-1+((xs++[x]).length:Int)).toNat=xs.length:=by simp;omega
 rw[zC9,this];simp
@[simp] theorem zah {α:Type}{x:α}{xs:List α}:L2.yh (x::xs) 0=some x:=wF (k:=0) rfl
@[simp] theorem zag {α:Type}{x y:α}{xs:List α}:L2.yh (x::y::xs) 1=some y:=wF (k:=1) rfl
@[simp] theorem zaf {α:Type}{x y z:α}{xs:List α}:L2.yh (x::y::z::xs) 2=some z:=wF (k:=2) rfl
@[simp] theorem zae {α:Type}{x y z w:α}{xs:List α}:L2.yh (x::y::z::w::xs) 3=some w:=wF (k:=3) rfl
theorem de {α:Type}(enc:α->T) (g:α->Option T) (h:T->Option (Option T)):∀ (xs:List α),(∀ x∈xs,h (enc x)=some (g x))->pZ h (xs.map enc)=some (xs.filterMap g)
 | [],_=>rfl
 | x::xs,hh=>by
  rw[zA6];unfold pZ;rw[hh x zMc,de enc g h xs λ y hy=>hh y (zMo _ hy)];cases q:g x <;> simp[q]
def OV {α:Type}(enc:α->T) (g:α->T) (h:T->Option (Option T)) (xs:List α) (hh:∀ x∈xs,h (enc x)=some (some (g x))):pZ h (xs.map enc)=some (xs.map g):=by
 rw[de enc (λ x=>some (g x)) h xs hh];simp
def sD {α:Type}(enc:α->T) (h:α->T) {pick:List (Option Nat)}{it:Ev->Option (List T)}{g:T->Ev->Option Ev}{c:Ev->Option Bool}{f:Ev->Option T}{J:Ev}(xs:List α) (hi:it J=some (xs.map enc)) (hl:xs.length<=16777216)
  (hh:∀ x∈xs,nh pick g c f J (enc x)=some (some (h x))):wa pick it g c f J=some (.lst (xs.map h)):=by
 unfold wa;rw[hi,zC9,if_pos (by rw[zA7];exact hl),OV enc h _ xs hh];rfl
def qJ {α:Type}(enc:α->T) (h:α->Option T) {pick:List (Option Nat)}{it:Ev->Option (List T)}{g:T->Ev->Option Ev}{c:Ev->Option Bool}{f:Ev->Option T}{J:Ev}(xs:List α) (hi:it J=some (xs.map enc)) (hl:xs.length<=16777216)
  (hh:∀ x∈xs,nh pick g c f J (enc x)=some (h x)):wa pick it g c f J=some (.lst (xs.filterMap h)):=by
 unfold wa;rw[hi,zC9,if_pos (by rw[zA7];exact hl),de enc h _ xs hh];rfl
section
variable {α:Type}{is:List Nat}{g:T->Ev->Option Ev}{b:Sm}
noncomputable def turn (g:T->Ev->Option Ev) (b:Sm) (y:T) (J:Ev):Option Out:=(g y J).bind b
theorem fR (y:T) (ys:List T) (J:Ev):vj is g b (y::ys) J=(turn g b y (yP is J)).bind λ o=>match o with
  | .nx J2=>vj is g b ys J2
  | .ct J2=>vj is g b ys J2
  | .bk J2=>some (.nx (yP is J2))
  | .rt t=>some (.rt t):=by
 unfold turn;rw[vj];cases g y (yP is J) <;> rfl
theorem fS (enc:α->T) (test:α->Bool) (v:T) (J0:Ev):∀ (xs:List α) (J:Ev),yP is J=J0->(∀ x∈xs,∃ J',yP is J'=J0/\turn g b (enc x) J0=some (if test x=true then .rt v else .nx J'))->vj is g b (xs.map enc) J=some (if xs.any test=true then .rt v else .nx J0)
 | [],J,h,_=>by rw[List.map_nil,vj,h];rfl
 | x::xs,J,h,hs=>by
  obtain⟨J',h1,h2⟩:=hs x zMc;rw[zA6,fR,h,h2,List.any_cons];cases q:test x with
  | true=>simp
  | false=>
   have ih:=fS enc test v J0 xs J' h1 λ y hy=>hs y (zMo _ hy);simpa using ih
theorem Zv (enc:α->T) (I:List α->Ev->Prop):∀ (xs:List α) (pre:List α) (J:Ev),I pre (yP is J)->
  (∀ p x q,pre++xs=p++x::q->∀ J,I p J->∃ J',turn g b (enc x) J=some (.nx J')/\I (p++[x]) (yP is J'))->∃ J',vj is g b (xs.map enc) J=some (.nx J')/\I (pre++xs) J'
 | [],pre,J,h,_=>⟨yP is J,by rw[List.map_nil,vj],by simpa using h⟩
 | x::xs,pre,J,h,hs=>by
  obtain⟨J',h1,h2⟩:=hs pre x xs rfl _ h;rw[zA6,fR,h1];have ih:=Zv enc I xs (pre++[x]) J' h2 λ p y q e=>hs p y q (by rw[<- e];simp);simpa using ih
def vP (enc:α->T) (I:List α->Ev->Prop) (xs:List α) (J:Ev) (h:I [] (yP is J))
  (hs:∀ p x q,xs=p++x::q->∀ J,I p J->∃ J',turn g b (enc x) J=some (.nx J')/\I (p++[x]) (yP is J')):∃ J',vj is g b (xs.map enc) J=some (.nx J')/\I xs J':=Zv enc I xs [] J h hs
end
def sa (n:Nat) (h:n<=100000):vM [.int (n:Int)]=some ((List.range n).map λ(k:Nat)=>T.int (0+(k:Int))):=by
 show (if inR (n:Int)=true then some (rangeT 0 (n:Int).toNat) else none)=_;rw[if_pos (ZY.mpr ⟨by omega,by omega⟩)];rfl
def p7 (a:Key) (b:T) (kvs:List (Key×T)) (j:Key):xZ ((a,b)::kvs) j=if a=j then some b else xZ kvs j:=by
 by_cases h:a=j <;> simp[xZ,h]
theorem bc (k j:Key) (d:T):∀ kvs:List (Key×T),xZ (kvs.map λ kv=>if kv.1=k then (kv.1,d) else kv) j=(xZ kvs j).map λ x=>if j=k then d else x
 | []=>rfl
 | (a,b)::kvs=>by
  have ih:=bc k j d kvs;rw[zA6];by_cases hk:a=k
  .rw[if_pos hk,p7,p7,ih];by_cases hj:a=j
   .subst hj;subst hk;simp
   .rw[if_neg hj,if_neg hj]
  .rw[if_neg hk,p7,p7,ih];by_cases hj:a=j
   .subst hj;simp[hk]
   .rw[if_neg hj,if_neg hj]
theorem ba (k j:Key) (d:T):∀ kvs:List (Key×T),(∀ kv∈kvs,¬ kv.1=k)->xZ (kvs++[(k,d)]) j=if j=k then some d else xZ kvs j
 | [],_=>by
  show xZ [(k,d)] j=_;rw[p7];by_cases h:j=k
  .subst h;simp
  .rw[if_neg h,if_neg (λ z=>h z.symm)]
 | (a,b)::kvs,hn=>by
  have ih:=ba k j d kvs λ kv hkv=>hn kv (zMo _ hkv);have ha:¬ a=k:=hn (a,b) zMc;show xZ ((a,b)::(kvs++[(k,d)])) j=_;rw[p7,p7,ih];by_cases hj:a=j
  .subst hj;simp[ha]
  .rw[if_neg hj,if_neg hj]
def Xu (kvs:List (Key×T)) (k:Key):(kvs.any λ kv=>decide (kv.1=k))=(xZ kvs k).isSome:=by
 unfold xZ;rw[Option.isSome_map,zC7,zD0,List.find?_isSome]
def k6 (kvs:List (Key×T)) (k j:Key) (d:T):xZ (uR kvs k d) j=if j=k then some d else xZ kvs j:=by
 unfold uR;split
 .rename_i h;rw[Xu] at h;rw[bc];by_cases hj:j=k
  .subst hj;obtain⟨x,hx⟩:=Option.isSome_iff_exists.mp h;simp[hx]
  .simp[hj]
 .rename_i h;exact ba k j d kvs λ kv hkv z=>h (zD0.mpr ⟨kv,hkv,decide_eq_true z⟩)
def Z2 (kvs:List (Key×T)) (k:Key) (d:T):(uR kvs k d).length=if (xZ kvs k).isSome=true then kvs.length else kvs.length+1:=by
 have e:=Xu kvs k;unfold uR;rw[e];split <;> simp
noncomputable def uw (p:Int×Int):List Int:=[p.1,p.2]
noncomputable def rA (ps:List (Int×Int)):List (Int×Int):=(L4.wN (ps.map uw)).map λ r=>(r.getD 0 0,r.getD 1 0)
def bA (ps:List (Int×Int)):(rA ps).map uw=L4.wN (ps.map uw):=by
 unfold rA;rw[zD6]
 conv=>rhs;rw[<- List.map_id (L4.wN (ps.map uw))]
 refine List.map_congr_left λ r hr=>?_;obtain⟨p,_,rfl⟩:=zB0.mp ((L4.tD _).mem_iff.mp hr);rfl
def i_ (ps:List (Int×Int)):(rA ps).Perm ps:=by
 have h:=L4.tD (ps.map uw);have:(rA ps).Perm ((ps.map uw).map λ r=>(r.getD 0 0,r.getD 1 0)):=h.map _
 rwa [zD6,show ((λ r:List Int=>(r.getD 0 0,r.getD 1 0)) ∘ uw)=id from rfl,List.map_id] at this
def ng (p q:Int×Int):Prop:=p.1<q.1\/(p.1=q.1/\p.2<=q.2)
def b9 (ps:List (Int×Int)):(rA ps).Pairwise ng:=by
 have h:=L4.iZ (ps.map uw);rw[<- bA,List.pairwise_map] at h;refine h.imp λ{p q} hpq=>?_;unfold uw at hpq;rw[HT.qH,HT.qH] at hpq;unfold ng;by_cases e:q.1=p.1
 .rw[if_pos e] at hpq;by_cases e2:q.2=p.2
  .omega
  .rw[if_neg e2] at hpq;have:=of_decide_eq_false hpq;omega
 .rw[if_neg e] at hpq;have:=of_decide_eq_false hpq;omega
def U0 (ps:List (Int×Int)):wA (ps.map zk)=some (ps.map uw):=by
 have:=gS (ps.map uw)
 rwa [zD6,show yG ∘ uw=zk from rfl] at this
noncomputable def xh (q p:Int×Int):Bool:=decide (p.1<=q.1)&&decide (p.2<=q.2)
noncomputable def zR (ps:List (Int×Int)) (q:Int×Int):Bool:=ps.any (xh q)
def yL {ps:List (Int×Int)}{q:Int×Int}:zR ps q=true↔∃ p∈ps,p.1<=q.1/\p.2<=q.2:=by
 unfold zR xh;simp[zD0]
def OM {ps qs:List (Int×Int)}(h:ps.Perm qs) (q:Int×Int):zR ps q=zR qs q:=by
 rw[zC7,yL,yL];exact⟨λ⟨p,h1,h2⟩=>⟨p,h.mem_iff.mp h1,h2⟩,λ⟨p,h1,h2⟩=>⟨p,h.mem_iff.mpr h1,h2⟩⟩
def OP (ps qs:List (Int×Int)) (q:Int×Int):zR (ps++qs) q=(zR ps q||zR qs q):=by
 unfold zR;rw[List.any_append]
def uq (ps:List (Int×Int)):Prop:=ps.Pairwise λ p q=>p.1<q.1/\q.2<p.2
theorem uq.eq:∀ {ps qs:List (Int×Int)},uq ps->uq qs->(∀ q,zR ps q=zR qs q)->ps=qs
 | [],[],_,_,_=>rfl
 | [],q::qs,_,_,h=>by
  have:=h q;rw[show zR [] q=false from rfl] at this;have h2:zR (q::qs) q=true:=yL.mpr ⟨q,zMc,zC6 _,zC6 _⟩;rw[h2] at this;cases this
 | p::ps,[],_,_,h=>by
  have:=h p;rw[show zR [] p=false from rfl] at this;have h2:zR (p::ps) p=true:=yL.mpr ⟨p,zMc,zC6 _,zC6 _⟩;rw[h2] at this;cases this
 | p::ps,q::qs,hp,hq,h=>by
  have hp1:=List.pairwise_cons.mp hp;have hq1:=List.pairwise_cons.mp hq;have a1:∃ r∈q::qs,r.1<=p.1/\r.2<=p.2:=yL.mp (by rw[<- h];exact yL.mpr ⟨p,zMc,zC6 _,zC6 _⟩);have a2:∃ r∈p::ps,r.1<=q.1/\r.2<=q.2:=yL.mp (by rw[h];exact yL.mpr ⟨q,zMc,zC6 _,zC6 _⟩);obtain⟨r,hr,r1,r2⟩:=a1;obtain⟨u,hu,u1,u2⟩:=a2;have qr:q.1<=r.1:=by
   rcases zA5.mp hr with e | e
   .subst e;exact zC6 _
   .exact Int.le_of_lt (hq1.1 r e).1
  have pu:p.1<=u.1:=by
   rcases zA5.mp hu with e | e
   .subst e;exact zC6 _
   .exact Int.le_of_lt (hp1.1 u e).1
  have e1:p.1=q.1:=by omega
  have er:r=q:=by
   rcases zA5.mp hr with e | e
   .exact e
   .have:=(hq1.1 r e).1;omega
  have eu:u=p:=by
   rcases zA5.mp hu with e | e
   .exact e
   .have:=(hp1.1 u e).1;omega
  subst er eu;have e2:u.2=r.2:=by omega
  have epq:u=r:=Prod.ext e1 e2;subst epq;rw[uq.eq hp1.2 hq1.2 λ x=>?_];have hx:=h x;unfold zR at hx ⊢;rw[List.any_cons,List.any_cons] at hx;cases g:xh x u with
  | false=>rw[g] at hx;simpa using hx
  | true=>
   have gx:u.1<=x.1/\u.2<=x.2:=by simpa [xh] using g
   have key:∀ {l:List (Int×Int)},(∀ v∈l,u.1<v.1/\v.2<u.2)->l.any (xh x)=l.any (xh (x.1,u.2-1)):=by
    intro l hl;rw[zC7,zD0,zD0];constructor
    .rintro⟨v,hv,hg⟩;have:=hl v hv;have hg':v.1<=x.1/\v.2<=x.2:=by simpa [xh] using hg
     exact⟨v,hv,by simp[xh];omega⟩
    .rintro⟨v,hv,hg⟩;have:=hl v hv;have hg':v.1<=x.1/\v.2<=u.2-1:=by simpa [xh] using hg
     exact⟨v,hv,by simp[xh];omega⟩
   rw[key hp1.1,key hq1.1];have hy:=h (x.1,u.2-1);unfold zR at hy;rw[List.any_cons,List.any_cons] at hy;have gn:xh (x.1,u.2-1) u=false:=by
    unfold xh;rw[show decide (u.2<=(x.1,u.2-1).2)=false from decide_eq_false (by show ¬ u.2<=u.2-1;omega),Bool.and_false]
   rw[gn] at hy;simpa using hy
noncomputable def sT (l:Option Int) (x:Int):Bool:=match l with
 | none=>true
 | some m=>decide (x<m)
noncomputable def xr:List (Int×Int)->Option Int->List (Int×Int)
 | [],_=>[]
 | p::ps,l=>if sT l p.2=true then p::xr ps (some p.2) else xr ps l
noncomputable def vQ (ps:List (Int×Int)):List (Int×Int):=xr (rA ps) none
theorem ll:∀ (ps:List (Int×Int)) (l:Option Int) (q:Int×Int),q∈xr ps l->q∈ps/\∀ m,l=some m->q.2<m
 | [],l,q,h=>by simp[xr] at h
 | p::ps,l,q,h=>by
  unfold xr at h;split at h
  .rename_i c;have hm:∀ m,l=some m->p.2<m:=λ m e=>by subst e;simpa [sT] using c
   rcases zA5.mp h with e | e
   .subst e;exact⟨zMc,hm⟩
   .obtain⟨h1,h2⟩:=ll ps _ q e;exact⟨zMo _ h1,λ m e=>by have:=h2 _ rfl;have:=hm m e;omega⟩
  .obtain⟨h1,h2⟩:=ll ps _ q h;exact⟨zMo _ h1,h2⟩
theorem eA:∀ (ps:List (Int×Int)) (l:Option Int),ps.Pairwise ng->uq (xr ps l)
 | [],l,_=>by simp[xr,uq]
 | p::ps,l,h=>by
  have h1:=List.pairwise_cons.mp h;unfold xr;split
  .refine List.pairwise_cons.mpr ⟨λ q hq=>?_,eA ps _ h1.2⟩;obtain⟨g1,g2⟩:=ll ps _ q hq;have:=h1.1 q g1;have:=g2 _ rfl;unfold ng at *;omega
  .exact eA ps _ h1.2
theorem eB:∀ (ps:List (Int×Int)) (l:Option Int),ps.Pairwise ng->∀ p∈ps,(∃ q∈xr ps l,q.1<=p.1/\q.2<=p.2)\/∃ m,l=some m/\m<=p.2
 | [],l,_,p,hp=>by cases hp
 | r::ps,l,h,p,hp=>by
  have h1:=List.pairwise_cons.mp h;unfold xr;split
  .rename_i c;rcases zA5.mp hp with e | e
   .subst e;exact .inl ⟨p,zMc,zC6 _,zC6 _⟩
   .rcases eB ps (some r.2) h1.2 p e with ⟨q,q1,q2⟩ | ⟨m,e1,e2⟩
    .exact .inl ⟨q,zMo _ q1,q2⟩
    .cases e1;have:=h1.1 p e;unfold ng at this;exact .inl ⟨r,zMc,by omega,e2⟩
  .rename_i c;rcases zA5.mp hp with e | e
   .subst e;cases l with
    | none=>simp[sT] at c
    | some m=>exact .inr ⟨m,rfl,by simpa [sT] using c⟩
   .exact eB ps l h1.2 p e
def fX (ps:List (Int×Int)):uq (vQ ps):=eA _ _ (b9 ps)
def QI {ps:List (Int×Int)}{q:Int×Int}(h:q∈vQ ps):q∈ps:=(i_ ps).mem_iff.mp (ll _ _ q h).1
def nc (ps:List (Int×Int)) (q:Int×Int):zR (vQ ps) q=zR ps q:=by
 rw[<- OM (i_ ps) q,zC7,yL,yL];constructor
 .rintro⟨p,h1,h2⟩;exact⟨p,(ll _ _ p h1).1,h2⟩
 .rintro⟨p,h1,h2⟩;rcases eB (rA ps) none (b9 ps) p h1 with ⟨r,r1,r2⟩ | ⟨m,e,_⟩
  .exact⟨r,r1,by omega,by omega⟩
  .cases e
end L5
namespace L2
open PySem PySem.Spec PyProof.Rows
section
variable {X:Cx}
def aw (K:zFr):R2:=λ x y H Q=>∃ l b xs zs,x=.ref l/\y=.ref b/\yg K H l xs/\yg K H b zs/\xs.length+zs.length<=sizeLine/\∀ p,H p=none->Q (.ref p) (upd H p (.lst (xs++zs)))
def Rm:y9 X (binaryOp .Add) (aw X.K):=by
 intro pins s B H x y v u Q I rx ry h;obtain⟨l,b,xs,zs,rfl,rfl,hH,hB,hz,q⟩:=h;cases rx;cases ry;obtain⟨its,r,p1,_⟩:=I.list hH;obtain⟨its2,r2,p2,_⟩:=I.list hB;obtain⟨⟨cls,dd,data,sl⟩,ho,hc,n,hd⟩:=p1.isList;obtain⟨⟨cls2,dd2,data2,sl2⟩,ho2,hc2,n2,hd2⟩:=p2.isList;simp only at hc hd hc2 hd2;subst hc hd hc2 hd2;have e:its.toArray++its2.toArray=(its++its2).toArray:=by simp
 refine concat_meets ⟨_,ho,rfl⟩ ⟨_,ho2,rfl⟩ noFill_list_add seq_list_add PySem.F.slot_list_add PySem.F.entry_list_add (PySem.F.args_list_add_2 _ _) (list_addW l b its.toArray its2.toArray n n2 dd dd2 sl sl2 (by rw[zA0,zA0,<- r.length,<- r2.length];exact hz)) ⟨ho,ho2,?_⟩;rw[e];exact⟨.ref _,_,I.QB (t':=s.toks) (r.append r2) (by rw[zD7];omega),rfl,q _ I.fresh⟩
def au (K:zFr):R2:=λ x y H Q=>∃ a b ys,x=.ref a/\y=.ref b/\yp K H a []/\yp K H b ys/\Q (.ref b) H
def Rj:y9 X (binaryOp .Add) (au X.K):=by
 intro pins s B H x y v u Q I rx ry h;obtain⟨l,b,ys,rfl,rfl,hH,hB,q⟩:=h;cases rx;cases ry;obtain⟨its,r,p1,_⟩:=I.tuple hH;obtain⟨its2,r2,p2,_⟩:=I.tuple hB;obtain⟨⟨cls,dd,data,sl⟩,ho,hc,n,hd⟩:=id p1;obtain⟨⟨cls2,dd2,data2,sl2⟩,ho2,hc2,n2,hd2⟩:=id p2;simp only at hc hd hc2 hd2;subst hc hd hc2 hd2;exact concat_meets ⟨_,ho,rfl⟩ ⟨_,ho2,rfl⟩ noFill_tuple_add seq_tuple_add PySem.F.slot_tuple_add PySem.F.entry_tuple_add (PySem.F.args_tuple_add_2 _ _)
   (tuple_addW0 l b its.toArray its2.toArray n n2 dd dd2 sl sl2 (by cases r;rfl)) ⟨ho,ho2,⟨.ref b,H,I,rfl,q⟩⟩
end
end L2
namespace L5
open PySem PySem.Spec L2 L3
open PyProof.Rows hiding St
section
variable {X:Cx}{K:zFr}{a b c e:Expr}{es:List Expr}{ta tb tc te:zI}{tA:yQ}{pos p:Pos}
def tj.mo:wI tj:=λ x y S Q Q' hq h=>by
 cases x with
 | zp=>exact h
 | bl _=>exact h
 | int i=>cases y <;> first | exact hq _ _ h | exact h
 | str i=>cases y <;> first | exact⟨h.1,hq _ _ h.2⟩ | exact h
 | tup i=>cases y <;> first | exact⟨h.1,hq _ _ h.2⟩ | exact h
 | xm ds=>
  unfold tj at h ⊢;dsimp only at h ⊢;split at h
  .exact⟨h.1,h.2.1,λ r hr=>hq _ _ (h.2.2 r hr)⟩
  .exact h.elim
 | ref q=>
  unfold tj at h ⊢;dsimp only at h ⊢;split at h
  .exact⟨h.1,h.2.1,λ r hr=>hq _ _ (h.2.2 r hr)⟩
  .exact h.elim
def qu {H:Hp}{S:SS}{d:D}{v:V}{ds:List D}(r:zo K H d v) (p:yb K H S) (e:yz d S=some ds) (n:∀ ts,d≠.tup ts):∃ a xs,v=.ref a/\yg K H a xs/\zx K H ds xs:=by
 unfold yz at e;split at e
 .exact absurd rfl (n _)
 .cases e;simp only[zo] at r;obtain⟨a,xs,h1,h2,h3⟩:=r;exact⟨a,xs,h1,h2.sq,h3⟩
 .split at e
  .rename_i q;cases e;simp only[zo] at r;subst r;obtain⟨xs,h1,h2⟩:=p _ _ q;exact⟨_,xs,rfl,yg.of h1,h2⟩
  .cases e
 .cases e
abbrev ay (K:zFr):R2:=λ x y H Q=>vN (λ i j=>.int (i+j)) x y H Q\/((∃ i j,x=.str i/\y=.str j/\i.length+j.length<=sizeLine/\Q (.str (i++j)) H)\/(aw K x y H Q\/(au K x y H Q\/av K x y H Q)))
def tj.fits:wo K tj (ay K):=λ x y d e H S Q h1 h2 h3 h=>by
 have lst:(∀ ts,d≠.tup ts)->(match yz d S,yz e S with
  | some ds,some es=>(∀ ts,e≠.tup ts)/\ds.length+es.length<=sizeLine/\∀ r,S r=none->vz K H Q (.ref r) (ups S r (.lst (ds++es)))
  | _,_=>False)->ay K x y H Q:=λ n h=>by
  split at h
  .rename_i ds es q1 q2;obtain⟨a,xs,rfl,g1,g2⟩:=qu h1 h3 q1 n;obtain⟨b,ys,rfl,g3,g4⟩:=qu h2 h3 q2 h.1;refine .inr (.inr (.inl ⟨a,b,xs,ys,rfl,rfl,g1,g3,by rw[<- g2.length,<- g4.length];exact h.2.1,λ p hp=>?_⟩));exact h.2.2 p (h3.none hp) _ _ (by simp only[zo]) (.new hp _) (h3.ups (.new hp _) ⟨_,xl,zx.ext (.new hp _) _ (g2.append g4)⟩)
  .exact h.elim
 cases d with
 | zp=>exact h.elim
 | bl _=>exact h.elim
 | int i=>
  cases e with
  | int j=>
   simp only[zo] at h1 h2;exact .inl ⟨_,_,h1,h2,h _ H (by simp only[zo]) (.refl H) h3⟩
  | zp=>exact h.elim
  | bl _=>exact h.elim
  | str _=>exact h.elim
  | tup _=>exact h.elim
  | xm _=>exact h.elim
  | ref _=>exact h.elim
 | str i=>
  cases e with
  | str j=>
   simp only[zo] at h1 h2;exact .inr (.inl ⟨_,_,h1,h2,h.1,h.2 _ H (by simp only[zo]) (.refl H) h3⟩)
  | zp=>exact h.elim
  | bl _=>exact h.elim
  | int _=>exact h.elim
  | tup _=>exact h.elim
  | xm _=>exact h.elim
  | ref _=>exact h.elim
 | tup ds=>
  cases e with
  | tup es=>
   have h1':=h1;have h2':=h2;simp only[zo] at h1 h2;obtain⟨a,xs,rfl,g1,g2⟩:=h1;obtain⟨b,ys,rfl,g3,g4⟩:=h2;have hl:=g2.length;have hl':=g4.length;by_cases hx:xs=[]
   .subst hx;have:ds=[]:=by cases ds <;> simp_all
    subst this;exact .inr (.inr (.inr (.inl ⟨a,b,ys,rfl,rfl,g1,g3,h.2 _ H h2' (.refl H) h3⟩)))
   .refine .inr (.inr (.inr (.inr ⟨a,b,xs,ys,rfl,rfl,g1,g3,hx,by rw[<- hl,<- hl'];exact h.1,λ hy=>?_,λ hy p hp=>?_⟩)))
    .subst hy;have:es=[]:=by cases es <;> simp_all
     subst this;refine h.2 _ H ?_ (.refl H) h3;rw[List.append_nil];exact h1'
    .refine h.2 _ _ ?_ (.new hp _) (h3.new hp);simp only[zo];exact⟨p,_,rfl,yp.of xl,zx.ext (.new hp _) _ (g2.append g4)⟩
  | zp=>exact h.elim
  | bl _=>exact h.elim
  | int _=>exact h.elim
  | str _=>exact h.elim
  | xm _=>exact h.elim
  | ref _=>exact h.elim
 | xm ds=>exact lst (λ _=>nofun) h
 | ref q=>exact lst (λ _=>nofun) h
def xF (ha:PD X a ta) (hb:PD X b tb):PD X (.BinOp a .Add b pos) (yK tj ta tb):=oY (Ro.or (Rn.or (Rm.or (Rj.or Rl)))) tj.fits tj.mo ha hb
def uG.mo {g:List Bool->Bool}:uL (uG g):=λ ds S Q Q' hq h=>by
 unfold uG at h ⊢;split at h
 .exact h.elim
 .obtain⟨bs,h1,h2⟩:=h;exact⟨bs,h1,hq _ _ h2⟩
 .exact h.elim
def uG.fits {g:List Bool->Bool}:tW K (uG g) (λ xs H Q=>∃ p,∃ bs:List Bool,xs=[.ref p]/\yg K H p (bs.map V.bl)/\Q (.bl (g bs)) H):=λ xs ds H S Q h0 h2 h=>by
 unfold uG at h;split at h
 .exact h.elim
 .rename_i d hn;obtain⟨x,hx,h1⟩:=h0.one;subst hx;obtain⟨bs,e,h⟩:=h;obtain⟨a,ys,rfl,g1,g2⟩:=qu h1 h2 e (λ ts z=>hn ts z);rw[g2.bools] at g1;exact⟨a,bs,rfl,g1,h _ H (by simp only[zo]) (.refl H) h2⟩
 .exact h.elim
def SJ (hm:X.mg "all"=none) (ha:wY X (e::es) tA) (hc:X.calm=true:=by rfl) (hg:Gl X "all":=by rfl) (he:starEach (e::es) X.env=(false,eval e X.env)::starEach es X.env:=by rfl) (hpl:(backTo pos (starEach es X.env)).any (·.1)=false:=by rfl):PD X (.Call (.Name "all" p) (e::es) [] pos) (wD (uG λ bs=>bs.all id) tA):=
 sj (rE (N3 hc) hg hm boot_all ha.pa (by decide) (by decide) he hpl) uG.mo uG.fits ha.mo
def aO (hm:X.mg "any"=none) (ha:wY X (e::es) tA) (hc:X.calm=true:=by rfl) (hg:Gl X "any":=by rfl) (he:starEach (e::es) X.env=(false,eval e X.env)::starEach es X.env:=by rfl) (hpl:(backTo pos (starEach es X.env)).any (·.1)=false:=by rfl):PD X (.Call (.Name "any" p) (e::es) [] pos) (wD (uG λ bs=>bs.any id) tA):=
 sj (rE (N2 hc) hg hm boot_any ha.pa (by decide) (by decide) he hpl) uG.mo uG.fits ha.mo
def ZK {H:Hp}{d:D}{v:V}(r:zo K H d v):decide (v=.zp)=nj d:=by
 cases d with
 | zp=>simp only[zo] at r;subst r;rfl
 | bl _=>simp only[zo] at r;subst r;rfl
 | int _=>simp only[zo] at r;subst r;rfl
 | str _=>simp only[zo] at r;subst r;rfl
 | tup _=>simp only[zo] at r;obtain⟨a,xs,rfl,_⟩:=r;rfl
 | xm _=>simp only[zo] at r;obtain⟨a,xs,rfl,_⟩:=r;rfl
 | ref _=>simp only[zo] at r;subst r;rfl
def mL (ha:PD X a ta):PD X (.UnaryOp .USub a pos) (YI ta):=by
 refine⟨fun L S Q Q' hq h=>ha.mo L S _ _ (λ x S1 z=>by
  cases x <;> first
   | exact hq _ _ z
   | exact z) h,PE.imp (T4 Vi ha.pe) fun B H Q hu=>?_⟩
 obtain⟨L,S,r1,r2,h⟩:=hu;refine yd.go ha.mo r1 r2 h λ x S1 v H1 h1 q1 e1 p1=>?_;cases x with
 | int i=>simp only[zo] at q1;exact⟨i,q1,h1 _ H1 (by simp only[zo]) e1 p1⟩
 | zp=>exact h1.elim
 | bl _=>exact h1.elim
 | str _=>exact h1.elim
 | tup _=>exact h1.elim
 | xm _=>exact h1.elim
 | ref _=>exact h1.elim
section
variable {N':List Str}{pick:List (Option Nat)}{scope:Scope}{tg elt iter:Expr}{ifs:List Expr}{ti:vW}{g:xX}{tcc:xj}
def rX.mo (hi:i6 ti):yA (rX pick ti g tcc te):=fun L S Q Q' hq z=>hi L S _ _ (λ I S1 ⟨h1,h2,h3⟩=>⟨h1,h2,λ p hp=>by
 obtain⟨W,w0,w1,w2,w3⟩:=h3 p hp;exact⟨W,w0,w1,w2,λ S2 acc a b c=>hq _ _ (w3 S2 acc a b c)⟩⟩) z
def bf (hi:i6 ti) (hg:l_ g) (hc:vJ tcc) (he:yA te) {B:St}{H:Hp}{Q:VK}(hu:yd K (rX pick ti g tcc te) B H Q):iU pick (v9 K ti) (ml K g) (vq K tcc) (yd K te) B H Q:=by
 obtain⟨L,S,r1,r2,z⟩:=hu;refine⟨L,S,r1,r2,hi L S _ _ (λ I S1 hF J H1 e1 p1 rep D hD=>?_) z⟩;obtain⟨hlen,hk,hF⟩:=hF;have hS1:S1 D=none:=p1.none hD;obtain⟨W,w0,wm,wstep,wfin⟩:=hF D hS1;refine⟨λ i m B H2=>m=I.items.length-i/\i<=I.items.length/\Ext H1 H2/\xw K H2 (uU pick L) B/\∃ S2 acc,yb K H2 S2/\Sx S1 S2/\S2 D=some (.lst acc)/\acc.length<=i/\W i S2 acc,⟨_,rfl,zD4 _,.new hD _,((r1.ext e1).pick pick).ext (.new hD _),ups S1 D (.lst []),[],?_,.new hS1 _,qm,zA4 _,?_⟩,?_⟩
 .exact p1.ups (.new hD _) ⟨[],xl,.nil⟩
 .exact wm 0 S1 _ [] (λ b o hb q=>by rw[rm hb];exact q) w0
 rintro i m B2 H2 ⟨rfl,hi',x2,q1,S2,acc,q2,sx,hS2,hacc,hW⟩;obtain⟨g1,g2⟩:=rep i H2 S2 x2 q2 (hk S2 sx);by_cases hl:i<I.items.length
 .have hd:I.items[i]?=some I.items[i]:=by simp[hl]
  obtain⟨go,yl⟩:=g1 _ hd;refine .inr ⟨go,λ x H3 hy=>?_⟩;obtain⟨x3,p3,d3⟩:=yl x H3 hy;refine⟨_,_,S2,d3,q1.ext x3,p3,hg _ _ S2 _ _ (fun L4 S4 z4 B4 H4 a1 a2 a3=>?_) (wstep i _ S2 acc hd sx hS2 hW)⟩;obtain⟨hle,z4⟩:=z4;refine vq.go hc a1 a3 z4 λ b S5 H5 z5 x5 p5=>vR (λ z5=>?_) (λ z5=>?_) z5
  .refine yd.go he (a1.ext x5) p5 z5 λ y S6 v H6 z6 q6 x6 p6=>?_;obtain⟨s6,hW6⟩:=z6;obtain⟨ys,h6,r6⟩:=p6 _ _ (s6 _ _ hS2);have e6:Ext H6 (upd H6 D (.lst (ys++[v]))):=.lst h6 _;have hlen2:ys.length<=i:=by rw[<- r6.length];exact hacc
   refine⟨ys,I.items.length-(i+1),h6,by omega,by omega,rfl,hl,((((x2.trans x3).trans a2).trans x5).trans x6).trans e6,hle.rep ((a1.ext (x5.trans x6)).ext e6),ups S6 D (.lst (acc++[y])),acc++[y],?_,λ b o hb=>?_,qm,by simp;omega,?_⟩
   .exact p6.ups e6 ⟨_,xl,zx.ext e6 _ (r6.snoc q6)⟩
   .rw[rm (by intro q;subst q;rw[hS1] at hb;cases hb)];exact s6 _ _ (sx _ _ hb)
   .exact wm _ S6 _ _ (λ b o hb q=>by rw[rm hb];exact q) hW6
  .obtain⟨s5,hW5⟩:=z5;exact⟨I.items.length-(i+1),by omega,rfl,hl,((x2.trans x3).trans a2).trans x5,hle.rep (a1.ext x5),S5,acc,p5,sx.trans s5,s5 _ _ hS2,by omega,hW5⟩
 .have e:i=I.items.length:=by omega
  subst e;exact .inl ⟨g2 (zA4 _),wfin S2 acc sx hS2 hW _ H2 (by simp only[zo]) (e1.trans x2) q2⟩
def sk (Sc:o9 X N' pick scope) (hc:X.calm=true) (hi:oz X tg iter ti) (hg:∀ cl C s H fp,qa (xB X N' scope cl C s H fp) tg g) (hf:∀ cl C s H fp,iu (xB X N' scope cl C s H fp) ifs tcc) (he:∀ cl C s H fp,PD (xB X N' scope cl C s H fp) elt te)
  (hs:∀ x,foldedSetIterable iter X.env x=pure x:=by intro _;rfl):
  PD X (.ListComp elt [⟨tg,iter,ifs,0⟩] scope pos) (rX pick ti g tcc te):=
 ⟨rX.mo hi.mo,λ pins s B H Q I hu=>TH (g:=ml X.K g) (tc:=vq X.K tcc) (te:=yd X.K te) Sc hc hi.pi (λ cl C s H fp=>(hg cl C s H fp).pg) (λ cl C s H fp=>(hf cl C s H fp).pf) (λ cl C s H fp=>(he cl C s H fp).pe) hs pins s B H Q I (bf hi.mo (hg [] 0 s H []).mo (hf [] 0 s H []).mo (he [] 0 s H []).mo hu)⟩
def qy {i:Nat}{y:Str}{py spos:Pos}(Sc:o9 X N' pick scope) (hc:X.calm=true) (hi:oz X tg iter ti) (hg:∀ cl C s H fp,qa (xB X N' scope cl C s H fp) tg g) (hf:∀ cl C s H fp,iu (xB X N' scope cl C s H fp) ifs tcc) (he:∀ cl C s H fp,PD (xB X N' scope cl C s H fp) elt te)
  (hN:X.N.Nodup) (hy:X.N[i]?=some y) (hx:Loc X.env.scope y)
  (hsw:swapsWith (.ListComp elt [⟨tg,iter,ifs,0⟩] scope pos) (some (.Name y py)) spos.line X.env=pure true:=by rfl)
  (hfn:X.fn y=true\/X.env.scope.names.lookup y=some .local:=by first | exact .inl rfl | exact .inr rfl | assumption)
  (hs:∀ x,foldedSetIterable iter X.env x=pure x:=by intro _;rfl):
  uk X (.Assign [.Name y py] (.ListComp elt [⟨tg,iter,ifs,0⟩] scope pos) spos) (ue (rX pick ti g tcc te) (hName i)):=by
 refine⟨ue.mo (rX.mo hi.mo) λ _ _ _ _ _ hq z=>hq _ _ z,λ pins s B H D I hu=>UU (g:=ml X.K g) (tc:=vq X.K tcc) (te:=yd X.K te) Sc hc hi.pi (λ cl C s H fp=>(hg cl C s H fp).pg) (λ cl C s H fp=>(hf cl C s H fp).pf) (λ cl C s H fp=>(he cl C s H fp).pe) hN hy hx hsw hfn hs pins s B H D I ?_⟩;obtain⟨L,S,r1,r2,z⟩:=hu;refine bf hi.mo (hg [] 0 s H []).mo (hf [] 0 s H []).mo (he [] 0 s H []).mo ⟨L,S,r1,r2,rX.mo hi.mo L S _ _ (λ x S1 z v H1 q1 e1 p1=>?_) z⟩;exact z _ H1 ((r1.ext e1).set i q1) e1 p1
end
end
section
variable {P:Program}{w:World}{K:zFr}{mg:Str->Option Value}{base:Heap}{f:Addr}{fd:FuncData}
def Yk {R:Rk} [Lo R] {x:Str}{st:Stmt}{N ps:List Str}{k n:Nat}{g:Sm}(F:tV K x x st f fd) (Sc:yr N ps (zN st)) (hn:n=ps.length)
  (hbody:∀ (cdv:Value) (A:Around) (outer:List Env) (s:Shared) (H:Hp) (E:XK),y_ k (A.deeper (envOfC x (zN st) s.heap.objs.size f cdv))->
   ∃ t,t6 (sR ur P w K mg base N x (zN st) f cdv A outer s H E).qE (uc st) t/\xD R g t):t8 P w K mg base ur (k+1) f fd ps (rn K (yf R (yn N n g))):=
 PV F Sc (λ ds S Q h=>by rw[h.len,hn]) λ cdv A outer s H E hr=>by
  obtain⟨t,h1,h2⟩:=hbody cdv A outer s H E hr;exact⟨t,h1,λ ds S Q h=>N9 h2 h⟩
def Oh {R:Rk} [Lo R] {x:Str}{st:Stmt}{N ps:List Str}{k n:Nat}{g:Sm}(F:tV K x x st f fd) (hm:mg x=some (.ref f)) (Sc:yr N ps (zN st)) (hn:n=ps.length)
  (hb:∀ (kV doc pm:Value) (an:Option Addr) (cdv ct:Value) (us:List Value),us.length=ps.length->bindArgs (PySem.W.fnOf x x (rW st) (uc st) (zN st) .none kV doc pm an cdv ct) ⟨us,[]⟩=pure (ps.zip us))
  (hbody:∀ (cdv:Value) (A:Around) (outer:List Env) (s:Shared) (H:Hp) (E:XK),y_ k (A.deeper (envOfC x (zN st) s.heap.objs.size f cdv))->
   ∃ t,t6 (sR ur P w K mg base N x (zN st) f cdv A outer s H E).qE (uc st) t/\xD R g t):FD P w K mg base x (k+1) ps (yf R (yn N n g)):=
 ⟨⟨f,fd,Yk F Sc hn hbody,hm,F.kp,F.binds hb⟩,yf.mo⟩
def QR {R:Rk} [Sr R] {F:List T->Option T}(hF:∀ ns:List Int,ns.length<=63->F [.lst (ns.map T.int)]=some (.bl true)) {H:Hp}{a:Addr}{ns:List Int}{E:XK}(hO:iw H) (hS:yg K H a (ns.map V.int)) (hl:ns.length<=63):rn K (yf R F) [.ref a] H (λ v _=>v=.bl true) E:=by
 have hFz:nF K H a (ns.map V.int):=by
  rcases hS with (h | h) | h
  .rcases hO a with z | ⟨o,xs,z⟩
   .rw[h] at z;cases z
   .rw[h] at z;cases z
  .exact .inl h
  .exact .inr h
 refine⟨[.xm (ns.map D.int)],λ _=>none,.cons ?_ .nil,(λ a o z=>nomatch z),λ _=>False,[.lst (ns.map T.int)],.bl true,nofun,.cons ?_ .nil,hF ns hl,λ d S' s r v H' rv _ _=>?_⟩
 .simp only[zo];exact⟨a,_,rfl,hFz,zx.fF ns⟩
 .simp only[Sn];exact⟨_,.inl ⟨rfl,Rp ns⟩,rB.mpr rfl⟩
 .have:=Sr.sn r;simp only[Sn] at this;subst this;simpa only [zo] using rv
end
end L5
namespace ST
open PySem PySem.SetTable
def tU (xs:List Nat):Prop:=xs.Pairwise (· < ·)
def eI {xs:Array Nat}{m d:Nat}(h:m<xs.size):xs.getD m d=xs[m]:=by simp[Array.getD,h]
theorem dv (xs:Array Nat) (j:Nat) (hr:tU xs.toList):∀ (f lo hi:Nat),hi-lo<=f->lo<=hi->hi<=xs.size->(∀ i (h:i<xs.size),i<lo->xs[i]<j)->(∀ i (h:i<xs.size),hi<=i->j<=xs[i])->
  below.go xs j f lo hi<=xs.size/\(∀ i (h:i<xs.size),i<below.go xs j f lo hi->xs[i]<j)/\∀ i (h:i<xs.size),below.go xs j f lo hi<=i->j<=xs[i]
 | 0,lo,hi,h1,h2,h3,h4,h5=>by
  unfold below.go;have:lo=hi:=by omega
  subst this;exact⟨h3,h4,h5⟩
 | f+1,lo,hi,h1,h2,h3,h4,h5=>by
  unfold below.go;have vC:∀ i k (hi:i<xs.size) (hk:k<xs.size),i<=k->xs[i]<=xs[k]:=λ i k hi hk hik=>by
   rcases Nat.lt_or_ge i k with q | q
   .have r:=List.pairwise_iff_getElem.mp hr i k (by simpa using hi) (by simpa using hk) q;rw[Array.getElem_toList,Array.getElem_toList] at r;exact zE3 r
   .have:i=k:=by omega
    subst this;exact zA4 _
  by_cases hl:lo<hi
  .rw[if_pos hl];dsimp only;have hm:(lo+hi)/2<xs.size:=by omega
   rw[eI hm];by_cases c:xs[(lo+hi)/2]<j
   .rw[if_pos c];refine dv xs j hr f _ hi (by omega) (by omega) h3 (λ i hi' hlt=>?_) h5;have:=vC i ((lo+hi)/2) hi' hm (by omega);omega
   .rw[if_neg c];refine dv xs j hr f lo _ (by omega) (by omega) (by omega) h4 (λ i hi' hge=>?_);have:=vC ((lo+hi)/2) i hm hi' hge;omega
  .rw[if_neg hl];have:lo=hi:=by omega
   subst this;exact⟨h3,h4,h5⟩
def jX {xs:Array Nat}{j:Nat}(hr:tU xs.toList):below xs j<=xs.size/\(∀ i (h:i<xs.size),i<below xs j->xs[i]<j)/\∀ i (h:i<xs.size),below xs j<=i->j<=xs[i]:=
 dv xs j hr xs.size 0 xs.size (by omega) (by omega) (zA4 _) (λ i h q=>by omega) (λ i h q=>by omega)
def below_at {xs:Array Nat}{j i:Nat}(hr:tU xs.toList) (h:xs[i]?=some j):below xs j=i:=by
 obtain⟨h1,h2,h3⟩:=jX (j:=j) hr;obtain⟨hi,e⟩:=Array.getElem?_eq_some_iff.mp h;have a:¬ i<below xs j:=λ q=>by have:=h2 i hi q;omega
 have b:¬ below xs j<i:=λ q=>by
  have:=h3 (below xs j) (by omega) (zA4 _);have r:=List.pairwise_iff_getElem.mp hr (below xs j) i (by simp;omega) (by simpa using hi) q;simp at r;omega
 omega
def ND {xs:Array Nat}{j:Nat}(hr:tU xs.toList):(xs[below xs j]?=some j)↔j∈xs.toList:=by
 constructor
 .intro h;obtain⟨hi,e⟩:=Array.getElem?_eq_some_iff.mp h;rw[<- e];simp
 .intro h;obtain⟨i,hi,e⟩:=List.mem_iff_getElem.mp h;have hx:xs[i]?=some j:=by
   simp at hi;simp[hi] at e ⊢;exact e
  rw[below_at hr hx];exact hx
noncomputable def tw (M:Nat) (p:Probe):Probe:=
 if p.more>0 then { p with j:=p.j+1,more:=p.more-1 } else
 let (i,perturb):=leap M p.i p.perturb
 { p with j:=i,more:=runEnd M i-i,i,perturb }
def dD (t:SetTable) (p:Probe):t.advance p=tw t.mask p:=rfl
noncomputable def oO (M i perturb:Nat):Probe:={ j:=i,more:=runEnd M i-i,i:=i,perturb:=perturb,dummy:=none }
noncomputable def way (M:Nat) (h:Int):Nat->Probe
 | 0=>oO M (bits h%(M+1)) (bits h)
 | k+1=>tw M (way M h k)
def NM (M:Nat) (p:Probe) (h:p.dummy=none):(tw M p).dummy=none:=by
 unfold tw;split
 .exact h
 .exact h
theorem iJ (M:Nat) (h:Int):∀ k,(way M h k).dummy=none
 | 0=>rfl
 | k+1=>NM M _ (iJ M h k)
noncomputable def yq (M:Nat) (h:Int):Nat->Nat×Nat
 | 0=>(bits h%(M+1),bits h)
 | n+1=>leap M (yq M h n).1 (yq M h n).2
theorem gQ (M i pt:Nat) (h:Int) (k:Nat) (hk:way M h k=oO M i pt):∀ m,m<=runEnd M i-i->way M h (k+m)={ j:=i+m,more:=runEnd M i-i-m,i:=i,perturb:=pt,dummy:=none }
 | 0,_=>by rw[Nat.add_zero,hk];rfl
 | m+1,hm=>by
  have ih:=gQ M i pt h k hk m (by omega);show tw M (way M h (k+m))=_;rw[ih];unfold tw;rw[if_pos (by show runEnd M i-i-m>0;omega)];simp only[Probe.mk.injEq];exact⟨by omega,by omega,trivial,trivial,trivial⟩
def Uz (M i:Nat):runEnd M i-i<=9:=by unfold runEnd;split <;> omega
def bU (M:Nat) (h:Int) (n k:Nat) (hk:way M h k=oO M (yq M h n).1 (yq M h n).2):way M h (k+(runEnd M (yq M h n).1-(yq M h n).1)+1)=oO M (yq M h (n+1)).1 (yq M h (n+1)).2:=by
 have:=gQ M _ _ h k hk _ (zA4 _);show tw M (way M h (k+_))=_;rw[this];unfold tw;rw[if_neg (by show ¬ _-_-(_-_)>0;omega)];rfl
theorem bV (M:Nat) (h:Int):∀ n,∃ k,k<=10*n/\way M h k=oO M (yq M h n).1 (yq M h n).2
 | 0=>⟨0,by omega,rfl⟩
 | n+1=>by
  obtain⟨k,h1,h2⟩:=bV M h n;have:=Uz M (yq M h n).1;exact⟨_,by omega,bU M h n k h2⟩
def NB (h:Int):bits h<2 ^ 64:=by
 unfold bits;have h1:=zF0 h (show (2 ^ 64:Int)≠0 by decide);have h2:=zF1 h (show (0:Int)<2 ^ 64 by decide);omega
theorem aC (M:Nat) (h:Int):∀ n,(yq M h n).2*32 ^ n<=bits h
 | 0=>by simp[yq]
 | n+1=>by
  have ih:=aC M h n;show ((yq M h n).2/32)*32 ^ (n+1)<=_;have:(yq M h n).2/32*32<=(yq M h n).2:=Nat.div_mul_le_self _ _
  calc (yq M h n).2/32*32 ^ (n+1)=((yq M h n).2/32*32)*32 ^ n:=by rw[Nat.pow_succ,Nat.mul_comm (32 ^ n) 32,Nat.mul_assoc]
   _<=(yq M h n).2*32 ^ n:=Nat.mul_le_mul_right _ this
   _<=_:=ih
def T2 (M:Nat) (h:Int) (n:Nat) (hn:13<=n):(yq M h n).2=0:=by
 rcases Nat.eq_zero_or_pos (yq M h n).2 with q | q
 .exact q
 .have h1:=aC M h n;have h2:=NB h;have h3:32 ^ 13<=32 ^ n:=Nat.pow_le_pow_right (by decide) hn;have h4:1*32 ^ n<=(yq M h n).2*32 ^ n:=Nat.mul_le_mul_right _ q;have h5:(2:Nat) ^ 64<32 ^ 13:=by decide
  omega
noncomputable def rL (M:Nat) (i:Nat):Nat->Nat
 | 0=>i
 | n+1=>(rL M i n*5+1)%(M+1)
theorem Z5 (M:Nat) (h:Int):∀ n,(yq M h (13+n)).1=rL M (yq M h 13).1 n
 | 0=>rfl
 | n+1=>by
  have ih:=Z5 M h n;have hz:=T2 M h (13+n) (by omega);show ((yq M h (13+n)).1*5+1+(yq M h (13+n)).2/32)%(M+1)=_;rw[hz,ih];rfl
theorem mP (M i:Nat):∀ a b,rL M i (a+b)=rL M (rL M i a) b
 | a,0=>rfl
 | a,b+1=>by
  show (rL M i (a+b)*5+1)%(M+1)=_;rw[mP M i a b];rfl
noncomputable def mO (M:Nat):Nat->Nat->List Nat
 | 0,_=>[]
 | n+1,i=>i::mO M n ((i*5+1)%(M+1))
theorem f7 (M:Nat):∀ n i x,x∈mO M n i->∃ k,k<n/\rL M i k=x
 | 0,i,x,h=>by cases h
 | n+1,i,x,h=>by
  rcases zA5.mp h with e | e
  .exact⟨0,by omega,e.symm⟩
  .obtain⟨k,h1,h2⟩:=f7 M n _ x e;exact⟨k+1,by omega,by rw[Nat.add_comm,mP];exact h2⟩
def uo (M:Nat):Prop:=M=7\/M=31\/M=127
def SN (M:Nat) (hM:uo M):(∀ e,e<=M->e∈mO M (M+1) 0)/\rL M 0 (M+1)=0:=by
 have key:∀ M,((List.range (M+1)).all λ e=>(mO M (M+1) 0).contains e)=true->∀ e,e<=M->e∈mO M (M+1) 0:=λ M h e he=>by
  have:=zE4.mp h e (zC1.mpr (by omega));simpa using this
 rcases hM with rfl | rfl | rfl
 .exact⟨key 7 (by decide +kernel),by decide +kernel⟩
 .exact⟨key 31 (by decide +kernel),by decide +kernel⟩
 .exact⟨key 127 (by decide +kernel),by decide +kernel⟩
def SM (M:Nat) (hM:uo M) (i e:Nat) (hi:i<=M) (he:e<=M):∃ n,n<=M/\rL M i n=e:=by
 obtain⟨h1,h2⟩:=SN M hM;obtain⟨a,a1,a2⟩:=f7 M _ _ _ (h1 i hi);obtain⟨b,b1,b2⟩:=f7 M _ _ _ (h1 e he);rcases Nat.lt_or_ge b a with q | q
 .refine⟨M+1+b-a,by omega,?_⟩;rw[<- a2,<- mP,show a+(M+1+b-a)=(M+1)+b by omega,mP,h2,b2]
 .refine⟨b-a,by omega,?_⟩;rw[<- a2,<- mP,show a+(b-a)=b by omega,b2]
theorem QJ (M:Nat) (h:Int):∀ n,(yq M h n).1<=M
 | 0=>by have:=Nat.mod_lt (bits h) (show 0<M+1 by omega);show bits h%(M+1)<=M;omega
 | n+1=>by
  have:=Nat.mod_lt ((yq M h n).1*5+1+(yq M h n).2/32) (show 0<M+1 by omega);show (_%(M+1):Nat)<=M;omega
def Z6 (M:Nat) (hM:uo M) (h:Int) (e:Nat) (he:e<=M):∃ n,n<M+14/\(yq M h n).1=e:=by
 obtain⟨n,h1,h2⟩:=SM M hM (yq M h 13).1 e (QJ M h 13) he;exact⟨13+n,by omega,by rw[Z5,h2]⟩
def WZ (M:Nat) (hM:uo M) (h:Int) (e:Nat) (he:e<=M):∃ k,k<10*(M+15)/\(way M h k).j=e:=by
 obtain⟨n,h1,h2⟩:=Z6 M hM h e he;obtain⟨k,k1,k2⟩:=bV M h n;exact⟨k,by omega,by rw[k2];exact h2⟩
theorem cX (M:Nat) (h:Int):∀ k,(way M h k).j+(way M h k).more<=M/\(way M h k).i<=M
 | 0=>by
  have h1:bits h%(M+1)<=M:=by have:=Nat.mod_lt (bits h) (show 0<M+1 by omega);omega
  refine⟨?_,h1⟩;show bits h%(M+1)+(runEnd M (bits h%(M+1))-bits h%(M+1))<=M;unfold runEnd;split <;> omega
 | k+1=>by
  obtain⟨h1,h2⟩:=cX M h k;show (tw M (way M h k)).j+(tw M (way M h k)).more<=M/\(tw M (way M h k)).i<=M;unfold tw;split
  .rename_i c;exact⟨by show (way M h k).j+1+((way M h k).more-1)<=M;omega,h2⟩
  .have h3:((way M h k).i*5+1+(way M h k).perturb/32)%(M+1)<=M:=by have:=Nat.mod_lt ((way M h k).i*5+1+(way M h k).perturb/32) (show 0<M+1 by omega);omega
   refine⟨?_,h3⟩;show _%(M+1)+(runEnd M (_%(M+1))-_%(M+1))<=M;unfold runEnd;split <;> omega
def iI (M:Nat) (h:Int) (k:Nat):(way M h k).j<=M:=by have:=(cX M h k).1;omega
structure Tab (t:SetTable) (hs:List Int):Prop where
 mask:uo t.mask
 qT:t.dummies=#[]
 len:t.place.size=hs.length
 vC:tU t.place.toList
 yu:∀ j∈t.place.toList,j<=t.mask
 mD:∀ (i:Nat) h j,hs[i]?=some h->t.place[i]?=some j->∃ k,(way t.mask h k).j=j/\∀ k'<k,(way t.mask h k').j∈t.place.toList
theorem Tab.live {t:SetTable}{hs:List Int}(T:Tab t hs) {i j:Nat}(h:t.place[i]?=some j):t.slot j=.live i:=by
 unfold SetTable.slot;dsimp only;rw[below_at T.vC h,if_pos (by rw[h];simp)]
theorem Tab.empty {t:SetTable}{hs:List Int}(T:Tab t hs) {j:Nat}(h:j∉t.place.toList):t.slot j=.empty:=by
 unfold SetTable.slot;dsimp only;have n1:¬ (t.place[below t.place j]? == some j)=true:=λ q=>h ((ND T.vC).mp (by simpa using q));rw[if_neg n1,if_neg (by rw[T.qT];simp[has])]
theorem Tab.at {t:SetTable}{hs:List Int}(T:Tab t hs) {j:Nat}(h:j∈t.place.toList):∃ (i:Nat) (g:Int),t.place[i]?=some j/\hs[i]?=some g:=by
 obtain⟨i,hi,e⟩:=List.mem_iff_getElem.mp h;have hi':i<t.place.size:=by simpa using hi
 refine⟨i,hs[i]'(by rw[<- T.len];exact hi'),?_,by simp⟩;rw[zB8 hi'];rw[Array.getElem_toList] at e;rw[e]
theorem Ye {t:SetTable}{hs:List Int}(T:Tab t hs) {hashAt:Nat->Int}(hA:∀ (i:Nat) g,hs[i]?=some g->hashAt i=g) (h:Int):∀ (f k:Nat),(∃ e,k<=e/\e<k+f/\(way t.mask h e).j∉t.place.toList)->
  ∃ k1,k<=k1/\(∀ m,k<=m->m<k1->∃ (i:Nat) (g:Int),t.place[i]?=some (way t.mask h m).j/\hs[i]?=some g/\g≠h)/\
   ((way t.mask h k1).j∉t.place.toList/\probe.go t hashAt h f (way t.mask h k)=some (.empty (way t.mask h k1).j none)\/
    ∃ i,t.place[i]?=some (way t.mask h k1).j/\hs[i]?=some h/\probe.go t hashAt h f (way t.mask h k)=some (.candidate (way t.mask h k1).j i (way t.mask h (k1+1))))
 | 0,k,⟨e,h1,h2,_⟩=>by omega
 | f+1,k,⟨e,h1,h2,h3⟩=>by
  by_cases hm:(way t.mask h k).j∈t.place.toList
  .obtain⟨i,g,p1,p2⟩:=T.at hm;by_cases hg:g=h
   .refine⟨k,zA4 _,λ m a b=>by omega,.inr ⟨i,p1,by rw[<- hg];exact p2,?_⟩⟩;unfold probe.go;rw[T.live p1];dsimp only;rw[hA i g p2,if_pos (by simp[hg]),dD];rfl
   .have hne:e≠k:=λ q=>by subst q;exact h3 hm
    obtain⟨k1,q1,q2,q3⟩:=Ye T hA h f (k+1) ⟨e,by omega,by omega,h3⟩;have eq:probe.go t hashAt h (f+1) (way t.mask h k)=probe.go t hashAt h f (way t.mask h (k+1)):=by
     conv=>lhs;unfold probe.go
     rw[T.live p1];dsimp only;rw[hA i g p2,if_neg (by simp[hg]),dD];rfl
    rw[eq];refine⟨k1,by omega,λ m a b=>?_,q3⟩;rcases Nat.eq_or_lt_of_le a with w | w
    .subst w;exact⟨i,g,p1,p2,hg⟩
    .exact q2 m w b
  .refine⟨k,zA4 _,λ m a b=>by omega,.inl ⟨hm,?_⟩⟩;unfold probe.go;rw[T.empty hm,iJ]
def Zj {xs ys:List Nat}(hx:xs.Nodup) (h:∀ x∈xs,x∈ys):xs.length<=ys.length:=by
 induction xs generalizing ys with
 | nil=>simp
 | cons x xs ih=>
  have h1:=List.nodup_cons.mp hx;have hxy:=h x zMc;have:=ih h1.2 (ys:=ys.erase x) λ z hz=>by
   have hne:z≠x:=λ e=>h1.1 (e▸hz);exact (List.mem_erase_of_ne hne).mpr (h z (zMo _ hz))
  rw[List.length_erase_of_mem hxy] at this;have hp:=List.length_pos_of_mem hxy;simp only[zC0];omega
def least {P:Nat->Prop}(k:Nat) (h:P k):∃ m,m<=k/\P m/\∀ m'<m,¬ P m':=by
 induction k using Nat.strongRecOn with
 | ind k ih=>
  rcases Classical.em (∃ m',m'<k/\P m') with ⟨m',h1,h2⟩ | q
  .obtain⟨m,g1,g2⟩:=ih m' h1 h2;exact⟨m,by omega,g2⟩
  .exact⟨k,zA4 _,h,λ m' hm hp=>q ⟨m',hm,hp⟩⟩
def PZ {xs:List Nat}{M:Nat}(h:xs.length<=M):∃ e,e<=M/\e∉xs:=by
 rcases Classical.em (∃ e,e<=M/\e∉xs) with q | q
 .exact q
 .have:=Zj (xs:=List.range (M+1)) (ys:=xs) List.nodup_range λ e he=>by
   have:=zC1.mp he;rcases Classical.em (e∈xs) with w | w
   .exact w
   .exact absurd ⟨e,by omega,w⟩ q
  simp at this;omega
def cB (t:SetTable) (h:Int) (j:Nat):Prop:=j∉t.place.toList/\∃ k,(way t.mask h k).j=j/\∀ k'<k,(way t.mask h k').j∈t.place.toList
def Tab.first {t:SetTable}{hs:List Int}(T:Tab t hs) (hl:hs.length<=t.mask) (h:Int):∃ K,K<10*(t.mask+15)/\(way t.mask h K).j∉t.place.toList/\∀ k'<K,(way t.mask h k').j∈t.place.toList:=by
 obtain⟨e,e1,e2⟩:=PZ (xs:=t.place.toList) (M:=t.mask) (by rw[zD2,T.len];exact hl);obtain⟨k,k1,k2⟩:=WZ t.mask T.mask h e e1;obtain⟨K,q1,q2,q3⟩:=least (P:=λ n=>(way t.mask h n).j∉t.place.toList) k (by rw[k2];exact e2);exact⟨K,by omega,q2,λ k' hk=>Classical.not_not.mp (q3 k' hk)⟩
def U3 {xs:List Nat}{j p:Nat}(h:tU xs) (h1:∀ x∈xs.take p,x<j) (h2:∀ x∈xs.drop p,j<x):tU (xs.take p++j::xs.drop p):=by
 refine List.pairwise_append.mpr ⟨h.sublist (List.take_sublist _ _),List.pairwise_cons.mpr ⟨h2,h.sublist (List.drop_sublist _ _)⟩,λ a ha b hb=>?_⟩;rcases zA5.mp hb with e | e
 .subst e;exact h1 a ha
 .have:=h1 a ha;have:=h2 b e;omega
def ZW {α:Type}{xs:List α}{p i:Nat}{x y:α}(hp:p<=xs.length) (h:(xs.take p++x::xs.drop p)[i]?=some y):(i=p/\y=x)\/(i<p/\xs[i]?=some y)\/(p<i/\xs[i-1]?=some y):=by
 have hl:(xs.take p).length=p:=by rw[List.length_take];omega
 rcases Nat.lt_trichotomy i p with q | q | q
 .rw[List.getElem?_append_left (by omega),List.getElem?_take,if_pos q] at h;exact .inr (.inl ⟨q,h⟩)
 .subst q;rw[List.getElem?_append_right (by omega),hl] at h;simp at h;exact .inl ⟨rfl,h.symm⟩
 .rw[List.getElem?_append_right (by omega),hl] at h;obtain⟨d,hd⟩:∃ d,i-p=d+1:=⟨i-p-1,by omega⟩
  rw[hd] at h;simp only[List.getElem?_cons_succ,List.getElem?_drop] at h;refine .inr (.inr ⟨q,?_⟩);rw[show i-1=p+d by omega];exact h
theorem Tab.put {t:SetTable}{hs:List Int}(T:Tab t hs) {h:Int}{j:Nat}(F:cB t h j):
  (t.put j).2<=hs.length/\(t.put j).1={ t with place:=insertAt t.place (t.put j).2 j }/\Tab (t.put j).1 (hs.take (t.put j).2++h::hs.drop (t.put j).2):=by
 obtain⟨b1,b2,b3⟩:=jX (xs:=t.place) (j:=j) T.vC;obtain⟨fn,K,k1,k2⟩:=F;have e2:(t.put j).2=below t.place j:=rfl;have e1:(t.put j).1={ t with place:=insertAt t.place (t.put j).2 j }:=by
  show ({ t with place:=insertAt t.place (below t.place j) j,dummies:=_ }:SetTable)=_;rw[if_neg (by rw[T.qT];simp[has]),e2]
 have pl:(insertAt t.place (below t.place j) j).toList=t.place.toList.take (below t.place j)++j::t.place.toList.drop (below t.place j):=toList_insertAt _ _ _;have old:∀ x∈t.place.toList,x∈(insertAt t.place (below t.place j) j).toList:=λ x hx=>by
  rw[pl];have:=List.take_append_drop (below t.place j) t.place.toList;rw[<- this] at hx;rcases zB9.mp hx with q | q
  .exact List.mem_append_left _ q
  .exact zB4 _ (zMo _ q)
 rw[e2] at e1 ⊢;refine⟨by rw[<- T.len];exact b1,e1,?_⟩;rw[e1];refine⟨T.mask,T.qT,?_,?_,?_,?_⟩
 .show (insertAt t.place (below t.place j) j).size=_;rw[<- zD2,pl];simp[T.len]
 .show tU (insertAt t.place (below t.place j) j).toList;rw[pl];refine U3 T.vC (λ x hx=>?_) (λ x hx=>?_)
  .obtain⟨i,hi,e⟩:=List.mem_iff_getElem.mp hx;rw[List.length_take] at hi;rw[List.getElem_take,Array.getElem_toList] at e;rw[<- e];exact b2 i (by simp at hi;omega) (by omega)
  .obtain⟨i,hi,e⟩:=List.mem_iff_getElem.mp hx;rw[List.length_drop] at hi;rw[List.getElem_drop,Array.getElem_toList] at e;have h3:=b3 (below t.place j+i) (by simp at hi;omega) (by omega);have hm:x∈t.place.toList:=List.mem_of_mem_drop hx;have hne:x≠j:=λ q=>fn (q▸hm);omega
 .intro x hx;show x<=t.mask;have hx:x∈(insertAt t.place (below t.place j) j).toList:=hx;rw[pl] at hx;rcases zB9.mp hx with q | q
  .exact T.yu x (List.mem_of_mem_take q)
  .rcases zA5.mp q with e | e
   .subst e;rw[<- k1];exact iI _ _ _
   .exact T.yu x (List.mem_of_mem_drop e)
 .intro i g x hg hx;show ∃ k,(way t.mask g k).j=x/\∀ k'<k,(way t.mask g k').j∈(insertAt t.place (below t.place j) j).toList;have hx:(insertAt t.place (below t.place j) j)[i]?=some x:=hx;rw[<- zD3,pl] at hx;have hpl:below t.place j<=t.place.toList.length:=by simpa using b1
  have hpl':below t.place j<=hs.length:=by rw[<- T.len];exact b1
  rcases ZW hpl hx with ⟨c1,c2⟩ | ⟨c1,c2⟩ | ⟨c1,c2⟩ <;> rcases ZW hpl' hg with ⟨d1,d2⟩ | ⟨d1,d2⟩ | ⟨d1,d2⟩ <;> first
   | omega
   | (subst c2 d2;exact⟨K,k1,λ k' hk=>old _ (k2 k' hk)⟩)
   | (obtain⟨k,g1,g2⟩:=T.mD _ g x d2 (by rw[<- zD3];exact c2)
      exact⟨k,g1,λ k' hk=>old _ (g2 k' hk)⟩)
def q_ (owner:Array (Option Nat)) (j:Nat):Prop:=∃ k,owner[j]?=some (some k)
def Og {P:Nat->Bool}{n k:Nat}(h:(List.range n).find? P=some k):k<n/\P k=true/\∀ k'<k,P k'=false:=by
 obtain⟨h1,as,bs,h2,h3⟩:=List.find?_eq_some_iff_append.mp h;have hlen:as.length=k:=by
  have e:(List.range n)[as.length]?=some k:=by rw[h2];simp
  have:=(zA2.mp e)
  obtain⟨q1,q2⟩:=this;rw[List.getElem_range] at q2;exact q2
 have hk:k<n:=by
  have:k∈List.range n:=by rw[h2];simp
  exact zC1.mp this
 refine⟨hk,h1,λ k' hk'=>?_⟩;have:k'∈as:=by
  have e:(List.range n)[k']?=some k':=List.getElem?_range (by omega);rw[h2,List.getElem?_append_left (by omega)] at e;exact zB7 e
 have:=h3 k' this;simpa using this
def getD_none {owner:Array (Option Nat)}{j:Nat}(h:((owner.getD j (some 0)).isNone)=true):owner[j]?=some none:=by
 unfold Array.getD at h;split at h
 .rename_i hj;have e:owner[j]=none:=by simpa using h
  rw[zB8 hj,e]
 .simp at h
def Yg {owner:Array (Option Nat)}{j:Nat}(hj:j<owner.size) (h:((owner.getD j (some 0)).isNone)=false):q_ owner j:=by
 unfold Array.getD at h;rw[dif_pos hj] at h;cases q:owner[j] with
 | none=>simp[q] at h
 | some k=>exact⟨k,by rw[zB8 hj,q]⟩
theorem Yj (M:Nat) (owner:Array (Option Nat)) (hsz:owner.size=M+1) (h:Int):∀ (fuel n kn:Nat),way M h kn=oO M (yq M h n).1 (yq M h n).2->(∀ q<kn,q_ owner (way M h q).j)->
  (∃ n',n<=n'/\n'<n+fuel/\owner[(yq M h n').1]?=some none)->
  ∃ j q,layClean.free M owner fuel (yq M h n).1 (yq M h n).2=some j/\(way M h q).j=j/\owner[j]?=some none/\∀ q'<q,q_ owner (way M h q').j
 | 0,n,kn,_,_,⟨n',h1,h2,_⟩=>by omega
 | fuel+1,n,kn,hk,ho,⟨n',h1,h2,h3⟩=>by
  have hre:runEnd M (yq M h n).1+1-(yq M h n).1=runEnd M (yq M h n).1-(yq M h n).1+1:=by unfold runEnd;split <;> omega
  have hwalk:∀ m,m<=runEnd M (yq M h n).1-(yq M h n).1->(way M h (kn+m)).j=(yq M h n).1+m:=λ m hm=>by rw[gQ M _ _ h kn hk m hm]
  unfold layClean.free;cases hf:(List.range (runEnd M (yq M h n).1+1-(yq M h n).1)).find? (λ k=>(owner.getD ((yq M h n).1+k) (some 0)).isNone) with
  | some k=>
   obtain⟨f1,f2,f3⟩:=Og hf;refine⟨_,kn+k,rfl,hwalk k (by omega),getD_none f2,λ q' hq=>?_⟩;rcases Nat.lt_or_ge q' kn with w | w
   .exact ho q' w
   .have e:(way M h q').j=(yq M h n).1+(q'-kn):=by
     have:=hwalk (q'-kn) (by omega)
     rwa [show kn+(q'-kn)=q' by omega] at this
    have hle:=iI M h q';rw[e] at hle ⊢;exact Yg (by omega) (f3 (q'-kn) (by omega))
  | none=>
   have f3:=List.find?_eq_none.mp hf;have occ:∀ m,m<=runEnd M (yq M h n).1-(yq M h n).1->q_ owner ((yq M h n).1+m):=λ m hm=>by
    have hle:=iI M h (kn+m);rw[hwalk m hm] at hle;exact Yg (by omega) (Bool.eq_false_iff.mpr (f3 m (zC1.mpr (by omega))))
   have hne:n'≠n:=λ e=>by
    subst e;obtain⟨k,hk'⟩:=occ 0 (zD4 _);rw[Nat.add_zero] at hk';rw[hk'] at h3;cases h3
   dsimp only;obtain⟨j,q,r1,r2⟩:=Yj M owner hsz h fuel (n+1) _ (bU M h n kn hk) (λ q hq=>by
    rcases Nat.lt_or_ge q kn with w | w
    .exact ho q w
    .have e:=hwalk (q-kn) (by omega);rw[show kn+(q-kn)=q by omega] at e;rw[e];exact occ _ (by omega)) ⟨n',by omega,by omega,h3⟩
   exact⟨j,q,r1,r2⟩
structure Lay (M:Nat) (hs:List Int) (owner:Array (Option Nat)) (m:Nat):Prop where
 size:owner.size=M+1
 below:∀ (j k:Nat),owner[j]?=some (some k)->k<m
 each:∀ (k:Nat),k<m->∃ (j:Nat),owner[j]?=some (some k)
 once:∀ (i j k:Nat),owner[i]?=some (some k)->owner[j]?=some (some k)->i=j
 mD:∀ (j k:Nat) h,owner[j]?=some (some k)->hs[k]?=some h->∃ q,(way M h q).j=j/\∀ q'<q,q_ owner (way M h q').j
theorem Lay.none {M:Nat}(hM:uo M) {hs:List Int}{owner:Array (Option Nat)}{m:Nat}(L:Lay M hs owner m) (hm:m<=M):∃ (e:Nat),e<=M/\owner[e]?=some Option.none:=by
 rcases Classical.em (∃ (e:Nat),e<=M/\owner[e]?=some Option.none) with q | q
 .exact q
 .exfalso;have hall:∀ (e:Nat),e<=M->∃ (k:Nat),owner[e]?=some (some k):=λ e he=>by
   have hlt:e<owner.size:=by rw[L.size];omega
   cases w:owner[e] with
   | none=>exact absurd ⟨e,he,by rw[zB8 hlt,w]⟩ q
   | some k=>exact⟨k,by rw[zB8 hlt,w]⟩
  have:=Zj (xs:=(List.range (M+1)).map λ e=>((owner[e]?).getD Option.none).getD 0) (ys:=List.range m) (by
   refine List.pairwise_map.mpr (List.Pairwise.imp_of_mem ?_ List.nodup_range);intro a b ha hb hne e;refine hne ?_;obtain⟨k,hk⟩:=hall a (by have:=zC1.mp ha;omega);obtain⟨k',hk'⟩:=hall b (by have:=zC1.mp hb;omega);rw[hk,hk'] at e;simp at e;subst e;exact L.once a b k hk hk') (λ x hx=>by
   obtain⟨e,he,rfl⟩:=zB0.mp hx;obtain⟨k,hk⟩:=hall e (by have:=zC1.mp he;omega);rw[hk];exact zC1.mpr (L.below e k hk))
  simp at this;omega
def kI {α:Type}{xs:Array α}{j i:Nat}{a b:α}(h:(xs.setIfInBounds j a)[i]?=some b):(i=j/\b=a)\/(i≠j/\xs[i]?=some b):=by
 rw[Array.getElem?_setIfInBounds] at h;by_cases e:j=i
 .subst e;rw[if_pos rfl] at h;split at h
  .cases h;exact .inl ⟨rfl,rfl⟩
  .cases h
 .rw[if_neg e] at h;exact .inr ⟨λ q=>e q.symm,h⟩
def Lay.step {M:Nat}(hM:uo M) {hs:List Int}{owner:Array (Option Nat)}{m:Nat}{h:Int}(L:Lay M hs owner m) (hm:m<=M) (hh:hs[m]?=some h):
  ∃ j,layClean.free M owner (turns M) (bits h%(M+1)) (bits h)=some j/\Lay M hs (owner.setIfInBounds j (some m)) (m+1):=by
 obtain⟨e,e1,e2⟩:=L.none hM hm;obtain⟨n',n1,n2⟩:=Z6 M hM h e e1;obtain⟨j,q,r1,r2,r3,r4⟩:=Yj M owner L.size h (turns M) 0 0 rfl (λ q hq=>by omega) ⟨n',by omega,by unfold turns;omega,by rw[n2];exact e2⟩;have hj:j<owner.size:=(Array.getElem?_eq_some_iff.mp r3).1;have keep:∀ x,q_ owner x->q_ (owner.setIfInBounds j (some m)) x:=λ x ⟨k,hk⟩=>by
  have hne:j≠x:=λ w=>by subst w;rw[r3] at hk;cases hk
  exact⟨k,by rw[Array.getElem?_setIfInBounds,if_neg hne];exact hk⟩
 have self:(owner.setIfInBounds j (some m))[j]?=some (some m):=by rw[Array.getElem?_setIfInBounds,if_pos rfl,if_pos hj]
 refine⟨j,r1,⟨by simp[L.size],λ x k hx=>?_,λ k hk=>?_,λ x y k hx hy=>?_,λ x k g hx hg=>?_⟩⟩
 .rcases kI hx with ⟨_,w⟩ | ⟨_,w⟩
  .cases w;omega
  .have:=L.below x k w;omega
 .rcases Nat.lt_or_ge k m with w | w
  .obtain⟨x,hx⟩:=L.each k w;have hne:j≠x:=λ w=>by subst w;rw[r3] at hx;cases hx
   exact⟨x,by rw[Array.getElem?_setIfInBounds,if_neg hne];exact hx⟩
  .have:k=m:=by omega
   subst this;exact⟨j,self⟩
 .rcases kI hx with ⟨w1,w⟩ | ⟨w1,w⟩ <;> rcases kI hy with ⟨v1,v⟩ | ⟨v1,v⟩
  .omega
  .cases w;have:=L.below y _ v;omega
  .cases v;have:=L.below x _ w;omega
  .exact L.once x y k w v
 .rcases kI hx with ⟨w1,w⟩ | ⟨w1,w⟩
  .cases w;rw[hh] at hg;cases hg;subst w1;exact⟨q,r2,λ q' hq=>keep _ (r4 q' hq)⟩
  .obtain⟨q,g1,g2⟩:=L.mD x k g w hg;exact⟨q,g1,λ q' hq=>keep _ (g2 q' hq)⟩
theorem ZA {M:Nat}(hM:uo M) {hs:List Int}(hl:hs.length<=M+1):∀ (rest:List Int) (owner:Array (Option Nat)) (m:Nat),m<=hs.length->hs.drop m=rest->Lay M hs owner m->
  ∃ owner',rest.foldl (λ acc h=>do
   let (owner,k) <- acc
   let j <- layClean.free M owner (turns M) (bits h%(M+1)) (bits h)
   pure (owner.setIfInBounds j (some k),k+1)) (some (owner,m))=some (owner',hs.length)/\Lay M hs owner' hs.length
 | [],owner,m,hl2,hd,L=>by
  have hm:hs.length<=m:=List.drop_eq_nil_iff.mp hd;have e:m=hs.length:=by omega
  subst e;exact⟨owner,rfl,L⟩
 | h::rest,owner,m,hl2,hd,L=>by
  have hm:hs[m]?=some h:=by
   have:=congrArg (λ l=>l[0]?) hd;simpa using this
  have hlt:m<hs.length:=(zA2.mp hm).1;obtain⟨j,j1,j2⟩:=L.step hM (by omega) hm;have hd':hs.drop (m+1)=rest:=by
   have:=congrArg List.tail hd;simpa using this
  obtain⟨o',h1,h2⟩:=ZA hM hl rest _ (m+1) (by omega) hd' j2;refine⟨o',?_,h2⟩;rw[List.foldl_cons,<- h1];show _=_;congr 1;show ((layClean.free M owner (turns M) (bits h%(M+1)) (bits h)).bind λ j=>some (owner.setIfInBounds j (some m),m+1))=_;rw[j1];rfl
def QN (M:Nat) (hs:List Int):Lay M hs (Array.replicate (M+1) Option.none) 0:=by
 have no:∀ (j k:Nat),(Array.replicate (M+1) (Option.none:Option Nat))[j]?≠some (some k):=λ j k h=>by
  rw[Array.getElem?_replicate] at h;split at h <;> cases h
 exact⟨by simp,λ j k h=>absurd h (no j k),λ k hk=>by omega,λ i j k h=>absurd h (no i k),λ j k h e=>absurd e (no j k)⟩
def QO {M:Nat}(hM:uo M) (hashes:Array Int) (hl:hashes.size<=M+1):∃ owner,layClean M hashes=some owner/\Lay M hashes.toList owner hashes.size:=by
 obtain⟨o,h1,h2⟩:=ZA hM (hs:=hashes.toList) (by simpa using hl) hashes.toList _ 0 (zD4 _) (by simp) (QN M _);refine⟨o,?_,by simpa using h2⟩;unfold layClean;rw[<- Array.foldl_toList,h1];rfl
noncomputable def lives (M:Nat) (owner:Array (Option Nat)):List (Nat×Nat):=(List.range (M+1)).filterMap λ j=>(owner.getD j Option.none).map (j,·)
def getD_some {owner:Array (Option Nat)}{j k:Nat}:owner.getD j Option.none=some k↔owner[j]?=some (some k):=by
 unfold Array.getD;split
 .rename_i h;rw[zB8 h];simp
 .rename_i h;rw[Array.getElem?_eq_none (by omega)];simp
def pO {M:Nat}{owner:Array (Option Nat)}(hs:owner.size=M+1) {j k:Nat}:(j,k)∈lives M owner↔owner[j]?=some (some k):=by
 unfold lives;rw[List.mem_filterMap];constructor
 .rintro⟨x,hx,e⟩;obtain⟨y,e1,e2⟩:=zOm e;cases e2;exact getD_some.mp e1
 .intro h;have hj:=(Array.getElem?_eq_some_iff.mp h).1;exact⟨j,zC1.mpr (by omega),by rw[getD_some.mpr h];rfl⟩
def Zx (M:Nat) (owner:Array (Option Nat)):(lives M owner).Pairwise λ a b=>a.1<b.1:=by
 unfold lives;rw[List.pairwise_filterMap];refine List.Pairwise.imp ?_ List.pairwise_lt_range;intro a b hab x hx y hy;obtain⟨_,_,e1⟩:=zOm hx;obtain⟨_,_,e2⟩:=zOm hy;subst e1 e2;exact hab
def ZC {M:Nat}(hM:uo M) (finger moves:Nat) (led plain:Bool) (hashes:Array Int) (hl:hashes.size<=M+1):
  ∃ t order,laid M finger moves led plain hashes=some (t,order)/\t.mask=M/\t.finger=finger/\t.led=led/\t.plain=plain/\order.toList.Perm (List.range hashes.size)/\Tab t (order.toList.map λ k=>hashes.toList.getD k 0):=by
 obtain⟨owner,h1,L⟩:=QO hM hashes hl;refine⟨_,_,by unfold laid;rw[h1];rfl,rfl,rfl,rfl,rfl,?_,?_⟩
 .show ((lives M owner).map (·.2)).toArray.toList.Perm _;rw[List.toList_toArray];refine (List.perm_ext_iff_of_nodup ?_ List.nodup_range).mpr λ k=>?_
  .refine List.pairwise_map.mpr (List.Pairwise.imp_of_mem ?_ (Zx M owner));intro a b ha hb hab e;have h2:=(pO L.size (j:=a.1) (k:=a.2)).mp ha;have h3:=(pO L.size (j:=b.1) (k:=b.2)).mp hb;have e:a.2=b.2:=e;rw[e] at h2;have:=L.once _ _ _ h2 h3;omega
  .rw[zC1];constructor
   .intro h;obtain⟨⟨j,k'⟩,h2,rfl⟩:=zB0.mp h;exact L.below j _ ((pO L.size).mp h2)
   .intro h;obtain⟨j,hj⟩:=L.each k h;exact zB0.mpr ⟨(j,k),(pO L.size).mpr hj,rfl⟩
 .have pl:∀ x,x∈(lives M owner).map (·.1)↔q_ owner x:=λ x=>by
   constructor
   .intro h;obtain⟨⟨j,k⟩,h2,rfl⟩:=zB0.mp h;exact⟨k,(pO L.size).mp h2⟩
   .rintro⟨k,hk⟩;exact zB0.mpr ⟨(x,k),(pO L.size).mpr hk,rfl⟩
  refine⟨hM,rfl,?_,?_,?_,?_⟩
  .show ((lives M owner).map (·.1)).toArray.size=(((lives M owner).map (·.2)).toArray.toList.map _).length;simp
  .show tU ((lives M owner).map (·.1)).toArray.toList;rw[List.toList_toArray];exact List.pairwise_map.mpr (Zx M owner)
  .intro x hx;show x<=M;have hx:x∈((lives M owner).map (·.1)).toArray.toList:=hx;rw[List.toList_toArray] at hx;obtain⟨k,hk⟩:=(pl x).mp hx;have:=(Array.getElem?_eq_some_iff.mp hk).1;rw[L.size] at this;omega
  .intro i g x hg hx;have hx:((lives M owner).map (·.1)).toArray[i]?=some x:=hx;have hg:(((lives M owner).map (·.2)).toArray.toList.map λ k=>hashes.toList.getD k 0)[i]?=some g:=hg;rw[List.getElem?_toArray,zA3] at hx;rw[List.toList_toArray,zA3,zA3] at hg;obtain⟨p,p1,p2⟩:=zOm hx;rw[p1] at hg;simp only[Option.map_some,Option.some.injEq] at hg;obtain⟨j,k⟩:=p;cases p2;have hm:=(pO L.size).mp (zB7 p1);have hk:=L.below _ _ hm;obtain⟨q,q1,q2⟩:=L.mD _ k g hm (by rw[<- hg];simp[hk]);refine⟨q,q1,λ q' hq=>?_⟩;show _∈((lives M owner).map (·.1)).toArray.toList;rw[List.toList_toArray];exact (pl _).mpr (q2 q' hq)
section
variable {prog:Program}{w:World}{A:Around}{E:Value->Shared->Prop}{s:Shared}
abbrev rk (prog:Program) (w:World):HeapKind prog w (List Int):=tupleKind (intKind prog w)
def items_int {ks:List Int}{vs:List Value}(h:ItemsAre (intKind prog w) ks vs):∀ v∈vs,∃ n t,v=.int n t:=by
 induction h with
 | nil=>intro v hv;cases hv
 | cons h1 _ ih=>
  intro v hv;rcases zA5.mp hv with rfl | hv
  .obtain⟨t,e⟩:=Value.isInt_shape h1;exact⟨_,t,e⟩
  .exact ih v hv
def Zm {ks:List Int}{a:Addr}{Q:Bool->Shared->Prop}(hk:IsTupleKey (intKind prog w) s.heap ks a) (h:Q false s):wpAny (model prog w) A (ofAClassStatement 8 (.ref a)) Q E s:=by
 have hT:=hk.typeIs;obtain⟨o,items,n,ho,_,hd,hi⟩:=hk;unfold ofAClassStatement;refine zWb (wpAny_typeOf hT ?_);show wpAny _ _ (pure true >>= _) _ _ s;refine zWb (zD1 ?_);simp only[zB5,zC4,if_false];refine zWb (wpAny_seqItems ho hd ?_);dsimp only;refine zWb ?_;show wpAny _ _ (forIn items _ _) _ _ s;rw[<- Array.forIn_toList];refine wpAny_forIn_list _ (λ rest r s'=>r.1=none/\s'=s/\∀ v∈rest,∃ n t,v=.int n t) _ ?_ ?_ _ _ ⟨rfl,rfl,items_int hi⟩
 .rintro v rest r s' ⟨hr,rfl,hall⟩;obtain⟨m,t,rfl⟩:=hall v zMc;show wpAny _ _ (pure false >>= _) _ _ _;refine zWb (zD1 ?_);simp only[zC4,if_false];exact zD1 ⟨rfl,rfl,λ u hu=>hall u (zMo _ hu)⟩
 .rintro⟨r1,r2⟩ s' ⟨hr,rfl,_⟩;simp only at hr;subst hr;exact zD1 h
def P0 {ks:List Int}{a:Addr}{Q:Bool->Shared->Prop}(hk:IsTupleKey (intKind prog w) s.heap ks a) (h:Q true s):wpAny (model prog w) A (hashByValue 8 (.ref a)) Q E s:=by
 have hT:=hk.typeIs;obtain⟨o,items,n,ho,_,hd,hi⟩:=hk;unfold hashByValue;refine zWb (wpAny_specialOf hT F.slot_tuple_hash.lookup ?_);dsimp only;refine zWb (wpAny_seqItems ho hd ?_);refine zWb ?_;show wpAny _ _ (forIn items _ _) _ _ s;rw[<- Array.forIn_toList];refine wpAny_forIn_list _ (λ rest r s'=>r.1=none/\s'=s/\∀ v∈rest,∃ n t,v=.int n t) _ ?_ ?_ _ _ ⟨rfl,rfl,items_int hi⟩
 .rintro v rest r s' ⟨hr,rfl,hall⟩;obtain⟨m,t,rfl⟩:=hall v zMc;show wpAny _ _ (pure true >>= _) _ _ _;refine zWb (zD1 ?_);simp only[zB5,zC4,if_false];exact zD1 ⟨rfl,rfl,λ u hu=>hall u (zMo _ hu)⟩
 .rintro⟨r1,r2⟩ s' ⟨hr,rfl,_⟩;simp only at hr;subst hr;exact zD1 h
def Vh {ks:List Int}{b:Addr}{Q:Bool->Shared->Prop}(hk:IsTupleKey (intKind prog w) s.heap ks b) (l:List Value) (hl:∀ v∈l,∃ k c,v=.ref c/\IsTupleKey (intKind prog w) s.heap k c) (h:Q false s):
  wpAny (model prog w) A (searchCouldBeSeen (.ref b) l) Q E s:=by
 unfold searchCouldBeSeen;refine zWb ?_;refine wpAny_forIn_list _ (λ rest r s'=>r.1=none/\s'=s/\∀ v∈rest,∃ k c,v=.ref c/\IsTupleKey (intKind prog w) s.heap k c) _ ?_ ?_ _ _ ⟨rfl,rfl,hl⟩
 .rintro v rest r s' ⟨hr,rfl,hall⟩;obtain⟨k,c,rfl,hc⟩:=hall v zMc;have rest':∀ u∈rest,∃ k c,u=Value.ref c/\IsTupleKey (intKind prog w) s'.heap k c:=λ u hu=>hall u (zMo _ hu);dsimp only;by_cases e:(b == c||(carriedByValue (.ref b)&&carriedByValue (.ref c)))=true
  .rw[if_pos e];exact zD1 ⟨rfl,rfl,rest'⟩
  .rw[if_neg e];refine zWb ((rk prog w).quiet hk ?_);simp only[zB5,zC4,if_false];refine zWb ((rk prog w).quiet hc ?_);simp only[zB5,zC4,if_false];refine zWb (Zm hk ?_);simp only[zC4,if_false];refine zWb (Zm hc ?_);simp only[zC4,if_false];exact zD1 ⟨rfl,rfl,rest'⟩
 .rintro⟨r1,r2⟩ s' ⟨hr,rfl,_⟩;simp only at hr;subst hr;exact zD1 h
structure px (h:Heap) (es:Array (Int×Value)) (t:SetTable) (xs:List (List Int×Addr)):Prop where
 es:es.toList=xs.map λ e=>((rk prog w).hash e.1,Value.ref e.2)
 is:∀ e∈xs,IsTupleKey (intKind prog w) h e.1 e.2
 tab:Tab t (xs.map λ e=>(rk prog w).hash e.1)
 ly:xs.length<=t.mask
theorem px.fits {h:Heap}{es:Array (Int×Value)}{t:SetTable}{xs:List (List Int×Addr)}(X:px (prog:=prog) (w:=w) h es t xs):t.fits es.size=true:=by
 have hl:es.size=xs.length:=by have:=congrArg List.length X.es;simpa using this
 have h1:=X.tab.len;rw[zA7] at h1;have h2:=X.ly;unfold SetTable.fits SetTable.fill;rw[X.tab.qT,hl,h1];simp;omega
def px.at {h:Heap}{es:Array (Int×Value)}{t:SetTable}{xs:List (List Int×Addr)}(X:px (prog:=prog) (w:=w) h es t xs) {i:Nat}{e:List Int×Addr}(he:xs[i]?=some e):es[i]?=some ((rk prog w).hash e.1,Value.ref e.2):=by
 rw[<- zD3,X.es,zA3,he];rfl
theorem bL {a:Addr}{o:Obj}{es:Array (Int×Value)}{ep:Nat}{t:SetTable}{xs:List (List Int×Addr)}{key:List Int}{b:Addr}{Q:SetFound->Shared->Prop}
  (hu:A.units<cLine) (ho:s.heap.get? a=some o) (hd:o.data=.set es ep t) (X:px (prog:=prog) (w:=w) s.heap es t xs) (hb:IsTupleKey (intKind prog w) s.heap key b)
  (h1:key∈xs.map (·.1)->Q (.there none) s) (h2:key∉xs.map (·.1)->∀ j,cB t ((rk prog w).hash key) j->Q (.free j false) s):
  ∀ (fuel k:Nat) (stand:Option Probe),stand.getD (t.probeStart ((rk prog w).hash key))=way t.mask ((rk prog w).hash key) k->(∀ m<k,∃ (i:Nat) (e:List Int×Addr),t.place[i]?=some (way t.mask ((rk prog w).hash key) m).j/\xs[i]?=some e/\e.1≠key)->(∃ K,k<=K/\K<k+fuel/\K<10*(t.mask+15)/\(way t.mask ((rk prog w).hash key) K).j∉t.place.toList/\∀ m<K,(way t.mask ((rk prog w).hash key) m).j∈t.place.toList)->
   wpAny (model prog w) A (setSearchFrom a (.ref b) ((rk prog w).hash key) true fuel stand) Q E s
 | 0,k,stand,_,_,⟨K,q1,q2,_⟩=>by omega
 | fuel+1,k,stand,hst,hpast,⟨K,q1,q2,q3,q4,q5⟩=>by
  have T:=X.tab;have hodd:t.gaveWay=false:=by
   unfold SetTable.gaveWay;rcases T.mask with e | e | e <;> rw[e] <;> rfl
  unfold setSearchFrom;refine zWb (wpAny_setState_of ho hd X.fits ?_);dsimp only;rw[hodd];simp only[zC4,if_false];have hA:∀ (i:Nat) g,(xs.map λ e=>(rk prog w).hash e.1)[i]?=some g->((es[i]?).map (·.1)).getD 0=g:=λ i g hg=>by
   rw[zA3] at hg;obtain⟨e,e1,e2⟩:=zOm hg;rw[X.at e1];exact e2
  obtain⟨k1,g1,g2,g3⟩:=Ye T (hashAt:=λ i=>((es[i]?).map (·.1)).getD 0) hA ((rk prog w).hash key) (10*turns t.mask) k ⟨K,q1,by unfold turns;omega,q4⟩;rw[hst];have look:∀ (i:Nat) g,(xs.map λ e=>(rk prog w).hash e.1)[i]?=some g->∃ e,xs[i]?=some e/\(rk prog w).hash e.1=g:=λ i g hg=>by
   rw[zA3] at hg;obtain⟨e,e1,e2⟩:=zOm hg;exact⟨e,e1,e2⟩
  have hpast':∀ m<k1,∃ (i:Nat) (e:List Int×Addr),t.place[i]?=some (way t.mask ((rk prog w).hash key) m).j/\xs[i]?=some e/\e.1≠key:=λ m hm=>by
   rcases Nat.lt_or_ge m k with c | c
   .exact hpast m c
   .obtain⟨i,g,p1,p2,p3⟩:=g2 m c hm;obtain⟨e,e1,e2⟩:=look i g p2;exact⟨i,e,p1,e1,λ q=>p3 (by rw[<- e2,q])⟩
  rcases g3 with ⟨n1,n2⟩ | ⟨i,n1,n2,n3⟩
  .have n2':t.probe _ ((rk prog w).hash key) (way t.mask ((rk prog w).hash key) k)=_:=n2;simp only[SetTable.probe] at n2' ⊢
   erw [n2]
   dsimp only;refine zD1 (h2 (λ hm=>?_) _ ⟨n1,k1,rfl,λ m hm=>?_⟩)
   .obtain⟨e,he,ek⟩:=zB0.mp hm;obtain⟨i,hi⟩:=List.mem_iff_getElem?.mp he;have hh:(xs.map λ e=>(rk prog w).hash e.1)[i]?=some ((rk prog w).hash key):=by rw[zA3,hi,<- ek];rfl
    have hil:i<t.place.size:=by rw[T.len];exact (zA2.mp hh).1
    obtain⟨kk,w1,w2⟩:=T.mD i _ _ hh (zB8 hil);rcases Nat.lt_trichotomy kk k1 with c | c | c
    .obtain⟨i',e',p1,p2,p3⟩:=hpast' kk c;rw[w1] at p1;have:i=i':=by
      rw[<- below_at T.vC (zB8 hil),<- below_at T.vC p1]
     subst this;rw[hi] at p2;cases p2;exact p3 ek
    .subst c;rw[w1] at n1;exact n1 (by simp)
    .exact n1 (w2 k1 c)
   .obtain⟨i',e',p1,_⟩:=hpast' m hm;exact zB7 (by rw[zD3];exact p1)
  .simp only[SetTable.probe]
   erw [n3]
   dsimp only;obtain⟨e,e1,e2⟩:=look i _ n2;have hes:=X.at e1;have hey:=X.is e (zB7 e1);have main:wpAny (model prog w) A (holding [Value.ref e.2] (eqBool (.ref e.2) (.ref b)) >>= λ equal=>setState a >>= λ x=>match x with
     | (es',_,t')=>if (true&&equal)=true then pure (SetFound.there none) else
      match t'.sameMemory t.moves t.mask with
      | some same=>
       have jp:=λ still=>match still with
        | none=>do
         rule "set.search.anew"
         setSearchFrom a (.ref b) ((rk prog w).hash key) true fuel none
        | some i'=>if equal=true then pure (SetFound.there (some i')) else setSearchFrom a (.ref b) ((rk prog w).hash key) true fuel (some (way t.mask ((rk prog w).hash key) (k1+1)))
       match if same=true then t'.slot (way t.mask ((rk prog w).hash key) k1).j else Slot.empty with
       | .live i'=>match es'[i']? with
        | some (_,y')=>do
         let r <- isSame y' (.ref e.2)
         let still <- pure (if r=true then some i' else none)
         jp still
        | none=>do
         let still <- pure none
         jp still
       | _=>do
        let still <- pure none
        jp still
      | _=>unsupported "set.changed-during-lookup:is-the-new-block-at-the-old-address") Q E s:=by
    refine zWb (wpAny_holding ((rk prog w).eqBool hu hey hb ?_));refine zWb (wpAny_setState_of ho hd X.fits ?_);dsimp only;by_cases hk:e.1=key
    .rw[decide_eq_true hk];simp only[Bool.and_self,if_true];exact zD1 (h1 (zB0.mpr ⟨e,zB7 e1,hk⟩))
    .rw[decide_eq_false hk];simp only[Bool.and_false,zC4,if_false];have sm:t.sameMemory t.moves t.mask=some true:=by unfold SetTable.sameMemory;simp
     rw[sm];dsimp only;rw[if_pos rfl,T.live n1];dsimp only;rw[hes];dsimp only;refine zWb (wpAny_isSame_ref_self ?_);refine zWb (zD1 ?_);rw[if_pos rfl];dsimp only;have hKk:k1<K:=by
      rcases Nat.lt_trichotomy K k1 with c | c | c
      .obtain⟨i',e',p1,_⟩:=hpast' K c;exact absurd (zB7 (by rw[zD3];exact p1)) q4
      .subst c;exact absurd (zB7 (by rw[zD3];exact n1)) q4
      .exact c
     refine bL hu ho hd X hb h1 h2 fuel (k1+1) _ rfl (λ m hm=>?_) ⟨K,by omega,by omega,q3,q4,q5⟩;rcases Nat.lt_or_ge m k1 with c | c
     .exact hpast' m c
     .have:m=k1:=by omega
      subst this;exact⟨i,e,n1,e1,hk⟩
   rw[hes];by_cases hl:t.led=true
   .rw[hl];simp only[zB5,zC4,if_false];exact main
   .have hl':t.led=false:=by simpa using hl
    rw[hl'];simp only[zB2,if_true];refine zWb (Vh hb _ (λ v hv=>?_) ?_)
    .obtain⟨p,hp,rfl⟩:=zB0.mp hv;rw[Array.toList_filter,zC8,X.es] at hp;obtain⟨⟨e',he',rfl⟩,_⟩:=(And.intro (zB0.mp hp.1) hp.2)
     exact⟨e'.1,e'.2,rfl,X.is e' he'⟩
    .simp only[zC4,if_false];exact main
end
section
variable {prog:Program}{w:World}{A:Around}{E:Value->Shared->Prop}{s:Shared}
structure uI (prog:Program) (w:World) (h:Heap) (a:Addr) (xs:List (List Int×Addr)) (led:Bool):Prop where
 ex:∃ es ep t,h.get? a=some { cls:=.type "set",dict:=none,data:=.set es ep t }/\px (prog:=prog) (w:=w) h es t xs/\t.led=led/\t.plain=true/\xs.length*5<t.mask*3
 nd:(xs.map (·.1)).Nodup
def iQ {h h':Heap}{ks:List Int}{b a:Addr}{es:Array (Int×Value)}{ep:Nat}{t:SetTable}{c:Value}{d:Option Addr}{sl:Array (Option Value)}(x:IsTupleKey (intKind prog w) h ks b) (ho:h.get? a=some { cls:=c,dict:=d,data:=.set es ep t,slots:=sl }) (hs:Heap.SameBut a h h'):IsTupleKey (intKind prog w) h' ks b:=by
 obtain⟨o',items,n,ho',hc,hd',hi⟩:=x;have hne:b≠a:=by
  rintro rfl;obtain rfl:o'=_:=zD5 (ho'.symm.trans ho);cases hd'
 exact⟨o',items,n,(hs.2 b hne).trans ho',hc,hd',hi⟩
def k_ {h:Heap}{a:Addr}{es es':Array (Int×Value)}{ep:Nat}{t t':SetTable}(ho:h.get? a=some { cls:=.type "set",dict:=none,data:=.set es ep t }):(h.update a (Obj.putSet es' t')).get? a=some { cls:=.type "set",dict:=none,data:=.set es' (ep+1) t' }:=by
 have e:Obj.putSet es' t' { cls:=.type "set",dict:=none,data:=.set es ep t }={ cls:=.type "set",dict:=none,data:=.set es' (ep+1) t' }:=putSet_of es' t' rfl;have:=Heap.get?_update_self (Obj.putSet es' t') ho (by rw[e];rfl);rw[e] at this;exact this
theorem fj {α β:Type}(l:List α) (f:α->β) (d:β):∀ (order:List Nat),(∀ k∈order,k<l.length)->order.map (λ k=>(l.map f).getD k d)=(order.filterMap λ k=>l[k]?).map f
 | [],_=>rfl
 | k::order,h=>by
  have hk:=h k zMc;have ih:=fj l f d order λ j hj=>h j (zMo _ hj);rw[zA6,List.filterMap_cons,zA1 hk];dsimp only;rw[zA6,ih];congr 1;simp[hk]
def U5 {a:Addr}{es:Array (Int×Value)}{ep:Nat}{t:SetTable}{xs:List (List Int×Addr)}{led:Bool}{wanted M:Nat}{Q:Unit->Shared->Prop}
  (ho:s.heap.get? a=some { cls:=.type "set",dict:=none,data:=.set es ep t }) (X:px (prog:=prog) (w:=w) s.heap es t xs) (hled:t.led=led) (hpl:t.plain=true) (hM:uo M) (hw:sizeAbove wanted=M+1) (hfew:xs.length*5<M*3) (hnd:(xs.map (·.1)).Nodup)
  (h:∀ h' xs',Heap.SameBut a s.heap h'->uI prog w h' a xs' led->xs'.Perm xs->Q () { s with heap:=h' }):wpAny (model prog w) A (setRelay a wanted) Q E s:=by
 have hlen:es.size=xs.length:=by have:=congrArg List.length X.es;simpa using this
 have hhs:(es.map (·.1)).toList=xs.map λ e=>(rk prog w).hash e.1:=by rw[Array.toList_map,X.es,zD6];rfl
 have hsz:(es.map (·.1)).size=xs.length:=by rw[Array.size_map,hlen]
 obtain⟨t',order,h1,h2,h3,h4,h5,h6,h7⟩:=ZC hM t.finger (t.movedTo M) t.led t.plain (es.map (·.1)) (by rw[hsz];omega);rw[hsz] at h6;have hlt:∀ k∈order.toList,k<xs.length:=λ k hk=>by simpa using h6.mem_iff.mp hk
 unfold setRelay;refine zWb (wpAny_setState_of ho rfl X.fits ?_);dsimp only;rw[if_neg (by rw[hw];rcases hM with e | e | e <;> rw[e] <;> decide)];have hr:t.relaid (es.map (·.1)) wanted=some (t',order):=by
  unfold SetTable.relaid;rw[hw,Nat.add_sub_cancel];exact h1
 rw[hr];have hes':(order.filterMap (es[·]?)).toList=(order.toList.filterMap λ k=>xs[k]?).map λ e=>((rk prog w).hash e.1,Value.ref e.2):=by
  rw[Array.toList_filterMap,List.map_filterMap];congr 1;funext k;rw[<- zD3,X.es,zA3]
 have hperm:(order.toList.filterMap λ k=>xs[k]?).Perm xs:=(h6.filterMap _).trans (by rw[List.filterMap_getElem?_range_length]);have hsz':(order.filterMap (es[·]?)).size=es.size:=by
  rw[<- zD2,hes',zA7,hperm.length_eq,hlen]
 refine zWb (m:=_) ?_;show wpAny _ _ (do
  let some (t,order):=some (t',order) | unsupported "internal:set-table-without-room"
  let es':=order.filterMap (es[·]?)
  if es'.size != es.size then unsupported "internal:set-table-lost-an-element"
  pure (es',t)) _ _ _
 dsimp only;rw[if_neg (by rw[hsz'];simp)];refine zD1 ?_;have hsl:(order.filterMap (es[·]?)).size<=sizeLine:=by
  rw[hsz',hlen];have:sizeLine=16777216:=rfl;rcases hM with e | e | e <;> subst e <;> omega
 refine wpAny_storeSet_of ho rfl ?_ hsl;have sb:=Heap.SameBut.update s.heap a (Obj.putSet (order.filterMap (es[·]?)) t');refine h _ _ sb ⟨⟨_,ep+1,t',k_ ho,⟨hes',λ e he=>iQ (X.is e (hperm.mem_iff.mp he)) ho sb,?_,?_⟩,by rw[h4];exact hled,by rw[h5];exact hpl,?_⟩,(hperm.map _).nodup_iff.mpr hnd⟩ hperm
 .rw[<- fj xs (λ e=>(rk prog w).hash e.1) 0 order.toList hlt,<- hhs];exact h7
 .rw[hperm.length_eq,h2];omega
 .rw[hperm.length_eq,h2];exact hfew
def bI (n:Nat) (M:Nat) (hM:uo M) (h1:n*5<M*3) (h2:M*3<=(n+1)*5) (hn:n<70):∃ M',uo M'/\sizeAbove (grown (n+1))=M' + 1/\(n+1)*5<M'*3:=by
 rcases hM with e | e | e <;> subst e
 .have:n=4:=by omega
  subst this;exact⟨31,.inr (.inl rfl),by decide +kernel,by omega⟩
 .have:n=18:=by omega
  subst this;exact⟨127,.inr (.inr rfl),by decide +kernel,by omega⟩
 .omega
def NQ {a:Addr}{xs:List (List Int×Addr)}{key:List Int}{b:Addr}{led:Bool}{Q:Bool->Shared->Prop}(hu:A.units<cLine) (S:uI prog w s.heap a xs led) (hb:IsTupleKey (intKind prog w) s.heap key b) (hn:xs.length<70)
  (h:∀ h' xs' r,Heap.SameBut a s.heap h'->uI prog w h' a xs' led->(key∈xs.map (·.1)/\xs'=xs\/key∉xs.map (·.1)/\xs'.Perm (xs++[(key,b)]))->Q r { s with heap:=h' }):
  wpAny (model prog w) A (setAddHashed a (.ref b) ((rk prog w).hash key)) Q E s:=by
 obtain⟨⟨es,ep,t,ho,X,hled,hpl,hfew⟩,hnd⟩:=S;have hlen:es.size=xs.length:=by have:=congrArg List.length X.es;simpa using this
 unfold setAddHashed setAddHashedIn;refine wpAny_holding (zWb (wpAny_setState_of ho rfl X.fits ?_));dsimp only;rw[if_neg (by simp[byScan,Value.scannable])];obtain⟨K,k1,k2,k3⟩:=X.tab.first (by rw[zA7];exact X.ly) ((rk prog w).hash key);have hmk:t.mask<=127:=by rcases X.tab.mask with e | e | e <;> omega
 refine zWb ?_;unfold setSearch;refine bL (key:=key) (b:=b) hu ho rfl X hb (λ hm=>?_) (λ hm j F=>?_) 100000 0 none rfl (λ m hm=>by omega) ⟨K,by omega,by omega,k1,k2,k3⟩
 .dsimp only;refine zD1 ?_;have:=h s.heap xs false ⟨rfl,λ _ _=>rfl⟩ ⟨⟨es,ep,t,ho,X,hled,hpl,hfew⟩,hnd⟩ (.inl ⟨hm,rfl⟩);exact this
 .dsimp only;refine zWb (wpAny_setState_of ho rfl X.fits ?_);dsimp only;obtain⟨p1,p2,p3⟩:=X.tab.put F;rw[zA7] at p1;have hpt:(t.put j).1.plain=true:=by rw[p2];exact hpl
  have hmt:(t.put j).1.mask=t.mask:=by rw[p2]
  have hlt:(t.put j).1.led=led:=by rw[p2];exact hled
  generalize hT:(t.put j)=P at *;obtain⟨t1,p⟩:=P;dsimp only at *;rw[hpt];simp only[if_true];refine zWb (P0 hb ?_);simp only[if_true]
  let xs1:=xs.take p++(key,b)::xs.drop p
  have hperm:xs1.Perm (xs++[(key,b)]):=by
   have e:xs.take p++xs.drop p=xs:=List.take_append_drop p xs;have:xs1.Perm ((key,b)::(xs.take p++xs.drop p)):=List.perm_middle;rw[e] at this;exact this.trans (List.perm_append_singleton _ _).symm
  have hl1:xs1.length=xs.length+1:=by rw[hperm.length_eq];simp
  have hes1:(insertAt es p ((rk prog w).hash key,Value.ref b)).toList=xs1.map λ e=>((rk prog w).hash e.1,Value.ref e.2):=by
   rw[toList_insertAt,X.es];simp[xs1,List.map_take,List.map_drop]
  have hsz1:(insertAt es p ((rk prog w).hash key,Value.ref b)).size=xs.length+1:=by rw[<- zD2,hes1,zA7,hl1]
  have hsl:(insertAt es p ((rk prog w).hash key,Value.ref b)).size<=sizeLine:=by
   rw[hsz1];have:sizeLine=16777216:=rfl;omega
  refine zWb (wpAny_storeSet_of ho rfl ?_ hsl);have sb:=Heap.SameBut.update s.heap a (Obj.putSet (insertAt es p ((rk prog w).hash key,Value.ref b)) t1);have ho1:=k_ (es':=insertAt es p ((rk prog w).hash key,Value.ref b)) (t':=t1) ho;have hm7:7<=t.mask:=by rcases X.tab.mask with e | e | e <;> omega
  have X1:px (prog:=prog) (w:=w) (s.heap.update a (Obj.putSet (insertAt es p ((rk prog w).hash key,Value.ref b)) t1)) (insertAt es p ((rk prog w).hash key,Value.ref b)) t1 xs1:=by
   refine⟨hes1,λ e he=>?_,?_,by rw[hl1,hmt];omega⟩
   .rcases zB9.mp (hperm.mem_iff.mp he) with q | q
    .exact iQ (X.is e q) ho sb
    .cases zB6.mp q;exact iQ hb ho sb
   .have:xs1.map (λ e=>(rk prog w).hash e.1)=(xs.map λ e=>(rk prog w).hash e.1).take p++(rk prog w).hash key::(xs.map λ e=>(rk prog w).hash e.1).drop p:=by simp[xs1,List.map_take,List.map_drop]
    rw[this];exact p3
  have hnd1:(xs1.map (·.1)).Nodup:=by
   refine (hperm.map _).nodup_iff.mpr ?_;rw[zE7,List.nodup_append];refine⟨hnd,by simp,λ x hx y hy=>?_⟩;simp at hy;subst hy;exact λ e=>hm (e▸hx)
  by_cases hf:t1.tooFull=true
  .rw[hf];simp only[zB2,Bool.and_self,if_true];have hfill:t1.fill=xs.length+1:=by
    unfold SetTable.fill;rw[p3.qT,p3.len];simp;omega
   have hfull:t.mask*3<=(xs.length+1)*5:=by
    have:=hf;unfold SetTable.tooFull at this;rw[hfill,hmt] at this;simpa using this
   obtain⟨M',g1,g2,g3⟩:=bI xs.length t.mask X.tab.mask hfew hfull hn;rw[hlen];refine zWb (U5 (led:=led) ho1 X1 hlt hpt g1 g2 (by rw[hl1];exact g3) hnd1 λ h' xs' sb' S' pm=>?_);refine zD1 ?_;exact h h' xs' true (sb.trans sb') S' (.inr ⟨hm,pm.trans hperm⟩)
  .have hf':t1.tooFull=false:=by simpa using hf
   rw[hf'];simp only[zB2,Bool.and_false,zC4,if_false];refine zD1 ?_;have hfill:t1.fill=xs.length+1:=by
    unfold SetTable.fill;rw[p3.qT,p3.len];simp;omega
   have hfull:(xs.length+1)*5<t.mask*3:=by
    have:=hf';unfold SetTable.tooFull at this;rw[hfill,hmt] at this;simpa using this
   exact h _ xs1 true sb ⟨⟨_,ep+1,t1,ho1,X1,hlt,hpt,by rw[hl1,hmt];exact hfull⟩,hnd1⟩ (.inr ⟨hm,hperm⟩)
end
noncomputable def uA (w:World):Bool:=!w.params.followText "set-order"
noncomputable def xG (w:World):Obj:={ cls:=.type "set",dict:=none,data:=.set #[] 0 (.fresh 0 0 (uA w)) }
section
variable {prog:Program}{w:World}{A:Around}{E:Value->Shared->Prop}{s:Shared}
set_option maxHeartbeats 3200000 in
def YT (a:Value) {Q:Value->Shared->Prop}(h:Q (.ref s.heap.objs.size) { s with heap:=s.heap.push (xG w) }):
  codeAny (model prog w) A (.call (.builtin "set.__new__") ⟨[.type "set",a],[]⟩) (wants Q E) s:=by
 refine codeAny_of_tree ?_;show wpAny _ A.in1 (checkBuiltinCall "set.__new__" ⟨[.type "set",a],[]⟩ >>= λ _=>again (.builtin "set.__new__" ⟨[.type "set",a],[]⟩)) _ _ s;refine zWb (wpAny_of_eq (F.newCall_set_1 a) (zD1 ⟨plainId_quiet F.plain_set_new _,codeAny_builtin F.entry_set_new ?_⟩));rw[Around.under_plainId F.plain_set_new _];unfold Builtin.«set.__new__» Builtin.Frozenset.newClass newSet setsByText;have sub:=sub_set_self;obtain⟨hp,g,d,tk,os⟩:=s;dsimp only
 wp_walk
 refine wpAny_askSetting (zD1 ?_);dsimp only;simp only[newObj];exact zWb (wpAny_alloc (zD1 (zD1 h)))
def Uc {h:Heap}{a:Addr}(ho:h.get? a=some (xG w)):uI prog w h a [] (uA w):=
 ⟨⟨#[],0,_,ho,⟨rfl,λ e he=>(by cases he),⟨.inl rfl,rfl,rfl,.nil,λ j hj=>(by cases hj),λ i g j hg=>(by cases hg)⟩,by simp⟩,rfl,rfl,by show 0*5<7*3;omega⟩,.nil⟩
end
end ST
namespace ST
open PySem PySem.SetTable PyProof.Rows
structure Up (its:Array Value) (rows:List (List Int)) (i:Nat) (xs:List (List Int×Addr)):Prop where
 own:∀ e∈xs,∃ j,j<i/\its[j]?=some (.ref e.2)/\rows[j]?=some e.1
 all:∀ (j:Nat) r,j<i->rows[j]?=some r->r∈xs.map (·.1)
def Up.len {its:Array Value}{rows:List (List Int)}{i:Nat}{xs:List (List Int×Addr)}(U:Up its rows i xs) (nd:(xs.map (·.1)).Nodup):xs.length<=i:=by
 have:∀ x∈xs.map (·.1),x∈(List.range i).map λ j=>rows.getD j []:=λ x hx=>by
  obtain⟨e,he,rfl⟩:=zB0.mp hx;obtain⟨j,h1,_,h3⟩:=U.own e he;refine zB0.mpr ⟨j,zC1.mpr h1,?_⟩;rw[zB1,h3];rfl
 have key:∀ (l m:List (List Int)),l.Nodup->(∀ x∈l,x∈m)->l.length<=m.length:=by
  intro l
  induction l with
  | nil=>intro m _ _;exact zD4 _
  | cons x l ih=>
   intro m hn hs;have h1:=List.nodup_cons.mp hn;have hx:=hs x zMc;have:=ih (m.erase x) h1.2 λ z hz=>(List.mem_erase_of_ne (λ e:z=x=>h1.1 (by rw[<- e];exact hz))).mpr (hs z (zMo _ hz));rw[List.length_erase_of_mem hx] at this;have:=List.length_pos_of_mem hx;simp only[zC0];omega
 have:=key _ _ nd this;simpa using this
def Up.step {its:Array Value}{rows:List (List Int)}{i:Nat}{xs xs':List (List Int×Addr)}{key:List Int}{b:Addr}(U:Up its rows i xs) (hi:its[i]?=some (.ref b)) (hr:rows[i]?=some key)
  (h:key∈xs.map (·.1)/\xs'=xs\/key∉xs.map (·.1)/\xs'.Perm (xs++[(key,b)])):Up its rows (i+1) xs':=by
 rcases h with ⟨hm,rfl⟩ | ⟨_,hp⟩
 .refine⟨λ e he=>?_,λ j r hj hrj=>?_⟩
  .obtain⟨j,h1,h2⟩:=U.own e he;exact⟨j,by omega,h2⟩
  .rcases Nat.lt_or_ge j i with q | q
   .exact U.all j r q hrj
   .have:j=i:=by omega
    subst this;rw[hr] at hrj;cases hrj;exact hm
 .refine⟨λ e he=>?_,λ j r hj hrj=>?_⟩
  .rcases zB9.mp (hp.mem_iff.mp he) with q | q
   .obtain⟨j,h1,h2⟩:=U.own e q;exact⟨j,by omega,h2⟩
   .cases zB6.mp q;exact⟨i,by omega,hi,hr⟩
  .have hp':=hp.map (·.1);rw[hp'.mem_iff,zE7];rcases Nat.lt_or_ge j i with q | q
   .exact List.mem_append_left _ (U.all j r q hrj)
   .have:j=i:=by omega
    subst this;rw[hr] at hrj;cases hrj;exact zB4 _ zMc
section
variable {prog:Program}{w:World}{A:Around}{R:Result->Shared->Prop}{I:Addr}{fp wr:List Addr}{G:Array GenState->Array GenState->Prop}{n:Nat}{P:Nat->Value->Prop}{St:Nat->Shared->Prop}
def ot (prog:Program) (w:World) (h:Heap) (its:Array Value) (rows:List (List Int)):Prop:=∀ (i:Nat) v,its[i]?=some v->∃ b r,v=.ref b/\rows[i]?=some r/\IsTupleKey (intKind prog w) h r b
def ot.at {h h':Heap}{its:Array Value}{rows:List (List Int)}(T:ot prog w h its rows) (k:∀ (i:Nat) b,its[i]?=some (.ref b)->∀ o,h.get? b=some o->h'.get? b=some o):ot prog w h' its rows:=λ i v hv=>by
 obtain⟨b,r,rfl,h1,o,items,m,h2,h3⟩:=T i v hv;exact⟨b,r,rfl,h1,o,items,m,k i b hv o h2,h3⟩
def Q9 (W:WalksS prog w A.in1 I fp wr G n (λ i v=>P i v) St) (Sa:Addr) (hSf:Sa∉fp) {its:Array Value}{rows:List (List Int)}(hP:∀ i v,P i v->its[i]?=some v) (hn:n<70) (hu:A.units+1<cLine) (led:Bool)
  (hoff:∀ (i:Nat) b,its[i]?=some (.ref b)->b∉Sa::wr):∀ (k i:Nat) (s:Shared) (xs:List (List Int×Addr)),n-i=k->i<=n->St i s->uI prog w s.heap Sa xs led->ot prog w s.heap its rows->Up its rows i xs->
   (∀ s' xs',Moved (Sa::wr) G s s'->uI prog w s'.heap Sa xs' led->Up its rows n xs'->R (.ok (.ret .none)) s')->
   codeAny (model prog w) A (.builtin "set.update.loop" ⟨[.ref Sa,.ref I],[]⟩) R s:=by
 have hSw:Sa∉wr:=λ z=>hSf (W.sub _ z);have more:∀ b∈wr,b∈Sa::wr:=λ b hb=>zMo _ hb;have keepS:∀ {s s':Shared}{xs:List (List Int×Addr)}{wr':List Addr},Sa∉wr'->(∀ e∈xs,e.2∉wr')->Moved wr' G s s'->uI prog w s.heap Sa xs led->uI prog w s'.heap Sa xs led:=λ{s s' xs wr'} h1 h2 hm ⟨⟨es,ep,t,ho,X,r1,r2,r3⟩,nd⟩=>
  ⟨⟨es,ep,t,hm.heap Sa _ h1 ho,⟨X.es,λ e he=>by
   obtain⟨o,items,m,g1,g2⟩:=X.is e he;exact⟨o,items,m,hm.heap _ _ (h2 e he) g1,g2⟩,X.tab,X.ly⟩,r1,r2,r3⟩,nd⟩
 intro k
 induction k with
 | zero=>
  intro i s xs hk hi hst hS hT hU hR;have e:i=n:=by omega
  subst e;refine codeAny_builtin F.entry_set_update_loop ?_;rw[Around.under_plainId F.plain_set_update_loop _];show wpAny _ A.in1 (pyNext (.ref I) >>= _) _ _ s;refine zWb (W.done s _ _ hst λ s' hm=>?_);refine zD1 (hR s' xs (hm.mono more) (keepS hSw (λ e he=>?_) hm hS) hU);obtain⟨j,_,h2,_⟩:=hU.own e he;exact λ z=>hoff j e.2 h2 (more _ z)
 | succ k ih=>
  intro i s xs hk hi hst hS hT hU hR;have hlt:i<n:=by omega
  refine codeAny_builtin F.entry_set_update_loop ?_;rw[Around.under_plainId F.plain_set_update_loop _];show wpAny _ A.in1 (pyNext (.ref I) >>= _) _ _ s;refine zWb (W.item i s _ _ hlt hst λ v s1 hPv hst1 hm=>?_);have hv:=hP i v hPv;have T1:ot prog w s1.heap its rows:=hT.at λ j b hj o e=>hm.heap b o (λ z=>hoff j b hj (more _ z)) e;obtain⟨b,r,rfl,hr,hb⟩:=T1 i v hv;have S1:uI prog w s1.heap Sa xs led:=keepS hSw (λ e he=>by
   obtain⟨j,_,h2,_⟩:=hU.own e he;exact λ z=>hoff j e.2 h2 (more _ z)) hm hS
  have hl:xs.length<70:=by have:=hU.len hS.nd;omega
  show wpAny _ A.in1 (holding [Value.ref b] (setAdd Sa (.ref b)) >>= _) _ _ s1;refine zWb (wpAny_holding ?_);unfold setAdd;refine wpAny_holding (zWb ((rk prog w).pyHash (k:=r) (a:=b) (A:=A.in1) hu hb ?_));refine NQ (s:={ s1 with toks:=s1.toks+(rk prog w).draws r }) (A:=A.in1) hu S1 hb hl λ h' xs' rr sb S' hx=>?_;have fr:=W.frame (i+1) s1 h' (s1.toks+(rk prog w).draws r) hst1 (Nat.le_add_right _ _) λ c hc o e=>(sb.2 c (λ z:c=Sa=>hSf (z▸hc))).trans e;refine zD1 ⟨plainId_quiet F.plain_set_update_loop _,ih (i+1) _ xs' (by omega) hlt fr S' (T1.at λ j c hj o e=>?_) (hU.step hv hr hx) λ s2 xs2 hm2 S2 U2=>?_⟩
  .exact (sb.2 c (λ z=>hoff j c hj (z▸zMc))).trans e
  .refine hR s2 xs2 (Moved.trans W.gtrans ((hm.mono more).then_heap (Nat.le_add_right _ _) λ c o hc e=>?_) hm2) S2 U2;exact (sb.2 c (λ z=>hc (z▸zMc))).trans e
end
section
variable {prog:Program}{w:World}{A:Around}{E:Value->Shared->Prop}{s:Shared}
set_option maxRecDepth 100000 in
set_option maxHeartbeats 6400000 in
def Nq {l:Addr}{its:Array Value}{rows:List (List Int)}{Q:Value->Shared->Prop}(hh:A.handled=none) (hu:A.units+64<cLine) (hl:s.heap.IsList l its) (hT:ot prog w s.heap its rows) (hn:its.size<70)
  (h:∀ (h':Heap) (tk:Nat) xs,uI prog w h' s.heap.objs.size xs (uA w)->Up its rows its.size xs->(∀ b o,b<s.heap.objs.size->s.heap.get? b=some o->h'.get? b=some o)->Q (.ref s.heap.objs.size) { s with heap:=h',toks:=tk }):
  wpAny (model prog w) A (call (.type "set") [.ref l]) Q E s:=by
 obtain⟨c,tl,hmro⟩:=F.called_set.mro;have made:=F.called_set.made;have subm:=F.called_set.sub;refine wpAny_call (codeAny_of_tree ?_);show wpAny _ _ (callAny (.type "set") _) _ _ _;refine zD1 ⟨Code.quiet_builtin _ (by decide +kernel),codeAny_builtin F.entry_type_call ?_⟩;rw[Around.under_plain (weight_type_call_type "set" [.ref l] []) rfl];have nt:=F.called_set.notType;have cc:=F.called_set.canCreate;have tc:=F.typeCall_set_1 (.ref l)
 repeat (any_goals (first | assumption | wp_step))
 refine codeAny_mono (YT (.ref l) (E:=E) (Q:=λ obj s₁=>obj=.ref s.heap.objs.size/\s₁={ s with heap:=s.heap.push (xG w) }) ⟨rfl,rfl⟩) λ r s₁ hr=>?_;cases r with
 | error e=>exact hr
 | ok fl=>
  cases fl with
  | ret obj=>
   obtain⟨rfl,rfl⟩:=hr;have hS:(s.heap.push (xG w)).get? s.heap.objs.size=some (xG w):=zA9 _ rfl;have hTy:Shared.TypeIs { s with heap:=s.heap.push (xG w) } (.ref s.heap.objs.size) "set":=⟨_,hS,rfl⟩
   have li:=F.called_set.init.lookup;have bi:=F.called_set.init.bind (.ref s.heap.objs.size)
   repeat (any_goals (first | assumption | wp_step))
   let s1:Shared:={ s with heap:=s.heap.push (xG w) }
   refine codeAny_mono (codeAny_call_builtin (R:=wants (λ r s₂=>r=.none/\∃ h' tk xs,s₂={ s with heap:=h',toks:=tk }/\uI prog w h' s.heap.objs.size xs (uA w)/\Up its rows its.size xs/\
     ∀ b o,b<s.heap.objs.size->s.heap.get? b=some o->h'.get? b=some o) E) F.called_set.init.plain F.entry_set_init (check_set_init_1 hTy ?_)) λ r₂ s₂ hr₂=>?_
   .obtain⟨⟨ocls,odict,odata,oslots⟩,hol,hcl,nl,hdl⟩:=id hl;simp only at hcl hdl;subst hcl hdl;have hol1:(s.heap.push (xG w)).get? l=some { cls:=.type "list",dict:=odict,data:=.seq its nl,slots:=oslots }:=zHp _ hol;have sls:=F.sub_list_set;have slf:=F.sub_list_frozenset;have nd:(Value.type "list" == Value.type "dict")=false:=by decide
    have hl1:(s.heap.push (xG w)).IsList l its:=⟨_,hol1,rfl,nl,rfl⟩
    unfold Builtin.«set.__init__» noKeywords Builtin.Frozenset.updateFrom;generalize hPI:pyIter=PI;unfold xG at *
    wp_walk
    subst hPI;refine wpAny_pyIter_list hl1 (zWb (wpAny_runValue ?_));have hlS:l<s.heap.objs.size:=zA8 hol;have hsz:(s.heap.push (xG w)).objs.size=s.heap.objs.size+1:=Heap.size_push _ _;have hneI:l≠(s.heap.push (xG w)).objs.size:=by rw[hsz];exact zB3 (Nat.lt_succ_of_lt hlS)
    have szne:s.heap.objs.size≠(s.heap.push (xG w)).objs.size:=by rw[hsz];exact zB3 (zE2 _)
    have low:∀ b:Addr,b<s.heap.objs.size->b≠(s.heap.push (xG w)).objs.size:=λ b hb=>by rw[hsz];exact zB3 (Nat.lt_succ_of_lt hb)
    have tin:∀ (i:Nat) b,its[i]?=some (.ref b)->b<s.heap.objs.size:=λ i b hb=>by
     obtain⟨b',r,e,_,o,_,_,ho,_⟩:=hT i _ hb;cases e;exact zA8 ho
    refine Q9 (A:=A.in1.in1) (P:=λ i v=>its[i]?=some v) ((Walks.list (A:=A.in1.in1.in1) (by simp[hh]) _ l hneI its).toS) s.heap.objs.size ?_ (its:=its) (rows:=rows) (λ _ _ q=>q) hn (show A.units+1+1+1<cLine by omega) (uA w) ?_ its.size 0 _ [] (by omega) (zD4 _)
     ⟨⟨_,zA9 _ rfl,rfl,rfl⟩,hl1.push _⟩ (Uc (w:=w) (zHp _ hS)) (hT.at λ i b _ o e=>zHp _ (zHp _ e)) ⟨λ e he=>(by cases he),λ j r hj=>(by omega)⟩ ?_
    .intro hm;rcases zA5.mp hm with q | q
     .exact szne q
     .exact Nat.ne_of_gt hlS (zB6.mp q)
    .intro i b hb hm;have hlt:=tin i b hb;rcases zA5.mp hm with q | q
     .exact zB3 hlt q
     .exact low b hlt (zB6.mp q)
    .intro s' xs' hm S' U';obtain⟨h',g',d',tk',os'⟩:=s';obtain rfl:g'=s.gens:=hm.gens;obtain rfl:d'=s.drawn:=hm.drawn;obtain rfl:os'=s.os:=hm.os;refine zD1 (zD1 ⟨rfl,h',tk',xs',rfl,S',U',λ b o hb e=>?_⟩);refine hm.heap b o (λ q=>?_) (zHp _ (zHp _ e));rcases zA5.mp q with q | q
     .exact zB3 hb q
     .exact low b hb (zB6.mp q)
   .cases r₂ with
    | error e=>exact hr₂
    | ok fl₂=>
     cases fl₂ with
     | ret r=>
      obtain⟨rfl,h',tk,xs,rfl,g1,g2,g3⟩:=hr₂
      repeat (any_goals (first | assumption | wp_step))
      exact h h' tk xs g1 g2 g3
     | _=>exact hr₂.elim
  | _=>exact hr.elim
end
end ST
namespace ST
open PySem PySem.SetTable
section facts
set_option maxRecDepth 100000
def aP:Manifest.owners.lookup (String.ofList ['r','o','t','a','r','e','t','i','_','t','e','s'].reverse)=some Manifest.sig_set_iterator:=by kernel_rfl
def oI:Slot "set_iterator" "__next__" "set_iterator.__next__":=
 .of (owner:="set_iterator") (n:="__next__") (by rw[typeLookup_type,builtinLookup_eq_fast];kernel_rfl) (by decide +kernel) (by decide +kernel) (by decide +kernel) (by first | exact .inl (by decide +kernel) | exact .inr (by decide +kernel)) (by rw[isSubtype_type];kernel_rfl)
def Yv:entryFor table "set_iterator.__next__"=some Builtin.«set_iterator.__next__»:=entryFor_of_tree (by kernel_rfl)
def Xt (a:Value):argsOk "set_iterator.__next__" ⟨[a],[]⟩:=by
 unfold argsOk;rw[signature?_of (id:="set_iterator.__next__") (n:=['_','_','t','x','e','n','_','_']) (o:=['r','o','t','a','r','e','t','i','_','t','e','s']) (by kernel_rfl) aP]
 kernel_rfl
def Oy:entryFor table "set.__iter__"=some Builtin.«frozenset.__iter__»:=entryFor_alias (id':="frozenset.__iter__") (by kernel_rfl) rfl (by decide +kernel) (by kernel_rfl)
def bH:Slot "set_iterator" "__iter__" "set_iterator.__iter__":=
 .of (owner:="set_iterator") (n:="__iter__") (by rw[typeLookup_type,builtinLookup_eq_fast];kernel_rfl) (by decide +kernel) (by decide +kernel) (by decide +kernel) (by first | exact .inl (by decide +kernel) | exact .inr (by decide +kernel)) (by rw[isSubtype_type];kernel_rfl)
def Ox:entryFor table "set_iterator.__iter__"=some Builtin.«dict_keyiterator.__iter__»:=entryFor_alias (id':="dict_keyiterator.__iter__") (by kernel_rfl) rfl (by decide +kernel) (by kernel_rfl)
def NG (a:Value):argsOk "set_iterator.__iter__" ⟨[a],[]⟩:=by
 unfold argsOk;rw[signature?_of (id:="set_iterator.__iter__") (n:=['_','_','r','e','t','i','_','_']) (o:=['r','o','t','a','r','e','t','i','_','t','e','s']) (by kernel_rfl) aP]
 kernel_rfl
end facts
theorem Ys {α:Type}:∀ (l:List α) (i:Nat) (x:α),l[i]?=some x->l.Perm (x::l.eraseIdx i)
 | [],i,x,h=>by simp at h
 | y::l,0,x,h=>by simp at h;subst h;simp
 | y::l,i+1,x,h=>by
  have ih:=Ys l i x (by simpa using h);rw[List.eraseIdx_cons_succ];exact (ih.cons y).trans (.swap x y _)
theorem a9 {α:Type}(next:Nat->Nat):∀ (f k:Nat) (left:List α) (out:Array α),left.length=f->(pickOrder.go next f k left out).toList.Perm (out.toList++left)
 | 0,k,left,out,h=>by
  cases left with
  | nil=>unfold pickOrder.go;simp
  | cons _ _=>simp at h
 | f+1,k,left,out,h=>by
  unfold pickOrder.go;have hlt:next k%left.length<left.length:=Nat.mod_lt _ (by omega);rw[zA1 hlt];dsimp only;refine (a9 next f (k+1) _ _ (by rw[List.length_eraseIdx_of_lt hlt];omega)).trans ?_;rw[Array.toList_push,List.append_assoc];exact (Ys left _ _ (zA1 hlt)).symm.append_left _
def Ti {α:Type}(next:Nat->Nat) (xs:Array α):(pickOrder next xs).toList.Perm xs.toList:=by
 unfold pickOrder;simpa using a9 next xs.size 0 xs.toList #[] (by simp)
noncomputable def comes (w:World) (a:Addr) (es:Array (Int×Value)) (ep:Nat):Array (Int×Value):=if w.params.followText "set-order"=true then pickOrder (w.params.setOrder a ep) es else es
def n6 (w:World) (a:Addr) (es:Array (Int×Value)) (ep:Nat):(comes w a es ep).toList.Perm es.toList:=by
 unfold comes;split
 .exact Ti _ _
 .exact .refl _
noncomputable def qK (a:Addr) (slot i n ep:Nat):Obj:={ cls:=.type "set_iterator",data:=.fields #[rawInt slot,rawInt i,.ref a,rawInt n,rawInt ep] }
noncomputable def slotAt (t:SetTable):Nat->Nat
 | 0=>0
 | i+1=>t.place.getD i 0+1
theorem NC {t:SetTable}(hr:tU t.place.toList):∀ i,i<=t.place.size->below t.place (slotAt t i)=i
 | 0,_=>by
  obtain⟨h1,h2,h3⟩:=jX (xs:=t.place) (j:=0) hr;rcases Nat.eq_zero_or_pos (below t.place 0) with q | q
  .exact q
  .have:=h2 0 (by omega) q;omega
 | i+1,hi=>by
  have hd:t.place.getD i 0=t.place[i]:=eI (by omega);show below t.place (t.place.getD i 0+1)=i+1;rw[hd];obtain⟨h1,h2,h3⟩:=jX (xs:=t.place) (j:=t.place[i] + 1) hr;have vC:∀ a b (ha:a<t.place.size) (hb:b<t.place.size),a<b->t.place[a]<t.place[b]:=λ a b ha hb hab=>by
   have r:=List.pairwise_iff_getElem.mp hr a b (by simpa using ha) (by simpa using hb) hab;rw[Array.getElem_toList,Array.getElem_toList] at r;exact r
  rcases Nat.lt_trichotomy (below t.place (t.place[i] + 1)) (i+1) with q | q | q
  .have:=h3 i (by omega) (by omega);omega
  .exact q
  .have a:=h2 (i+1) (by omega) q;have b:=vC i (i+1) (by omega) (by omega) (by omega);omega
structure vI (w:World) (h:Heap) (a:Addr) (es:Array (Int×Value)) (ep:Nat) (t:SetTable):Prop where
 get:h.get? a=some { cls:=.type "set",dict:=none,data:=.set es ep t }
 fits:t.fits es.size=true
 vC:tU t.place.toList
 led:t.led=uA w
 plain:t.plain=true
theorem vI.size {w:World}{h:Heap}{a:Addr}{es:Array (Int×Value)}{ep:Nat}{t:SetTable}(S:vI w h a es ep t):t.place.size=es.size:=by
 have:=S.fits;simp only[SetTable.fits,zE5,beq_iff_eq] at this;exact this.1
section
variable {prog:Program}{w:World}{A:Around}{E:Value->Shared->Prop}{s:Shared}
def Zn {a:Addr}{es:Array (Int×Value)}{ep:Nat}{t:SetTable}{i:Nat}{Q:Option (Value×Nat)->Shared->Prop}(S:vI w s.heap a es ep t) (hi:i<=es.size) (slot:Nat) (hs:w.params.followText "set-order"=false->slot=slotAt t i)
  (h:∀ slot',(w.params.followText "set-order"=false->slot'=slotAt t (i+1))->Q ((comes w a es ep)[i]?.map λ e=>(e.2,slot')) s):wpAny (model prog w) A (setNext a slot i ep) Q E s:=by
 unfold setNext setsByText;refine zWb (wpAny_setState_of S.get rfl S.fits ?_);dsimp only;refine zWb (zWb (wpAny_askSetting (zD1 ?_)));show wpAny _ A (if w.params.followText "set-order"=true then _ else _) Q E s;cases hb:w.params.followText "set-order" with
 | true=>
  rw[if_pos rfl,if_neg (by simp)];unfold setWalk setsByText;refine zWb (zWb (wpAny_setState_of S.get rfl S.fits ?_));dsimp only;refine zWb (zWb (wpAny_askSetting (zD1 ?_)));show wpAny _ A (if w.params.followText "set-order"=true then _ else _) _ E s;rw[if_pos hb];refine zWb (wpAny_askSetting (zD1 ?_));refine zD1 ?_;have:=h slot (λ q=>by rw[hb] at q;cases q);unfold comes at this;rw[if_pos hb] at this;exact this
 | false=>
  rw[if_neg (by simp)];split
  .rename_i hd;have hd':(!t.plain&&decide (es.size>1))=true:=hd;rw[S.plain] at hd';simp at hd'
  .show wpAny _ A ((if (!t.led&&!es.isEmpty)=true then unsupported "set:maker-not-led" else pure ()) >>= _) Q E s;have hl:t.led=true:=by rw[S.led];unfold uA;rw[hb];rfl
   rw[if_neg (by rw[hl];simp)];refine zWb (zD1 (zD1 ?_));have hsl:=hs hb;have hz:=S.size;rw[hsl,NC S.vC i (by rw[hz];exact hi)];have:=h (slotAt t (i+1)) (λ _=>rfl);unfold comes at this;rw[if_neg (by rw[hb];simp)] at this;rcases Nat.lt_or_ge i es.size with q | q
   .have hp:i<t.place.size:=by rw[hz];exact q
    rw[zB8 q] at this;rw[zB8 q,zB8 hp];have e:slotAt t (i+1)=t.place[i] + 1:=by show t.place.getD i 0+1=_;rw[eI hp]
    rw[e] at this;exact this
   .rw[Array.getElem?_eq_none q] at this;rw[Array.getElem?_eq_none q];exact this
def pR {a I:Addr}{slot i n ep:Nat}(ho:s.heap.get? I=some (qK a slot i n ep)):s.TypeIs (.ref I) "set_iterator":=⟨_,ho,rfl⟩
def br (k:Nat):((k:Int)).toNat=k:=Int.toNat_natCast k
def Ua {I a:Addr}{es:Array (Int×Value)}{ep:Nat}{t:SetTable}{i slot:Nat}{e:Int×Value}{Q:Option Value->Shared->Prop}(ho:s.heap.get? I=some (qK a slot i es.size ep)) (S:vI w s.heap a es ep t) (hs:w.params.followText "set-order"=false->slot=slotAt t i) (he:(comes w a es ep)[i]?=some e)
  (hi:i<es.size) (h:∀ h' slot',(w.params.followText "set-order"=false->slot'=slotAt t (i+1))->h'.get? I=some (qK a slot' (i+1) es.size ep)->Heap.SameBut I s.heap h'->Q (some e.2) { s with heap:=h' }):wpAny (model prog w) A (pyNext (.ref I)) Q E s:=by
 unfold pyNext;refine zWb (wpAny_attempt (wpAny_callSpecial?_slot (name:=Str.ofString "__next__") (pR ho) oI (wpAny_call_entry oI (pR ho) Yv ?_ (Xt _))));refine zWb (zD1 ?_);dsimp only;refine zWb (wpAny_fieldsOf ho rfl ?_);dsimp only[rawInt];refine zWb (zWb (wpAny_setState_of S.get rfl S.fits (zD1 ?_)));rw[if_neg (by simp)];refine zWb (Zn S (by omega) slot hs λ slot' hs'=>?_);rw[br] at hs' ⊢;rw[he];dsimp only[Option.map_some];refine zWb (wpAny_setField ho rfl (by simp) ?_);have o1:=Heap.get?_update_self (Obj.mapFields (·.set! 0 (Value.int (slot':Int) 0))) ho rfl;refine zWb (wpAny_setField o1 rfl (by simp) ?_);have o2:=Heap.get?_update_self (Obj.mapFields (·.set! 1 (Value.int ((i:Int)+1) 0))) o1 rfl;refine zD1 ⟨_,rfl,zD1 (h _ slot' hs' o2 ((Heap.SameBut.update ..).trans (Heap.SameBut.update ..)))⟩
def Ub {I a:Addr}{es:Array (Int×Value)}{ep:Nat}{t:SetTable}{slot:Nat}{Q:Option Value->Shared->Prop}(hh:A.handled=none) (ho:s.heap.get? I=some (qK a slot es.size es.size ep)) (S:vI w s.heap a es ep t) (hs:w.params.followText "set-order"=false->slot=slotAt t es.size)
  (h:∀ h',Heap.ExtBut I s.heap h'->Q none { s with heap:=h' }):wpAny (model prog w) A (pyNext (.ref I)) Q E s:=by
 have hn:(comes w a es ep)[es.size]?=none:=by
  have:=(n6 w a es ep).length_eq;simp only[zD2] at this;rw[Array.getElem?_eq_none (by omega)]
 unfold pyNext;refine zWb (wpAny_attempt (wpAny_callSpecial?_slot (name:=Str.ofString "__next__") (pR ho) oI (wpAny_call_entry oI (pR ho) Yv ?_ (Xt _))));refine zWb (zD1 ?_);dsimp only;refine zWb (wpAny_fieldsOf ho rfl ?_);dsimp only[rawInt];refine zWb (zWb (wpAny_setState_of S.get rfl S.fits (zD1 ?_)));rw[if_neg (by simp)];refine zWb (Zn S (by simp) slot (by simpa using hs) λ slot' hs'=>?_);rw[br,hn];dsimp only[Option.map_none];refine zWb (wpAny_setField ho rfl (by simp) ?_);refine zWb ?_;simp only[newExc,newTuple];refine zWb (wpAny_newObj_type ?_ (by size_fits));refine zWb (m:=firstArgMember _ _) (wpAny_of_eq (a:=Value.none) (by first | rfl | (simp only[firstArgMember];rfl)) (wpAny_newObj_type ?_ (by size_fits)));unfold raiseNew;refine zWb (wpAny_handled ?_);rw[show A.in1.handled=none from hh];refine zWb ((zD1 (wpAny_throw ?_)));refine zWb ((wpAny_isInstance (T:="StopIteration") (b:=true) ⟨_,zA9 _ rfl,rfl⟩ isSubtype_stop ?_));exact zD1 (h _ (((Heap.SameBut.update ..).extBut.push _).push _))
def V_ {I a:Addr}{slot i n ep:Nat}{Q:Value->Shared->Prop}(ho:s.heap.get? I=some (qK a slot i n ep)) (h:Q (.ref I) s):wpAny (model prog w) A (pyIter (.ref I)) Q E s:=by
 refine wpAny_pyIter_slot (pR ho) bH (wpAny_call_entry bH (pR ho) Ox ?_ (NG _));exact zD1 ⟨_,rfl,"set_iterator",_,pR ho,oI.lookup,h⟩
def vI.keep {h h':Heap}{a:Addr}{es:Array (Int×Value)}{ep:Nat}{t:SetTable}(S:vI w h a es ep t) (k:∀ o,h.get? a=some o->h'.get? a=some o):vI w h' a es ep t:=⟨k _ S.get,S.fits,S.vC,S.led,S.plain⟩
def W_ (hh:A.handled=none) (I a:Addr) (hne:a≠I) (es:Array (Int×Value)) (ep:Nat) (t:SetTable):
  Walks prog w A I [I,a] [I] es.size (λ i v=>∃ e,(comes w a es ep)[i]?=some e/\v=e.2) (λ i h=>(∃ slot,(w.params.followText "set-order"=false->slot=slotAt t i)/\h.get? I=some (qK a slot i es.size ep))/\vI w h a es ep t) where
 sub:=λ b hb=>by simp at hb;simp[hb]
 frame:=λ _ _ _ st k=>by
  obtain⟨⟨slot,h1,h2⟩,S⟩:=st;exact⟨⟨slot,h1,k I (by simp) _ h2⟩,S.keep λ o e=>k a (by simp) o e⟩
 item:=λ i s Q E hi st hQ=>by
  obtain⟨⟨slot,h1,h2⟩,S⟩:=st;have hl:i<(comes w a es ep).size:=by
   have:=(n6 w a es ep).length_eq;simp only[zD2] at this;omega
  refine Ua h2 S h1 (zB8 hl) hi λ h' slot' g1 g2 g3=>?_;exact hQ _ h' s.toks ⟨_,zB8 hl,rfl⟩ ⟨⟨slot',g1,g2⟩,S.keep λ o e=>(g3.2 a hne).trans e⟩ λ b o hb e=>(g3.2 b (λ z=>hb (by simp[z]))).trans e
 done:=λ s Q E st hQ=>by
  obtain⟨⟨slot,h1,h2⟩,S⟩:=st;exact Ub hh h2 S h1 λ h' g=>hQ h' s.toks λ b o hb e=>g b o (λ z=>hb (by simp[z])) e
 self:=λ _ _ _ _ st hQ=>by
  obtain⟨⟨slot,h1,h2⟩,S⟩:=st;exact V_ h2 hQ
end
section
variable {prog:Program}{w:World}{A:Around}{E:Value->Shared->Prop}{s:Shared}
def QC:typeLookup (.type "set") "__len__"=pure (some (.builtin "set.__len__")):=F.slot_set_len.lookup
def split_len:splitId "set.__len__"=some ("set","__len__"):=by decide +kernel
def Qn {a:Addr}{es:Array (Int×Value)}{ep:Nat}{t:SetTable}{Q:Bool->Shared->Prop}(S:vI w s.heap a es ep t) (h:Q false s):wpAny (model prog w) A (setDrawn a) Q E s:=by
 unfold setDrawn setsByText;refine zWb (wpAny_setState_of S.get rfl S.fits ?_);dsimp only;refine zWb (zWb (wpAny_askSetting (zD1 (zD1 ?_))));show Q (!w.params.followText "set-order"&&(!t.plain&&decide (es.size>1))) s;rw[S.plain];simpa using h
set_option maxRecDepth 100000 in
set_option maxHeartbeats 4000000 in
def Qq {a:Addr}{es:Array (Int×Value)}{ep:Nat}{t:SetTable}{Q:Bool->Shared->Prop}(S:vI w s.heap a es ep t) (h:Q false s):wpAny (model prog w) A (Builtin.List.listLengthHint (.ref a)) Q E s:=by
 have Ty:s.TypeIs (.ref a) "set":=⟨_,S.get,rfl⟩
 unfold Builtin.List.listLengthHint;refine zWb (wpAny_specialOf Ty QC ?_);dsimp only;rw[split_len];dsimp only;refine zWb (wpAny_isInstance (b:=true) Ty sub_set_self ?_);rw[if_neg (by decide)];rw[if_pos (by decide +kernel)];refine zWb (wpAny_typeOf Ty ?_);exact zD1 h
set_option maxRecDepth 100000 in
set_option maxHeartbeats 4000000 in
def OW {a:Addr}{es:Array (Int×Value)}{ep:Nat}{t:SetTable}{Q:List Value->Shared->Prop}(hh:A.handled=none) (S:vI w s.heap a es ep t) (hn:es.size<=sizeLine)
  (h:∀ (h':Heap) (tk:Nat),(∀ b o,b<s.heap.objs.size->s.heap.get? b=some o->h'.get? b=some o)->s.heap.objs.size<=h'.objs.size->Q ((comes w a es ep).toList.map (·.2)) { s with heap:=h',toks:=tk }):wpAny (model prog w) A (collect (.ref a)) Q E s:=by
 have ha:a<s.heap.objs.size:=zA8 S.get;unfold collect;refine zWb (wpAny_runValue (codeAny_builtin F.entry_proto_collect ?_));rw[Around.under_plainId F.plain_proto_collect _];show wpAny _ A.in1 (newList [] >>= λ l=>again (.builtin "list.__iadd__" ⟨[l,.ref a],[]⟩)) _ _ s;refine zWb (wpAny_newObj_type (zD1 ⟨plainId_quiet F.plain_list_iadd _,codeAny_builtin F.entry_list_iadd ?_⟩));rw[Around.under_plainId F.plain_list_iadd _]
 let L0:Obj:={ cls:=.type "list",data:=.seq ([]:List Value).toArray }
 have S1:vI w (s.heap.push L0) a es ep t:=S.keep λ o e=>zHp _ e;have T1:Shared.TypeIs { s with heap:=s.heap.push L0 } (.ref a) "set":=⟨_,S1.get,rfl⟩
 show wpAny _ A.in1 (Builtin.List.listExtendWith (.ref s.heap.objs.size) (.ref a) (.ref s.heap.objs.size)) _ _ { s with heap:=s.heap.push L0 };unfold Builtin.List.listExtendWith;refine zWb (wpAny_typeOf T1 ?_);have hne:s.heap.objs.size≠a:=Nat.ne_of_gt ha;have c1:Builtin.List.listSameRef (.ref s.heap.objs.size) (.ref a)=false:=by simp[Builtin.List.listSameRef,hne]
 rw[if_neg (by rw[c1];decide)];refine zWb (wpAny_pyIter_slot T1 F.slot_set_iter (wpAny_call_entry F.slot_set_iter T1 Oy ?_ (F.args_set_iter_1 _)));refine zWb (zWb (zD1 (zD1 ?_)));refine zWb (zWb (zWb (wpAny_setState_of S1.get rfl S1.fits (zD1 (zD1 ?_)))));refine zWb (Qn S1 ?_);rw[if_neg (by decide)];refine zWb (zD1 ?_);refine zWb (wpAny_setEpoch_of S1.get rfl S1.fits ?_);refine zWb (wpAny_newObj_type (zD1 ⟨_,rfl,"set_iterator",_,⟨_,zA9 _ rfl,rfl⟩,oI.lookup,?_⟩))
 let I:=(s.heap.push L0).objs.size
 let h2:=(s.heap.push L0).push (qK a 0 0 es.size ep)
 have S2:vI w h2 a es ep t:=S1.keep λ o e=>zHp _ e;have hI:h2.get? I=some (qK a 0 0 es.size ep):=zA9 _ rfl;have hL:h2.get? s.heap.objs.size=some L0:=zHp _ (zA9 _ rfl);have hsz:(s.heap.push L0).objs.size=s.heap.objs.size+1:=Heap.size_push _ _;show wpAny _ A.in1 _ _ _ { s with heap:=h2 };refine zWb (wpAny_holding (Qq (s:={ s with heap:=h2 }) S2 ?_));rw[if_pos (by decide +kernel)];refine zWb (wpAny_rule ?_);refine zWb ?_;show wpAny _ A.in1 (updateSeq s.heap.objs.size (·.push .none) >>= λ _=>updateSeq s.heap.objs.size (·.pop)) _ _ { s with heap:=h2 };refine zWb (wpAny_updateSeq hL rfl ?_);have hL2:=Heap.get?_update_self (Obj.mapSeq (·.push Value.none)) hL rfl;refine wpAny_updateSeq hL2 rfl ?_;have hL3:=Heap.get?_update_self (Obj.mapSeq (·.pop)) hL2 rfl
 let h3:=(h2.update s.heap.objs.size (Obj.mapSeq (·.push Value.none))).update s.heap.objs.size (Obj.mapSeq (·.pop))
 have oth:∀ b o,b≠s.heap.objs.size->h2.get? b=some o->h3.get? b=some o:=λ b o hb e=>(Heap.get?_update_other _ _ (Ne.symm hb)).trans ((Heap.get?_update_other _ _ (Ne.symm hb)).trans e);have haI:a≠I:=by show a≠(s.heap.push L0).objs.size;rw[hsz];exact zB3 (Nat.lt_succ_of_lt ha)
 have hIn:I≠s.heap.objs.size:=by show (s.heap.push L0).objs.size≠_;rw[hsz];exact Nat.ne_of_gt (zE2 _)
 refine zD1 ⟨plainId_quiet F.plain_extend_loop _,codeAny_extend_loopS ((W_ (A:=A.in1) hh I a haI es ep t).toS) hn s.heap.objs.size ?_ _ es.size 0 { s with heap:=h3 } #[] _ rfl (zD4 _) ⟨⟨0,λ _=>rfl,oth I _ hIn hI⟩,S2.keep λ o e=>oth a o (Ne.symm hne) e⟩ hL3 (ItemsOf.nil _) λ s' acc c' hm hS' hacc=>?_⟩
 .intro hm;rcases zA5.mp hm with q | q
  .exact hIn q.symm
  .exact hne (zB6.mp q)
 .refine zWb (wpAny_load hS' (zD1 ?_));obtain⟨h',g',d',tk',os'⟩:=s';obtain rfl:g'=s.gens:=hm.gens;obtain rfl:d'=s.drawn:=hm.drawn;obtain rfl:os'=s.os:=hm.os;have hcm:(comes w a es ep).size=es.size:=by
   have:=(n6 w a es ep).length_eq;simpa using this
  have e:acc.toList=(comes w a es ep).toList.map (·.2):=by
   refine List.ext_getElem? λ j=>?_;rw[zA3];rcases Nat.lt_or_ge j es.size with q | q
   .have hjl:j<acc.size:=by rw[hacc.1];exact q
    have hj:acc[j]?=some acc[j]:=zB8 hjl;obtain⟨e,e1,e2⟩:=hacc.2 j _ hj;rw[zD3,zD3,hj,e1,e2];rfl
   .rw[zD3,zD3,Array.getElem?_eq_none (by rw[hacc.1];exact q),Array.getElem?_eq_none (by rw[hcm];exact q)];rfl
  rw[e];refine h h' tk' (λ b o hb e=>hm.heap b o (λ q=>?_) (oth b o (zB3 hb) (zHp _ (zHp _ e)))) ?_
  .rcases zA5.mp q with q | q
   .exact zB3 hb q
   .have q':b=(s.heap.push L0).objs.size:=zB6.mp q;rw[hsz] at q';exact zB3 (Nat.lt_succ_of_lt hb) q'
  .exact zE3 (zA8 hS')
end
end ST
namespace ST
open PySem PySem.SetTable PyProof.Rows L4
section
variable {prog:Program}{w:World}{A:Around}{E:Value->Shared->Prop}{s:Shared}
def b7 {a:Addr}{es:Array (Int×Value)}{ep:Nat}{t:SetTable}{Q:Value->Shared->Prop}{Out:Array Value->Prop}(hh:A.handled=none) (S:vI w s.heap a es ep t) (hz:es.size<=sizeLine)
  (core:∀ s6:Shared,2<=es.size->(∀ b o,s.heap.get? b=some o->s6.heap.get? b=some o)->Core prog w A.in1.in1 E ((comes w a es ep).toList.map (·.2)) Out s6) (short:es.size<2->Out ((comes w a es ep).toList.map (·.2)).toArray)
  (fin:∀ (out:Array Value) (h':Heap) (tk l:Nat),Out out->out.size=es.size->s.heap.objs.size<=l->(∀ b o,s.heap.get? b=some o->h'.get? b=some o)->(∃ e,h'.get? l=some (seqObj "list" out e))->Q (.ref l) { s with heap:=h',toks:=tk }):
  wpAny (model prog w) A (call (.builtin "sorted") [.ref a]) Q E s:=by
 have hcl:((comes w a es ep).toList.map (·.2)).length=es.size:=by
  have:=(n6 w a es ep).length_eq;rw[zA7,this,zD2]
 refine Calls.call_function_entry kind_sorted plain_sorted entry_sorted (args_sorted1 _) ?_;unfold Builtin.«sorted»;refine zWb (m:=checkCount "sorted" 1 1 _) (zD1 (zWb (OW (A:=A.in1) hh S hz λ h1 tk k1 k2=>zWb (wpAny_newList ?_ (by rw[hcl];exact hz)))));generalize hvs:(comes w a es ep).toList.map (·.2)=vs at *;have hoL:(h1.push (seqObj "list" vs.toArray 0)).get? h1.objs.size=some (seqObj "list" vs.toArray 0):=zA9 _ rfl;have k3:∀ b o,s.heap.get? b=some o->h1.get? b=some o:=λ b o q=>k1 b o (zA8 q) q;show wpAny _ _ _ _ _ { s with heap:=h1.push (seqObj "list" vs.toArray 0),toks:=tk };refine zWb (wpAny_holding (wpAny_call_entry slot_list_sort ⟨_,hoL,rfl⟩ entry_list_sort (fT hoL (by rw[hcl];exact hz) (λ h2 s6 k=>core s6 (by rw[<- hcl];exact h2) λ b o q=>k b o ?_ (zHp _ (k3 b o q))) (λ h2=>short (by rw[<- hcl];exact h2)) λ out g1 g2=>⟨_,rfl,?_⟩) (args_list_sort _)))
 .exact zB3 (zC3 (zA8 q) k2)
 .refine zD1 ⟨_,rfl,fin out _ tk h1.objs.size g1 (by rw[g2,hcl]) k2 (λ b o q=>?_) (sortedHeap_at (n:=0) hoL)⟩;have hlt:b<h1.objs.size:=zA8 (k3 b o q);rw[sortedHeap_old (zB3 hlt) (by rw[size_push'];exact Nat.lt_succ_of_lt hlt),Heap.get?_push_ne _ _ _ (zB3 hlt)];exact k3 b o q
end
end ST
namespace ST
open PySem PySem.SetTable PySem.Spec PyProof.Rows L2
def xv (w:World) (a:Addr) (us:List Value):Heap->Prop:=λ h=>∃ es ep t,vI w h a es ep t/\es.toList.map (·.2)=us
def xv.rq {w:World}{a:Addr}{us:List Value}{h1 h2:Heap}(S:xv w a us h1) (k:∀ o,h1.get? a=some o->h2.get? a=some o):xv w a us h2:=by
 obtain⟨es,ep,t,S,e⟩:=S;exact⟨es,ep,t,S.keep k,e⟩
def uI.at {prog:Program}{w:World}{h:Heap}{a:Addr}{xs:List (List Int×Addr)}(S:uI prog w h a xs (uA w)):xv w a (xs.map λ e=>Value.ref e.2) h:=by
 obtain⟨⟨es,ep,t,ho,X,h1,h2,h3⟩,_⟩:=S;exact⟨es,ep,t,⟨ho,X.fits,X.tab.vC,h1,h2⟩,by rw[X.es,zD6];rfl⟩
section
variable {X:Cx}
abbrev ip (K:zFr) (H:Hp) (ys:List V) (rows:List (List Int)):Prop:=Paired (λ v r=>r≠[]/\∃ b,v=V.ref b/\yp K H b (r.map V.int)) ys rows
theorem ZI:∀ {ns:List Int}{us:List Value},Vals (ns.map V.int) us->∀ {prog:Program}{w:World},ItemsAre (intKind prog w) ns us
 | [],_,.nil,_,_=>.nil
 | n::ns,_,.cons r t,prog,w=>by
  obtain⟨tk,rfl⟩:=r;exact .cons (intKind_is _ _ _ _) (ZI t)
structure oy (ys:List V) (rows:List (List Int)) (vs:List V) (rs:List (List Int)):Prop where
 sub:∀ (i:Nat) v r,vs[i]?=some v->rs[i]?=some r->∃ (j:Nat),ys[j]?=some v/\rows[j]?=some r
 len:vs.length=rs.length
 nd:rs.Nodup
 all:∀ r∈rows,r∈rs
def Nm (hc:X.calm=true) (hu:X.A.units+64<cLine):xk X (.type "set") (λ xs H Q=>∃ p ys,∃ rows:List (List Int),xs=[.ref p]/\yg X.K H p ys/\ip X.K H ys rows/\rows.length<64/\
  ∀ (l:Addr) (us:List Value) (vs:List V) (rs:List (List Int)),H l=none->Vals vs us->oy ys rows vs rs->Q (.ref l) (upd H l (.ext (xv X.w l us)))):=by
 intro pins s B H xs us Q I r h;obtain⟨p,ys,rows,rfl,hq,hr,h64,q⟩:=h;obtain⟨u,rfl,ru⟩:=vals1 r;cases ru;obtain⟨its,rv,pl,hz⟩:=I.list hq;have hl:=rv.length;have hlr:ys.length=rows.length:=Paired.length hr;have tZ:ot X.prog X.w s.heap its.toArray rows:=λ i v hv=>by
  have hv':its[i]?=some v:=by simpa using hv
  have hi:i<its.length:=(zA2.mp hv').1;obtain⟨hne,b,hb,hsq⟩:=L4.Paired.at' hr (i:=i) (by omega) V.zp ([]:List Int);have hy:ys[i]?=some (V.ref b):=by
   rw[zA1 (by omega)];have:ys.getD i V.zp=ys[i]'(by omega):=by simp[show i<ys.length by omega]
   rw[this] at hb;rw[hb]
  obtain⟨v',e1,e2⟩:=rv.get hy;rw[hv'] at e1;cases e1;cases (show v=Value.ref b from e2);obtain⟨its2,rv2,⟨o,e,hcl,n,hd⟩,_⟩:=I.tuple hsq;refine⟨b,rows.getD i [],rfl,?_,o,its2.toArray,n,e,hcl,hd,by simpa using ZI rv2⟩;simp[show i<rows.length by omega]
 have hh:X.A.handled=none:=I.ok.hd hc;refine Nq (A:=X.A) hh hu pl.isList tZ (by rw[zA0];omega) λ h' tk xs S U k=>?_;have kk:∀ b o,s.heap.get? b=some o->h'.get? b=some o:=λ b o e=>k b o (zA8 e) e;have hfr:H s.heap.objs.size=none:=I.zM.fresh (zA4 _);have hSO:=S.at;have vals:Vals (xs.map λ e=>V.ref e.2) (xs.map λ e=>Value.ref e.2):=by
  clear S U hSO
  induction xs with
  | nil=>exact .nil
  | cons e xs ih=>exact .cons rfl ih
 refine⟨.ref s.heap.objs.size,_,I.laid (t':=tk) (o:=.ext (xv X.w s.heap.objs.size (xs.map λ e=>Value.ref e.2))) kk (zA4 _) ?_,rfl,q _ _ (xs.map λ e=>V.ref e.2) (xs.map (·.1)) hfr vals ⟨λ i v r hv hr'=>?_,by simp,S.nd,λ r hr'=>?_⟩⟩
 .obtain⟨es,ep,t,St,e⟩:=id hSO;exact⟨hSO,⟨_,St.get⟩,λ h1 h2 S1 k=>S1.rq k⟩
 .rw[zA3] at hv hr';obtain⟨e,e1,rfl⟩:=zOm hv;rw[e1] at hr';cases hr';obtain⟨j,j1,j2,j3⟩:=U.own e (zB7 e1);refine⟨j,?_,j3⟩;have hj':its[j]?=some (Value.ref e.2):=by simpa using j2
  have hjl:j<ys.length:=by rw[hl];exact (zA2.mp hj').1
  obtain⟨v',e2,e3⟩:=rv.get (zA1 hjl);rw[hj'] at e2;cases e2;obtain⟨hne,b,hb,_⟩:=L4.Paired.at' hr (i:=j) (by omega) V.zp ([]:List Int);have:ys.getD j V.zp=ys[j]:=by simp[hjl]
  rw[this] at hb;rw[hb] at e3;cases (show Value.ref e.2=Value.ref b from e3);rw[zA1 hjl,hb]
 .obtain⟨j,hj⟩:=List.mem_iff_getElem?.mp hr';exact U.all j r (by have:=(zA2.mp hj).1;rw[zA0];omega) hj
theorem Paired.mk {α β:Type}{F:α->β->Prop}:∀ {l:List α}{m:List β},l.length=m.length->(∀ (i:Nat) a b,l[i]?=some a->m[i]?=some b->F a b)->Paired F l m
 | [],[],_,_=>.nil
 | a::l,b::m,h,f=>.cons (f 0 a b rfl rfl) (Paired.mk (by simpa using h) λ i x y hx hy=>f (i+1) x y (by simpa using hx) (by simpa using hy))
 | [],_::_,h,_=>by simp at h
 | _::_,[],h,_=>by simp at h
def Nk (hc:X.calm=true):xk X (.builtin "sorted") (λ xs H Q=>∃ l us vs,∃ rs:List (List Int),xs=[.ref l]/\H l=some (.ext (xv X.w l us))/\Vals vs us/\ip X.K H vs rs/\rs.length<64/\
  ∀ (p:Addr) (idx:List Nat),H p=none->idx.Perm (List.range vs.length)->(idx.map λ i=>rs.getD i []).Pairwise (λ a b=>HT.lexLt b a=false)->Q (.ref p) (upd H p (.lst (idx.map λ i=>vs.getD i .zp)))):=by
 intro pins s B H xs us0 Q I r h;obtain⟨l,us,vs,rs,rfl,hl,hv,hr,h64,q⟩:=h;obtain⟨u,rfl,ru⟩:=vals1 r;cases ru;obtain⟨⟨es,ep,t,S,eu⟩,-,-⟩:=(show xS X.prog X.w H s.heap l (.ext (xv X.w l us)) from I.zM l _ hl)
 have hlen:es.size=us.length:=by rw[<- eu];simp
 have hvl:=hv.length;have hrl:vs.length=rs.length:=Paired.length hr;have hh:X.A.handled=none:=I.ok.hd hc;obtain⟨ix,ix1,ix2⟩:∃ ix:List Nat,ix.Perm (List.range us.length)/\(comes X.w l es ep).toList.map (·.2)=ix.map λ i=>us.getD i Value.none:=by
  have hp:((comes X.w l es ep).toList.map (·.2)).Perm us:=by rw[<- eu];exact (n6 X.w l es ep).map _
  generalize (comes X.w l es ep).toList.map (·.2)=cs at hp;clear eu hl hv hvl hlen
  induction hp with
  | nil=>exact⟨[],.refl _,rfl⟩
  | @cons x a b _ ih=>
   obtain⟨ix,i1,i2⟩:=ih;refine⟨0::ix.map (· + 1),?_,?_⟩
   .rw[zC0,List.range_succ_eq_map];exact (i1.map _).cons 0
   .rw[zA6,zD6,i2];rfl
  | @swap x y a=>
   refine⟨1::0::(List.range a.length).map (· + 2),?_,?_⟩
   .rw[zC0,zC0,List.range_succ_eq_map,List.range_succ_eq_map,zA6,zD6];exact .swap _ _ _
   .rw[zA6,zA6,zD6];refine congrArg _ (congrArg _ ?_);refine List.ext_getElem (by simp) λ i h1 h2=>?_;simp[h1]
  | @trans a b c _ _ ih1 ih2=>
   obtain⟨i1,p1,e1⟩:=ih1;obtain⟨i2,p2,e2⟩:=ih2;have hlb:b.length=c.length:=by rw[e2,zA7,p2.length_eq];simp
   refine⟨i1.map λ i=>i2.getD i 0,?_,?_⟩
   .refine (p1.map _).trans ?_;have e:(List.range b.length).map (λ i=>i2.getD i 0)=i2:=by
     have hl2:i2.length=b.length:=by rw[p2.length_eq,hlb];simp
     rw[<- hl2];refine List.ext_getElem (by simp) λ i h1 h2=>?_;simp[h2]
    rw[e];exact p2
   .rw[e1,zD6];refine List.map_congr_left λ i hi=>?_;have hi':i<b.length:=by simpa using p1.mem_iff.mp hi
    have hl2:i<i2.length:=by rw[p2.length_eq,<- hlb];simpa using hi'
    show b.getD i _=c.getD (i2.getD i 0) _;rw[e2];simp[hl2]
 have hix:∀ i∈ix,i<us.length:=λ i hi=>by simpa using ix1.mem_iff.mp hi
 have rows_at:∀ h6:Heap,(∀ b o,s.heap.get? b=some o->h6.get? b=some o)->L4.r_ h6 ((comes X.w l es ep).toList.map (·.2)) (ix.map λ i=>rs.getD i []):=λ h6 k=>by
  rw[ix2];refine Paired.mk (by simp) λ j a b ha hb=>?_;rw[zA3] at ha hb;obtain⟨i,hi,rfl⟩:=zOm ha;rw[hi] at hb;cases hb;have hil:=hix i (zB7 hi);obtain⟨hne,b,hbv,hsq⟩:=L4.Paired.at' hr (i:=i) (by omega) V.zp ([]:List Int);obtain⟨u',e1,e2⟩:=hv.get (i:=i) (x:=vs.getD i V.zp) (by simp[show i<vs.length by omega]);rw[hbv] at e2;cases (show u'=Value.ref b from e2);obtain⟨its2,rv2,⟨o,e,hcl,n,hd⟩,_⟩:=I.tuple hsq;have eg:us.getD i Value.none=Value.ref b:=by simp[e1]
  refine⟨hne,b,o,its2.toArray,n,eg,k _ _ e,hcl,hd,by simpa using intsAre_of rv2⟩
 have hcl:((comes X.w l es ep).toList.map (·.2)).length=us.length:=by rw[ix2,zA7,ix1.length_eq];simp
 refine b7 (Out:=L4.lX ((comes X.w l es ep).toList.map (·.2)) (ix.map λ i=>rs.getD i [])) hh S (by rw[hlen];have:sizeLine=16777216:=rfl;omega) (λ s6 h2 k=>L4.da (rows_at _ k) (by rw[hcl,<- hlen];exact h2) (by rw[hcl];omega)) (λ h1=>?_) λ out h' tk p ho hs hp k hat=>?_
 .refine⟨List.range ((comes X.w l es ep).toList.map (·.2)).length,.refl _,?_,?_⟩
  .refine List.ext_getElem (by simp) λ i h1 h2=>?_;simp at h2;simp[h2]
  .rw[List.pairwise_map,List.pairwise_iff_getElem];intro i j hi hj hij;rw[hcl] at hi hj;simp at hi hj;omega
 .obtain⟨idx,g1,g2,g3⟩:=ho;obtain⟨e,he⟩:=hat;rw[hcl] at g1;have hfr:H p=none:=I.zM.fresh hp;have hidx:∀ i∈idx,i<us.length:=λ i hi=>by simpa using g1.mem_iff.mp hi
  have hxl:ix.length=us.length:=by rw[ix1.length_eq];simp
  let jx:=idx.map λ i=>ix.getD i 0
  have hjp:jx.Perm (List.range vs.length):=by
   rw[hvl];refine (g1.map _).trans ?_;have e:(List.range us.length).map (λ i=>ix.getD i 0)=ix:=by
    rw[<- hxl];refine List.ext_getElem (by simp) λ i h1 h2=>?_;simp[h2]
   rw[e];exact ix1
  have hjr:(jx.map λ i=>rs.getD i [])=idx.map λ i=>(ix.map λ i=>rs.getD i []).getD i []:=by
   rw[zD6];refine List.map_congr_left λ i hi=>?_;have:=hidx i hi;simp[show i<ix.length by omega]
  refine⟨.ref p,_,I.laid (t':=tk) (o:=.lst (jx.map λ i=>vs.getD i .zp)) k hp ?_,rfl,q p jx hfr hjp (by rw[hjr];exact g3)⟩;refine⟨by rw[zA7,hjp.length_eq,zC5];have:sizeLine=16777216:=rfl;omega,out.toList,e,?_,by simpa using he⟩;rw[g2,ix2];refine Paired.mk (by simp[jx]) λ j a b ha hb=>?_;rw[zA3] at ha hb;obtain⟨i,hi,rfl⟩:=zOm hb;simp only[jx,zA3,hi,Option.map_some,Option.some.injEq] at ha;have hil:=hidx i (zB7 hi);have hx:ix.getD i 0<us.length:=by
   have:ix.getD i 0∈ix:=by simp[show i<ix.length by omega]
   exact hix _ this
  obtain⟨u',e1,e2⟩:=hv.get (i:=ix.getD i 0) (x:=vs.getD (ix.getD i 0) V.zp) (by
   have hx':ix.getD i 0<vs.length:=by omega
   generalize ix.getD i 0=q at hx';rw[zB1,zA1 hx'];rfl)
  subst ha;have e3:(ix.map λ i=>us.getD i Value.none).getD i Value.none=u':=by
   simp[show i<ix.length by omega] at e1 ⊢;simp[e1]
  rw[e3];exact e2
end
end ST
namespace L5
open PySem PySem.Spec L2 L3
open PyProof.Rows hiding St
noncomputable def vv:List (List Int)->List (List Int)
 | []=>[]
 | r::rs=>if r∈vv rs then vv rs else r::vv rs
theorem o_ {r:List Int}:∀ {rs:List (List Int)},r∈vv rs↔r∈rs
 | []=>.rfl
 | x::rs=>by
  unfold vv;split
  .rename_i h;rw[o_,zA5];exact⟨.inr,λ h'=>h'.elim (λ e=>e▸o_.mp h) id⟩
  .rw[zA5,zA5,o_]
theorem fG:∀ rs:List (List Int),(vv rs).Nodup
 | []=>.nil
 | x::rs=>by
  unfold vv;split
  .exact fG rs
  .rename_i h;exact List.nodup_cons.mpr ⟨h,fG rs⟩
theorem jo:∀ rs:List (List Int),(vv rs).length<=rs.length
 | []=>zA4 _
 | x::rs=>by
  unfold vv;have:=jo rs;split <;> simp only[zC0] <;> omega
def tM:wH:=λ ds S Q=>match ds with
 | [.tup _]=>False
 | [d]=>∃ rows:List (List Int),yz d S=some (rows.map vh)/\rows.length<64/\(∀ r∈rows,r≠[])/\∀ l,S l=none->Q (.ref l) (ups S l (.lst ((L4.wN (vv rows)).map vh)))
 | _=>False
noncomputable def kG:List T->Option T
 | [.lst ts]=>(wA ts).bind λ rs=>if rs.length<64/\∀ r∈rs,r≠[] then some (.lst ((L4.wN (vv rs)).map yG)) else none
 | _=>none
def PJ:uM zV kG tM:=λ S Z ys z ds Q hz hv e hq=>by
 unfold kG at e;split at e
 .obtain⟨d,rfl,h1⟩:=uu hv;obtain⟨rs,e1,e2⟩:=zOb e;split at e2
  .rename_i hc;cases e2;cases gR e1;obtain⟨es,h2,h3⟩:=h1.seq rfl;cases oG.mp h3;have key:∃ rows:List (List Int),yz d S=some (rows.map vh)/\rows.length<64/\(∀ r∈rows,r≠[])/\∀ l,S l=none->Q (.ref l) (ups S l (.lst ((L4.wN (vv rows)).map vh))):=
    ⟨rs,h2,hc.1,hc.2,λ l hl=>hq _ _ (.new hl _) (rD hz hl (oG.mpr rfl))⟩
   obtain⟨_,q | ⟨a,q,_⟩,_⟩:=h1.lst
   .subst q;exact key
   .subst q;exact key
  .cases e2
 .cases e
section
variable {X:Cx}{K:zFr}{e:Expr}{tA:yQ}{pos pos2 p p2:Pos}
def tM.mo:uL tM:=λ ds S Q Q' hq h=>by
 unfold tM at h ⊢;split at h
 .exact h.elim
 .obtain⟨rows,h1,h2,h3,h4⟩:=h;exact⟨rows,h1,h2,h3,λ l hl=>hq _ _ (h4 l hl)⟩
 .exact h.elim
def zx.pick {H:Hp}{ys vs:List V}{rows rs:List (List Int)}(h:zx K H (rows.map vh) ys) (P:ST.oy ys rows vs rs):zx K H (rs.map vh) vs:=by
 have key:∀ (vs:List V) (rs:List (List Int)),vs.length=rs.length->(∀ (i:Nat) v r,vs[i]?=some v->rs[i]?=some r->∃ (j:Nat),ys[j]?=some v/\rows[j]?=some r)->zx K H (rs.map vh) vs:=by
  intro vs
  induction vs with
  | nil=>intro rs hl _;cases rs with
   | nil=>exact .nil
   | cons _ _=>simp at hl
  | cons v vs ih=>intro rs hl hp;cases rs with
   | nil=>simp at hl
   | cons r rs=>
    refine .cons ?_ (ih rs (by simpa using hl) λ i v r hv hr=>hp (i+1) v r (by simpa using hv) (by simpa using hr));obtain⟨j,j1,j2⟩:=hp 0 v r rfl rfl;obtain⟨x,e1,e2⟩:=h.get (i:=j) (d:=vh r) (by rw[zA3,j2];rfl);rw[j1] at e1;cases e1;exact e2
 exact key vs rs P.len P.sub
def oy.mem {ys vs:List V}{rows rs:List (List Int)}(P:ST.oy ys rows vs rs) {r:List Int}:r∈rs↔r∈rows:=by
 refine⟨λ h=>?_,P.all r⟩;obtain⟨i,hi⟩:=List.mem_iff_getElem?.mp h;have hl:i<vs.length:=by rw[P.len];exact (zA2.mp hi).1
 obtain⟨j,_,j2⟩:=P.sub i _ r (zA1 hl) hi;exact zB7 j2
def tM.fits {w:World}:tW K tM (λ xs H Q=>∃ p ys,∃ rows:List (List Int),xs=[.ref p]/\yg K H p ys/\ST.ip K H ys rows/\rows.length<64/\
  ∀ (l:Addr) (us:List Value) (vs:List V) (rs:List (List Int)),H l=none->Vals vs us->ST.oy ys rows vs rs->
   ∃ l' us' vs',∃ rs':List (List Int),[V.ref l]=[.ref l']/\(upd H l (.ext (ST.xv w l us))) l'=some (.ext (ST.xv w l' us'))/\Vals vs' us'/\ST.ip K (upd H l (.ext (ST.xv w l us))) vs' rs'/\rs'.length<64/\
    ∀ (p:Addr) (idx:List Nat),(upd H l (.ext (ST.xv w l us))) p=none->idx.Perm (List.range vs'.length)->(idx.map λ i=>rs'.getD i []).Pairwise (λ a b=>HT.lexLt b a=false)->Q (.ref p) (upd (upd H l (.ext (ST.xv w l us))) p (.lst (idx.map λ i=>vs'.getD i .zp)))):=λ xs ds H S Q h0 h2 h=>by
 unfold tM at h;split at h
 .exact h.elim
 .rename_i d hn;obtain⟨x,hx,h1⟩:=h0.one;subst hx;obtain⟨rows,e,h64,hne,h⟩:=h;obtain⟨a,ys,rfl,g1,g2⟩:=qu h1 h2 e (λ ts z=>hn ts z);refine⟨a,ys,rows,rfl,g1,m7 g2 hne,h64,λ l us vs rs hf hv P=>?_⟩;have g3:=zx.pick g2 P;have x1:Ext H (upd H l (.ext (ST.xv w l us))):=.new hf _;have hper:rs.Perm (vv rows):=(List.perm_ext_iff_of_nodup P.nd (fG rows)).mpr λ r=>by rw[oy.mem P,o_]
  refine⟨l,us,vs,rs,rfl,xl,hv,m7 (zx.ext x1 _ g3) λ r hr=>hne r ((oy.mem P).mp hr),by rw[hper.length_eq];have:=jo rows;omega,λ p idx hp hi hs=>?_⟩;rw[P.len] at hi;have heq:=L4.b8 ((Zt hi).trans hper) hs;have hpl:p≠l:=λ z=>by subst z;rw[xl] at hp;cases hp
  have hpH:H p=none:=by rw[xo hpl] at hp;exact hp
  have x2:Ext (upd H l (.ext (ST.xv w l us))) (upd (upd H l (.ext (ST.xv w l us))) p (.lst (idx.map λ i=>vs.getD i .zp))):=.new hp _;have r1:yb K (upd H l (.ext (ST.xv w l us))) S:=h2.new hf;refine h p (h2.none hpH) _ _ (by simp only[zo]) (x1.trans x2) (r1.ups x2 ⟨_,xl,?_⟩);rw[<- heq];exact zx.ext (x1.trans x2) _ (zx.perm g3 λ i h=>by simpa using hi.mem_iff.mp h)
 .exact h.elim
end
end L5
namespace ST
open PySem PySem.SetTable PyProof.Rows
theorem Yf {t:SetTable}{hs:List Int}(T:Tab t hs) (h:Int):∀ (f k K:Nat),k<=K->K<k+f->(way t.mask h K).j∉t.place.toList->(∀ m<K,(way t.mask h m).j∈t.place.toList)->probe.go t (λ _=>h+1) h f (way t.mask h k)=some (.empty (way t.mask h K).j none)
 | 0,k,K,h1,h2,_,_=>by omega
 | f+1,k,K,h1,h2,h3,h4=>by
  by_cases e:k=K
  .subst e;unfold probe.go;rw[T.empty h3,iJ]
  .obtain⟨i,g,p1,_⟩:=T.at (h4 k (by omega));have ih:=Yf T h f (k+1) K (by omega) (by omega) h3 h4
   conv=>lhs;unfold probe.go
   rw[T.live p1];dsimp only;rw[if_neg (by intro q;have:=eq_of_beq q;omega),dD];exact ih
def P_ {t:SetTable}{hs:List Int}(T:Tab t hs) (hl:hs.length<=t.mask) (h:Int):∃ j,t.freeSlot h=some (j,false)/\cB t h j:=by
 obtain⟨K,k1,k2,k3⟩:=T.first hl h;refine⟨(way t.mask h K).j,?_,⟨k2,K,rfl,k3⟩⟩;have g:=Yf T h (10*turns t.mask) 0 K (zD4 _) (by unfold turns;omega) k2 k3;unfold SetTable.freeSlot;have e:t.probe (λ _=>h+1) h (t.probeStart h)=some (.empty (way t.mask h K).j none):=g;rw[e];rfl
structure uJ (prog:Program) (w:World) (h:Heap) (a:Addr) (xs:List (Int×Tok)) (led:Bool):Prop where
 ex:∃ es ep t,h.get? a=some { cls:=.type "set",dict:=none,data:=.set es ep t }/\es.toList=xs.map (λ e=>((intKind prog w).hash e.1,Value.int e.1 e.2))/\Tab t (xs.map λ e=>(intKind prog w).hash e.1)/\t.led=led/\t.plain=true/\xs.length*5<t.mask*3
 nd:(xs.map (·.1)).Nodup
section
variable {prog:Program}{w:World}{A:Around}{E:Value->Shared->Prop}{s:Shared}
def fits_of {es:Array (Int×Value)}{t:SetTable}{hs:List Int}{n:Nat}(h1:es.size=n) (T:Tab t hs) (h2:hs.length=n) (h3:n<=t.mask):t.fits es.size=true:=by
 have l:=T.len;unfold SetTable.fits SetTable.fill;rw[T.qT,h1,l,h2];simp;omega
def lg {n m:Int}{t:Tok}:(intKind prog w).is n (.int m t)=true↔n=m:=by
 constructor
 .intro h;obtain⟨t',e⟩:=Value.isInt_shape (show Value.isInt n (.int m t)=true from h);cases e;rfl
 .rintro rfl;exact intKind_is _ _ _ _
def Oz {es:Array (Int×Value)}{xs:List (Int×Tok)}(h:es.toList=xs.map (λ e=>((intKind prog w).hash e.1,Value.int e.1 e.2))):ElemsOf (intKind prog w) es.toList:=λ e he=>by
 rw[h] at he;obtain⟨x,_,rfl⟩:=zB0.mp he;exact⟨⟨x.1,lg.mpr rfl,rfl⟩,rfl⟩
def U6 {es:Array (Int×Value)}{t:SetTable}{xs:List (Int×Tok)}{M wanted:Nat}(he:es.toList=xs.map (λ e=>((intKind prog w).hash e.1,Value.int e.1 e.2))) (hM:uo M) (hw:sizeAbove wanted=M+1) (hfew:xs.length*5<M*3):
  ∃ es' t',∃ xs':List (Int×Tok),relayAll t es wanted=(es',t',false)/\es'.toList=xs'.map (λ e=>((intKind prog w).hash e.1,Value.int e.1 e.2))/\xs'.Perm xs/\Tab t' (xs'.map λ e=>(intKind prog w).hash e.1)/\t'.mask=M/\t'.led=t.led/\t'.plain=t.plain/\es'.size=es.size:=by
 have hlen:es.size=xs.length:=by have:=congrArg List.length he;simpa using this
 have hhs:(es.map (·.1)).toList=xs.map λ e=>(intKind prog w).hash e.1:=by rw[Array.toList_map,he,zD6];rfl
 have hsz:(es.map (·.1)).size=xs.length:=by rw[Array.size_map,hlen]
 obtain⟨t',order,h1,h2,h3,h4,h5,h6,h7⟩:=ZC hM t.finger (t.movedTo M) t.led t.plain (es.map (·.1)) (by rw[hsz];omega);rw[hsz] at h6;have hlt:∀ k∈order.toList,k<xs.length:=λ k hk=>by simpa using h6.mem_iff.mp hk
 have hr:t.relaid (es.map (·.1)) wanted=some (t',order):=by
  unfold SetTable.relaid;rw[hw,Nat.add_sub_cancel];exact h1
 have hes':(order.filterMap (es[·]?)).toList=(order.toList.filterMap λ k=>xs[k]?).map λ e=>((intKind prog w).hash e.1,Value.int e.1 e.2):=by
  rw[Array.toList_filterMap,List.map_filterMap];congr 1;funext k;rw[<- zD3,he,zA3]
 have hperm:(order.toList.filterMap λ k=>xs[k]?).Perm xs:=(h6.filterMap _).trans (by rw[List.filterMap_getElem?_range_length]);have hsz':(order.filterMap (es[·]?)).size=es.size:=by
  rw[<- zD2,hes',zA7,hperm.length_eq,hlen]
 have hT:Tab t' ((order.toList.filterMap λ k=>xs[k]?).map λ e=>(intKind prog w).hash e.1):=by
  rw[<- fj xs (λ e=>(intKind prog w).hash e.1) 0 order.toList hlt,<- hhs];exact h7
 refine⟨_,t',_,?_,hes',hperm,hT,h2,h4,h5,hsz'⟩;have zR:coversAll order es.size=true:=by
  unfold coversAll;rw[List.isPerm_iff,hlen];exact h6
 have fit:t'.fits (order.filterMap (es[·]?)).size=true:=fits_of (n:=xs.length) (by rw[hsz',hlen]) hT (by rw[zA7,hperm.length_eq]) (by rw[h2];omega);unfold relayAll;rw[hr];dsimp only;rw[zR,fit];rfl
def add_int {a:Addr}{xs:List (Int×Tok)}{n:Int}{tk:Tok}{led:Bool}{Q:Bool->Shared->Prop}(S:uJ prog w s.heap a xs led) (hn:xs.length<70)
  (h:∀ h' xs' r,Heap.SameBut a s.heap h'->uJ prog w h' a xs' led->(n∈xs.map (·.1)/\xs'=xs\/n∉xs.map (·.1)/\xs'.Perm (xs++[(n,tk)]))->Q r { s with heap:=h' }):
  wpAny (model prog w) A (setAddHashed a (.int n tk) ((intKind prog w).hash n)) Q E s:=by
 have S0:=S;obtain⟨⟨es,ep,t,ho,he,T,hled,hpl,hfew⟩,hnd⟩:=S;have hlen:es.size=xs.length:=by have:=congrArg List.length he;simpa using this
 have hm7:7<=t.mask/\t.mask<=127:=by rcases T.mask with e | e | e <;> omega
 have fit:t.fits es.size=true:=fits_of (n:=xs.length) hlen T (by simp) (by omega);have hel:=Oz (prog:=prog) (w:=w) he;unfold setAddHashed setAddHashedIn;refine wpAny_holding (zWb (wpAny_setState_of ho rfl fit ?_));dsimp only;have bs:byScan (.int n tk) es=true:=by
  have h1:decide (es.size<scanBound)=true:=decide_eq_true (by unfold scanBound;omega);have h2:es.all (·.2.scannable)=true:=by
   rw[Array.all_eq_true_iff_forall_mem];intro e hm;exact (hel e (by simpa using hm)).2
  unfold byScan;rw[h1,h2];rfl
 rw[if_pos bs];refine zWb ?_;unfold setAddByScan;refine zWb (wpAny_rule (zWb (wpAny_setScan_of (k:=n) (lg.mpr rfl) ho rfl fit hel ?_)));have hfind:(es.toList.findIdx? (λ e=>(intKind prog w).is n e.2)).isSome=true↔n∈xs.map (·.1):=by
  rw[he,List.findIdx?_isSome,zD0];constructor
  .rintro⟨e,hm,q⟩;obtain⟨x,hx,rfl⟩:=zB0.mp hm;exact zB0.mpr ⟨x,hx,(lg.mp q).symm⟩
  .intro hm;obtain⟨x,hx,rfl⟩:=zB0.mp hm;exact⟨_,zB0.mpr ⟨x,hx,rfl⟩,lg.mpr rfl⟩
 cases hc:es.toList.findIdx? (λ e=>(intKind prog w).is n e.2) with
 | some j=>
  dsimp only;have hm:=hfind.mp (by rw[hc];rfl);refine zD1 ?_;dsimp only;exact zD1 (h s.heap xs false ⟨rfl,λ _ _=>rfl⟩ S0 (.inl ⟨hm,rfl⟩))
 | none=>
  dsimp only;have hm:n∉xs.map (·.1):=λ q=>by have:=hfind.mpr q;rw[hc] at this;cases this
  obtain⟨j,fs,F⟩:=P_ T (by rw[zA7];omega) ((intKind prog w).hash n);obtain⟨p1,p2,p3⟩:=T.put F;rw[zA7] at p1;have hpt:(t.put j).1.plain=true:=by rw[p2];exact hpl
  have hmt:(t.put j).1.mask=t.mask:=by rw[p2]
  have hlt:(t.put j).1.led=led:=by rw[p2];exact hled
  generalize hT:(t.put j)=P at *;obtain⟨t1,p⟩:=P;dsimp only at *
  let xs1:=xs.take p++(n,tk)::xs.drop p
  have hperm:xs1.Perm (xs++[(n,tk)]):=by
   have e:xs.take p++xs.drop p=xs:=List.take_append_drop p xs;have:xs1.Perm ((n,tk)::(xs.take p++xs.drop p)):=List.perm_middle;rw[e] at this;exact this.trans (List.perm_append_singleton _ _).symm
  have hl1:xs1.length=xs.length+1:=by rw[hperm.length_eq];simp
  have hes1:(insertAt es p ((intKind prog w).hash n,Value.int n tk)).toList=xs1.map λ e=>((intKind prog w).hash e.1,Value.int e.1 e.2):=by
   rw[toList_insertAt,he];simp[xs1,List.map_take,List.map_drop]
  have hsz1:(insertAt es p ((intKind prog w).hash n,Value.int n tk)).size=xs.length+1:=by rw[<- zD2,hes1,zA7,hl1]
  have T1:Tab t1 (xs1.map λ e=>(intKind prog w).hash e.1):=by
   have:xs1.map (λ e=>(intKind prog w).hash e.1)=(xs.map λ e=>(intKind prog w).hash e.1).take p++(intKind prog w).hash n::(xs.map λ e=>(intKind prog w).hash e.1).drop p:=by simp[xs1,List.map_take,List.map_drop]
   rw[this];exact p3
  have fit1:t1.fits (insertAt es p ((intKind prog w).hash n,Value.int n tk)).size=true:=fits_of (n:=xs.length+1) hsz1 T1 (by rw[zA7,hl1]) (by rw[hmt];omega);have hlay:layNew t es ((intKind prog w).hash n) (.int n tk)=(insertAt es p ((intKind prog w).hash n,Value.int n tk),t1,false,false):=by
   unfold layNew;rw[fs];dsimp only;rw[hT];dsimp only;unfold SetTable.orStandIn;rw[fit1];rfl
  have hsl:(insertAt es p ((intKind prog w).hash n,Value.int n tk)).size<=sizeLine:=by
   rw[hsz1];have:sizeLine=16777216:=rfl;omega
  have hnd1:(xs1.map (·.1)).Nodup:=by
   refine (hperm.map _).nodup_iff.mpr ?_;rw[zE7,List.nodup_append];refine⟨hnd,by simp,λ x hx y hy=>?_⟩;simp at hy;subst hy;exact λ e=>hm (e▸hx)
  have ho1:=k_ (es':=insertAt es p ((intKind prog w).hash n,Value.int n tk)) (t':=t1) ho;have sb:=Heap.SameBut.update s.heap a (Obj.putSet (insertAt es p ((intKind prog w).hash n,Value.int n tk)) t1);have hfill:t1.fill=xs.length+1:=by
   have l:=T1.len;rw[zA7,hl1] at l;unfold SetTable.fill;rw[T1.qT,l];simp
  rw[hlay];dsimp only;refine zWb (m:=pure ()) (zD1 ?_);rw[hpt];simp only[if_true];refine zWb (m:=pure true) (zD1 ?_);simp only[if_true];refine zWb (wpAny_storeSet_of ho rfl ?_ hsl);by_cases hf:t1.tooFull=true
  .rw[hf];simp only[zB2,Bool.and_self,if_true];have hfull:t.mask*3<=(xs.length+1)*5:=by
    have:=hf;unfold SetTable.tooFull at this;rw[hfill,hmt] at this;simpa using this
   obtain⟨M',g1,g2,g3⟩:=bI xs.length t.mask T.mask hfew hfull hn;obtain⟨es2,t2,xs2,r1,r2,r3,r4,r5,r6,r7,r8⟩:=U6 (prog:=prog) (w:=w) (t:=t1) hes1 g1 (wanted:=grown (insertAt es p ((intKind prog w).hash n,Value.int n tk)).size) (by rw[hsz1];exact g2) (by rw[hl1];exact g3);rw[r1];dsimp only;refine zWb (m:=pure ()) (zD1 (zWb (wpAny_storeSet_of ho1 rfl ?_ (by rw[r8];exact hsl))));refine zD1 ?_;dsimp only;refine zD1 (h _ xs2 true (sb.trans (Heap.SameBut.update _ a _)) ⟨⟨es2,ep+1+1,t2,k_ ho1,r2,r4,by rw[r6];exact hlt,by rw[r7];exact hpt,by rw[r3.length_eq,hl1,r5];exact g3⟩,(r3.map _).nodup_iff.mpr hnd1⟩ (.inr ⟨hm,r3.trans hperm⟩))
  .have hf':t1.tooFull=false:=by simpa using hf
   rw[hf'];simp only[zB2,Bool.and_false,zC4,if_false];have hfull:(xs.length+1)*5<t.mask*3:=by
    have:=hf';unfold SetTable.tooFull at this;rw[hfill,hmt] at this;simpa using this
   refine zD1 ?_;dsimp only;exact zD1 (h _ xs1 true sb ⟨⟨_,ep+1,t1,ho1,hes1,T1,hlt,hpt,by rw[hl1,hmt];exact hfull⟩,hnd1⟩ (.inr ⟨hm,hperm⟩))
end
structure rY (its:Array Value) (ns:List Int) (i:Nat) (xs:List (Int×Tok)):Prop where
 own:∀ e∈xs,∃ j,j<i/\ns[j]?=some e.1
 all:∀ (j:Nat) r,j<i->ns[j]?=some r->r∈xs.map (·.1)
theorem fH:∀ (l m:List Int),l.Nodup->(∀ x∈l,x∈m)->l.length<=m.length
 | [],m,_,_=>zD4 _
 | x::l,m,hn,hs=>by
  have h1:=List.nodup_cons.mp hn;have hx:=hs x zMc;have:=fH l (m.erase x) h1.2 λ z hz=>(List.mem_erase_of_ne (λ e:z=x=>h1.1 (by rw[<- e];exact hz))).mpr (hs z (zMo _ hz));rw[List.length_erase_of_mem hx] at this;have:=List.length_pos_of_mem hx;simp only[zC0];omega
def rY.len {its:Array Value}{ns:List Int}{i:Nat}{xs:List (Int×Tok)}(U:rY its ns i xs) (nd:(xs.map (·.1)).Nodup):xs.length<=i:=by
 have:=fH (xs.map (·.1)) ((List.range i).map λ j=>ns.getD j 0) nd λ x hx=>by
  obtain⟨e,he,rfl⟩:=zB0.mp hx;obtain⟨j,h1,h3⟩:=U.own e he;exact zB0.mpr ⟨j,zC1.mpr h1,by rw[zB1,h3];rfl⟩
 simpa using this
def rY.step {its:Array Value}{ns:List Int}{i:Nat}{xs xs':List (Int×Tok)}{n:Int}{t:Tok}(U:rY its ns i xs) (hr:ns[i]?=some n)
  (h:n∈xs.map (·.1)/\xs'=xs\/n∉xs.map (·.1)/\xs'.Perm (xs++[(n,t)])):rY its ns (i+1) xs':=by
 have eqi:∀ j:Nat,j<i+1->¬ j<i->j=i:=λ j a b=>by omega
 rcases h with ⟨hm,rfl⟩ | ⟨_,hp⟩
 .refine⟨λ e he=>?_,λ j r hj hrj=>?_⟩
  .obtain⟨j,h1,h2⟩:=U.own e he;exact⟨j,Nat.lt_succ_of_lt h1,h2⟩
  .by_cases q:j<i
   .exact U.all j r q hrj
   .rw[eqi j hj q,hr] at hrj;cases hrj;exact hm
 .refine⟨λ e he=>?_,λ j r hj hrj=>?_⟩
  .rcases zB9.mp (hp.mem_iff.mp he) with q | q
   .obtain⟨j,h1,h2⟩:=U.own e q;exact⟨j,Nat.lt_succ_of_lt h1,h2⟩
   .cases zB6.mp q;exact⟨i,zE2 i,hr⟩
  .rw[(hp.map (·.1)).mem_iff,zE7];by_cases q:j<i
   .exact List.mem_append_left _ (U.all j r q hrj)
   .rw[eqi j hj q,hr] at hrj;cases hrj;exact zB4 _ zMc
def Nums (its:Array Value) (ns:List Int):Prop:=∀ (i:Nat) v,its[i]?=some v->∃ n t,v=.int n t/\ns[i]?=some n
section
variable {prog:Program}{w:World}{A:Around}{R:Result->Shared->Prop}{I:Addr}{fp wr:List Addr}{G:Array GenState->Array GenState->Prop}{n:Nat}{P:Nat->Value->Prop}{St:Nat->Shared->Prop}
def uJ.keep {h h':Heap}{a:Addr}{xs:List (Int×Tok)}{led:Bool}(S:uJ prog w h a xs led) (k:∀ o,h.get? a=some o->h'.get? a=some o):uJ prog w h' a xs led:=
 let ⟨⟨es,ep,t,ho,r⟩,nd⟩:=S;⟨⟨es,ep,t,k _ ho,r⟩,nd⟩
def QA (W:WalksS prog w A.in1 I fp wr G n (λ i v=>P i v) St) (Sa:Addr) (hSf:Sa∉fp) {its:Array Value}{ns:List Int}(hP:∀ i v,P i v->its[i]?=some v) (hn:n<70) (led:Bool) (hN:Nums its ns):
  ∀ (k i:Nat) (s:Shared) (xs:List (Int×Tok)),n-i=k->i<=n->St i s->uJ prog w s.heap Sa xs led->rY its ns i xs->
   (∀ s' xs',Moved (Sa::wr) G s s'->uJ prog w s'.heap Sa xs' led->rY its ns n xs'->R (.ok (.ret .none)) s')->
   codeAny (model prog w) A (.builtin "set.update.loop" ⟨[.ref Sa,.ref I],[]⟩) R s:=by
 have hSw:Sa∉wr:=λ z=>hSf (W.sub _ z);have more:∀ b∈wr,b∈Sa::wr:=λ b hb=>zMo _ hb;intro k
 induction k with
 | zero=>
  intro i s xs hk hi hst hS hU hR;have e:i=n:=by omega
  subst e;refine codeAny_builtin F.entry_set_update_loop ?_;rw[Around.under_plainId F.plain_set_update_loop _];show wpAny _ A.in1 (pyNext (.ref I) >>= _) _ _ s;exact zWb (W.done s _ _ hst λ s' hm=>zD1 (hR s' xs (hm.mono more) (hS.keep λ o e=>hm.heap _ o hSw e) hU))
 | succ k ih=>
  intro i s xs hk hi hst hS hU hR;have hlt:i<n:=by omega
  refine codeAny_builtin F.entry_set_update_loop ?_;rw[Around.under_plainId F.plain_set_update_loop _];show wpAny _ A.in1 (pyNext (.ref I) >>= _) _ _ s;refine zWb (W.item i s _ _ hlt hst λ v s1 hPv hst1 hm=>?_);obtain⟨m,t,rfl,hr⟩:=hN i v (hP i v hPv);have S1:uJ prog w s1.heap Sa xs led:=hS.keep λ o e=>hm.heap _ o hSw e;have hl:xs.length<70:=by have:=hU.len hS.nd;omega
  show wpAny _ A.in1 (holding [Value.int m t] (setAdd Sa (.int m t)) >>= _) _ _ s1;refine zWb (wpAny_holding ?_);unfold setAdd;refine wpAny_holding (zWb ((intKind prog w).pyHash (A:=A.in1) (k:=m) (lg.mpr rfl) ?_));refine add_int (s:={ s1 with toks:=s1.toks+1 }) (A:=A.in1) S1 hl λ h' xs' rr sb S' hx=>?_;have fr:=W.frame (i+1) s1 h' (s1.toks+1) hst1 (Nat.le_add_right _ _) λ c hc o e=>(sb.2 c (λ z:c=Sa=>hSf (z▸hc))).trans e;refine zD1 ⟨plainId_quiet F.plain_set_update_loop _,ih (i+1) _ xs' (by omega) hlt fr S' (hU.step hr hx) λ s2 xs2 hm2 S2 U2=>?_⟩;refine hR s2 xs2 (Moved.trans W.gtrans ((hm.mono more).then_heap (Nat.le_add_right _ _) λ c o hc e=>?_) hm2) S2 U2;exact (sb.2 c (λ z=>hc (z▸zMc))).trans e
end
section
variable {prog:Program}{w:World}{A:Around}{E:Value->Shared->Prop}{s:Shared}
def Ud {h:Heap}{a:Addr}(ho:h.get? a=some (xG w)):uJ prog w h a [] (uA w):=
 ⟨⟨#[],0,_,ho,rfl,⟨.inl rfl,rfl,rfl,.nil,λ j hj=>(by cases hj),λ i g j hg=>(by cases hg)⟩,rfl,rfl,by show 0*5<7*3;omega⟩,.nil⟩
set_option maxRecDepth 100000 in
set_option maxHeartbeats 6400000 in
def Np {l:Addr}{its:Array Value}{ns:List Int}{Q:Value->Shared->Prop}(hh:A.handled=none) (hl:s.heap.IsList l its) (hT:Nums its ns) (hn:its.size<70)
  (h:∀ (h':Heap) (tk:Nat) xs,uJ prog w h' s.heap.objs.size xs (uA w)->rY its ns its.size xs->(∀ b o,b<s.heap.objs.size->s.heap.get? b=some o->h'.get? b=some o)->Q (.ref s.heap.objs.size) { s with heap:=h',toks:=tk }):
  wpAny (model prog w) A (call (.type "set") [.ref l]) Q E s:=by
 obtain⟨c,tl,hmro⟩:=F.called_set.mro;have made:=F.called_set.made;have subm:=F.called_set.sub;refine wpAny_call (codeAny_of_tree ?_);show wpAny _ _ (callAny (.type "set") _) _ _ _;refine zD1 ⟨Code.quiet_builtin _ (by decide +kernel),codeAny_builtin F.entry_type_call ?_⟩;rw[Around.under_plain (weight_type_call_type "set" [.ref l] []) rfl];have nt:=F.called_set.notType;have cc:=F.called_set.canCreate;have tc:=F.typeCall_set_1 (.ref l)
 repeat (any_goals (first | assumption | wp_step))
 refine codeAny_mono (YT (.ref l) (E:=E) (Q:=λ obj s₁=>obj=.ref s.heap.objs.size/\s₁={ s with heap:=s.heap.push (xG w) }) ⟨rfl,rfl⟩) λ r s₁ hr=>?_;cases r with
 | error e=>exact hr
 | ok fl=>
  cases fl with
  | ret obj=>
   obtain⟨rfl,rfl⟩:=hr;have hS:(s.heap.push (xG w)).get? s.heap.objs.size=some (xG w):=zA9 _ rfl;have hTy:Shared.TypeIs { s with heap:=s.heap.push (xG w) } (.ref s.heap.objs.size) "set":=⟨_,hS,rfl⟩
   have li:=F.called_set.init.lookup;have bi:=F.called_set.init.bind (.ref s.heap.objs.size)
   repeat (any_goals (first | assumption | wp_step))
   let s1:Shared:={ s with heap:=s.heap.push (xG w) }
   refine codeAny_mono (codeAny_call_builtin (R:=wants (λ r s₂=>r=.none/\∃ h' tk xs,s₂={ s with heap:=h',toks:=tk }/\uJ prog w h' s.heap.objs.size xs (uA w)/\rY its ns its.size xs/\
     ∀ b o,b<s.heap.objs.size->s.heap.get? b=some o->h'.get? b=some o) E) F.called_set.init.plain F.entry_set_init (check_set_init_1 hTy ?_)) λ r₂ s₂ hr₂=>?_
   .obtain⟨⟨ocls,odict,odata,oslots⟩,hol,hcl,nl,hdl⟩:=id hl;simp only at hcl hdl;subst hcl hdl;have hol1:(s.heap.push (xG w)).get? l=some { cls:=.type "list",dict:=odict,data:=.seq its nl,slots:=oslots }:=zHp _ hol;have sls:=F.sub_list_set;have slf:=F.sub_list_frozenset;have nd:(Value.type "list" == Value.type "dict")=false:=by decide
    have hl1:(s.heap.push (xG w)).IsList l its:=⟨_,hol1,rfl,nl,rfl⟩
    unfold Builtin.«set.__init__» noKeywords Builtin.Frozenset.updateFrom;generalize hPI:pyIter=PI;unfold xG at *
    wp_walk
    subst hPI;refine wpAny_pyIter_list hl1 (zWb (wpAny_runValue ?_));have hlS:l<s.heap.objs.size:=zA8 hol;have hsz:(s.heap.push (xG w)).objs.size=s.heap.objs.size+1:=Heap.size_push _ _;have hneI:l≠(s.heap.push (xG w)).objs.size:=by rw[hsz];exact zB3 (Nat.lt_succ_of_lt hlS)
    have szne:s.heap.objs.size≠(s.heap.push (xG w)).objs.size:=by rw[hsz];exact zB3 (zE2 _)
    have low:∀ b:Addr,b<s.heap.objs.size->b≠(s.heap.push (xG w)).objs.size:=λ b hb=>by rw[hsz];exact zB3 (Nat.lt_succ_of_lt hb)
    refine QA (A:=A.in1.in1) (P:=λ i v=>its[i]?=some v) ((Walks.list (A:=A.in1.in1.in1) (by simp[hh]) _ l hneI its).toS) s.heap.objs.size ?_ (its:=its) (ns:=ns) (λ _ _ q=>q) hn (uA w) hT its.size 0 _ [] (by omega) (zD4 _)
     ⟨⟨_,zA9 _ rfl,rfl,rfl⟩,hl1.push _⟩ (Ud (w:=w) (zHp _ hS)) ⟨λ e he=>(by cases he),λ j r hj=>(by omega)⟩ ?_
    .intro hm;rcases zA5.mp hm with q | q
     .exact szne q
     .exact Nat.ne_of_gt hlS (zB6.mp q)
    .intro s' xs' hm S' U';obtain⟨h',g',d',tk',os'⟩:=s';obtain rfl:g'=s.gens:=hm.gens;obtain rfl:d'=s.drawn:=hm.drawn;obtain rfl:os'=s.os:=hm.os;refine zD1 (zD1 ⟨rfl,h',tk',xs',rfl,S',U',λ b o hb e=>?_⟩);refine hm.heap b o (λ q=>?_) (zHp _ (zHp _ e));rcases zA5.mp q with q | q
     .exact zB3 hb q
     .exact low b hb (zB6.mp q)
   .cases r₂ with
    | error e=>exact hr₂
    | ok fl₂=>
     cases fl₂ with
     | ret r=>
      obtain⟨rfl,h',tk,xs,rfl,g1,g2,g3⟩:=hr₂
      repeat (any_goals (first | assumption | wp_step))
      exact h h' tk xs g1 g2 g3
     | _=>exact hr₂.elim
  | _=>exact hr.elim
end
end ST
namespace L4
open PySem PyProof.Rows
def OU {prog:Program}{w:World}{A:Around}{E:Value->Shared->Prop}{s:Shared}{vs:List Value}{ns:List Int}(hI:IntsAre vs ns) (h2:2<=vs.length) (h64:vs.length<64):
  Core prog w A E vs (λ out=>∃ ns',IntsAre out.toList ns'/\ns'.Perm ns/\ns'.Pairwise (·<=·)) s:=by
 obtain⟨v1,v2,rest,rfl⟩:∃ v1 v2 rest,vs=v1::v2::rest:=by
  match vs,h2 with
  | v1::v2::rest,_=>exact⟨v1,v2,rest,rfl⟩
 unfold Core;rw[keyKind_ints hI];refine zD1 ⟨rfl,?_⟩;refine wpAny_mono (wpS_sortRuns (a₀:=pairsOf (v1::v2::rest)) (st:=SortSt.mk' oneType' ((v1::v2::rest).toArray.zip (v1::v2::rest).toArray) #[] 7 none)
   (Q:=λ _ st'=>(arrOf st').Perm (pairsOf (v1::v2::rest))/\failedOf st'=none/\SortedTo (arrOf st') (pairsOf (v1::v2::rest)).size)
   hI.intKeys ⟨Array.Perm.refl _,rfl,rfl,rfl⟩ (by rw[pairsOf_size];simp) (by rw[pairsOf_size];exact h64) λ st' a1 a2 a3=>⟨a1,a2,a3⟩) ?_ λ _ _ e=>e
 rintro⟨⟨⟩,st'⟩ s' ⟨rfl,hp,hf,hs⟩;exact⟨rfl,hf,sorted_out hI hp hs,by rw[hp.size_eq,pairsOf_size]⟩
end L4
namespace L5
open PySem PySem.Spec L2 L3
open PyProof.Rows hiding St
structure Bq (mg:Str->Option Value):Prop where
 set:mg "set"=none
 zip:mg "zip"=none
 enumerate:mg "enumerate"=none
section
variable {X:Cx}{K:zFr}{a b c e:Expr}{es:List Expr}{ta tb tc te:zI}{tA:yQ}{pos p:Pos}{fa fb fc:Ev->Option T}
def n5 (f g:xx) (ta tb tc:zI):zI:=fun L S Q=>ta L S λ x S1=>tb L S1 λ y S2=>f x y S2 λ z S3=>match z with
 | .bl k=>if k=true then tc L S3 λ w S4=>g y w S4 Q else Q (.bl false) S3
 | _=>False
def n5.mo {f g:xx}(hf:wI f) (hg:wI g) (ha:yA ta) (hb:yA tb) (hc:yA tc):yA (n5 f g ta tb tc):=fun L S Q Q' hq h=>
 ha L S _ _ (λ x S1 h=>hb L S1 _ _ (λ y S2 h=>hf x y S2 _ _ (λ z S3 h=>by
  cases z <;> first
   | exact vR (hc L S3 _ _ λ w S4 h=>hg y w S4 _ _ hq h) (hq _ _) h
   | exact h) h) h) h
def Vf {f g:xx}{r r':R2}(hr:wo K f r) (hr':wo K g r') (hf:wI f) (hg:wI g) (ha:yA ta) (hb:yA tb) (hc:yA tc) {B:St}{H:Hp}{Q:VK}(h:yd K (n5 f g ta tb tc) B H Q):bx r r' (yd K ta) (yd K tb) (yd K tc) B H Q:=by
 obtain⟨L,S,r1,r2,h⟩:=h;refine yd.go ha r1 r2 h λ x S1 v H1 h1 q1 e1 p1=>?_;refine yd.go hb (r1.ext e1) p1 h1 λ y S2 w H2 h2 q2 e2 p2=>?_;refine hr v w x y H2 S2 _ (zo.ext e2 x q1) q2 p2 (hf x y S2 _ _ (λ d S3 z v3 H3 q3 e3 p3=>?_) h2);cases d with
 | bl k=>
  simp only[zo] at q3;refine⟨k,q3,vR (λ z=>?_) (λ z=>?_) z⟩
  .refine yd.go hc (r1.ext ((e1.trans e2).trans e3)) p3 z λ w4 S4 v4 H4 h4 q4 e4 p4=>?_;exact hr' w v4 y w4 H4 S4 Q (zo.ext (e3.trans e4) y q2) q4 p4 (hg y w4 S4 _ _ (λ d S' z=>z.ext (((e1.trans e2).trans e3).trans e4)) h4)
  .exact z _ H3 (by simp only[zo]) ((e1.trans e2).trans e3) p3
 | zp=>exact z.elim
 | int _=>exact z.elim
 | str _=>exact z.elim
 | tup _=>exact z.elim
 | xm _=>exact z.elim
 | ref _=>exact z.elim
@[simp] noncomputable def Xe (f g:T->T->Option T) (fa fb fc:Ev->Option T):Ev->Option T:=fun J=>(fa J).bind λ x=>(fb J).bind λ y=>(f x y).bind λ b=>match b with
 | .bl k=>if k=true then (fc J).bind λ z=>g y z else some (.bl false)
 | _=>none
def Qc {f g:T->T->Option T}{F G:xx}(hf:Good2 zV f F) (hg:Good2 zV g G) (ha:yN fa ta) (hb:yN fb tb) (hc:yN fc tc):wj (Xe f g fa fb fc) (n5 F G ta tb tc):=λ S Z L J y Q hE e hq=>by
 obtain⟨x1,e1,e⟩:=zOb e;obtain⟨x2,e2,e⟩:=zOb e;obtain⟨b,e3,e⟩:=zOb e;refine ha S Z L J x1 _ hE e1 λ d1 S1 s1 r1=>?_;refine hb S1 Z L J x2 _ (hE.grow s1) e2 λ d2 S2 s2 r2=>?_;refine hf S2 Z x1 x2 b d1 d2 _ (hE.grow (s1.trans s2)).zd (Vw.grow r1 s2) r2 e3 λ c S3 s3 r3=>?_;split at e
 .have:=r3.1;simp only[Sn] at this;subst this;split at e
  .rename_i hk;obtain⟨x4,e4,e5⟩:=zOb e;dsimp only;rw[if_pos hk];refine hc S3 Z L J x4 _ (hE.grow ((s1.trans s2).trans s3)) e4 λ d4 S4 s4 r4=>?_;exact hg S4 Z x2 x4 y d2 d4 Q (hE.grow (((s1.trans s2).trans s3).trans s4)).zd (Vw.grow r2 (s3.trans s4)) r4 e5 λ c' S5 s5 r5=>hq c' S5 ((((s1.trans s2).trans s3).trans s4).trans s5) (Cl.cl (((s1.trans s2).trans s3).trans s4) r5)
  .rename_i hk;dsimp only;rw[if_neg hk];cases e;exact hq _ S3 ((s1.trans s2).trans s3) (Cl.of (λ _=>nofun) vB)
 .cases e
def SF {op op':CmpOp}{f g:xx}{r r':R2}(ho:y9 X (compareOp op) r) (ho':y9 X (compareOp op') r') (hr:wo X.K f r) (hr':wo X.K g r') (hf:wI f) (hg:wI g) (ha:PD X a ta) (hb:PD X b tb) (hc:PD X c tc)
  (hm:lastMarks [op,op'] [b,c]=false:=by with_unfolding_all rfl):PD X (.Compare a [op,op'] [b,c] pos) (n5 f g ta tb tc):=
 ⟨n5.mo hf hg ha.mo hb.mo hc.mo,PE.imp (TX ho ho' ha.pe hb.pe hc.pe hm) λ _ _ _ h=>Vf hr hr' hf hg ha.mo hb.mo hc.mo h⟩
end
end L5
namespace L2
open PySem PySem.Spec PyProof.Rows
section
variable {X:Cx}
def Rc:y9 X (compareOp .Is) (λ x y H Q=>∃ c d,x=.bl c/\y=.bl d/\Q (.bl (c == d)) H):=by
 intro pins s B H x y v u Q I rx ry h;obtain⟨c,d,rfl,rfl,q⟩:=h;cases rx;cases ry;exact is_bool ⟨.bl _,H,I,rfl,q⟩
def aU:y9 X (compareOp .IsNot) (λ x y H Q=>∃ c d,x=.bl c/\y=.bl d/\Q (.bl (c != d)) H):=by
 intro pins s B H x y v u Q I rx ry h;obtain⟨c,d,rfl,rfl,q⟩:=h;cases rx;cases ry;exact isnot_bool ⟨.bl _,H,I,rfl,q⟩
end
end L2
namespace L5
open PySem PySem.Spec L2 L3
open PyProof.Rows hiding St
section
variable {X:Cx}{K:zFr}{a b c e o i v:Expr}{es:List Expr}{ta tb tc te td ty tv:zI}{tA:yQ}{pos p pos':Pos}{fa fb fc:Ev->Option T}
def uE:xx:=λ x y S Q=>match x,y with
 | .int i,.int j=>Q (.bl (decide (i<j))) S
 | .tup ds,.tup es=>∃ ns ms:List Int,ds=ns.map D.int/\es=ms.map D.int/\Q (.bl (HT.lexLt ns ms)) S
 | _,_=>False
noncomputable def yV:T->T->Option T
 | .int i,.int j=>some (.bl (decide (i<j)))
 | .tup ts,.tup us=>(uW ts).bind λ ns=>(uW us).map λ ms=>.bl (HT.lexLt ns ms)
 | _,_=>none
def uE.mo:wI uE:=λ x y S Q Q' hq h=>by
 unfold uE at h ⊢;split at h
 .exact hq _ _ h
 .obtain⟨ns,ms,h1,h2,h3⟩:=h;exact⟨ns,ms,h1,h2,hq _ _ h3⟩
 .exact h.elim
def uE.fits:wo K uE (λ x y H Q=>vN (λ i j=>.bl (decide (i<j))) x y H Q\/gZ K x y H Q):=λ x y d e H S Q h1 h2 h3 h=>by
 unfold uE at h;split at h
 .simp only[zo] at h1 h2;exact .inl ⟨_,_,h1,h2,h _ H (by simp only[zo]) (.refl H) h3⟩
 .obtain⟨ns,ms,rfl,rfl,h⟩:=h;simp only[zo] at h1 h2;obtain⟨a,xs,rfl,g1,g2⟩:=h1;obtain⟨b,ys,rfl,g3,g4⟩:=h2;rw[g2.ints] at g1;rw[g4.ints] at g3;exact .inr ⟨a,b,ns,ms,rfl,rfl,g1,g3,h _ H (by simp only[zo]) (.refl H) h3⟩
 .exact h.elim
def sH:Good2 zV yV uE:=λ S Z x y z d e Q hz hx hy ef hq=>by
 unfold yV at ef;split at ef
 .cases ef;cases hx.int;cases hy.int;exact hq _ S (.refl S) (Cl.of (λ _=>nofun) vB)
 .obtain⟨ns,e1,e2⟩:=zOb ef;obtain⟨ms,e3,rfl⟩:=zOm e2;cases lh e1;cases lh e3;obtain⟨ds,rfl,h2⟩:=hx.tup;obtain⟨es,rfl,h4⟩:=hy.tup;exact⟨ns,ms,rB.mp h2,rB.mp h4,hq _ S (.refl S) (Cl.of (λ _=>nofun) vB)⟩
 .cases ef
def aV {k:Nat}(hr:y_ k X.A):y9 X (compareOp .Lt) (λ x y H Q=>vN (λ i j=>.bl (decide (i<j))) x y H Q\/gZ X.K x y H Q):=Ra.or (S_ (by have:=hr.units;omega))
def Su {k:Nat}(hr:y_ k X.A) (ha:PD X a ta) (hb:PD X b tb):PD X (.Compare a [.Lt] [b] pos) (yK uE ta tb):=fx (aV hr) uE.fits uE.mo ha hb (tH _)
def rH {k:Nat}(hr:y_ k X.A) (ha:PD X a ta) (hb:PD X b tb):w6 X (.Compare a [.Lt] [b] pos) (ud (yK uE ta tb)):=rJ (aV hr) uE.fits uE.mo ha hb (tH _)
def wV (neg:Bool):xx:=λ x y S Q=>match x,y with
 | .bl c,.bl d=>Q (.bl (cond neg (c != d) (c == d))) S
 | x,.zp=>Q (.bl (cond neg (!nj x) (nj x))) S
 | _,_=>False
noncomputable def xI (neg:Bool):T->T->Option T
 | .bl c,.bl d=>some (.bl (cond neg (c != d) (c == d)))
 | x,.zp=>some (.bl (cond neg (!isNone x) (isNone x)))
 | _,_=>none
def wV.mo {neg:Bool}:wI (wV neg):=λ x y S Q Q' hq h=>by
 unfold wV at h ⊢;split at h
 .exact hq _ _ h
 .exact hq _ _ h
 .exact h.elim
def wV.fits:wo K (wV false) (λ x y H Q=>(∃ c d,x=.bl c/\y=.bl d/\Q (.bl (c == d)) H)\/(y=.zp/\Q (.bl (decide (x=.zp))) H)):=λ x y d e H S Q h1 h2 h3 h=>by
 unfold wV at h;split at h
 .simp only[zo] at h1 h2;exact .inl ⟨_,_,h1,h2,h _ H (by simp only[zo,cond]) (.refl H) h3⟩
 .simp only[zo] at h2;refine .inr ⟨h2,?_⟩;rw[ZK h1];exact h _ H (by simp only[zo,cond]) (.refl H) h3
 .exact h.elim
def wV.Yl:wo K (wV true) (λ x y H Q=>(∃ c d,x=.bl c/\y=.bl d/\Q (.bl (c != d)) H)\/(y=.zp/\Q (.bl (!decide (x=.zp))) H)):=λ x y d e H S Q h1 h2 h3 h=>by
 unfold wV at h;split at h
 .simp only[zo] at h1 h2;exact .inl ⟨_,_,h1,h2,h _ H (by simp only[zo,cond]) (.refl H) h3⟩
 .simp only[zo] at h2;refine .inr ⟨h2,?_⟩;rw[ZK h1];exact h _ H (by simp only[zo,cond]) (.refl H) h3
 .exact h.elim
def Pg {S:SS}{Z:Addr->Prop}{x:T}{d:D}(hx:Vw S Z x d):nj d=isNone x:=by
 cases x with
 | zp=>cases hx.zp;rfl
 | bl _=>cases hx.bl;rfl
 | int _=>cases hx.int;rfl
 | str _=>cases hx.str;rfl
 | tup _=>obtain⟨ds,rfl,_⟩:=hx.tup;rfl
 | lst _=>obtain⟨ds,rfl | ⟨a,rfl,h1⟩,h2⟩:=hx.lst <;> rfl
 | yo=>obtain⟨a,kvs,rfl,h1⟩:=hx.yo;rfl
def pU {neg:Bool}:Good2 zV (xI neg) (wV neg):=λ S Z x y z d e Q hz hx hy ef hq=>by
 unfold xI at ef;split at ef
 .cases ef;cases hx.bl;cases hy.bl;exact hq _ S (.refl S) (Cl.of (λ _=>nofun) vB)
 .cases ef;cases hy.zp;have key:Q (.bl (cond neg (!nj d) (nj d))) S:=by
   rw[Pg hx];exact hq _ S (.refl S) (Cl.of (λ _=>nofun) vB)
  unfold wV;cases d <;> exact key
 .cases ef
def aJ (ha:PD X a ta) (hb:PD X b tb):PD X (.Compare a [.IsNot] [b] pos) (yK (wV true) ta tb):=fx (aU.or aR) wV.Yl wV.mo ha hb (tH _)
def jb (ha:PD X a ta) (hb:PD X b tb):w6 X (.Compare a [.Is] [b] pos) (ud (yK (wV false) ta tb)):=rJ (Rc.or Rb) wV.fits wV.mo ha hb (tH _)
def Se (ha:PD X a ta) (hb:PD X b tb):w6 X (.Compare a [.IsNot] [b] pos) (ud (yK (wV true) ta tb)):=rJ (aU.or aR) wV.Yl wV.mo ha hb (tH _)
def YK (td ty tv:zI):xC:=λ E L S=>tv L S λ v S1=>td L S1 λ x S2=>ty L S2 λ y S3=>∃ p ds k j,x=.ref p/\y=.int k/\S3 p=some (.lst ds)/\vw ds.length k=some j/\E.nx L (ups S3 p (.lst (ds.set j v)))
theorem zx.set {H:Hp}{d:D}{x:V}(h:zo K H d x):∀ {ds:List D}{xs:List V}(j:Nat),zx K H ds xs->zx K H (ds.set j d) (xs.set j x)
 | [],xs,j,r=>by simp only[zx] at r;subst r;exact .nil
 | c::ds,xs,0,r=>by
  simp only[zx] at r;obtain⟨y,ys,rfl,_,r2⟩:=r;exact .cons h r2
 | c::ds,xs,j+1,r=>by
  simp only[zx] at r;obtain⟨y,ys,rfl,r1,r2⟩:=r;exact .cons r1 (zx.set h j r2)
def fq (ho:PD X o td) (hi:PD X i ty) (hv:PD X v tv) (hs:swapsWithSole [.Subscript o i pos'] v pos.line X.env=pure false:=by rfl) (hw:swappedStores [.Subscript o i pos'] v X.env=pure none:=by rfl)
  (h1:(assignEach [.Subscript o i pos'] X.env).map (·.2)=[assign (.Subscript o i pos') X.env]:=by rfl)
  (ha:∀ v,assign (.Subscript o i pos') X.env v=(do
   let ov <- holding [v] (eval o X.env)
   let iv <- holding [v,ov] (eval i X.env)
   standAt pos'
   holding [v,ov,iv] (setItem ov iv v)
   release [v,ov,iv] []):=by intro _;rfl):uk X (.Assign [.Subscript o i pos'] v pos) (YK td ty tv):=by
 refine⟨λ E E' L S hE z=>hv.mo L S _ _ (λ w S1 z=>ho.mo L S1 _ _ (λ x S2 z=>hi.mo L S2 _ _ (λ y S3 ⟨p,ds,k,j,a,b,c,d,h⟩=>⟨p,ds,k,j,a,b,c,d,hE.nx _ _ h⟩) z) z) z,PS.imp (az hv.pe (Tv ho.pe hi.pe set_list ha) hs hw h1) λ D B H hu=>?_⟩;obtain⟨L,S,r1,r2,z⟩:=hu;refine yd.go hv.mo r1 r2 z λ w S1 w1 H1 h1 q1 e1 p1=>?_;refine yd.go ho.mo (r1.ext e1) p1 h1 λ x S2 w2 H2 h2 q2 e2 p2=>?_;refine yd.go hi.mo ((r1.ext e1).ext e2) p2 h2 λ y S3 w3 H3 h3 q3 e3 p3=>?_;obtain⟨p,ds,k,j,rfl,rfl,c1,c2,h⟩:=h3;simp only[zo] at q2 q3;subst q2 q3;obtain⟨xs,g1,g2⟩:=p3 _ _ c1;have e4:Ext H3 (upd H3 p (.lst (xs.set j w1))):=.lst g1 _;refine⟨p,xs,k,j,rfl,rfl,g1,by rw[<- g2.length];exact c2,?_⟩;exact h B _ ((((r1.ext e1).ext e2).ext e3).ext e4) (((e1.trans e2).trans e3).trans e4) (p3.ups e4 ⟨_,xl,zx.ext e4 _ (zx.set (zo.ext (e2.trans e3) w q1) j g2)⟩)
@[simp] noncomputable def jv (n:Nat) (f v:Ev->Option T):Sm:=fun J=>(v J).bind λ z=>(f J).bind λ y=>match J[n]?,y with
 | some (some (.own (.lst ts))),.int k=>(vw ts.length k).map λ j=>.nx (J.set n (some (.own (.lst (ts.set j z)))))
 | _,_=>none
def fB {R:Rk}(n:Nat) {f v:Ev->Option T}(hf:yN f ty) (hv:um v tv):xD R (jv n f v) (YK (xi n) ty tv):=λ S0 Z0 S Z L J o E F e P=>by
 obtain⟨z,e1,e⟩:=zOb e;obtain⟨x,e2,e3⟩:=zOb e;split at e3
 .rename_i ts k h;obtain⟨j,hj,rfl⟩:=zOm e3;refine hv S Z L J z _ F.er e1 λ dz S1 s1 r1=>?_;have F1:=F.grow s1;obtain⟨p,ob,h1,h2,h3,h4⟩:=F1.er.ow n _ h;cases ob with
  | y6 _=>exact h3.elim
  | lst ds=>
   show xi n L S1 _;unfold xi;rw[h1];refine hf S1 Z L J _ _ F1.er e2 λ d S2 s2 r2=>?_;cases Vw.int r2;have h5:zu (yk S2 Z) ts ds:=zu.sx (vG s2) ts h3;exact⟨p,ds,k,j,rfl,rfl,s2 _ _ h2,by rw[h5.len];exact hj,P _ Z L ((F1.grow s2).mut (us:=.lst (ts.set j z)) (es:=.lst (ds.set j dz)) n h h1 (h5.bK j (Sn.sx (vG s2) z r1)))⟩
 .cases e3
def aL {x y:Str}{u:Value}(hm:X.mg x=some u) (r:RelV (.str y) u) (hg:Gl X x:=by rfl) (hd:(x == ("__debug__":Str))=false:=by decide):PD X (.Name x pos) (dC (.str y)):=mM (TN hg hm r hd) λ _=>by simp only[zo]
end
end L5
namespace ZP
open PySem PyProof.Rows
noncomputable def ei (k:Bool):String:=cond k "tuple_iterator" "list_iterator"
def SI (h:Heap) (k:Bool) (it l:Addr) (i:Nat):Prop:=∃ o,h.get? it=some o/\o.cls=.type (ei k)/\o.data=.fields #[.ref l,.int i 0]
def SQ (h:Heap) (k:Bool) (l:Addr) (xs:Array Value):Prop:=match k with
 | true=>h.IsTuple l xs
 | false=>h.IsList l xs
def SI.on {h h':Heap}{k:Bool}{it l:Addr}{i:Nat}(x:SI h k it l i) (f:∀ o,h.get? it=some o->h'.get? it=some o):SI h' k it l i:=
 let ⟨o,ho,r⟩:=x;⟨o,f o ho,r⟩
def SQ.on {h h':Heap}{k:Bool}{l:Addr}{xs:Array Value}(x:SQ h k l xs) (f:∀ o,h.get? l=some o->h'.get? l=some o):SQ h' k l xs:=by
 cases k with
 | true=>obtain⟨o,ho,r⟩:=(show h.IsTuple l xs from x);exact⟨o,f o ho,r⟩
 | false=>obtain⟨o,ho,r⟩:=(show h.IsList l xs from x);exact⟨o,f o ho,r⟩
def SQ.lt {h:Heap}{k:Bool}{l:Addr}{xs:Array Value}(x:SQ h k l xs):l<h.objs.size:=by
 cases k with
 | true=>obtain⟨o,ho,_⟩:=(show h.IsTuple l xs from x);exact zA8 ho
 | false=>obtain⟨o,ho,_⟩:=(show h.IsList l xs from x);exact zA8 ho
theorem SQ.cls {h:Heap}{k:Bool}{l:Addr}{xs:Array Value}(x:SQ h k l xs):∃ o,h.get? l=some o/\o.cls=.type (cond k "tuple" "list"):=by
 cases k with
 | true=>obtain⟨o,ho,c,_⟩:=(show h.IsTuple l xs from x);exact⟨o,ho,c⟩
 | false=>obtain⟨o,ho,c,_⟩:=(show h.IsList l xs from x);exact⟨o,ho,c⟩
section
variable {prog:Program}{w:World}{A:Around}{E:Value->Shared->Prop}{s:Shared}
def made {k:Bool}{l:Addr}{xs:Array Value}{Q:Value->Shared->Prop}(hl:SQ s.heap k l xs)
  (hQ:Q (.ref s.heap.objs.size) { s with heap:=s.heap.push { cls:=.type (ei k),data:=.fields #[.ref l,.int 0 0] } }):wpAny (model prog w) A (pyIter (.ref l)) Q E s:=by
 cases k with
 | true=>exact wpAny_pyIter_tuple hl hQ
 | false=>exact wpAny_pyIter_list hl hQ
def O4 {it l:Addr}{i:Nat}{xs:Array Value}{x:Value}{Q:Value->Shared->Prop}(hit:s.heap.IsTupleIter it l i) (hl:s.heap.IsTuple l xs) (hx:xs[i]?=some x)
  (hQ:∀ h',h'.IsTupleIter it l (i+1)->Heap.SameBut it s.heap h'->Q x { s with heap:=h' }):wpAny (model prog w) A (Builtin.SmallTypes.nextOf (.ref it)) Q E s:=by
 have ht:=hit.typeIs;obtain⟨oi,e1,e2,e3⟩:=id hit;obtain⟨ol,g1,_,n,g2⟩:=hl;refine zWb (wpAny_callSpecial?_slot (name:=Str.ofString "__next__") ht F.slot_tuple_iterator_next (wpAny_call_entry F.slot_tuple_iterator_next ht F.entry_tuple_iterator_next ?_ (F.args_tuple_iterator_next_1 _)));refine zWb (m:=field (.ref it) 0) (wpAny_field e1 e3 (x:=.ref l) rfl ?_);dsimp only;rw[if_neg (show ¬ ((Value.ref l == Value.none)=true) from Bool.false_ne_true)];refine zWb (m:=field (.ref it) 1) (wpAny_field e1 e3 (x:=.int i 0) rfl ?_);dsimp only;refine zWb (m:=seqItems? (.ref l)) (wpAny_seqItems g1 g2 ?_);simp only[Int.toNat_natCast,hx];have there:=Heap.get?_update_self (Obj.mapFields λ y=>y.setIfInBounds 1 (rawInt ((i:Int)+1))) e1 (Obj.isFreed_of_fields (Obj.data_mapFields e3 _));refine zWb (wpAny_setField e1 e3 (by simp) (zD1 ⟨x,rfl,zD1 (hQ _ ⟨_,there,(Obj.cls_mapFields ..).trans e2,?_⟩ (Heap.SameBut.update ..))⟩));rw[Obj.data_mapFields e3];simp[rawInt]
def Ow {it l:Addr}{i:Nat}{xs:Array Value}{Q:Value->Shared->Prop}(hh:A.handled=none) (hit:s.heap.IsTupleIter it l i) (hl:s.heap.IsTuple l xs) (hx:xs[i]?=none)
  (hE:∀ h' e,Heap.ExtBut it s.heap h'->(∃ o,h'.get? e=some o/\o.cls=.type "StopIteration")->E (.ref e) { s with heap:=h' }):wpAny (model prog w) A (Builtin.SmallTypes.nextOf (.ref it)) Q E s:=by
 have ht:=hit.typeIs;obtain⟨oi,e1,e2,e3⟩:=id hit;obtain⟨ol,g1,_,n,g2⟩:=hl;refine zWb (wpAny_callSpecial?_slot (name:=Str.ofString "__next__") ht F.slot_tuple_iterator_next (wpAny_call_entry F.slot_tuple_iterator_next ht F.entry_tuple_iterator_next ?_ (F.args_tuple_iterator_next_1 _)));refine zWb (m:=field (.ref it) 0) (wpAny_field e1 e3 (x:=.ref l) rfl ?_);dsimp only;rw[if_neg (show ¬ ((Value.ref l == Value.none)=true) from Bool.false_ne_true)];refine zWb (m:=field (.ref it) 1) (wpAny_field e1 e3 (x:=.int i 0) rfl ?_);dsimp only;refine zWb (m:=seqItems? (.ref l)) (wpAny_seqItems g1 g2 ?_);simp only[Int.toNat_natCast,hx];refine zWb (wpAny_rule (zWb (wpAny_setField e1 e3 (by simp) ?_)));refine zWb (m:=newExc (.type "StopIteration") []) ?_;simp only[newExc,newTuple];refine zWb (wpAny_newObj_type (zWb (m:=firstArgMember _ _) (wpAny_of_eq (a:=Value.none) (by first | rfl | (simp only[firstArgMember];rfl)) (wpAny_newObj_type ?_ (by size_fits)))) (by size_fits));simp only[raiseNew];refine zWb (wpAny_handled ?_);rw[show A.in1.handled=none from hh];exact zWb (zD1 (wpAny_throw (hE _ _ (((Heap.SameBut.update ..).extBut.push _).push _) ⟨_,zA9 _ rfl,rfl⟩)))
def draw {k:Bool}{it l:Addr}{i:Nat}{xs:Array Value}{x:Value}{Q:Value->Shared->Prop}(hit:SI s.heap k it l i) (hl:SQ s.heap k l xs) (hx:xs[i]?=some x)
  (hQ:∀ h',SI h' k it l (i+1)->Heap.SameBut it s.heap h'->Q x { s with heap:=h' }):wpAny (model prog w) A (Builtin.SmallTypes.nextOf (.ref it)) Q E s:=by
 cases k with
 | true=>exact O4 hit hl hx hQ
 | false=>exact wpAny_nextOf_list_item hit hl hx hQ
def Y2 {k:Bool}{it l:Addr}{i:Nat}{xs:Array Value}{Q:Value->Shared->Prop}(hh:A.handled=none) (hit:SI s.heap k it l i) (hl:SQ s.heap k l xs) (hx:xs[i]?=none)
  (hE:∀ h' e,Heap.ExtBut it s.heap h'->(∃ o,h'.get? e=some o/\o.cls=.type "StopIteration")->E (.ref e) { s with heap:=h' }):wpAny (model prog w) A (Builtin.SmallTypes.nextOf (.ref it)) Q E s:=by
 cases k with
 | true=>exact Ow hh hit hl hx hE
 | false=>exact wpAny_nextOf_list_end hh hit hl hx hE
end
abbrev lb (k:Bool) (l:Addr):Obj:={ cls:=.type (ei k),data:=.fields #[.ref l,.int 0 0] }
section
variable {prog:Program}{w:World}{A:Around}{E:Value->Shared->Prop}{s:Shared}
end
end ZP
namespace L2
open PySem PySem.Spec PyProof.Rows ZP
section
variable {X:Cx}{pins:List (Addr×Obj)}{B:St}{H:Hp}{s:Shared}
def Inv.bq {h':Heap}{t':Nat}{fp:List Addr}(I:Inv X pins B H s) (k:∀ b o,b∉fp->s.heap.get? b=some o->h'.get? b=some o) (hf:∀ b∈fp,uN X pins H b):Inv X pins B H { s with heap:=h',toks:=t' }:=by
 have nit:∀ b u,H b=some u->b∉fp:=λ b u e z=>by rw[(hf b z).1] at e;cases e
 refine I.step (g':=s.gens) (d':=s.drawn) (ch:=fp) (λ b hb=>?_) (λ b o _ _ hc e _=>k b o hc e) (λ b o _ _ hc e _=>⟨o.slots,k b o hc e⟩) (λ _ _ _ _ n=>n)
  (λ b o hc e=>⟨o,k b o hc e⟩) (λ _ _ e=>e) (λ _ _ _ e=>e) (λ b ps e=>⟨#[],by rw[e];simp⟩) (λ m hm=>?_) (λ b u e=>?_) I.bare
 .obtain⟨_,q1,_,q2,q3,q4⟩:=hf b hb;exact⟨q2,q1,q3,q4⟩
 .obtain⟨o,es,ep,ho,r⟩:=hm;exact⟨o,es,ep,k _ o (λ z=>(hf _ z).2.1 rfl) ho,r⟩
 .refine (I.zM b u e).rq (λ c v hc q=>k c v ?_ q) (λ _ q=>q) λ _ _ q=>q;rcases hc with z | z
  .rw[z];exact nit b u e
  .exact nit c _ z
def sX (K:zFr) (H:Hp) (k:Bool) (a:Addr) (xs:List V):Prop:=match k with
 | true=>yp K H a xs
 | false=>yg K H a xs
def sX.of (I:Inv X pins B H s) {k:Bool}{a:Addr}{xs:List V}(h:sX X.K H k a xs):∃ its:List Value,Vals xs its/\SQ s.heap k a its.toArray:=by
 cases k with
 | true=>obtain⟨its,rv,p,_⟩:=I.tuple h;exact⟨its,rv,p⟩
 | false=>obtain⟨its,rv,p,_⟩:=I.list h;exact⟨its,rv,p.isList⟩
def sX.inj (I:Inv X pins B H s) {k:Bool}{a:Addr}{xs ys:List V}(h:sX X.K H k a xs) (h':sX X.K H k a ys):xs=ys:=by
 cases k with
 | true=>exact I.iP h h'
 | false=>exact I.fU h h'
end
end L2
namespace L5
open PySem PySem.Spec L2 L3
open PyProof.Rows hiding St
section
variable {X:Cx}{K:zFr}{a b:Expr}{tA:yQ}{pos p pos':Pos}
noncomputable def fZ:D->Bool
 | .tup _=>true
 | _=>false
def yz.k {H:Hp}{S:SS}{d:D}{v:V}{ds:List D}(r:zo K H d v) (p:yb K H S) (e:yz d S=some ds):∃ a xs,v=.ref a/\sX K H (fZ d) a xs/\zx K H ds xs:=by
 by_cases q:∃ ts,d=.tup ts
 .obtain⟨ts,rfl⟩:=q;cases e;simp only[zo] at r;obtain⟨a,xs,h1,h2,h3⟩:=r;exact⟨a,xs,h1,h2,h3⟩
 .obtain⟨a,xs,h1,h2,h3⟩:=qu r p e λ ts z=>q ⟨ts,z⟩;refine⟨a,xs,h1,?_,h3⟩;have:fZ d=false:=by cases d <;> first | rfl | exact absurd ⟨_,rfl⟩ q
  rw[this];exact h2
end
section
variable {X:Cx}{K:zFr}{a b:Expr}{tA:yQ}{pos p pos':Pos}{es:List Expr}{kk:Nat}
def yz.sx {S S':SS}{d:D}{ds:List D}(h:yz d S=some ds) (s:Sx S S'):yz d S'=some ds:=by
 unfold yz at h ⊢;split at h
 .exact h
 .exact h
 .split at h
  .rename_i q;cases h;rw[s _ _ q]
  .cases h
 .cases h
end
end L5
namespace HT
open PySem PyProof.Rows
section
variable {prog:Program}{w:World}{A:Around}{E:Value->Shared->Prop}{s:Shared}
def OK {t sl:Addr}{items:Array Value}{vl vu:Value}{lo hi:Option Int}{Q:Value->Shared->Prop}(ht:IsTup s.heap t items) (hs:s.heap.IsSliceOf sl vl vu .none) (pl:IsPart vl lo) (pu:IsPart vu hi)
  (hw:zW items.size 0 lo=0/\zW items.size items.size hi=items.size) (h:Q (.ref t) s):wpAny (model prog w) A (getItem (.ref t) (.ref sl)) Q E s:=by
 have hT:=ht.typeIs;obtain⟨os,e1,e2,e3⟩:=id hs;have hS:s.TypeIs (.ref sl) "slice":=⟨os,e1,e2⟩
 unfold getItem
 try with_reducible refine wpAny_holding ?_
 first | refine zWb (zD1 ?_) | skip
 refine zWb (wpAny_sequenceKey hT (by decide) (zWb (wpAny_callSpecial?_slot (name:=Str.ofString "__getitem__") hT PyProof.Rows.slot_tuple_getitem (wpAny_call_entry PyProof.Rows.slot_tuple_getitem hT entry_tuple_getitem ?_ (args_tuple_getitem _ _)))));refine zWb (m:=Builtin.Tuple.tupleItemsOf (.ref t)) (tupleItemsOf_ ht (zWb (wpAny_typeOf hS ?_)));rw[if_pos (by decide)];refine zWb (bG hs pl pu ?_);have yes:(((zW items.size 0 lo:Nat):Int) == 0&&(1:Int) == 1&&(zW items.size items.size hi-zW items.size 0 lo) == items.size)=true:=by rw[hw.1,hw.2];simp
 show wpAny _ _ (if (((zW items.size 0 lo:Nat):Int) == 0&&(1:Int) == 1&&(zW items.size items.size hi-zW items.size 0 lo) == items.size)=true then _ else _) _ _ s;rw[if_pos yes];refine zWb (m:=Builtin.Tuple.tupleIsExact (.ref t)) (zWb (wpAny_typeOf hT (zD1 ?_)));rw[if_pos (by decide)]
 first
  | exact zWb (wpAny_rule (zD1 ⟨_,rfl,zD1 h⟩))
  | exact zWb (wpAny_rule (zWb (zD1 (zD1 ⟨_,rfl,zD1 h⟩))))
end
end HT
namespace L2
open PySem PySem.Spec PyProof.Rows
section
variable {X:Cx}
def af (K:zFr):V->Option Int->Option Int->Hp->VK->Prop:=λ x lo hi H Q=>∃ a xs,x=.ref a/\yp K H a xs/\(HT.zW xs.length 0 lo=0/\HT.zW xs.length xs.length hi=xs.length)/\Q (.ref a) H
def VX:qZ X (af X.K):=by
 intro pins s B H x v vl vu lo hi sl Q I rx hs pl pu h;obtain⟨a,xs,rfl,hx,hw,q⟩:=h;cases rx;obtain⟨its,r,ht,hz⟩:=I.tuple hx;have hlen:its.toArray.size=xs.length:=by rw[zA0];exact r.length.symm
 exact⟨"tuple",_,PyProof.Rows.slot_tuple_getitem.lookup,ht.typeIs,HT.OK ht hs pl pu (by rw[hlen];exact hw) ⟨.ref a,H,I,rfl,q⟩⟩
end
end L2
namespace L5
open PySem PySem.Spec L2 L3
open PyProof.Rows hiding St
noncomputable def uf {α:Type}(xs:List α) (lo hi:Option Int):List α:=(xs.drop (HT.zW xs.length 0 lo)).take (HT.zW xs.length xs.length hi-HT.zW xs.length 0 lo)
section
variable {X:Cx}{K:zFr}{e:Expr}{lo hi:Option Expr}{te:zI}{tl th:Option zI}{pos p2:Pos}
def tQ (t:Option zI):y8->SS->(Option Int->SS->Prop)->Prop:=fun L S Q=>match t with
 | none=>Q none S
 | some t=>t L S λ d S1=>match d with
  | .int i=>Q (some i) S1
  | _=>False
def X5 (t:Option zI):Prop:=∀ u,t=some u->yA u
def tQ.mo (h:X5 tl):∀ L S (Q Q':Option Int->SS->Prop),(∀ d S',Q d S'->Q' d S')->tQ tl L S Q->tQ tl L S Q':=fun L S Q Q' hq z=>by
 cases tl with
 | none=>exact hq _ _ z
 | some t=>exact h t rfl L S _ _ (λ d S1 z=>by cases d <;> first | exact hq _ _ z | exact z) z
noncomputable def Ve (K:zFr) (t:Option zI):TO:=fun B H Q=>∃ L S,xw K H L B/\yb K H S/\tQ t L S λ o S1=>∀ H1,Ext H H1->yb K H1 S1->Q o H1
structure iq (X:Cx) (e:Option Expr) (t:Option zI):Prop where
 mo:X5 t
 po:PO X e (Ve X.K t)
def aE:iq X none none:=⟨nofun,λ pins s B H Q I h=>by
 obtain⟨L,S,r1,r2,z⟩:=h;exact Te pins s B H Q I (z H (.refl H) r2)⟩
def jd (h:PD X e te):iq X (some e) (some te):=⟨λ u q=>by cases q;exact h.mo,λ pins s B H Q I hu=>by
 refine Td h.pe pins s B H Q I ?_;obtain⟨L,S,r1,r2,z⟩:=hu;refine yd.go h.mo r1 r2 z λ d S1 v H1 h1 q1 e1 p1=>?_;cases d with
 | int i=>simp only[zo] at q1;exact⟨i,q1,h1 H1 e1 p1⟩
 | zp=>exact h1.elim
 | bl _=>exact h1.elim
 | str _=>exact h1.elim
 | tup _=>exact h1.elim
 | xm _=>exact h1.elim
 | ref _=>exact h1.elim⟩
def tN (d:D) (lo hi:Option Int) (S:SS) (Q:DK):Prop:=match d with
 | .tup ds=>Q (.tup (uf ds lo hi)) S
 | d=>∃ ds,yz d S=some ds/\∀ p,S p=none->Q (.ref p) (ups S p (.lst (uf ds lo hi)))
def tN.mo {d:D}{lo hi:Option Int}{S:SS}{Q Q':DK}(hq:∀ d S',Q d S'->Q' d S') (h:tN d lo hi S Q):tN d lo hi S Q':=by
 unfold tN at h ⊢;split at h
 .exact hq _ _ h
 .obtain⟨ds,h1,h2⟩:=h;exact⟨ds,h1,λ p hp=>hq _ _ (h2 p hp)⟩
def zx.cut {H:Hp}{ds:List D}{xs:List V}(h:zx K H ds xs) (lo hi:Option Int):zx K H (uf ds lo hi) (sS xs lo hi):=by
 have hd:∀ {ds:List D}{xs:List V}(n:Nat),zx K H ds xs->zx K H (ds.drop n) (xs.drop n):=by
  intro ds
  induction ds with
  | nil=>intro xs n h;simp only[zx] at h;subst h;simpa using zx.nil
  | cons d ds ih=>
   intro xs n h;simp only[zx] at h;obtain⟨y,ys,rfl,h1,h2⟩:=h;cases n with
   | zero=>exact .cons h1 h2
   | succ n=>exact ih n h2
 have ht:∀ {ds:List D}{xs:List V}(n:Nat),zx K H ds xs->zx K H (ds.take n) (xs.take n):=by
  intro ds
  induction ds with
  | nil=>intro xs n h;simp only[zx] at h;subst h;simpa using zx.nil
  | cons d ds ih=>
   intro xs n h;simp only[zx] at h;obtain⟨y,ys,rfl,h1,h2⟩:=h;cases n with
   | zero=>exact .nil
   | succ n=>exact .cons h1 (ih n h2)
 unfold uf sS;rw[h.length];exact ht _ (hd _ h)
def OL {xs:List V}{lo hi:Option Int}(h:HT.zW xs.length 0 lo=0/\HT.zW xs.length xs.length hi=xs.length):sS xs lo hi=xs:=by
 unfold sS;rw[h.1,h.2];simp
abbrev UD (K:zFr):V->Option Int->Option Int->Hp->VK->Prop:=λ x lo hi H Q=>ah K x lo hi H Q\/(ag K x lo hi H Q\/af K x lo hi H Q)
def tN.fits {d:D}{v:V}{lo hi:Option Int}{H:Hp}{S:SS}{Q:VK}(h1:zo K H d v) (h2:yb K H S) (h:tN d lo hi S (vz K H Q)):UD K v lo hi H Q:=by
 unfold tN at h;split at h
 .simp only[zo] at h1;obtain⟨a,xs,rfl,g1,g2⟩:=h1;by_cases hw:HT.zW xs.length 0 lo=0/\HT.zW xs.length xs.length hi=xs.length
  .refine .inr (.inr ⟨a,xs,rfl,g1,hw,h _ H ?_ (.refl H) h2⟩);simp only[zo];refine⟨a,xs,rfl,g1,?_⟩;have:=zx.cut g2 lo hi;rw[OL hw] at this;exact this
  .refine .inr (.inl ⟨a,xs,rfl,g1,hw,λ p hp=>h _ _ ?_ (.new hp _) (h2.new hp)⟩);simp only[zo];exact⟨p,_,rfl,yp.of xl,zx.ext (.new hp _) _ (zx.cut g2 lo hi)⟩
 .rename_i hn;obtain⟨ds,e,h⟩:=h;obtain⟨a,xs,rfl,g1,g2⟩:=qu h1 h2 e (λ ts z=>hn ts z);exact .inl ⟨a,xs,rfl,g1,λ p hp=>h p (h2.none hp) _ _ (by simp only[zo]) (.new hp _) (h2.ups (.new hp _) ⟨_,xl,zx.ext (.new hp _) _ (zx.cut g2 lo hi)⟩)⟩
def YF (te:zI) (tl th:Option zI):zI:=fun L S Q=>te L S λ x S1=>tQ tl L S1 λ l S2=>tQ th L S2 λ u S3=>tN x l u S3 Q
def fu (he:PD X e te) (hl:iq X lo tl) (hh:iq X hi th):PD X (.Subscript e (.Slice lo hi none p2) pos) (YF te tl th):=by
 refine⟨fun L S Q Q' hq z=>he.mo L S _ _ (λ x S1 z=>tQ.mo hl.mo L S1 _ _ (λ l S2 z=>tQ.mo hh.mo L S2 _ _ (λ u S3 z=>tN.mo hq z) z) z) z,
  PE.imp (T7 (VZ.or (VY.or VX)) he.pe hl.po hh.po) fun B H Q hu=>?_⟩
 obtain⟨L,S,r1,r2,z⟩:=hu;refine yd.go he.mo r1 r2 z λ x S1 v H1 h1 q1 e1 p1=>?_;refine⟨L,S1,r1.ext e1,p1,tQ.mo hl.mo L S1 _ _ (λ l S2 h2 H2 e2 p2=>?_) h1⟩;refine⟨L,S2,(r1.ext e1).ext e2,p2,tQ.mo hh.mo L S2 _ _ (λ u S3 h3 H3 e3 p3=>?_) h2⟩;exact tN.fits (zo.ext (e2.trans e3) x q1) p3 (tN.mo (λ d S' z=>z.ext ((e1.trans e2).trans e3)) h3)
@[simp] noncomputable def dq:Option (Ev->Option T)->Ev->Option (Option Int)
 | none,_=>some none
 | some f,J=>(f J).bind λ x=>match x with
  | .int i=>some (some i)
  | _=>none
def i5 (f:Option (Ev->Option T)) (t:Option zI):Prop:=∀ S Z L J y Q,ER S Z L J->dq f J=some y->(∀ S',Sx S S'->Q y S')->tQ t L S Q
def Zc:i5 none none:=λ S Z L J y Q hE e hq=>by cases e;exact hq S (.refl S)
def jn {f:Ev->Option T}(h:yN f te):i5 (some f) (some te):=λ S Z L J y Q hE e hq=>by
 obtain⟨x,e1,e2⟩:=zOb e;refine h S Z L J x _ hE e1 λ d S1 s1 r1=>?_;split at e2
 .cases e2;cases Vw.int r1;exact hq S1 s1
 .cases e2
@[simp] noncomputable def e_ (lo hi:Option Int):T->Option T
 | .tup ts=>some (.tup (uf ts lo hi))
 | .lst ts=>some (.lst (uf ts lo hi))
 | _=>none
@[simp] noncomputable def kH (f:Ev->Option T) (lo hi:Option (Ev->Option T)):Ev->Option T:=fun J=>(f J).bind λ x=>(dq lo J).bind λ l=>(dq hi J).bind λ u=>e_ l u x
def zu.cut {S:SS}{ts:List T}{ds:List D}(h:zu S ts ds) (lo hi:Option Int):zu S (uf ts lo hi) (uf ds lo hi):=by
 unfold uf;rw[h.len];exact zu.take' _ (zu.drop' _ h)
def fD {f:Ev->Option T}{l u:Option (Ev->Option T)}(h:yN f te) (hl:i5 l tl) (hu:i5 u th):wj (kH f l u) (YF te tl th):=λ S Z L J y Q hE e hq=>by
 obtain⟨x,e1,e⟩:=zOb e;obtain⟨l',e2,e⟩:=zOb e;obtain⟨u',e3,e⟩:=zOb e;refine h S Z L J x _ hE e1 λ d S1 s1 r1=>?_;refine hl S1 Z L J l' _ (hE.grow s1) e2 λ S2 s2=>?_;refine hu S2 Z L J u' _ (hE.grow (s1.trans s2)) e3 λ S3 s3=>?_;have r3:Vw S3 Z x d:=Vw.grow r1 (s2.trans s3);have hz:=(hE.grow ((s1.trans s2).trans s3)).zd;unfold e_ at e;split at e
 .cases e;obtain⟨ds,rfl,h2⟩:=r3.tup;exact hq _ S3 ((s1.trans s2).trans s3) (Cl.of (λ _=>nofun) (oH (zu.cut h2 _ _)))
 .cases e;obtain⟨ds,h1,h2⟩:=r3.seq rfl;have key:∃ ds,yz d S3=some ds/\∀ p,S3 p=none->Q (.ref p) (ups S3 p (.lst (uf ds l' u'))):=⟨ds,h1,λ p hp=>hq _ _ (((s1.trans s2).trans s3).trans (.new hp _)) (Cl.cl ((s1.trans s2).trans s3) (rD hz hp (zu.cut h2 _ _)))⟩
  obtain⟨_,q | ⟨a,q,_⟩,_⟩:=r3.lst
  .subst q;exact key
  .subst q;exact key
 .cases e
end
end L5
namespace TM
open PySem PyProof.Rows
set_option maxRecDepth 100000
def noFill:fillsNumberSlot (.type "tuple") "mul"=pure false:=
 PySem.fillsNumberSlot_seq (id:="tuple.__mul__") (r:=some (.builtin "tuple.__rmul__")) F.slot_tuple_mul.lookup (by decide +kernel) F.slot_tuple_rmul.lookup (by decide +kernel)
def rep:seqRepeat? (.type "tuple")=pure (some (.builtin "tuple.__mul__")):=by
 have a:=PySem.seqSlot_of (T:="tuple") (name:="__mul__") (id:="tuple.__mul__") F.slot_tuple_mul.lookup (by decide +kernel);have b:=PySem.seqSlot_of (T:="tuple") (name:="__rmul__") (id:="tuple.__rmul__") F.slot_tuple_rmul.lookup (by decide +kernel);unfold seqRepeat?;rw[a,b];rfl
def declines (i:Int) (t:Tok) (l:Addr) (items:Array Value) (n:Nat) (dd:Option Addr) (sl:Array (Option Value)):
  Meets (Builtin.«int.__rmul__» ⟨[.int i t,.ref l],[]⟩) (λ _ R s=>s.heap.get? l=some { cls:=.type "tuple",dict:=dd,data:=.seq items n,slots:=sl }/\R (.ok (.ret Value.notImplemented)) s):=
 .of_wp λ prog w A R s h=>by
  obtain⟨hp,g,d,tk,os⟩:=s;obtain⟨hl,h⟩:=h
  wp_walk
  exact⟨_,rfl,h⟩
theorem eN {α:Type}(xs:List α):∀ (m:Nat) (acc:Array α),(List.replicate m xs.toArray).foldl (·++·) acc=acc++(List.replicate m xs).flatten.toArray
 | 0,acc=>by simp
 | m+1,acc=>by
  rw[List.replicate_succ,List.foldl_cons,eN xs m,List.replicate_succ,List.flatten_cons,Array.append_assoc];simp
def Qx (k:Int) (t:Tok) (l:Addr) (items:Array Value) (n:Nat) (dd:Option Addr) (sl:Array (Option Value)) (h1:¬ (decide (k < -(2 ^ 63))||decide (k≥2 ^ 63))=true) (h2:¬ (items.isEmpty||k == 1)=true) (h3:¬ (decide (k<=0)||items.isEmpty)=true)
  (h4:¬ (items.size*k>(2 ^ 63-1)/8)) (h5:¬ Builtin.Tuple.tupleTooMany (items.size*k)=true) (h6:((List.replicate k.toNat items).foldl (·++·) #[]).size<=sizeLine):
  Meets (Builtin.«tuple.__mul__» ⟨[.ref l,.int k t],[]⟩) (λ _ R s=>s.heap.get? l=some { cls:=.type "tuple",dict:=dd,data:=.seq items n,slots:=sl }/\
   R (.ok (.ret (.ref s.heap.objs.size))) { s with heap:=s.heap.push { cls:=.type "tuple",data:=.seq ((List.replicate k.toNat items).foldl (·++·) #[]) } }):=
 .of_wp λ prog w A R s h=>by
  obtain⟨hp,g,d,tk,os⟩:=s;obtain⟨hl,h⟩:=h;have e0:IsTup (Shared.heap ⟨hp,g,d,tk,os⟩) l items:=⟨_,hl,rfl,n,rfl⟩
  wp_walk
  rw[if_neg h1];refine zWb (m:=Builtin.Tuple.tupleItemsOf (.ref l)) (tupleItemsOf_ e0 ?_);dsimp only;rw[if_neg h2,if_neg h3,if_neg h4,if_neg h5];exact zWb (m:=Builtin.Tuple.tupleExact _) (wpAny_newObj_type (zD1 ⟨_,rfl,h⟩) h6)
def Qy (t:Tok) (l:Addr) (items:Array Value) (n:Nat) (dd:Option Addr) (sl:Array (Option Value)):
  Meets (Builtin.«tuple.__mul__» ⟨[.ref l,.int 1 t],[]⟩) (λ _ R s=>s.heap.get? l=some { cls:=.type "tuple",dict:=dd,data:=.seq items n,slots:=sl }/\R (.ok (.ret (.ref l))) s):=
 .of_wp λ prog w A R s h=>by
  obtain⟨hp,g,d,tk,os⟩:=s;obtain⟨hl,h⟩:=h;have c:(items.isEmpty||(1:Int) == 1)=true:=by simp
  wp_walk
  exact⟨_,rfl,h⟩
section
variable {prog:Program}{w:World}{A:Around}{E:Value->Shared->Prop}{s:Shared}
def times {l:Addr}{its:List Value}{k:Int}{t:Tok}{Q:Value->Shared->Prop}(ht:IsTup s.heap l its.toArray) (hne:its≠[]) (h0:1<=k) (hz:its.length*k.toNat<=sizeLine)
  (one:k=1->Q (.ref l) s) (more:k≠1->Q (.ref s.heap.objs.size) { s with heap:=s.heap.push { cls:=.type "tuple",data:=.seq (List.replicate k.toNat its).flatten.toArray } }):
  wpAny (model prog w) A (binaryOp .Mult (.ref l) (.int k t)) Q E s:=by
 have hT:=ht.typeIs;obtain⟨⟨cls,dd,data,sl⟩,ho,hc,n,hd⟩:=id ht;simp only at hc hd;subst hc hd;refine wpAny_binaryOp_repeat_ref (T:="tuple") (U:="int") (by decide) hT (λ s'=>typeIs_int s' k t) noFill F.fills_int_mul F.slot_int_rmul rep F.slot_int_index.lookup
  (call_meets F.slot_int_rmul (typeIs_int s k t) F.entry_int_rmul (F.args_int_rmul_2 _ _) (declines k t l its.toArray n dd sl) ⟨ho,rfl,hT,?_⟩)
 have hlen:0<its.length:=zD9.mpr hne;have hem:its.toArray.isEmpty=false:=by cases its with
  | nil=>exact absurd rfl hne
  | cons a r=>rfl
 by_cases h1:k=1
 .subst h1;exact call_meets F.slot_tuple_mul hT F.entry_tuple_mul (F.args_tuple_mul_2 _ _) (Qy t l its.toArray n dd sl) ⟨ho,one rfl⟩
 .have hks:k.toNat<=sizeLine:=zE0 (Nat.le_mul_of_pos_left _ hlen) hz;have hl:sizeLine=16777216:=rfl;have hk2:k<=16777216:=by omega
  have hcast:((its.toArray.size:Nat):Int)*k=((its.length*k.toNat:Nat):Int):=by
   rw[zA0,Int.natCast_mul,zF2 (by omega)]
  have hf:(List.replicate k.toNat its.toArray).foldl (·++·) #[]=(List.replicate k.toNat its).flatten.toArray:=by rw[eN];simp
  have hfl:(List.replicate k.toNat its).flatten.length=k.toNat*its.length:=by simp
  refine call_meets F.slot_tuple_mul hT F.entry_tuple_mul (F.args_tuple_mul_2 _ _) (Qx k t l its.toArray n dd sl ?_ ?_ ?_ ?_ ?_ ?_) ⟨ho,?_⟩
  .simp only[Bool.or_eq_true,decide_eq_true_eq,not_or];exact⟨by omega,by omega⟩
  .rw[hem];simpa using h1
  .rw[hem];simp;omega
  .rw[hcast];omega
  .rw[hcast];intro q;unfold Builtin.Tuple.tupleTooMany at q;have:=of_decide_eq_true q;omega
  .rw[hf,zA0,hfl,Nat.mul_comm];exact hz
  .rw[hf];exact more h1
end
end TM
namespace L2
open PySem PySem.Spec PyProof.Rows
def gX (K:zFr):R2:=λ x y H Q=>∃ a k xs,x=.ref a/\y=.int k/\yp K H a xs/\xs≠[]/\1<=k/\xs.length*k.toNat<=sizeLine/\(k=1->Q (.ref a) H)/\(k≠1->∀ p,H p=none->Q (.ref p) (upd H p (.tup (List.replicate k.toNat xs).flatten)))
def SV {X:Cx}:y9 X (binaryOp .Mult) (gX X.K):=by
 intro pins s B H x y v u Q I rx ry h;obtain⟨a,k,xs,rfl,rfl,hx,hne,h1,hz,q1,q2⟩:=h;cases rx;obtain⟨t,rfl⟩:=ry;obtain⟨its,r,ht,_⟩:=I.tuple hx;have hl:=r.length;refine TM.times ht (λ z=>hne (r.mV.mp z)) h1 (by rw[<- hl];exact hz) (λ e=>⟨.ref a,H,I,rfl,q1 e⟩) λ e=>?_;have hlen:(List.replicate k.toNat xs).flatten.length<=sizeLine:=by
  have:(List.replicate k.toNat xs).flatten.length=k.toNat*xs.length:=by simp
  rw[this,Nat.mul_comm];exact hz
 exact⟨.ref _,_,I.laid (t':=s.toks) (o:=.tup (List.replicate k.toNat xs).flatten) (λ b ob q=>zHp _ q) (zA4 _) ⟨hlen,_,r.rep k.toNat,IsTup.new _ _⟩,rfl,q2 e _ (I.zM.fresh (zA4 _))⟩
end L2
namespace L5
open PySem PySem.Spec L2 L3
open PyProof.Rows hiding St
section
variable {X:Cx}{K:zFr}{a b:Expr}{ta tb:zI}{pos:Pos}
def sJ:xx:=λ x y S Q=>match x,y with
 | .int i,.int j=>vo i j/\Q (.int (i*j)) S
 | .tup ds,.int k=>(ds≠[]/\1<=k/\ds.length*k.toNat<=sizeLine)/\Q (.tup (List.replicate k.toNat ds).flatten) S
 | _,_=>False
noncomputable def fK:T->T->Option T
 | .int i,.int j=>if vo i j then some (.int (i*j)) else none
 | .tup ts,.int k=>if ts≠[]/\1<=k/\ts.length*k.toNat<=sizeLine then some (.tup (List.replicate k.toNat ts).flatten) else none
 | _,_=>none
def sJ.mo:wI sJ:=λ x y S Q Q' hq h=>by
 unfold sJ at h ⊢;split at h
 .exact⟨h.1,hq _ _ h.2⟩
 .exact⟨h.1,hq _ _ h.2⟩
 .exact h.elim
theorem zx.rep {H:Hp}{ds:List D}{xs:List V}(h:zx K H ds xs):∀ n:Nat,zx K H (List.replicate n ds).flatten (List.replicate n xs).flatten
 | 0=>.nil
 | n+1=>by
  rw[List.replicate_succ,List.replicate_succ,List.flatten_cons,List.flatten_cons];exact h.append (zx.rep h n)
def sJ.fits:wo K sJ (λ x y H Q=>rI vo (λ i j=>.int (i*j)) x y H Q\/gX K x y H Q):=λ x y d e H S Q h1 h2 h3 h=>by
 unfold sJ at h;split at h
 .simp only[zo] at h1 h2;exact .inl ⟨_,_,h1,h2,h.1,h.2 _ H (by simp only[zo]) (.refl H) h3⟩
 .rename_i ds k;obtain⟨⟨c1,c2,c3⟩,h⟩:=h;have h1':=h1;simp only[zo] at h1 h2;obtain⟨a,xs,rfl,g1,g2⟩:=h1;have hl:=g2.length;refine .inr ⟨a,k,xs,rfl,h2,g1,λ z=>c1 (by subst z;cases ds with | nil=>rfl | cons _ _=>simp at hl),c2,by rw[<- hl];exact c3,λ e=>?_,λ e p hp=>?_⟩
  .subst e;refine h _ H ?_ (.refl H) h3;have:(List.replicate (1:Int).toNat ds).flatten=ds:=by simp
   rw[this];exact h1'
  .refine h _ _ ?_ (.new hp _) (h3.new hp);simp only[zo];exact⟨p,_,rfl,yp.of xl,zx.ext (.new hp _) _ (zx.rep g2 _)⟩
 .exact h.elim
theorem zu.rep {S:SS}{ts:List T}{ds:List D}(h:zu S ts ds):∀ n:Nat,zu S (List.replicate n ts).flatten (List.replicate n ds).flatten
 | 0=>.nil
 | n+1=>by
  rw[List.replicate_succ,List.replicate_succ,List.flatten_cons,List.flatten_cons];exact h.append (zu.rep h n)
def PK:Good2 zV fK sJ:=λ S Z x y z d e Q hz hx hy ef hq=>by
 unfold fK at ef;split at ef
 .split at ef
  .rename_i hc;cases ef;cases hx.int;cases hy.int;exact⟨hc,hq _ S (.refl S) (Cl.of (λ _=>nofun) vL)⟩
  .cases ef
 .split at ef
  .rename_i hc;cases ef;obtain⟨ds,rfl,h2⟩:=hx.tup;cases hy.int;have hl:=h2.len;exact⟨⟨λ q=>hc.1 (by subst q;simpa using hl.symm),hc.2.1,by rw[hl];exact hc.2.2⟩,hq _ S (.refl S) (Cl.of (λ _=>nofun) (oH (zu.rep h2 _)))⟩
  .cases ef
 .cases ef
end
end L5
namespace L4
open PySem PyProof.Rows
section
variable {prog:Program}{w:World}{A:Around}{E:Value->Shared->Prop}{s:Shared}
def OX {l:Addr}{vs:List Value}{Q:List Value->Shared->Prop}(hl:IsTup s.heap l vs.toArray) (hz:vs.length<=sizeLine)
  (h:Q vs { s with heap:=(s.heap.push (seqObj "list" #[] 0)).update s.heap.objs.size (Obj.mapSeq (·++vs.toArray)) }):wpAny (model prog w) A (collect (.ref l)) Q E s:=by
 obtain⟨o,ho,hc,n,hd⟩:=id hl;have new:(s.heap.push (seqObj "list" #[] 0)).get? s.heap.objs.size=some (seqObj "list" #[] 0):=zA9 _ rfl;have ho':(s.heap.push (seqObj "list" #[] 0)).get? l=some o:=zHp _ ho;unfold collect;refine zWb (wpAny_runValue (codeAny_builtin entry_proto_collect' (zWb (m:=newList []) (wpAny_newList (zD1 ⟨Code.quiet_builtin _ (by decide +kernel),codeAny_builtin entry_list_iadd' ?_⟩)))));show wpAny _ _ (Builtin.List.listExtendWith (.ref s.heap.objs.size) (.ref l) (.ref s.heap.objs.size)) _ _ { s with heap:=s.heap.push (seqObj "list" #[] 0) };unfold Builtin.List.listExtendWith;refine zWb (wpAny_typeOf (T:="tuple") ⟨o,ho',hc⟩ ?_);rw[if_pos (by rw[show (Value.type "tuple" == Value.type "tuple")=true from rfl];simp)];refine zWb (listItems_at ho' hd (zWb (listItems_at (xs:=#[]) (n:=0) new rfl ?_)));rw[if_neg (by simp)];refine zWb (listUpdate_at (xs:=#[]) (n:=0) new rfl (zD1 ?_) (zD4 _) (by show (#[]++vs.toArray).size<=sizeLine+1;simp only[Array.size_append,zA0,List.length_nil];omega));refine zWb (m:=load s.heap.objs.size) (wpAny_load (get?_update_seq new _) ?_);show wpAny _ _ (pure ((#[]:Array Value)++vs.toArray).toList) Q E _;have e:((#[]:Array Value)++vs.toArray).toList=vs:=by simp
 rw[e];exact zD1 h
def VR {l:Addr}{vs:List Value}{Q:Value->Shared->Prop}{Out:Array Value->Prop}(hl:IsTup s.heap l vs.toArray) (hz:vs.length<=sizeLine)
  (core:2<=vs.length->∀ s6:Shared,(∀ b o,s.heap.get? b=some o->s6.heap.get? b=some o)->Core prog w A.in1.in1 E vs Out s6) (short:vs.length<2->Out vs.toArray)
  (fin:∀ out:Array Value,Out out->out.size=vs.length->Q (.ref (s.heap.objs.size+1)) { s with heap:=sortedAll s.heap vs out }):
  wpAny (model prog w) A (call (.builtin "sorted") [.ref l]) Q E s:=by
 let h1:=(s.heap.push (seqObj "list" #[] 0)).update s.heap.objs.size (Obj.mapSeq (·++vs.toArray))
 have sz:h1.objs.size=s.heap.objs.size+1:=by show (Heap.update _ _ _).objs.size=_;rw[Heap.size_update,size_push']
 have there:(h1.push (seqObj "list" vs.toArray 0)).get? (s.heap.objs.size+1)=some (seqObj "list" vs.toArray 0):=sz▸zA9 _ rfl;have keep:∀ b o,s.heap.get? b=some o->(h1.push (seqObj "list" vs.toArray 0)).get? b=some o:=λ b o q=>by
  refine zHp _ ?_;show (Heap.update _ _ _).get? b=_;rw[Heap.get?_update_ne _ _ _ _ (zB3 (zA8 q))];exact zHp _ q
 refine Calls.call_function_entry kind_sorted plain_sorted entry_sorted (args_sorted1 _) ?_;unfold Builtin.«sorted»;refine zWb (m:=checkCount "sorted" 1 1 _) (zD1 (zWb (OX hl hz (zWb (wpAny_newList ?_ hz)))));show wpAny _ _ _ _ _ { s with heap:=h1.push (seqObj "list" vs.toArray 0) };rw[show (Heap.update (s.heap.push (seqObj "list" #[] 0)) s.heap.objs.size (Obj.mapSeq (·++vs.toArray))).objs.size=s.heap.objs.size+1 from sz];refine zWb (wpAny_holding (wpAny_call_entry slot_list_sort ⟨_,there,rfl⟩ entry_list_sort (fT there hz (λ h2 s6 k=>core h2 s6 λ b o q=>k b o (zB3 (Nat.lt_succ_of_lt (zA8 q))) (keep b o q)) short λ out g1 g2=>⟨_,rfl,?_⟩) (args_list_sort _)));exact zD1 ⟨_,rfl,fin out g1 g2⟩
end
section
open L2 PySem.Spec
variable {X:Cx}
def Ni:xk X (.builtin "sorted") (λ xs H Q=>∃ p ys,∃ rows:List (List Int),xs=[.ref p]/\yp X.K H p ys/\Paired (λ v r=>r≠[]/\∃ b,v=V.ref b/\yp X.K H b (r.map V.int)) ys rows/\rows.length<64/\
  ∀ (l:Addr) (idx:List Nat),H l=none->idx.Perm (List.range ys.length)->(idx.map λ i=>rows.getD i []).Pairwise (λ a b=>HT.lexLt b a=false)->Q (.ref l) (upd H l (.lst (idx.map λ i=>ys.getD i .zp)))):=by
 intro pins s B H xs us Q I r h;obtain⟨p,ys,rows,rfl,hq,hr,h64,q⟩:=h;obtain⟨u,rfl,ru⟩:=vals1 r;cases ru;obtain⟨its,rv,pl,hz⟩:=I.tuple hq;have hl:=rv.length;have hlr:ys.length=rows.length:=Paired.length hr;have rows_at:∀ h6:Heap,(∀ b o,s.heap.get? b=some o->h6.get? b=some o)->r_ h6 its rows:=λ h6 k=>by
  refine ST.Paired.mk (by omega) λ i a b ha hb=>?_;have hi:i<ys.length:=by have:=(zA2.mp hb).1;omega
  obtain⟨hne,c,hc,hsq⟩:=L4.Paired.at' hr (i:=i) hi V.zp ([]:List Int);obtain⟨u,e1,e2⟩:=rv.get (i:=i) (x:=ys.getD i V.zp) (by simp[hi]);rw[ha] at e1;cases e1;rw[hc] at e2;cases (show a=Value.ref c from e2);obtain⟨its2,rv2,⟨o,e,hcl,n,hd⟩,_⟩:=I.tuple hsq;have eb:rows.getD i []=b:=by simp[hb]
  rw[eb] at hne rv2;exact⟨hne,c,o,_,n,rfl,k _ _ e,hcl,hd,by simpa using intsAre_of rv2⟩
 refine VR (Out:=lX its rows) pl (by rw[<- hl];exact hz) (λ h2 s6 k=>da (rows_at _ k) h2 (by omega)) (λ h1=>?_) λ out ho hs=>?_
 .refine⟨List.range its.length,.refl _,?_,?_⟩
  .refine List.ext_getElem (by simp) λ i h1 h2=>?_;simp at h1;simp[h1]
  .rw[List.pairwise_map,List.pairwise_iff_getElem];intro i j hi hj hij;simp at hi hj;omega
 .obtain⟨idx,g1,g2,g3⟩:=ho;obtain⟨e,ho⟩:=sortedAll_at s.heap its out;have g1':idx.Perm (List.range ys.length):=by rw[hl];exact g1
  refine⟨.ref (s.heap.objs.size+1),_,I.laid (t':=s.toks) (o:=.lst (idx.map λ i=>ys.getD i .zp)) (λ b o q=>sortedAll_old q) (Nat.le_succ _) ?_,rfl,q _ idx (I.zM.fresh (Nat.le_succ _)) g1' g3⟩;refine⟨by rw[zA7,g1'.length_eq,zC5];exact hz,out.toList,e,?_,by simpa using ho⟩;rw[g2];refine ST.Paired.mk (by simp) λ j a b ha hb=>?_;rw[zA3] at ha hb;obtain⟨i,hi,rfl⟩:=zOm ha;rw[hi] at hb;cases hb;have hil:i<ys.length:=by simpa using g1'.mem_iff.mp (zB7 hi)
  obtain⟨u,e1,e2⟩:=rv.get (i:=i) (x:=ys.getD i V.zp) (by simp[hil]);have e3:its.getD i Value.none=u:=by simp[e1]
  show L2.RelV (ys.getD i V.zp) (its.getD i Value.none);rw[e3];exact e2
end
end L4
namespace L5
open PySem PySem.Spec L2 L3
open PyProof.Rows hiding St
section
variable {X:Cx}{K:zFr}{e:Expr}{es:List Expr}{tA:yQ}{pos p pos2 p2:Pos}
def qN:wH:=λ ds S Q=>∃ d,∃ rows:List (List Int),ds=[d]/\yz d S=some (rows.map vh)/\rows.length<64/\(∀ r∈rows,r≠[])/\∀ l,S l=none->Q (.ref l) (ups S l (.lst ((L4.wN rows).map vh)))
noncomputable def oE:List T->Option T
 | [y]=>(wZ y).bind λ ts=>(wA ts).bind λ rs=>if rs.length<64/\∀ r∈rs,r≠[] then some (.lst ((L4.wN rs).map yG)) else none
 | _=>none
def Yb:uM zV oE qN:=λ S Z ys z ds Q hz hv e hq=>by
 unfold oE at e;split at e
 .obtain⟨d,rfl,h1⟩:=uu hv;obtain⟨ts,e0,e⟩:=zOb e;obtain⟨rs,e1,e2⟩:=zOb e;split at e2
  .rename_i hc;cases e2;cases gR e1;obtain⟨es,h2,h3⟩:=h1.seq e0;cases oG.mp h3;exact⟨d,rs,rfl,h2,hc.1,hc.2,λ l hl=>hq _ _ (.new hl _) (rD hz hl (oG.mpr rfl))⟩
  .cases e2
 .cases e
def qN.mo:uL qN:=λ ds S Q Q' hq ⟨d,rows,h0,h1,h2,h3,h4⟩=>⟨d,rows,h0,h1,h2,h3,λ l hl=>hq _ _ (h4 l hl)⟩
abbrev ae (K:zFr) (sq:Hp->Addr->List V->Prop):List V->Hp->VK->Prop:=λ xs H Q=>∃ p ys,∃ rows:List (List Int),xs=[.ref p]/\sq H p ys/\Paired (λ v r=>r≠[]/\∃ b,v=V.ref b/\yp K H b (r.map V.int)) ys rows/\rows.length<64/\
  ∀ (l:Addr) (idx:List Nat),H l=none->idx.Perm (List.range ys.length)->(idx.map λ i=>rows.getD i []).Pairwise (λ a b=>HT.lexLt b a=false)->Q (.ref l) (upd H l (.lst (idx.map λ i=>ys.getD i .zp)))
def xk.or {f:Value}{r r':List V->Hp->VK->Prop}(h:xk X f r) (h':xk X f r'):xk X f (λ xs H Q=>r xs H Q\/r' xs H Q):=λ pins s B H xs us Q I rv q=>
 q.elim (λ q=>h pins s B H xs us Q I rv q) λ q=>h' pins s B H xs us Q I rv q
def qN.fits:tW K qN (λ xs H Q=>ae K (yg K) xs H Q\/ae K (yp K) xs H Q):=λ xs ds H S Q h0 h2 h=>by
 obtain⟨d,rows,rfl,e,h64,hne,h⟩:=h;obtain⟨x,hx,h1⟩:=h0.one;subst hx;obtain⟨a,ys,rfl,g1,g2⟩:=yz.sq h1 h2 e;have hl:=g2.length;rw[zA7] at hl;have key:∀ (l:Addr) (idx:List Nat),H l=none->idx.Perm (List.range ys.length)->(idx.map λ i=>rows.getD i []).Pairwise (λ a b=>HT.lexLt b a=false)->Q (.ref l) (upd H l (.lst (idx.map λ i=>ys.getD i .zp))):=λ l idx hf hp hs=>by
  rw[<- hl] at hp;have heq:=L4.b8 (Zt hp) hs;have hx:Ext H (upd H l (.lst (idx.map λ i=>ys.getD i .zp))):=.new hf _;refine h l (h2.none hf) _ _ (by simp only[zo]) hx (h2.ups hx ⟨_,xl,?_⟩);rw[<- heq];exact zx.ext hx _ (g2.perm λ i hi=>by simpa using hp.mem_iff.mp hi)
 rcases g1 with g1 | g1
 .exact .inl ⟨_,ys,rows,rfl,g1,m7 g2 hne,h64,key⟩
 .exact .inr ⟨_,ys,rows,rfl,g1,m7 g2 hne,h64,key⟩
def aH (hm:X.mg "sorted"=none) (ha:wY X (e::es) tA) (hg:Gl X "sorted":=by rfl) (he:starEach (e::es) X.env=(false,eval e X.env)::starEach es X.env:=by rfl) (hpl:(backTo pos (starEach es X.env)).any (·.1)=false:=by rfl):PD X (.Call (.Name "sorted" p) (e::es) [] pos) (wD qN tA):=
 sj (rE (xk.or L4.Nl L4.Ni) hg hm boot_sorted ha.pa (by decide) (by decide) he hpl) qN.mo qN.fits ha.mo
end
end L5
namespace L2
open PySem PySem.Spec PyProof.Rows
section
variable {X:Cx}
def t5 (r:Addr) (j:Int):Heap->Prop:=λ h=>∃ t u v,IsRange h r 0 j 1 t u v
def Nr:xk X (.type "range") (λ xs H Q=>∃ j,xs=[.int j]/\∀ r,H r=none->Q (.ref r) (upd H r (.ext (t5 r j)))):=by
 intro pins s B H xs us Q I r h;obtain⟨j,rfl,q⟩:=h;obtain⟨u,rfl,ru⟩:=vals1 r;obtain⟨t,rfl⟩:=ru;refine call_range_1 ⟨.ref s.heap.objs.size,_,I.laid (o:=.ext (t5 s.heap.objs.size j)) (λ b o e=>zHp _ e) (zA4 _) ?_,rfl,q _ (I.zM.fresh (zA4 _))⟩;have here:t5 s.heap.objs.size j (s.heap.push { cls:=.type "range",data:=.fields #[.int 0 s.toks,.int j t,.int 1 (s.toks+1)] }):=⟨_,_,_,IsRange.new ..⟩
 refine⟨here,⟨_,zA9 _ rfl⟩,λ h1 h2 S k=>?_⟩;obtain⟨a,b,c,e⟩:=S;exact⟨a,b,c,k _ e⟩
def Nw (hc:X.calm=true):xk X (.type "list") (λ xs H Q=>∃ r j,xs=[.ref r]/\H r=some (.ext (t5 r j))/\0<=j/\j<=16777216/\∀ l,H l=none->Q (.ref l) (upd H l (.lst ((List.range j.toNat).map λ(k:Nat)=>V.int (k:Int))))):=by
 intro pins s B H xs us Q I r h;obtain⟨a,j,rfl,hr,h0,h1,q⟩:=h;obtain⟨u,rfl,ru⟩:=vals1 r;cases ru;obtain⟨⟨t,u,v,hR⟩,-,-⟩:=(show xS X.prog X.w H s.heap a (.ext (t5 a j)) from I.zM a _ hr)
 have hsz:Builtin.Range.rangeSize 0 j 1=((j.toNat:Nat):Int):=by rw[rangeSize_one];split <;> omega
 refine call_list_range (n:=j.toNat) (I.ok.hd hc) hR (small_one (by decide) (by decide) (by omega) (by omega)) hsz (by omega) λ h' tk acc c k e hi=>?_;refine⟨.ref s.heap.objs.size,_,I.laid (o:=.lst ((List.range j.toNat).map λ(k:Nat)=>V.int (k:Int))) k (zA4 _) ⟨?_,acc.toList,c,?_,by simpa using e⟩,rfl,q _ (I.zM.fresh (zA4 _))⟩
 .have:sizeLine=16777216:=rfl;simp;omega
 .obtain⟨hn,hi⟩:=hi;refine ST.Paired.mk (by simp[hn]) λ i a b ha hb=>?_;rw[zA3] at ha;obtain⟨k',hk,rfl⟩:=zOm ha;obtain⟨hk1,hk2⟩:=zA2.mp hk;simp at hk2;subst hk2;obtain⟨w,hw⟩:=hi i b (by simpa using hb);subst hw;exact⟨w,by simp⟩
end
end L2
namespace L5
open PySem PySem.Spec L2 L3
open PyProof.Rows hiding St
section
variable {X:Cx}{K:zFr}{e:Expr}{tA:yQ}{pos p pos2 p2:Pos}
def rV:wH:=λ ds S Q=>∃ j:Int,ds=[.int j]/\0<=j/\j<=16777216/\∀ l,S l=none->Q (.ref l) (ups S l (.lst (ux 0 j.toNat)))
noncomputable def mZ:List T->Option T
 | [.int j]=>if 0<=j/\j<=16777216 then some (.lst (rangeT 0 j.toNat)) else none
 | _=>none
def PL:uM zV mZ rV:=λ S Z ys z ds Q hz hv e hq=>by
 unfold mZ at e;split at e
 .obtain⟨d,rfl,h1⟩:=uu hv;split at e
  .rename_i hc;cases e;cases h1.int;exact⟨_,rfl,hc.1,hc.2,λ l hl=>hq _ _ (.new hl _) (rD hz hl (bB _ _))⟩
  .cases e
 .cases e
def rV.mo:uL rV:=λ ds S Q Q' hq ⟨j,h0,h1,h2,h3⟩=>⟨j,h0,h1,h2,λ l hl=>hq _ _ (h3 l hl)⟩
def U4 {H:Hp}(n:Nat):zx K H (ux 0 n) ((List.range n).map λ(k:Nat)=>V.int (k:Int)):=by
 unfold ux
 induction List.range n with
 | nil=>exact .nil
 | cons k l ih=>exact .cons (by simp only[zo];rw[Int.zero_add]) ih
def rV.fits:tW K rV (λ xs H Q=>∃ j,xs=[.int j]/\∀ r,H r=none->∃ r' j',[V.ref r]=[.ref r']/\(upd H r (.ext (t5 r j))) r'=some (.ext (t5 r' j'))/\0<=j'/\j'<=16777216/\
  ∀ l,(upd H r (.ext (t5 r j))) l=none->Q (.ref l) (upd (upd H r (.ext (t5 r j))) l (.lst ((List.range j'.toNat).map λ(k:Nat)=>V.int (k:Int))))):=λ xs ds H S Q h0 h2 h=>by
 obtain⟨j,rfl,c1,c2,h⟩:=h;obtain⟨x,hx,h1⟩:=h0.one;subst hx;simp only[zo] at h1;subst h1;refine⟨j,rfl,λ r hr=>⟨r,j,rfl,xl,c1,c2,λ l hl=>?_⟩⟩;have x1:Ext H (upd H r (.ext (t5 r j))):=.new hr _;have hlr:l≠r:=λ z=>by subst z;rw[xl] at hl;cases hl
 have hlH:H l=none:=by rw[xo hlr] at hl;exact hl
 have x2:Ext (upd H r (.ext (t5 r j))) (upd (upd H r (.ext (t5 r j))) l (.lst ((List.range j.toNat).map λ(k:Nat)=>V.int (k:Int)))):=.new hl _;exact h l (h2.none hlH) _ _ (by simp only[zo]) (x1.trans x2) ((h2.new hr).ups x2 ⟨_,xl,U4 _⟩)
def Sv (hm:X.mg "list"=none) (hm2:X.mg "range"=none) (ha:wY X [e] tA) (hc:X.calm=true:=by rfl) (hg:Gl X "list":=by rfl) (hg2:Gl X "range":=by rfl)
  (he2:starEach [e] X.env=(false,eval e X.env)::starEach [] X.env:=by rfl)
  (he:starEach [.Call (.Name "range" p2) [e] [] pos2] X.env=(false,eval (.Call (.Name "range" p2) [e] [] pos2) X.env)::starEach [] X.env:=by rfl) (hpl:(backTo pos (starEach [] X.env)).any (·.1)=false:=by rfl) (hpl2:(backTo pos2 (starEach [] X.env)).any (·.1)=false:=by rfl):
  PD X (.Call (.Name "list" p) [.Call (.Name "range" p2) [e] [] pos2] [] pos) (wD rV tA):=by
 have h:=oT (p:=p) (Nw hc) hg hm PyProof.Rows.boot_list (pL (oT Nr hg2 hm2 boot_range ha.pa (by decide) (by decide) he2 hpl2) oZ he) (by decide) (by decide) he hpl;exact⟨wD.mo rV.mo ha.mo,PE.imp h λ _ _ _ hu=>bj rV.mo rV.fits ha.mo hu⟩
end
end L5
namespace ST
open PySem PySem.SetTable PySem.Spec PyProof.Rows L2
def Pp {us us':List Value}(p:us'.Perm us):∀ {ms:List Int},IntsAre us ms->∃ ms',IntsAre us' ms'/\ms'.Perm ms:=by
 induction p with
 | nil=>intro ms h;exact⟨ms,h,.refl _⟩
 | cons x _ ih=>
  intro ms h;cases h with
  | cons n t h=>
   obtain⟨ms',h1,h2⟩:=ih h;exact⟨n::ms',.cons n t h1,h2.cons n⟩
 | swap x y l=>
  intro ms h;cases h with
  | cons n t h=>
   cases h with
   | cons m u h=>exact⟨m::n::_,.cons m u (.cons n t h),.swap _ _ _⟩
 | trans _ _ ih1 ih2=>
  intro ms h;obtain⟨m1,h1,h2⟩:=ih2 h;obtain⟨m2,h3,h4⟩:=ih1 h1;exact⟨m2,h3,h4.trans h2⟩
def uJ.at {prog:Program}{w:World}{h:Heap}{a:Addr}{xs:List (Int×Tok)}(S:uJ prog w h a xs (uA w)):xv w a (xs.map λ e=>Value.int e.1 e.2) h:=by
 obtain⟨⟨es,ep,t,ho,he,T,h1,h2,h3⟩,_⟩:=S;have hm:7<=t.mask/\t.mask<=127:=by rcases T.mask with e | e | e <;> omega
 have hlen:es.size=xs.length:=by have:=congrArg List.length he;simpa using this
 exact⟨es,ep,t,⟨ho,fits_of (n:=xs.length) hlen T (by simp) (by omega),T.vC,h1,h2⟩,by rw[he,zD6];rfl⟩
theorem ZU:∀ xs:List (Int×Tok),IntsAre (xs.map λ e=>Value.int e.1 e.2) (xs.map (·.1))
 | []=>.nil
 | e::xs=>.cons e.1 e.2 (ZU xs)
theorem cY:∀ {us:List Value}{ns:List Int},IntsAre us ns->Vals (ns.map V.int) us
 | _,_,.nil=>.nil
 | _,_,.cons n t h=>.cons ⟨t,rfl⟩ (cY h)
section
variable {X:Cx}
def Nn (hc:X.calm=true):xk X (.type "set") (λ xs H Q=>∃ p,∃ ns:List Int,xs=[.ref p]/\yg X.K H p (ns.map V.int)/\ns.length<64/\
  ∀ (l:Addr) (us:List Value) (ms:List Int),H l=none->IntsAre us ms->ms.Nodup->(∀ n,n∈ms↔n∈ns)->Q (.ref l) (upd H l (.ext (xv X.w l us)))):=by
 intro pins s B H xs us Q I r h;obtain⟨p,ns,rfl,hq,h64,q⟩:=h;obtain⟨u,rfl,ru⟩:=vals1 r;cases ru;obtain⟨its,rv,pl,hz⟩:=I.list hq;have hl:=rv.length;rw[zA7] at hl;have iA:IntsAre its ns:=intsAre_of rv;have nums:Nums its.toArray ns:=λ i v hv=>by
  have hv':its[i]?=some v:=by simpa using hv
  have hi:i<ns.length:=by rw[hl];exact (zA2.mp hv').1
  obtain⟨u,e1,t,e2⟩:=rv.get (i:=i) (x:=V.int ns[i]) (by simp[hi]);rw[hv'] at e1;cases e1;exact⟨ns[i],t,e2,by simp[hi]⟩
 have hh:X.A.handled=none:=I.ok.hd hc;refine Np (A:=X.A) hh pl.isList nums (by rw[zA0];omega) λ h' tk xs S U k=>?_;have kk:∀ b o,s.heap.get? b=some o->h'.get? b=some o:=λ b o e=>k b o (zA8 e) e;have hSO:=S.at;refine⟨.ref s.heap.objs.size,_,I.laid (t':=tk) (o:=.ext (xv X.w s.heap.objs.size (xs.map λ e=>Value.int e.1 e.2))) kk (zA4 _) ?_,rfl,q _ _ (xs.map (·.1)) (I.zM.fresh (zA4 _)) (ZU xs) S.nd λ n=>⟨λ hn=>?_,λ hn=>?_⟩⟩
 .obtain⟨es,ep,t,St,e⟩:=id hSO;exact⟨hSO,⟨_,St.get⟩,λ h1 h2 S1 k=>S1.rq k⟩
 .obtain⟨e,he,rfl⟩:=zB0.mp hn;obtain⟨j,_,hj⟩:=U.own e he;exact zB7 hj
 .obtain⟨j,hj⟩:=List.mem_iff_getElem?.mp hn;exact U.all j n (by have:=(zA2.mp hj).1;rw[zA0];omega) hj
def Nj (hc:X.calm=true):xk X (.builtin "sorted") (λ xs H Q=>∃ l us,∃ ms:List Int,xs=[.ref l]/\H l=some (.ext (xv X.w l us))/\IntsAre us ms/\ms.length<64/\
  ∀ (p:Addr) (ns:List Int),H p=none->ns.Perm ms->ns.Pairwise (·<=·)->Q (.ref p) (upd H p (.lst (ns.map V.int)))):=by
 intro pins s B H xs us0 Q I r h;obtain⟨l,us,ms,rfl,hl,hm,h64,q⟩:=h;obtain⟨u,rfl,ru⟩:=vals1 r;cases ru;obtain⟨⟨es,ep,t,S,eu⟩,-,-⟩:=(show xS X.prog X.w H s.heap l (.ext (xv X.w l us)) from I.zM l _ hl)
 have hlen:es.size=us.length:=by rw[<- eu];simp
 have hml:=hm.length;have hh:X.A.handled=none:=I.ok.hd hc;have hp:((comes X.w l es ep).toList.map (·.2)).Perm us:=by rw[<- eu];exact (n6 X.w l es ep).map _
 obtain⟨ms',i1,i2⟩:=Pp hp hm;have hcl:=hp.length_eq;have hl24:sizeLine=16777216:=rfl;refine b7 (Out:=λ out=>∃ ns',IntsAre out.toList ns'/\ns'.Perm ms'/\ns'.Pairwise (·<=·)) hh S (by rw[hlen,hml];omega) (λ s6 h2 k=>L4.OU i1 (by rw[hcl,<- hlen];exact h2) (by rw[hcl,hml];exact h64)) (λ h1=>⟨ms',by simpa using i1,.refl _,?_⟩) λ out h' tk p ho hs hp' k hat=>?_
 .have:ms'.length<2:=by rw[<- i1.length,hcl,<- hlen];exact h1
  match ms',this with
  | [],_=>exact .nil
  | [_],_=>exact List.pairwise_singleton _ _
 .obtain⟨ns,g1,g2,g3⟩:=ho;obtain⟨e,he⟩:=hat;refine⟨.ref p,_,I.laid (t':=tk) (o:=.lst (ns.map V.int)) k hp' ?_,rfl,q p ns (I.zM.fresh hp') (g2.trans i2) g3⟩;exact⟨by rw[zA7,g2.length_eq,i2.length_eq];omega,out.toList,e,cY g1,by simpa using he⟩
end
end ST
namespace L5
open PySem PySem.Spec L2 L3
open PyProof.Rows hiding St
noncomputable def insI (n:Int):List Int->List Int
 | []=>[n]
 | m::l=>if n<m then n::m::l else if n=m then m::l else m::insI n l
noncomputable def v9:List Int->List Int
 | []=>[]
 | n::ns=>insI n (v9 ns)
theorem fM {n k:Int}:∀ {l:List Int},k∈insI n l↔k=n\/k∈l
 | []=>by simp[insI]
 | m::l=>by
  unfold insI;split
  .simp
  .split
   .rename_i h;subst h;simp
   .rw[zA5,fM,zA5];constructor
    .rintro (h | h | h)
     .exact .inr (.inl h)
     .exact .inl h
     .exact .inr (.inr h)
    .rintro (h | h | h)
     .exact .inr (.inl h)
     .exact .inl h
     .exact .inr (.inr h)
theorem jr {k:Int}:∀ {l:List Int},k∈v9 l↔k∈l
 | []=>.rfl
 | n::l=>by unfold v9;rw[fM,jr,zA5]
theorem ZX {n:Int}:∀ {l:List Int},l.Pairwise (· < ·)->(insI n l).Pairwise (· < ·)
 | [],_=>List.pairwise_singleton _ _
 | m::l,h=>by
  have h':=List.pairwise_cons.mp h;unfold insI;split
  .rename_i c;refine List.pairwise_cons.mpr ⟨λ x hx=>?_,h⟩;rcases zA5.mp hx with e | e
   .rw[e];exact c
   .exact Int.lt_trans c (h'.1 x e)
  .split
   .exact h
   .rename_i c1 c2;refine List.pairwise_cons.mpr ⟨λ x hx=>?_,ZX h'.2⟩;rcases fM.mp hx with e | e
    .rw[e];omega
    .exact h'.1 x e
theorem bg:∀ l:List Int,(v9 l).Pairwise (· < ·)
 | []=>.nil
 | n::l=>ZX (bg l)
def Vd {l m:List Int}(h1:l.Nodup) (h2:l.Pairwise (·<=·)) (h3:m.Pairwise (· < ·)) (h:∀ k,k∈l↔k∈m):l=m:=by
 have nm:m.Nodup:=h3.imp λ h e=>by omega
 refine L4.fk (r:=λ a b:Int=>a<=b) (λ a b p q=>by omega) ((List.perm_ext_iff_of_nodup h1 nm).mpr h) h2 (h3.imp λ h=>by omega)
section
variable {X:Cx}{K:zFr}{e:Expr}{tA:yQ}{pos pos2 p p2:Pos}
def lz:wH:=λ ds S Q=>tM ds S Q\/∃ d,∃ ns:List Int,ds=[d]/\(∀ ts,d≠.tup ts)/\yz d S=some (ns.map D.int)/\ns.length<64/\∀ l,S l=none->Q (.ref l) (ups S l (.lst ((v9 ns).map D.int)))
noncomputable def pA:List T->Option T
 | [.lst ts]=>match uW ts with
  | some ns=>if ns.length<64 then some (.lst ((v9 ns).map T.int)) else none
  | none=>kG [.lst ts]
 | _=>none
def Ya:uM zV pA lz:=λ S Z ys z ds Q hz hv e hq=>by
 unfold pA at e;split at e
 .split at e
  .rename_i ns hns;split at e
   .rename_i hc;cases e;cases lh hns;obtain⟨d,rfl,h1⟩:=uu hv;obtain⟨es,h2,h3⟩:=h1.seq rfl;cases rB.mp h3;refine .inr ⟨d,ns,rfl,?_,h2,hc,λ l hl=>hq _ _ (.new hl _) (rD hz hl (rB.mpr rfl))⟩;obtain⟨_,q | ⟨a,q,_⟩,_⟩:=h1.lst <;> subst q <;> exact λ _=>nofun
   .cases e
  .exact .inl (PJ S Z _ z ds Q hz hv e hq)
 .cases e
theorem lz.mo:uL lz:=λ ds S Q Q' hq h=>by
 rcases h with h | ⟨d,ns,h1,h2,h3,h4,h5⟩
 .exact .inl (tM.mo ds S Q Q' hq h)
 .exact .inr ⟨d,ns,h1,h2,h3,h4,λ l hl=>hq _ _ (h5 l hl)⟩
def Od {w:World}{xs:List V}{H:Hp}{S:SS}{Q:VK}{d:D}{ns:List Int}(h0:zx K H [d] xs) (h2:yb K H S) (hn:∀ ts,d≠.tup ts) (e:yz d S=some (ns.map D.int)) (h64:ns.length<64) (h:∀ l,S l=none->vz K H Q (.ref l) (ups S l (.lst ((v9 ns).map D.int)))):
  ∃ p,∃ ns':List Int,xs=[.ref p]/\yg K H p (ns'.map V.int)/\ns'.length<64/\
   ∀ (l:Addr) (us:List Value) (ms:List Int),H l=none->IntsAre us ms->ms.Nodup->(∀ n,n∈ms↔n∈ns')->
    ∃ l' us',∃ ms':List Int,[V.ref l]=[.ref l']/\(upd H l (.ext (ST.xv w l us))) l'=some (.ext (ST.xv w l' us'))/\IntsAre us' ms'/\ms'.length<64/\
     ∀ (p:Addr) (ns:List Int),(upd H l (.ext (ST.xv w l us))) p=none->ns.Perm ms'->ns.Pairwise (·<=·)->Q (.ref p) (upd (upd H l (.ext (ST.xv w l us))) p (.lst (ns.map V.int))):=by
 obtain⟨x,hx,h1⟩:=h0.one;subst hx;obtain⟨a,ys,rfl,g1,g2⟩:=qu h1 h2 e hn;rw[g2.ints] at g1;refine⟨a,ns,rfl,g1,h64,λ l us ms hf hi nd hmem=>⟨l,us,ms,rfl,xl,hi,?_,λ p ns2 hp pm srt=>?_⟩⟩
 .have:=ST.fH ms ns nd λ x hx=>(hmem x).mp hx;omega
 .have x1:Ext H (upd H l (.ext (ST.xv w l us))):=.new hf _;have hpl:p≠l:=λ z=>by subst z;rw[xl] at hp;cases hp
  have hpH:H p=none:=by rw[xo hpl] at hp;exact hp
  have x2:Ext (upd H l (.ext (ST.xv w l us))) (upd (upd H l (.ext (ST.xv w l us))) p (.lst (ns2.map V.int))):=.new hp _;have heq:ns2=v9 ns:=Vd (pm.nodup_iff.mpr nd) srt (bg ns) λ k=>by rw[pm.mem_iff,hmem,jr]
  refine h p (h2.none hpH) _ _ (by simp only[zo]) (x1.trans x2) ((h2.new hf).ups x2 ⟨_,xl,?_⟩);rw[<- heq];exact zx.fF ns2
def aG {k:Nat}(hr:y_ k X.A) (hm:X.mg "sorted"=none) (hm2:X.mg "set"=none) (ha:wY X [e] tA) (hc:X.calm=true:=by rfl) (hg:Gl X "sorted":=by rfl) (hg2:Gl X "set":=by rfl)
  (he2:starEach [e] X.env=(false,eval e X.env)::starEach [] X.env:=by rfl)
  (he:starEach [.Call (.Name "set" p2) [e] [] pos2] X.env=(false,eval (.Call (.Name "set" p2) [e] [] pos2) X.env)::starEach [] X.env:=by rfl) (hpl:(backTo pos (starEach [] X.env)).any (·.1)=false:=by rfl) (hpl2:(backTo pos2 (starEach [] X.env)).any (·.1)=false:=by rfl):
  PD X (.Call (.Name "sorted" p) [.Call (.Name "set" p2) [e] [] pos2] [] pos) (wD lz tA):=by
 have h:=rE (p:=p) (xk.or (ST.Nk hc) (ST.Nj hc)) hg hm boot_sorted (pL (oT (xk.or (ST.Nm hc hr.units) (ST.Nn hc)) hg2 hm2 PyProof.Rows.boot_set ha.pa (by decide) (by decide) he2 hpl2) oZ he) (by decide) (by decide) he hpl;refine⟨wD.mo lz.mo ha.mo,PE.imp h fun B H Q hu=>?_⟩;obtain⟨L,S,r1,r2,z⟩:=hu;refine vK.go ha.mo r1 r2 z λ ds S1 xs H1 h1 q1 e1 p1=>?_;rcases h1 with h1 | ⟨d,ns,rfl,c1,c2,c3,h1⟩
 .obtain⟨p,ys,rows,a1,a2,a3,a4,a5⟩:=tM.fits (w:=X.w) xs ds H1 S1 Q q1 p1 (tM.mo ds S1 _ _ (λ d S' z=>z.ext e1) h1);exact .inl ⟨p,ys,rows,a1,a2,a3,a4,λ l us vs rs b1 b2 b3=>.inl (a5 l us vs rs b1 b2 b3)⟩
 .obtain⟨p,ns',a1,a2,a3,a4⟩:=Od (w:=X.w) q1 p1 c1 c2 c3 (λ l hl=>(h1 l hl).ext e1);exact .inr ⟨p,ns',a1,a2,a3,λ l us ms b1 b2 b3 b4=>.inr (a4 l us ms b1 b2 b3 b4)⟩
end
end L5
namespace HT
open PySem PyProof.Rows
section
variable {prog:Program}{w:World}{A:Around}{E:Value->Shared->Prop}{s:Shared}
end
end HT
namespace L2
open PySem PySem.Spec PyProof.Rows
section
variable {X:Cx}{e st:Expr}{te:TE}{pos p2:Pos}
end
end L2
namespace L5
open PySem PySem.Spec L2 L3
open PyProof.Rows hiding St
section
variable {X:Cx}{K:zFr}{e st:Expr}{te:zI}{pos p2 p3 p4:Pos}
noncomputable def Zg:Sm:=λ _=>none
def YH:xC:=λ _ _ _=>False
def Sh {st:Stmt}:uk X st YH:=⟨λ _ _ _ _ _ h=>h.elim,λ _ _ _ _ _ _ ⟨_,_,_,_,h⟩=>h.elim⟩
def Rr {R:Rk}:xD R Zg YH:=λ S0 Z0 S Z L J o E F e P=>by cases e
end
end L5
namespace L5
open PySem L2 L3
def Yc:Good2 zV pQ jD:=lp (λ _ _ _=>vB) λ _ _ _=>nofun
end L5
namespace L5
open PySem PySem.Spec L2 L3
open PyProof.Rows hiding St
section
variable {X:Cx}{e:Expr}{te:zI}{pos p q:Pos}
end
end L5
namespace L3
open PySem PyProof.Rows L2
section
variable {X:Cx}{pos:Pos}
noncomputable def wE (E:pj) (W:Nat->y8->SS->Prop) (m:Nat):pj:={ E with nx:=fun L' S'=>∃ m',m'<m/\W m' L' S',ct:=fun L' S'=>∃ m',m'<m/\W m' L' S',bk:=E.nx }
def lD (c:xj) (tb:xC):xC:=λ E L S=>∃ W:Nat->y8->SS->Prop,(∃ m,W m L S)/\∀ m L S,W m L S->
 c L S λ b S1=>if b=true then tb (wE E W m) L S1 else E.nx L S1
def lD.mo {c:xj}{tb:xC}(hc:vJ c) (hb:s_ tb):s_ (lD c tb):=λ E E' L S hE ⟨W,w0,ws⟩=>
 ⟨W,w0,λ m L S hw=>hc L S _ _ (λ b S1 z=>vR (λ z=>hb (wE E W m) (wE E' W m) L S1 ⟨λ _ _ q=>q,hE.rt,hE.nx,λ _ _ q=>q⟩ z) (λ z=>hE.nx _ _ z) z) (ws m L S hw)⟩
def jc {c:Expr}{body:List Stmt}{tc:xj}{tb:xC}(hp:PassesOwn (model X.prog X.w) X.A X.env X.xe) (hc:w6 X c tc) (hb:t6 X body tb):uk X (.While c body [] pos) (lD tc tb):=by
 refine⟨lD.mo hc.mo hb.mo,PS.imp (UT hp hc.pt hb.ps) λ D B H hu=>?_⟩;obtain⟨L,S,r1,r2,W,⟨m0,w0⟩,ws⟩:=hu;refine⟨λ m B' H'=>Ext H H'/\∃ L S,xw X.K H' L B'/\yb X.K H' S/\W m L S,⟨m0,.refl _,L,S,r1,r2,w0⟩,?_⟩;rintro m B2 H2 ⟨x2,L2,S2,q1,q2,w2⟩;refine vq.go hc.mo q1 q2 (ws m L2 S2 w2) λ k S3 H3 h3 e3 p3=>vR (λ z=>?_) (λ z=>?_) h3
 .refine⟨fun B' H'=>Ext H H'/\∃ L S m',m'<m/\xw X.K H' L B'/\yb X.K H' S/\W m' L S,fun B' H' ⟨a,L',S',m',b,c,d,e⟩=>⟨m',b,a,L',S',c,d,e⟩,L2,S3,q1.ext e3,p3,?_⟩;exact hb.mo (wE (sP X.K H D) W m) _ L2 S3 ⟨fun L5 S5 ⟨m',b,w5⟩ B5 H5 b1 b2 b3=>⟨(x2.trans e3).trans b2,L5,S5,m',b,b1,b3,w5⟩,λ _ _ q=>vz.ext (x2.trans e3) q,λ _ _ q=>vV.ext (x2.trans e3) q,fun L5 S5 ⟨m',b,w5⟩ B5 H5 b1 b2 b3=>⟨(x2.trans e3).trans b2,L5,S5,m',b,b1,b3,w5⟩⟩ z
 .exact z B2 H3 (q1.ext e3) (x2.trans e3) p3
end
end L3
namespace L5
open PySem PyProof.Rows L2 L3
noncomputable def xP (is:List Nat) (c:Ev->Option Bool) (b:Sm):Nat->Ev->Option Out
 | 0,_=>none
 | n+1,J=>(c (yP is J)).bind λ k=>if k=true then (b (yP is J)).bind λ o=>match o with
   | .nx J2=>xP is c b n J2
   | .ct J2=>xP is c b n J2
   | .bk J2=>some (.nx (yP is J2))
   | .rt t=>some (.rt t)
  else some (.nx (yP is J))
noncomputable def rj (n:Nat) (is:List Nat) (c:Ev->Option Bool) (b:Sm):Sm:=xP is c b n
def jj {R:Rk} [Lo R] {n:Nat}{is:List Nat}{c:Ev->Option Bool}{tc:xj}{b:Sm}{tb:xC}(hc:vX c tc) (hb:xD R b tb):xD R (rj n is c b) (lD tc tb):=λ S0 Z0 S Z L J o E F e P=>by
 obtain⟨SB,b1,FB,b2⟩:=F.rebase;have lo:∀ S' d y,R SB S' Z0 y d->R S0 S' Z0 y d:=λ S' d y r=>Lo.lo b1 (λ _ z=>z) r;refine⟨λ m L' S'=>∃ Z' J',FR SB Z0 S' Z' L' J'/\xP is c b m J'=some o,⟨n,Z,J,FB,e⟩,λ m L' S' ⟨Z',J',F',e'⟩=>?_⟩;cases m with
 | zero=>cases e'
 | succ m=>
  unfold xP at e';obtain⟨k,c1,e'⟩:=zOb e';have G:=F'.yP is;refine hc S' Z' L' _ k _ G.er c1 λ S3 s3=>?_;cases k with
  | true=>
   rw[if_pos rfl] at e' ⊢;obtain⟨o1,g2,e'⟩:=zOb e';refine hb SB Z0 S3 Z' L' _ o1 _ (G.grow s3) g2 ?_;cases o1 with
   | nx J2=>exact λ S3 Z3 L3 F3=>⟨m,zE2 m,Z3,J2,F3,e'⟩
   | ct J2=>exact λ S3 Z3 L3 F3=>⟨m,zE2 m,Z3,J2,F3,e'⟩
   | bk J2=>cases e';exact λ S3 Z3 L3 F3=>P S3 Z3 L3 ((F3.yP is).back b1 F.z0)
   | rt y=>cases e';exact λ d S3 s3 r3=>P d S3 (b1.trans s3) (lo _ _ _ r3)
  | false=>
   rw[if_neg (by decide)] at e' ⊢;cases e';exact P S3 Z' L' ((G.grow s3).back b1 F.z0)
end L5
namespace ZP
open PySem PyProof.Rows
set_option maxRecDepth 100000
def Q4 (k:Bool) (l:Addr) (xs:Array Value):Meets (Builtin.«enumerate.__new__» ⟨[.type "enumerate",.ref l],[]⟩) (λ _ R s=>SQ s.heap k l xs/\
   R (.ok (.ret (.ref (s.heap.push (lb k l)).objs.size))) { s with heap:=(s.heap.push (lb k l)).push { cls:=.type "enumerate",data:=.fields #[.none,.bool false,.ref s.heap.objs.size,rawInt 0,.none,.none] } }):=
 .of_wp λ prog w A R s h=>by
  obtain⟨hp,g,d,tk,os⟩:=s;obtain⟨q,h⟩:=h;have hsub:=sub_enumerate;have hL:SQ (Shared.heap ⟨hp,g,d,tk,os⟩) k l xs:=q;obtain⟨⟨c,y6,dt,sl⟩,hl,hc⟩:=q.cls;replace hc:c=.type (cond k "tuple" "list"):=hc;subst hc
  wp_walk using AutoSeq1.wpAny_loadPart' hl
  refine wpAny_stack_any λ st=>zD1 ?_;split
  .rename_i c _ _ _ _ _;cases (c == Value.type "enumerate")
   .wp_walk using AutoSeq1.wpAny_loadPart' hl,made hL
    exact⟨_,rfl,h⟩
   .wp_walk using AutoSeq1.wpAny_loadPart' hl,made hL
    exact⟨_,rfl,h⟩
  .wp_walk using AutoSeq1.wpAny_loadPart' hl,made hL
   exact⟨_,rfl,h⟩
section
variable {prog:Program}{w:World}{A:Around}{E:Value->Shared->Prop}{s:Shared}
def Ov {k:Bool}{l:Addr}{xs:Array Value}{Q:Value->Shared->Prop}(hL:SQ s.heap k l xs)
  (h:∀ h',IsEnum h' (s.heap.objs.size+1) s.heap.objs.size 0 .none->SI h' k s.heap.objs.size l 0->(∀ b o,s.heap.get? b=some o->h'.get? b=some o)->Q (.ref (s.heap.objs.size+1)) { s with heap:=h' }):
  wpAny (model prog w) A (call (.type "enumerate") [.ref l]) Q E s:=by
 refine callType_new F.called_enumerate (by decide) (F.typeCall_enumerate_1 _) (F.newCall_enumerate_1 _) (λ obj=>F.args_object_init_2 obj _) F.entry_enumerate_new (Q4 k l xs) ⟨hL,?_⟩;have hz:(s.heap.push (lb k l)).objs.size=s.heap.objs.size+1:=Heap.size_push ..;show _/\_;rw[hz];have he:IsEnum ((s.heap.push (lb k l)).push { cls:=.type "enumerate",data:=.fields #[.none,.bool false,.ref s.heap.objs.size,rawInt 0,.none,.none] }) (s.heap.objs.size+1) s.heap.objs.size 0 .none:=by
  have:=zA9 (s.heap.push (lb k l)) (o:={ cls:=.type "enumerate",data:=.fields #[.none,.bool false,.ref s.heap.objs.size,rawInt 0,.none,.none] }) rfl;rw[hz] at this;exact this
 exact⟨⟨_,he,rfl⟩,h _ he ⟨_,zHp _ (zA9 _ rfl),rfl,rfl⟩ λ b o x=>zHp _ (zHp _ x)⟩
def O3 (hh:A.handled=none) (k:Bool) (it l:Addr) (hne:l≠it) (xs:Array Value):Draws prog w A it [it,l] xs.size (λ i v=>xs[i]?=some v) (λ i h=>SI h k it l i/\SQ h k l xs) where
 live:=λ _ _ st=>let ⟨o,ho,_⟩:=st.1;⟨o,ho⟩
 frame:=λ _ _ _ st hk=>⟨st.1.on λ o e=>hk it (by simp) o e,st.2.on λ o e=>hk l (by simp) o e⟩
 item:=λ i s Q E hi st hQ=>draw st.1 st.2 (x:=xs[i]) (by simp[hi]) λ h' hit' hs'=>hQ _ h' s.toks (by simp[hi]) ⟨hit',st.2.on λ o e=>(hs'.2 l hne).trans e⟩ hs'
 done:=λ s Q E st hE=>Y2 hh st.1 st.2 (by simp) hE
end
end ZP
namespace L2
open PySem PySem.Spec PyProof.Rows ZP
section
variable {X:Cx}{pins:List (Addr×Obj)}{B:St}{H:Hp}{s:Shared}
def X9 (K:zFr) (k:Bool) (a:Addr):It:=
 ⟨λ i H=>∃ xs x,sX K H k a xs/\xs[i]?=some x,
   λ i H v H'=>∃ p x,v=.ref p/\H p=none/\H'=upd H p (.tup [.int i,x])/\∀ xs,sX K H k a xs->xs[i]?=some x,
   λ i H=>∃ xs,sX K H k a xs/\xs.length<=i⟩
def Vp {P:Program}{w:World}{K:zFr}{es:List Expr}{kk} {pos:Pos}{k:Bool}{e it a:Addr}(hei:e≠it) (hea:e≠a) (hai:a≠it):
  Turn P w K (.Tuple es kk pos) (X9 K k a) [e,it] e (λ i h=>(∃ old,IsEnum h e it i old)/\SI h k it a i) where
 mem:=by simp
 obj:=λ i h st b hb=>by
  obtain⟨⟨old,q1⟩,o1,q2,_,d1⟩:=st;simp only[zA5,List.not_mem_nil,or_false] at hb;rcases hb with e | e <;> subst e
  .exact⟨_,q1,λ v z=>by cases z⟩
  .exact⟨_,q2,λ v z=>by rw[d1] at z;cases z⟩
 keep:=λ i h h' st k=>⟨let ⟨old,q⟩:=st.1;⟨old,k e (by simp) _ q⟩,st.2.on λ o q=>k it (by simp) o q⟩
 item:=by
  intro X hP hw hK hc i pins s B H E I hf st hg;subst hP hw hK;obtain⟨xs,x,g1,hx⟩:=hg;obtain⟨its,rv,q1⟩:=g1.of I;obtain⟨u1,e1,r1⟩:=rv.get hx;obtain⟨⟨old,he⟩,si⟩:=st;have hlt:i<its.toArray.size:=by have:=(zA2.mp e1).1;simpa using this
  have D:=O3 (prog:=X.prog) (w:=X.w) (A:=X.A.in1) (show X.A.in1.handled=none from I.ok.hd hc) k it a hai its.toArray;refine wpAny_pyNext_enum_itemD D he ⟨si,q1⟩ hlt hei (by simp[hei,hea]) λ u h' tk hP ho hs' hT hsz hk=>⟨_,rfl,?_⟩;have hu:u=u1:=by simp only[List.getElem?_toArray,e1] at hP;exact (zD5 hP).symm
  subst hu;have nT:s.heap.objs.size∉[e,it]:=λ hb=>by
   simp only[zA5,List.not_mem_nil,or_false] at hb;obtain⟨oi,qi,_⟩:=si;rcases hb with z | z
   .exact absurd (zA8 he) (by rw[<- z];exact zE1 _)
   .exact absurd (zA8 qi) (by rw[<- z];exact zE1 _)
  have ne:s.heap.objs.size≠e:=λ z=>nT (by simp[z]);refine wpAny_letOwnedTupleGo_enum ho λ h2 he2 sb=>?_;have fr:H s.heap.objs.size=none:=I.zM.fresh (zA4 _);have I1:Inv X pins B (upd H s.heap.objs.size (.tup [.int i,x])) { s with heap:=s.heap.push { cls:=.type "tuple",data:=.seq [.int i tk,u].toArray },toks:=s.toks }:=
   I.laid (o:=.tup [.int i,x]) (λ b u q=>zHp _ q) (zA4 _) ⟨by show 2<=sizeLine;decide,[.int i tk,u],.cons ⟨tk,rfl⟩ (.cons r1 .nil),IsTup.new _ _⟩
  have hf':∀ b∈[e,it],upd H s.heap.objs.size (.tup [.int i,x]) b=none:=λ b hb=>by
   rw[xo (λ z=>nT (by rw[<- z];exact hb))];exact (hf b hb).1
  have kk:∀ b o,b∉[e,it]->(s.heap.push { cls:=.type "tuple",data:=.seq [.int i tk,u].toArray }).get? b=some o->h2.get? b=some o:=λ b o hb q=>by
   have hbe:b≠e:=λ z=>hb (by simp[z]);have hbi:b≠it:=λ z=>hb (by simp[z]);by_cases hbs:b=s.heap.objs.size
   .subst hbs;rw[zA9 _ rfl] at q;cases q;exact sb.extBut _ _ hbe hT
   .have q':s.heap.get? b=some o:=by rw[Heap.get?_push_ne _ _ _ hbs] at q;exact q
    exact sb.extBut _ _ hbe (hk b o hbe hbi q')
  have I2:=Inv.bq (h':=h2) (t':=tk+1) (fp:=[e,it]) I1 kk λ b hb=>⟨hf' b hb,(hf b hb).2⟩;refine⟨.ref s.heap.objs.size,_,I2,rfl,⟨_,x,rfl,fr,rfl,λ zs hz=>by rw[hz.inj I g1];exact hx⟩,⟨⟨_,by simpa using he2⟩,hs'.1.on λ o q=>(sb.2 it (Ne.symm hei)).trans q⟩,hf'⟩
 done:=by
  intro X hP hw hK hc i pins s B H E I hf st hg;subst hP hw hK;obtain⟨xs,g1,hx⟩:=hg;obtain⟨its,rv,q1⟩:=g1.of I;have l1:=rv.length;obtain⟨⟨old,he⟩,si⟩:=st;have hT:s.TypeIs (.ref e) "enumerate":=⟨_,he,rfl⟩
  unfold pyNext;refine zWb (wpAny_attempt (wpAny_callSpecial?_slot (name:=Str.ofString "__next__") hT F.slot_enumerate_next
   (wpAny_call_entry F.slot_enumerate_next hT F.entry_enumerate_next ?_ (F.args_enumerate_next_1 _))))
  show wpAny _ _ (field (.ref e) 2 >>= _) _ _ _;refine zWb (wpAny_field he rfl (x:=.ref it) rfl ?_);refine zWb (Y2 (show X.A.in1.handled=none from I.ok.hd hc) si q1 (by simp;omega) λ h' x he' hx'=>?_);obtain⟨o,ho,hc⟩:=hx';refine zWb (wpAny_isInstance (T:="StopIteration") (b:=true) ⟨o,ho,hc⟩ isSubtype_stop ?_);exact zD1 ⟨rfl,I.bq (t':=s.toks) (fp:=[e,it]) (λ b o hb q=>he' b o (λ z=>hb (by simp[z])) q) hf⟩
 self:=λ _ _ _ _ _ st h=>let ⟨_,q⟩:=st.1;wpAny_pyIter_enum q h
def Pu (K:zFr) (ta:TA):TI:=fun B H R=>ta B H λ vs H1=>∃ a k,vs=[.ref a]/\(∃ xs,sX K H1 k a xs)/\R (X9 K k a) H1
def Tr {a:Expr}{ta:TA}{p pos pos':Pos}{es:List Expr}{kk} (hg:Gl X "enumerate") (hm:X.mg "enumerate"=none) (ha:PA X [a] ta) (hs:starEach [a] X.env=[(false,eval a X.env)]:=by rfl):
  PI X (.Tuple es kk pos') (.Call (.Name "enumerate" p) [a] [] pos) (Pu X.K ta):=by
 intro pins s B H R I h;refine Call_ (m_ I hg hm boot_enumerate (PyProof.Rows.callWith_type1 (zU (ha pos pins s B H _ I h) λ us s1 ⟨vs,H1,I1,r1,q1⟩=>?_) (by rw[hs];rfl) rfl));obtain⟨a1,k,rfl,⟨xs,g1⟩,q⟩:=q1;cases r1 with
 | cons r rr=>
  cases rr;cases r;obtain⟨it1,_,q1⟩:=g1.of I1;have la:=q1.lt;refine ZP.Ov q1 λ h' E S up=>wpAny_pyIter_enum E ?_;have nw:∀ b∈[s1.heap.objs.size+1,s1.heap.objs.size],s1.heap.objs.size<=b:=λ b hb=>by
   simp only[zA5,List.not_mem_nil,or_false] at hb;rcases hb with z | z <;> rw[z]
   .exact Nat.le_succ _
   .exact zA4 _
  exact⟨_,[s1.heap.objs.size+1,s1.heap.objs.size],_,_,H1,rfl,I1.kept (t':=s1.toks) up,Vp (Nat.succ_ne_self _) (Nat.ne_of_gt (Nat.lt_succ_of_lt la)) (zB3 la),⟨⟨_,E⟩,S⟩,λ b hb=>I1.eM (nw b hb) (I1.zM.fresh (nw b hb)),q⟩
end
end L2
namespace L5
open PySem PySem.Spec L2 L3
open PyProof.Rows hiding St
noncomputable def sN (k:Nat):List D->List D
 | []=>[]
 | d::ds=>.tup [.int k,d]::sN (k+1) ds
noncomputable def qQ (k:Nat):List T->List T
 | []=>[]
 | d::ds=>.tup [.int k,d]::qQ (k+1) ds
theorem Yz:∀ (ds:List D) (k i:Nat),(sN k ds)[i]?=(ds[i]?).map λ d=>D.tup [.int ((k+i:Nat):Int),d]
 | [],k,i=>by simp[sN]
 | d::ds,k,0=>by simp[sN]
 | d::ds,k,i+1=>by
  unfold sN;rw[List.getElem?_cons_succ,List.getElem?_cons_succ,Yz ds (k+1) i,show k+1+i=k+(i+1) from by omega]
theorem Yy:∀ (ds:List D) (k:Nat),(sN k ds).length=ds.length
 | [],k=>rfl
 | d::ds,k=>by unfold sN;rw[zC0,Yy ds];rfl
theorem bC {S:SS}:∀ {ts:List T}{ds:List D}(k:Nat),zu S ts ds->zu S (qQ k ts) (sN k ds)
 | [],ds,k,h=>by simp only[zu] at h;subst h;exact zu.nil
 | t::ts,ds,k,h=>by
  simp only[zu] at h;obtain⟨c,cs,rfl,h1,h2⟩:=h;exact zu.cons (oH (zu.cons (by simp only[Sn]) (zu.cons h1 zu.nil))) (bC (k+1) h2)
section
variable {X:Cx}{K:zFr}{a:Expr}{tA:yQ}{pos p pos':Pos}{es:List Expr}{kk:Nat}
def ZG (t:yQ):vW:=fun L S R=>t L S λ ds S1=>∃ d xs,ds=[d]/\yz d S1=some xs/\R ⟨sN 0 xs,λ S=>yz d S=some xs⟩ S1
def aF (hm:X.mg "enumerate"=none) (ha:wY X [a] tA) (hg:Gl X "enumerate":=by rfl) (hs:starEach [a] X.env=[(false,eval a X.env)]:=by rfl):
  oz X (.Tuple es kk pos') (.Call (.Name "enumerate" p) [a] [] pos) (ZG tA):=by
 refine⟨fun L S Q Q' hq z=>ha.mo L S _ _ (λ ds S1 ⟨d,xs,h1,h2,h4⟩=>⟨d,xs,h1,h2,hq _ _ h4⟩) z,PI.imp (Tr hg hm ha.pa hs) fun B H R hu=>?_⟩;obtain⟨L,S,r1,r2,z⟩:=hu;refine vK.go ha.mo r1 r2 z λ ds S1 vs H1 h1 q1 e1 p1=>?_;obtain⟨d,xs,rfl,s1,h⟩:=h1;obtain⟨v,rfl,d1⟩:=q1.one;obtain⟨a1,us,rfl,g1,g2⟩:=yz.k d1 p1 s1;refine⟨a1,fZ d,rfl,⟨us,g1⟩,h _ H1 e1 p1 λ i H2 S2 x1 x2 hk=>?_⟩;obtain⟨b1,us2,q1,m1,m2⟩:=yz.k (zo.ext x1 d d1) x2 hk;cases q1;have l1:=m2.length;refine⟨λ dd hd=>?_,λ hl=>⟨us2,m1,?_⟩⟩
 .rw[Yz,Nat.zero_add] at hd;obtain⟨dx,hx,rfl⟩:=zOm hd;obtain⟨x,hx',rx⟩:=m2.get hx;refine⟨⟨us2,x,m1,hx'⟩,λ v H' q=>?_⟩;obtain⟨pp,x',rfl,hp,rfl,f1⟩:=q;have ex:x'=x:=by have:=f1 _ m1;rw[hx'] at this;exact (zD5 this).symm
  subst ex;refine⟨.new hp _,x2.new hp,?_⟩;simp only[zo];exact⟨pp,_,rfl,yp.of xl,zx.ext (.new hp _) _ (.cons (by simp only[zo]) (.cons rx .nil))⟩
 .have hl':(sN 0 xs).length<=i:=hl;rw[Yy] at hl';omega
@[simp] noncomputable def qR:List T->Option (List T)
 | [x]=>(wZ x).map λ xs=>qQ 0 xs
 | _=>none
def a_ {g:Ev->Option (List T)}(h:nI g tA):nG false (vk qR g) (ZG tA):=λ S Z L J ts Q hE e hq=>by
 obtain⟨ys,e1,e2⟩:=zOb e;refine h S Z L J ys _ hE e1 λ ds S1 s1 r1=>?_;unfold qR at e2;split at e2
 .obtain⟨xs,e3,rfl⟩:=zOm e2;obtain⟨d,rfl,h1⟩:=uu r1;obtain⟨es,g1,g2⟩:=h1.seq e3;exact⟨d,es,rfl,g1,hq _ S1 s1 (bC 0 g2) λ S'' s=>yz.sx g1 s⟩
 .cases e2
end
end L5
namespace TM
open PySem PyProof.Rows
set_option maxRecDepth 100000
def OE (i:Int) (t:Tok) (l:Addr) (items:Array Value) (n:Nat) (dd:Option Addr) (sl:Array (Option Value)):
  Meets (Builtin.«int.__rmul__» ⟨[.int i t,.ref l],[]⟩) (λ _ R s=>s.heap.get? l=some { cls:=.type "list",dict:=dd,data:=.seq items n,slots:=sl }/\R (.ok (.ret Value.notImplemented)) s):=
 .of_wp λ prog w A R s h=>by
  obtain⟨hp,g,d,tk,os⟩:=s;obtain⟨hl,h⟩:=h
  wp_walk
  exact⟨_,rfl,h⟩
def mulL (l:Addr) (items:Array Value) (n:Nat) (x:Int) (u:Tok) (dd:Option Addr) (sl:Array (Option Value)) (hc0:¬(!Builtin.List.listFitsIndex x)=true) (hc1:¬items.size*x.toNat>(2 ^ 63-1)/8) (hc2:¬Builtin.List.listTooLong (items.size*x.toNat)=true):
  Meets (Builtin.«list.__mul__» ⟨[.ref l,.int x u],[]⟩) (λ _ R s=>s.heap.get? l=some { cls:=.type "list",dict:=dd,data:=.seq items n,slots:=sl }/\R (.ok (.ret (Value.ref s.heap.objs.size))) { s with heap:=s.heap.push { cls:=.type "list",data:=.seq (List.foldl (λ x1 x2=>x1++x2) #[] (List.replicate (if items.isEmpty=true then 0 else x.toNat) items)) } }):=
 .of_wp λ prog w A R s h=>by
  obtain⟨hp,g,d,tk,os⟩:=s;obtain⟨hl,h⟩:=h;have hsz:=AutoListH.joined_fits hc2
  wp_walk;refine wpAny_ite_false (decide_eq_false (Nat.not_lt.mpr hsz)) ?_;wp_walk;exact⟨_,rfl,h⟩
section
variable {prog:Program}{w:World}{A:Around}{E:Value->Shared->Prop}{s:Shared}
def Vt {l:Addr}{its:List Value}{k:Int}{t:Tok}{Q:Value->Shared->Prop}(ht:PlainL s.heap l its.toArray) (hne:its≠[]) (h0:0<=k) (hz:its.length*k.toNat<=sizeLine)  (hk:k<=1000000)
  (more:Q (.ref s.heap.objs.size) { s with heap:=s.heap.push { cls:=.type "list",data:=.seq (List.replicate k.toNat its).flatten.toArray } }):
  wpAny (model prog w) A (binaryOp .Mult (.ref l) (.int k t)) Q E s:=by
 obtain⟨⟨cls,dd,data,sl⟩,n,ho,hc,he,hd⟩:=id ht;simp only at hc hd he;subst hc hd he;have hl:sizeLine=16777216:=rfl;have hem:its.toArray.isEmpty=false:=by cases its with
  | nil=>exact absurd rfl hne
  | cons a r=>rfl
 have hf:List.foldl (λ x1 x2=>x1++x2) #[] (List.replicate (if its.toArray.isEmpty=true then 0 else k.toNat) its.toArray)=(List.replicate k.toNat its).flatten.toArray:=by
  rw[hem,if_neg (by decide)];have:=eN its k.toNat #[];simpa using this
 refine wpAny_binaryOp_repeat_ref (T:="list") (U:="int") (by decide) ⟨_,ho,rfl⟩ (λ s'=>typeIs_int s' k t) noFill_list_mul F.fills_int_mul F.slot_int_rmul repeat_list F.slot_int_index.lookup
  (call_meets F.slot_int_rmul (typeIs_int s k t) F.entry_int_rmul (F.args_int_rmul_2 _ _) (OE k t l its.toArray n none sl)
   ⟨ho,rfl,⟨_,ho,rfl⟩,call_meets F.slot_list_mul ⟨_,ho,rfl⟩ F.entry_list_mul (F.args_list_mul_2 _ _)
    (mulL l its.toArray n k t none sl (by simp[Builtin.List.listFitsIndex];omega) (by simp;omega) (by simp[Builtin.List.listTooLong];omega)) ⟨ho,?_⟩⟩)
 rw[hf];exact more
end
end TM
namespace L2
open PySem PySem.Spec PyProof.Rows
def gY (K:zFr):R2:=λ x y H Q=>∃ a k xs,x=.ref a/\y=.int k/\yg K H a xs/\xs≠[]/\0<=k/\k<=1000000/\xs.length*k.toNat<=sizeLine/\∀ p,H p=none->Q (.ref p) (upd H p (.lst (List.replicate k.toNat xs).flatten))
def SW {X:Cx}:y9 X (binaryOp .Mult) (gY X.K):=by
 intro pins s B H x y v u Q I rx ry h;obtain⟨a,k,xs,rfl,rfl,hx,hne,h1,h2,hz,q⟩:=h;cases rx;obtain⟨t,rfl⟩:=ry;obtain⟨its,r,ht,_⟩:=I.list hx;have hl:=r.length;refine TM.Vt ht (λ z=>hne (r.mV.mp z)) h1 (by rw[<- hl];exact hz) h2 ?_;have hlen:(List.replicate k.toNat xs).flatten.length<=sizeLine:=by
  have:(List.replicate k.toNat xs).flatten.length=k.toNat*xs.length:=by simp
  rw[this,Nat.mul_comm];exact hz
 exact⟨.ref _,_,I.laid (t':=s.toks) (o:=.lst (List.replicate k.toNat xs).flatten) (λ b ob q=>zHp _ q) (zA4 _) ⟨hlen,_,0,r.rep k.toNat,zA9 _ rfl⟩,rfl,q _ (I.zM.fresh (zA4 _))⟩
end L2
namespace L5
open PySem PySem.Spec L2 L3
open PyProof.Rows hiding St
section
variable {X:Cx}{K:zFr}{a b:Expr}{ta tb:zI}{pos:Pos}
noncomputable def Pe:D->Bool
 | .tup _=>true
 | _=>false
def jC:xx:=λ x y S Q=>∃ k ds,y=.int k/\Pe x=false/\yz x S=some ds/\(ds≠[]/\0<=k/\k<=1000000/\ds.length*k.toNat<=sizeLine)/\∀ p,S p=none->Q (.ref p) (ups S p (.lst (List.replicate k.toNat ds).flatten))
def qO:xx:=λ x y S Q=>sJ x y S Q\/jC x y S Q
noncomputable def wB:T->T->Option T
 | .lst ts,.int k=>if ts≠[]/\0<=k/\k<=1000000/\ts.length*k.toNat<=sizeLine then some (.lst (List.replicate k.toNat ts).flatten) else none
 | x,y=>fK x y
theorem qO.mo:wI qO:=λ x y S Q Q' hq h=>by
 rcases h with h | ⟨k,ds,h1,h2,h3,h4,h5⟩
 .exact .inl (sJ.mo x y S Q Q' hq h)
 .exact .inr ⟨k,ds,h1,h2,h3,h4,λ p hp=>hq _ _ (h5 p hp)⟩
def jC.fits:wo K jC (gY K):=λ x y d e H S Q h1 h2 h3 h=>by
 obtain⟨k,ds,rfl,ht,hs,⟨c1,c2,c3,c4⟩,h⟩:=h;simp only[zo] at h2;obtain⟨a,xs,rfl,g1,g2⟩:=qu h1 h3 hs λ ts z=>by subst z;cases ht
 have hl:=g2.length;refine⟨a,k,xs,rfl,h2,g1,λ z=>c1 (by subst z;cases ds with | nil=>rfl | cons _ _=>simp at hl),c2,c3,by rw[<- hl];exact c4,λ p hp=>?_⟩;exact h p (h3.none hp) _ _ (by simp only[zo]) (.new hp _) (h3.ups (.new hp _) ⟨_,xl,zx.ext (.new hp _) _ (zx.rep g2 _)⟩)
theorem qO.fits:wo K qO (λ x y H Q=>(rI vo (λ i j=>.int (i*j)) x y H Q\/gX K x y H Q)\/gY K x y H Q):=λ x y d e H S Q h1 h2 h3 h=>by
 rcases h with h | h
 .exact .inl (sJ.fits x y d e H S Q h1 h2 h3 h)
 .exact .inr (jC.fits x y d e H S Q h1 h2 h3 h)
def qL:Good2 zV wB qO:=λ S Z x y z d e Q hz hx hy ef hq=>by
 unfold wB at ef;split at ef
 .rename_i ts k;split at ef
  .rename_i hc;cases ef;obtain⟨ds,g1,g2⟩:=hx.seq (ts:=ts) rfl;cases hy.int;have hl:=g2.len;refine .inr ⟨_,ds,rfl,?_,g1,⟨λ q=>hc.1 (by subst q;simpa using hl.symm),hc.2.1,hc.2.2.1,by rw[hl];exact hc.2.2.2⟩,λ p hp=>hq _ _ (.new hp _) (rD hz hp (zu.rep g2 _))⟩;cases d with
   | tup es=>exact absurd hx (by
     intro q;rcases q with q | ⟨us,p,es',_,q,_⟩
     .simp only[Sn] at q;obtain⟨_,⟨q,_⟩ | ⟨_,q,_⟩,_⟩:=q <;> cases q
     .cases q)
   | _=>rfl
  .cases ef
 .exact .inl (PK S Z x y z d e Q hz hx hy ef hq)
def q8 (ha:PD X a ta) (hb:PD X b tb):PD X (.BinOp a .Mult b pos) (yK qO ta tb):=oY ((SX.or SV).or SW) qO.fits qO.mo ha hb
end
end L5
namespace L3
open PySem PySem.Spec PyProof.Rows L2
section
variable {X:Cx}{K:zFr}{e o:Expr}{te to:zI}{apos cpos:Pos}
def qU (to te:zI):zI:=fun L S Q=>to L S λ x S1=>match x with
 | .ref p=>(∃ ds,S1 p=some (.lst ds))/\te L S1 λ y S2=>∃ q ds es,y=.ref q/\S2 p=some (.lst ds)/\S2 q=some (.lst es)/\ds.length+es.length<=sizeLine/\Q .zp (ups S2 p (.lst (ds++es)))
 | _=>False
def qU.mo (h:yA to) (h':yA te):yA (qU to te):=fun L S Q Q' hq z=>h L S _ _ (λ x S1 z=>by
 cases x with
 | ref p=>exact⟨z.1,h' L S1 _ _ (λ y S2 ⟨q,ds,es,a,b,c,d,w⟩=>⟨q,ds,es,a,b,c,d,hq _ _ w⟩) z.2⟩
 | _=>exact z) z
def S9 {e0:Expr}(hpe:PE X e0 (iW X.K "list" ar (yd X.K to) (iV (yd X.K te) iT))) (h:yA to) (h':yA te):PD X e0 (qU to te):=by
 refine⟨qU.mo h h',PE.imp hpe fun B H Q hu=>?_⟩;obtain⟨L,S,r1,r2,z⟩:=hu;refine yd.go h r1 r2 z λ x S1 v H1 h1 q1 e1 p1=>?_;cases x with
 | ref p=>
  obtain⟨⟨ds,hd⟩,h1⟩:=h1;simp only[zo] at q1;subst q1;obtain⟨xs,g1,g2⟩:=p1 _ _ hd;refine⟨.inl ⟨rfl,xs,yg.of g1⟩,?_⟩;refine yd.go h' (r1.ext e1) p1 h1 λ y S2 w H2 h2 q2 e2 p2=>?_;obtain⟨q,ds',es,rfl,b1,b2,b3,b4⟩:=h2;simp only[zo] at q2;subst q2;obtain⟨xs',g3,g4⟩:=p2 _ _ b1;obtain⟨ys',g5,g6⟩:=p2 _ _ b2;refine⟨p,q,xs',ys',rfl,rfl,g3,g5,by rw[<- g4.length,<- g6.length];exact b3,?_⟩;have e4:Ext H2 (upd H2 p (.lst (xs'++ys'))):=.lst g3 _;exact b4 _ _ (by simp only[zo]) ((e1.trans e2).trans e4) (p2.ups e4 ⟨_,xl,zx.ext e4 _ (g4.append g6)⟩)
 | zp=>exact h1.elim
 | bl _=>exact h1.elim
 | int _=>exact h1.elim
 | str _=>exact h1.elim
 | tup _=>exact h1.elim
 | xm _=>exact h1.elim
def fw (ho:PD X o to) (he:PD X e te)
  (hbase:attributeBase o "extend" X.env (eval o X.env)=eval o X.env:=by rfl)
  (hfew:((backTo cpos (starEach [e] X.env)).all (λ x=>!x.1)&&(backToKw cpos (keywordEach [] X.env)).all (λ x=>x.1.isSome)
   && decide ([e].length+([]:List Keyword).length+(if ([]:List Keyword).isEmpty then 0 else 1)<30))=true:=by rfl)
  (hline:(apos.endLine == cpos.line)=true:=by rfl) (hs:starEach [e] X.env=(false,eval e X.env)::starEach [] X.env:=by rfl) (hplain:(backTo cpos (starEach [] X.env)).any (·.1)=false:=by rfl):
  PD X (.Call (.Attribute o "extend" apos) [e] [] cpos) (qU to te):=
 S9 (aD PySem.F.plainAttrs_list PySem.F.slot_list_extend PySem.F.type_list_extend Q1 ho.pe (pL he.pe oZ hs) hbase hfew hline hs hplain) ho.mo he.mo
end
end L3
namespace L5
open PySem L2 L3
@[simp] noncomputable def l4 (i:Nat) (f:Ev->Option T):Sm:=fun J=>match J[i]? with
 | some (some (.own (.lst ts)))=>(f J).bind λ y=>match y with
  | .lst us=>if ts.length+us.length<=sizeLine then some (.nx (J.set i (some (.own (.lst (ts++us)))))) else none
  | _=>none
 | _=>none
section
variable {R:Rk}{f:Ev->Option T}{te:zI}
def fC (i:Nat) (hf:wj f te):xD R (l4 i f) (jI (qU (xi i) te)):=λ S0 Z0 S Z L J o E F e P=>by
 unfold l4 at e;split at e
 .rename_i ts h;obtain⟨y,e1,e2⟩:=zOb e;split at e2
  .rename_i us;split at e2
   .rename_i hl;cases e2;obtain⟨p,ob,h1,h2,h3,h4⟩:=F.er.ow i _ h;obtain⟨ds,rfl⟩:∃ ds,ob=.lst ds:=by
     cases ob with
     | lst ds=>exact⟨ds,rfl⟩
     | y6 _=>exact h3.elim
    replace h3:zu (yk S Z) ts ds:=h3;show qU (xi i) te L S _;unfold qU xi;rw[h1];refine⟨⟨ds,h2⟩,hf S Z L J _ _ F.er e1 λ d S1 s1 r1=>?_⟩;obtain⟨q,es,rfl,g1,g2,g3⟩:=r1.2 us rfl;have F1:=F.grow s1;have g4:zu (yk S1 Z) us es:=zu.sx (sG λ a z=>.inl z) us g3;refine⟨q,ds,es,rfl,s1 _ _ h2,g2,by rw[h3.len,g4.len];exact hl,P _ Z L (F1.mut (us:=.lst (ts++us)) (es:=.lst (ds++es)) i h h1 ((zu.sx (vG s1) ts h3).append g4))⟩
   .cases e2
  .cases e2
 .cases e
end
end L5
namespace L5
open PySem PySem.Spec L2 L3
open PyProof.Rows hiding St
section
variable {X:Cx}{K:zFr}{e:Expr}{es:List Expr}{tA:yQ}{pos p:Pos}
def sL:wH:=λ ds S Q=>match ds with
 | [.int i]=>Q (.int i) S
 | [.bl k]=>Q (.int (if k then 1 else 0)) S
 | _=>False
def sL.mo:uL sL:=λ ds S Q Q' hq h=>by
 unfold sL at h ⊢;split at h
 .exact hq _ _ h
 .exact hq _ _ h
 .exact h.elim
def sL.fits:tW K sL (λ xs H Q=>(∃ i,xs=[.int i]/\Q (.int i) H)\/∃ k,xs=[.bl k]/\Q (.int (if k then 1 else 0)) H):=λ xs ds H S Q h0 h2 h=>by
 unfold sL at h;split at h
 .obtain⟨x,rfl,h1⟩:=h0.one;simp only[zo] at h1;subst h1;exact .inl ⟨_,rfl,h _ H (by simp only[zo]) (.refl H) h2⟩
 .obtain⟨x,rfl,h1⟩:=h0.one;simp only[zo] at h1;subst h1;exact .inr ⟨_,rfl,h _ H (by simp only[zo]) (.refl H) h2⟩
 .exact h.elim
def S7 (hm:X.mg "int"=none) (ha:wY X (e::es) tA) (hg:Gl X "int":=by rfl) (he:starEach (e::es) X.env=(false,eval e X.env)::starEach es X.env:=by rfl) (hpl:(backTo pos (starEach es X.env)).any (·.1)=false:=by rfl):PD X (.Call (.Name "int" p) (e::es) [] pos) (wD sL tA):=
 sj (oT N0 hg hm PyProof.Rows.boot_int ha.pa (by decide) (by decide) he hpl) sL.mo sL.fits ha.mo
@[simp] noncomputable def ej:List T->Option T
 | [.int i]=>some (.int i)
 | [.bl k]=>some (.int (if k then 1 else 0))
 | _=>none
def good_int:uM zV ej sL:=λ S Z ys z ds Q hz hv e hq=>by
 unfold ej at e;split at e
 .cases e;obtain⟨d,rfl,h1⟩:=uu hv;cases h1.int;exact hq _ S (.refl S) (Cl.of (λ _=>nofun) vL)
 .cases e;obtain⟨d,rfl,h1⟩:=uu hv;cases h1.bl;exact hq _ S (.refl S) (Cl.of (λ _=>nofun) vL)
 .cases e
end
end L5
namespace L2
open PySem PySem.Spec PyProof.Rows
section
variable {X:Cx}{e st:Expr}{te ts:TE}{pos p2:Pos}
end
end L2
namespace L5
open PySem PySem.Spec L2 L3
open PyProof.Rows hiding St
section
variable {X:Cx}{K:zFr}{e st:Expr}{te ts:zI}{pos p2:Pos}
end
end L5
namespace L5
section
variable {α:Type}{P:List α->Prop}
def tT (h:∀ a,P [a]) (us:List α) (hl:us.length=1):P us:=match us,hl with | [a],_=>h a
def ui (h:∀ a b,P [a,b]) (us:List α) (hl:us.length=2):P us:=match us,hl with | [a,b],_=>h a b
def sV (h:∀ a b c,P [a,b,c]) (us:List α) (hl:us.length=3):P us:=match us,hl with | [a,b,c],_=>h a b c
def lV (h:∀ a b c d,P [a,b,c,d]) (us:List α) (hl:us.length=4):P us:=match us,hl with | [a,b,c,d],_=>h a b c d
def NI (h:∀ a b c d e,P [a,b,c,d,e]) (us:List α) (hl:us.length=5):P us:=match us,hl with | [a,b,c,d,e],_=>h a b c d e
def NH (h:∀ a b c d e f,P [a,b,c,d,e,f]) (us:List α) (hl:us.length=6):P us:=match us,hl with | [a,b,c,d,e,f],_=>h a b c d e f
def ar7 (h:∀ a b c d e f g,P [a,b,c,d,e,f,g]) (us:List α) (hl:us.length=7):P us:=match us,hl with | [a,b,c,d,e,f,g],_=>h a b c d e f g
def ar8 (h:∀ a b c d e f g i,P [a,b,c,d,e,f,g,i]) (us:List α) (hl:us.length=8):P us:=match us,hl with | [a,b,c,d,e,f,g,i],_=>h a b c d e f g i
end
end L5
namespace L5
open PySem PySem.Spec L2 L3
open PyProof.Rows hiding St
section
variable {P:Program}{w:World}{K:zFr}{mg:Str->Option Value}{base h:Heap}{x:Str}{st:Stmt}
def Fx (K:zFr) (x:Str) (st:Stmt):Prop:=∃ (f:Addr) (oc:Value) (od:Option Addr) (kV dc pm:Value) (an:Option Addr) (cd ct:Value) (sl:Array (Option Value)),
 PySem.W.nsIn K mainGlobals x=some (some (.ref f))/\K.lookup f=some ⟨oc,od,.func (PySem.W.fnOf x x (rW st) (uc st) (zN st) .none kV dc pm an cd ct),sl⟩/\PySem.W.codeIn K cd x=true/\PySem.W.keepIn K (.ref f)=true
def Fx.i {f:Addr}{oc:Value}{od:Option Addr}{kV dc pm:Value}{an:Option Addr}{cd ct:Value}{sl:Array (Option Value)}(a:PySem.W.nsIn K mainGlobals x=some (some (.ref f))) (l:K.lookup f=some ⟨oc,od,.func (PySem.W.fnOf x x (rW st) (uc st) (zN st) .none kV dc pm an cd ct),sl⟩) (c:PySem.W.codeIn K cd x=true) (k:PySem.W.keepIn K (.ref f)=true):Fx K x st:=⟨f,oc,od,kV,dc,pm,an,cd,ct,sl,a,l,c,k⟩
def Fy (K:zFr) (mg:Str->Option Value) (x:Str) (st:Stmt):Prop:=∃ (f:Addr) (fd:FuncData),tV K x x st f fd/\mg x=some (.ref f)
def Fx.mk (H:Fx K x st) (X:K.In h) (G:h.Ns mainGlobals mg):Fy K mg x st:=by
 obtain⟨f,oc,od,kV,dc,pm,an,cd,ct,sl,a,l,c,k⟩:=H;exact⟨f,_,Yi l c k,PySem.W.mg_of X G a⟩
theorem Fx.law {fa:Addr}{p:Str}(H:Fx K "law" st) (X:K.In h) (G:h.Ns mainGlobals mg) (hfa:mg "law"=some (.ref fa)) (hb:∀ (kV dc pm:Value) (an:Option Addr) (cd ct:Value) (s:Shared) (v:Value),BindsTo s (PySem.W.fnOf "law" "law" (rW st) (uc st) (zN st) .none kV dc pm an cd ct) ⟨[v],[]⟩ [(p,v)]):∃ fd:FuncData,tV K "law" "law" st fa fd/\∀ (s:Shared) (v:Value),BindsTo s fd ⟨[v],[]⟩ [(p,v)]:=by
 obtain⟨f,oc,od,kV,dc,pm,an,cd,ct,sl,a,l,c,k⟩:=H;have e:=hfa.symm.trans (PySem.W.mg_of X G a);cases e;exact⟨_,Yi l c k,hb kV dc pm an cd ct⟩
def Cn (K:zFr) (x:Str) (t:V):Prop:=∃ u,PySem.W.nsIn K mainGlobals x=some (some u)/\L2.RelV t u
def Cn.i {t:V}{u:Value}(a:PySem.W.nsIn K mainGlobals x=some (some u)) (r:L2.RelV t u):Cn K x t:=⟨u,a,r⟩
def Cn.mk {t:V}(H:Cn K x t) (X:K.In h) (G:h.Ns mainGlobals mg):∃ u,mg x=some u/\L2.RelV t u:=by
 obtain⟨u,a,r⟩:=H;exact⟨u,PySem.W.mg_of X G a,r⟩
def y7 {R:Rk} [Lo R] {N ps:List Str}{k n:Nat}{g:Sm}(F:Fy K mg x st) (Sc:yr N ps (zN st)) (hn:n=ps.length)
  (hb:∀ (kV doc pm:Value) (an:Option Addr) (cdv ct:Value) (us:List Value),us.length=ps.length->bindArgs (PySem.W.fnOf x x (rW st) (uc st) (zN st) .none kV doc pm an cdv ct) ⟨us,[]⟩=pure (ps.zip us))
  (hbody:∀ (f:Addr) (cdv:Value) (A:Around) (outer:List Env) (s:Shared) (H:Hp) (E:XK),y_ k (A.deeper (envOfC x (zN st) s.heap.objs.size f cdv))->
   ∃ t,t6 (sR ur P w K mg base N x (zN st) f cdv A outer s H E).qE (uc st) t/\xD R g t):FD P w K mg base x (k+1) ps (yf R (yn N n g)):=by
 obtain⟨f,fd,F,hm⟩:=F;exact Oh F hm Sc hn hb (hbody f)
end
end L5
namespace RN
open L5
abbrev Bd:=List (Int×Int)
def xN (b c:Bd):Prop:=∀ q,zR b q=true->zR c q=true
def xN.refl (b:Bd):xN b b:=λ _ h=>h
def xN.of {b c:Bd}(h:∀ p∈b,∃ r∈c,r.1<=p.1/\r.2<=p.2):xN b c:=λ q x=>by
 obtain⟨p,hp,h1,h2⟩:=yL.mp x;obtain⟨r,hr,h3,h4⟩:=h p hp;exact yL.mpr ⟨r,hr,by omega,by omega⟩
def xN.at {b c:Bd}(h:xN b c) {p:Int×Int}(hp:p∈b):∃ r∈c,r.1<=p.1/\r.2<=p.2:=yL.mp (h p (yL.mpr ⟨p,hp,zC6 _,zC6 _⟩))
structure Gd (A B:Int) (b:Bd):Prop where
 j0:uq b
 wy:∀ p∈b,(0<=p.1/\p.1<=A)/\0<=p.2/\p.2<=B
noncomputable def wG:Bd:=[(0,0)]
def OQ {q:Int×Int}:zR wG q=true↔0<=q.1/\0<=q.2:=by
 rw[yL];unfold wG;simp
theorem Gd.wG {A B:Int}(hA:0<=A) (hB:0<=B):Gd A B wG:=⟨by unfold RN.wG uq;simp,λ p hp=>by
 unfold RN.wG at hp;cases zB6.mp hp;exact⟨⟨zC6 _,hA⟩,zC6 _,hB⟩⟩
def Gd.QL {A B:Int}{b:Bd}(h:Gd A B b):xN b RN.wG:=xN.of λ p hp=>⟨(0,0),by unfold RN.wG;simp,(h.wy p hp).1.1,(h.wy p hp).2.1⟩
theorem Gd.eq {A B:Int}{b c:Bd}(h:Gd A B b) (h':Gd A B c) (x:xN b c) (y:xN c b):b=c:=uq.eq h.j0 h'.j0 λ q=>by
 rw[zC7];exact⟨x q,y q⟩
def Gd.least {A B:Int}{ps:Bd}(h:∀ p∈ps,(0<=p.1/\p.1<=A)/\0<=p.2/\p.2<=B):Gd A B (vQ ps):=⟨fX ps,λ p hp=>h p (QI hp)⟩
def Z4 {ps qs:Bd}(h:∀ p∈ps,∃ r∈qs,r.1<=p.1/\r.2<=p.2):xN (vQ ps) (vQ qs):=λ q x=>by
 rw[nc] at x ⊢;exact xN.of h q x
theorem ZN:∀ {b:Bd}{lo hi:Int},uq b->(∀ p∈b,lo<=p.1/\p.1<=hi)->(b.length:Int)<=hi+1-lo\/b=[]
 | [],_,_,_,_=>.inr rfl
 | p::b,lo,hi,h,hb=>by
  have h1:=List.pairwise_cons.mp h;have hp:=hb p zMc;refine .inl ?_;rcases ZN (lo:=p.1+1) (hi:=hi) h1.2 (λ q hq=>⟨by have:=(h1.1 q hq).1;omega,(hb q (zMo _ hq)).2⟩) with x | x
  .rw[zC0];omega
  .subst x;simp;omega
theorem ZM:∀ {b:Bd}{lo hi:Int},uq b->(∀ p∈b,lo<=p.2/\p.2<=hi)->(b.length:Int)<=hi+1-lo\/b=[]
 | [],_,_,_,_=>.inr rfl
 | p::b,lo,hi,h,hb=>by
  have h1:=List.pairwise_cons.mp h;have hp:=hb p zMc;refine .inl ?_;rcases ZM (lo:=lo) (hi:=p.2-1) h1.2 (λ q hq=>⟨(hb q (zMo _ hq)).1,by have:=(h1.1 q hq).2;omega⟩) with x | x
  .rw[zC0];omega
  .subst x;simp;omega
def Gd.qI {A B:Int}{b:Bd}(h:Gd A B b) (hA:0<=A):(b.length:Int)<=A+1:=by
 rcases ZN (lo:=0) (hi:=A) h.j0 (λ p hp=>(h.wy p hp).1) with x | x
 .omega
 .subst x;simp;omega
def Gd.QH {A B:Int}{b:Bd}(h:Gd A B b) (hB:0<=B):(b.length:Int)<=B+1:=by
 rcases ZM (lo:=0) (hi:=B) h.j0 (λ p hp=>(h.wy p hp).2) with x | x
 .omega
 .subst x;simp;omega
noncomputable def xf (x:Int):Int:=if x>0 then x else 0
def jq (x:Int):0<=xf x:=by unfold xf;split <;> omega
def fJ {x y:Int}(h:x<=y):xf x<=xf y:=by unfold xf;split <;> split <;> omega
def Qw {x g:Int}(h:0<=x) (hg:0<=g):xf (x-g)<=x:=by unfold xf;split <;> omega
noncomputable def xR (a b:Int) (p:Int×Int):Int×Int:=(xf (p.1-a),xf (p.2-b))
noncomputable def ua (A B:Int) (p:Int×Int):Bool:=decide (p.1<=A)&&decide (p.2<=B)
noncomputable def qX (A B a b:Int) (bd:Bd):Bd:=vQ ((bd.map (xR a b)).filter (ua A B))
def NK (A B a b:Int) (bd:Bd):Gd A B (qX A B a b bd):=Gd.least λ p hp=>by
 obtain⟨h1,h2⟩:=zC8.mp hp;obtain⟨q,_,rfl⟩:=zB0.mp h1;have h3:(xR a b q).1<=A/\(xR a b q).2<=B:=by simpa [ua] using h2
 exact⟨⟨jq _,h3.1⟩,jq _,h3.2⟩
def Xx (A B a b:Int) {bd bd':Bd}(h:xN bd bd'):xN (qX A B a b bd) (qX A B a b bd'):=Z4 λ p hp=>by
 obtain⟨h1,h2⟩:=zC8.mp hp;obtain⟨q,hq,rfl⟩:=zB0.mp h1;obtain⟨r,hr,r1,r2⟩:=h.at hq;have h3:(xR a b q).1<=A/\(xR a b q).2<=B:=by simpa [ua] using h2
 have m1:(xR a b r).1<=(xR a b q).1:=fJ (by omega);have m2:(xR a b r).2<=(xR a b q).2:=fJ (by omega);exact⟨xR a b r,zC8.mpr ⟨zB0.mpr ⟨r,hr,rfl⟩,by simp[ua];omega⟩,m1,m2⟩
noncomputable def tm (b c:Bd):Bd:=vQ (b++c)
def O1 (b c:Bd) (q:Int×Int):zR (tm b c) q=(zR b q||zR c q):=by unfold tm;rw[nc,OP]
def O0 {A B:Int}{b c:Bd}(h:Gd A B b) (h':Gd A B c):Gd A B (tm b c):=Gd.least λ p hp=>by
 rcases zB9.mp hp with x | x
 .exact h.wy p x
 .exact h'.wy p x
noncomputable def jt (p q:Int×Int):Int×Int:=(if q.1>p.1 then q.1 else p.1,if q.2>p.2 then q.2 else p.2)
noncomputable def uH (b c:Bd):Bd:=vQ (b.flatMap λ p=>c.map (jt p))
def Xi (b c:Bd) (q:Int×Int):zR (uH b c) q=(zR b q&&zR c q):=by
 unfold uH;rw[nc,zC7,zE5,yL,yL,yL];constructor
 .rintro⟨p,hp,h1,h2⟩;obtain⟨x,hx,hp⟩:=List.mem_flatMap.mp hp;obtain⟨y,hy,rfl⟩:=zB0.mp hp;unfold jt at h1 h2;dsimp only at h1 h2;refine⟨⟨x,hx,?_,?_⟩,⟨y,hy,?_,?_⟩⟩ <;> (first | (split at h1 <;> omega) | (split at h2 <;> omega))
 .rintro⟨⟨x,hx,h1,h2⟩,⟨y,hy,h3,h4⟩⟩;refine⟨jt x y,List.mem_flatMap.mpr ⟨x,hx,zB0.mpr ⟨y,hy,rfl⟩⟩,?_,?_⟩
  .show (if y.1>x.1 then y.1 else x.1)<=q.1;split <;> omega
  .show (if y.2>x.2 then y.2 else x.2)<=q.2;split <;> omega
def N8 {A B:Int}{b c:Bd}(h:Gd A B b) (h':Gd A B c):Gd A B (uH b c):=Gd.least λ p hp=>by
 obtain⟨x,hx,hp⟩:=List.mem_flatMap.mp hp;obtain⟨y,hy,rfl⟩:=zB0.mp hp;have a1:=h.wy x hx;have a2:=h'.wy y hy;unfold jt;dsimp only;refine⟨⟨?_,?_⟩,?_,?_⟩ <;> split <;> omega
noncomputable def tp (bs:List Bd):Bd:=bs.foldl tm []
noncomputable def nA (bs:List Bd):Bd:=bs.foldl uH wG
theorem eU:∀ (bs:List Bd) (b:Bd) (q:Int×Int),zR (bs.foldl tm b) q=true↔zR b q=true\/∃ c∈bs,zR c q=true
 | [],b,q=>by simp
 | c::bs,b,q=>by
  rw[List.foldl_cons,eU bs,O1,Bool.or_eq_true];constructor
  .rintro ((h | h) | ⟨d,hd,h⟩)
   .exact .inl h
   .exact .inr ⟨c,zMc,h⟩
   .exact .inr ⟨d,zMo _ hd,h⟩
  .rintro (h | ⟨d,hd,h⟩)
   .exact .inl (.inl h)
   .rcases zA5.mp hd with e | e
    .subst e;exact .inl (.inr h)
    .exact .inr ⟨d,e,h⟩
theorem l6 {A B:Int}:∀ (bs:List Bd) (b:Bd),Gd A B b->(∀ c∈bs,Gd A B c)->Gd A B (bs.foldl tm b)
 | [],b,h,_=>h
 | c::bs,b,h,hb=>l6 bs _ (O0 h (hb c zMc)) λ d hd=>hb d (zMo _ hd)
def Gd.nil {A B:Int}:Gd A B []:=⟨by unfold uq;simp,λ p hp=>by cases hp⟩
theorem dn:∀ (bs:List Bd) (b:Bd) (q:Int×Int),zR (bs.foldl uH b) q=true↔zR b q=true/\∀ c∈bs,zR c q=true
 | [],b,q=>by simp
 | c::bs,b,q=>by
  rw[List.foldl_cons,dn bs,Xi,zE5];constructor
  .rintro⟨⟨h1,h2⟩,h3⟩;exact⟨h1,λ d hd=>by
    rcases zA5.mp hd with e | e
    .subst e;exact h2
    .exact h3 d e⟩
  .rintro⟨h1,h2⟩;exact⟨⟨h1,h2 c zMc⟩,λ d hd=>h2 d (zMo _ hd)⟩
theorem dm {A B:Int}:∀ (bs:List Bd) (b:Bd),Gd A B b->(∀ c∈bs,Gd A B c)->Gd A B (bs.foldl uH b)
 | [],b,h,_=>h
 | c::bs,b,h,hb=>dm bs _ (N8 h (hb c zMc)) λ d hd=>hb d (zMo _ hd)
noncomputable def xa (pu:Bool) (g t:Int):Int×Int:=if pu=true then (t,g) else (g,t)
noncomputable def z_ (pu:Bool) (p:Int×Int):Int:=if pu=true then p.2 else p.1
noncomputable def yD (pu:Bool) (p:Int×Int):Int:=if pu=true then p.1 else p.2
noncomputable def wW (pu:Bool) (yc give get:Int):Nat->Int->Int->Bd
 | 0,_,_=>[]
 | n+1,g,t=>if g<=yc then xa pu g t::wW pu yc give get n (g+give) (xf (t-get)) else []
def Tb {pu:Bool}{g t g' t':Int}(h:g'<=g) (h':t'<=t):(xa pu g' t').1<=(xa pu g t).1/\(xa pu g' t').2<=(xa pu g t).2:=by
 cases pu
 .exact⟨h,h'⟩
 .exact⟨h',h⟩
theorem Xa (pu:Bool) (yc give get:Int):∀ (n:Nat) (g t g' t':Int),g'<=g->t'<=t->∀ e∈wW pu yc give get n g t,∃ r∈wW pu yc give get n g' t',r.1<=e.1/\r.2<=e.2
 | 0,_,_,_,_,_,_,e,he=>by cases he
 | n+1,g,t,g',t',h1,h2,e,he=>by
  unfold wW at he ⊢;split at he
  .rw[if_pos (by omega)];rcases zA5.mp he with x | x
   .subst x;exact⟨_,zMc,Tb h1 h2⟩
   .obtain⟨r,hr,r1⟩:=Xa pu yc give get n _ _ (g' + give) (xf (t'-get)) (by omega) (fJ (by omega)) e x;exact⟨r,zMo _ hr,r1⟩
  .cases he
theorem dh (pu:Bool) (yc give get most:Int) (hg:1<=give) (hgt:0<=get):∀ (n:Nat) (g t:Int),0<=g->0<=t->t<=most->∀ e∈wW pu yc give get n g t,(0<=z_ pu e/\z_ pu e<=yc)/\0<=yD pu e/\yD pu e<=most
 | 0,_,_,_,_,_,e,he=>by cases he
 | n+1,g,t,h1,h2,h3,e,he=>by
  unfold wW at he;split at he
  .rcases zA5.mp he with x | x
   .subst x;cases pu <;> exact⟨⟨h1,by assumption⟩,h2,h3⟩
   .exact dh pu yc give get most hg hgt n _ _ (by omega) (jq _) (Int.le_trans (Qw h2 hgt) h3) e x
  .cases he
theorem Xb (pu:Bool) (yc give get:Int) (hg:1<=give):∀ (n:Nat) (g t:Int),g<=yc+1->((wW pu yc give get n g t).length:Int)<=yc+1-g
 | 0,g,t,h=>by simp[wW];omega
 | n+1,g,t,h=>by
  unfold wW;split
  .rw[zC0];by_cases hh:g+give<=yc+1
   .have:=Xb pu yc give get hg n (g+give) (xf (t-get)) hh;omega
   .have e:wW pu yc give get n (g+give) (xf (t-get))=[]:=by
     cases n with
     | zero=>rfl
     | succ n=>unfold wW;rw[if_neg (by omega)]
    rw[e];simp;omega
  .simp;omega
structure Wy where
 f:Nat
 t:Nat
 a:Int
 b:Int
structure Sl where
 p:Nat
 pu:Bool
 gv:Int
 gt:Int
structure zE where
 A:Int
 B:Int
 os:List Bool
 ws:List Wy
 ss:List Sl
structure zE.Ok (F:zE):Prop where
 a0:0<=F.A
 a1:F.A<=12
 b0:0<=F.B
 b1:F.B<=12
 n1:1<=F.os.length
 n8:F.os.length<=8
 ws:∀ w∈F.ws,w.f<F.os.length/\w.t<F.os.length
 uO:F.ws.length<=60
 ss:∀ s∈F.ss,1<=s.gv/\0<=s.gt
 sl:F.ss=[]\/(F.A+1)*(F.B+1)<64
 s8:F.ss.length<=60
noncomputable def zE.yc (F:zE) (pu:Bool):Int:=if pu=true then F.B else F.A
noncomputable def xK (F:zE) (s:Sl) (p:Int×Int):Bd:=wW s.pu (F.yc s.pu) s.gv s.gt 100 (z_ s.pu p) (yD s.pu p)
noncomputable def oa (F:zE) (s:Sl) (bd:Bd):Bd:=vQ (bd.flatMap (xK F s))
def Na (F:zE) (s:Sl) {b c:Bd}(h:xN b c):xN (oa F s b) (oa F s c):=Z4 λ p hp=>by
 obtain⟨x,hx,hp⟩:=List.mem_flatMap.mp hp;obtain⟨r,hr,r1,r2⟩:=h.at hx;obtain⟨e,he,e1⟩:=Xa s.pu (F.yc s.pu) s.gv s.gt 100 (z_ s.pu x) (yD s.pu x) (z_ s.pu r) (yD s.pu r) (by unfold z_;split <;> assumption) (by unfold yD;split <;> assumption) p hp;exact⟨e,List.mem_flatMap.mpr ⟨r,hr,he⟩,e1⟩
def O_ {F:zE}{s:Sl}(hs:1<=s.gv/\0<=s.gt) {p:Int×Int}(hp:(0<=p.1/\p.1<=F.A)/\0<=p.2/\p.2<=F.B):∀ e∈xK F s p,(0<=e.1/\e.1<=F.A)/\0<=e.2/\e.2<=F.B:=λ e he=>by
 obtain⟨p,pu,gv,gt⟩:=s;unfold xK zE.yc at he;cases pu with
 | true=>exact (dh true F.B gv gt F.A hs.1 hs.2 100 _ _ hp.2.1 hp.1.1 hp.1.2 e he).symm
 | false=>exact dh false F.A gv gt F.B hs.1 hs.2 100 _ _ hp.1.1 hp.2.1 hp.2.2 e he
def Nb {F:zE}{s:Sl}(hs:1<=s.gv/\0<=s.gt) {b:Bd}(h:Gd F.A F.B b):Gd F.A F.B (oa F s b):=Gd.least λ p hp=>by
 obtain⟨x,hx,hp⟩:=List.mem_flatMap.mp hp;exact O_ hs (h.wy x hx) p hp
noncomputable def wX (F:zE) (last:List Bd) (p:Nat):List Bd:=(F.ws.filter λ w=>decide (w.f=p)).map λ w=>qX F.A F.B w.a w.b (last.getD w.t [])
noncomputable def zE.stall (F:zE) (p:Nat):Option Sl:=F.ss.find? λ s=>decide (s.p=p)
noncomputable def xp (F:zE) (last:List Bd) (p:Nat):Bd:=
 if F.os.getD p false=true then match F.stall p with
  | none=>tp (wX F last p)
  | some s=>oa F s (tp (wX F last p))
 else nA (wX F last p)
def ik (F:zE) (last:List Bd) (p:Nat):∀ c∈wX F last p,Gd F.A F.B c:=λ c hc=>by
 obtain⟨w,_,rfl⟩:=zB0.mp hc;exact NK ..
def Zo {F:zE}(ok:F.Ok) (last:List Bd) (p:Nat):Gd F.A F.B (xp F last p):=by
 unfold xp;have h1:Gd F.A F.B (tp (wX F last p)):=l6 _ _ Gd.nil (ik F last p);split
 .split
  .exact h1
  .rename_i s e;exact Nb (ok.ss s (List.mem_of_find?_eq_some e)) h1
 .exact dm _ _ (Gd.wG ok.a0 ok.b0) (ik F last p)
def Qu (F:zE) {l m:List Bd}(p:Nat) (h:∀ w∈F.ws,w.f=p->xN (l.getD w.t []) (m.getD w.t [])):xN (xp F l p) (xp F m p):=by
 have h1:xN (tp (wX F l p)) (tp (wX F m p)):=λ q hq=>by
  unfold tp at hq ⊢;rw[eU] at hq ⊢;rcases hq with x | ⟨c,hc,x⟩
  .exact .inl x
  .obtain⟨w,hw,rfl⟩:=zB0.mp hc;obtain⟨w1,w2⟩:=zC8.mp hw;exact .inr ⟨_,zB0.mpr ⟨w,hw,rfl⟩,Xx _ _ _ _ (h w w1 (by simpa using w2)) q x⟩
 unfold xp;split
 .split
  .exact h1
  .exact Na F _ h1
 .intro q hq;unfold nA at hq ⊢;rw[dn] at hq ⊢;refine⟨hq.1,λ c hc=>?_⟩;obtain⟨w,hw,rfl⟩:=zB0.mp hc;obtain⟨w1,w2⟩:=zC8.mp hw;exact Xx _ _ _ _ (h w w1 (by simpa using w2)) q (hq.2 _ (zB0.mpr ⟨w,hw,rfl⟩))
def Qt (F:zE) {l m:List Bd}(p:Nat) (h:∀ w∈F.ws,w.f=p->l.getD w.t []=m.getD w.t []):xp F l p=xp F m p:=by
 have:wX F l p=wX F m p:=by
  unfold wX;refine List.map_congr_left λ w hw=>?_;obtain⟨w1,w2⟩:=zC8.mp hw;rw[h w w1 (by simpa using w2)]
 unfold xp;rw[this]
noncomputable def box:List (Int×Int):=(List.range 13).flatMap λ(i:Nat)=>(List.range 13).map λ(j:Nat)=>((i:Int),(j:Int))
noncomputable def mu (b:Bd):Nat:=box.countP (zR b)
def N6 {p:Int×Int}(h:(0<=p.1/\p.1<=12)/\0<=p.2/\p.2<=12):p∈box:=by
 obtain⟨x,y⟩:=p;dsimp only at h;refine List.mem_flatMap.mpr ⟨x.toNat,zC1.mpr (by omega),zB0.mpr ⟨y.toNat,zC1.mpr (by omega),?_⟩⟩;rw[zF2 h.1.1,zF2 h.2.1]
theorem YS {α:Type}{p q:α->Bool}:∀ {l:List α},(∀ x,q x=true->p x=true)->(∃ x∈l,p x=true/\q x=false)->l.countP q<l.countP p
 | [],_,⟨x,hx,_⟩=>by cases hx
 | a::l,h,⟨x,hx,h1,h2⟩=>by
  have hle:l.countP q<=l.countP p:=List.countP_mono_left λ y _=>h y;rw[List.countP_cons,List.countP_cons];rcases zA5.mp hx with e | e
  .subst e;rw[if_neg (by rw[h2];decide),if_pos h1];omega
  .have:=YS h ⟨x,e,h1,h2⟩;by_cases c:q a=true
   .rw[if_pos c,if_pos (h a c)];omega
   .rw[if_neg c];split <;> omega
def Qz {A B:Int}(hA:A<=12) (hB:B<=12) {b c:Bd}(hb:Gd A B b) (hc:Gd A B c) (h:xN b c) (hne:b≠c):mu b<mu c:=by
 refine YS h ?_;by_cases x:∃ p∈c,zR b p=false
 .obtain⟨p,hp,e⟩:=x;have q:=hc.wy p hp;exact⟨p,N6 ⟨⟨q.1.1,by omega⟩,q.2.1,by omega⟩,yL.mpr ⟨p,hp,zC6 _,zC6 _⟩,e⟩
 .exact absurd (hb.eq hc h (xN.of λ p hp=>by
   cases e:zR b p with
   | true=>exact yL.mp e
   | false=>exact absurd ⟨p,hp,e⟩ x)) hne
def Q0 (b:Bd):mu b<=169:=by
 have:box.length=169:=by decide
 rw[<- this];exact List.countP_le_length
noncomputable def u9 (l:List Bd):Nat:=(l.map mu).sum
theorem Zr:∀ (l:List Bd),u9 l<=169*l.length
 | []=>by simp[u9]
 | b::l=>by
  have h1:=Zr l;have h2:=Q0 b;unfold u9 at h1 ⊢;rw[zA6,List.sum_cons,zC0];omega
theorem fL {A B:Int}(hA:A<=12) (hB:B<=12):∀ {l m:List Bd},l.length=m.length->(∀ b∈l,Gd A B b)->(∀ b∈m,Gd A B b)->(∀ i,xN (l.getD i []) (m.getD i []))->l≠m->u9 l<u9 m
 | [],[],_,_,_,_,h=>absurd rfl h
 | [],_::_,h,_,_,_,_=>by simp at h
 | _::_,[],h,_,_,_,_=>by simp at h
 | b::l,c::m,hl,gb,gc,h,hne=>by
  have hl':l.length=m.length:=by simpa using hl
  have h0:xN b c:=h 0;have hs:∀ i,xN (l.getD i []) (m.getD i []):=λ i=>by simpa using h (i+1)
  have key:u9 l<=u9 m:=by
   by_cases e:l=m
   .rw[e];exact zA4 _
   .exact zE3 (fL hA hB hl' (λ x hx=>gb x (zMo _ hx)) (λ x hx=>gc x (zMo _ hx)) hs e)
  show (List.map mu (b::l)).sum<(List.map mu (c::m)).sum;rw[zA6,List.sum_cons,zA6,List.sum_cons];by_cases e:b=c
  .subst e;have:l≠m:=λ q=>hne (by rw[q]);have:=fL hA hB hl' (λ x hx=>gb x (zMo _ hx)) (λ x hx=>gc x (zMo _ hx)) hs this;unfold u9 at this;omega
  .have:=Qz hA hB (gb b zMc) (gc c zMc) h0 e;unfold u9 at key;omega
noncomputable def tJ (F:zE) (fresh:List Nat) (p:Nat):Bool:=F.ws.any λ w=>decide (w.f=p)&&fresh.contains w.t
noncomputable def y4 (F:zE) (last:List Bd) (fresh:List Nat):List Bd:=(List.range last.length).map λ p=>if tJ F fresh p=true then xp F last p else last.getD p []
noncomputable def wz (last following:List Bd):List Nat:=(List.range following.length).filter λ p=>decide (following.getD p []≠last.getD p [])
noncomputable def qw (F:zE):Nat->List (List Bd)->List Bd->List Nat->Option (List (List Bd))
 | 0,_,_,_=>none
 | n+1,told,last,fresh=>if fresh=[] then some (told++[last]) else
   let fo:=y4 F last fresh
   let fr:=wz last fo
   if fr=[] then some (told++[last]) else qw F n (told++[last]) fo fr
structure St (F:zE) (last:List Bd) (fresh:List Nat):Prop where
 len:last.length=F.os.length
 gd:∀ b∈last,Gd F.A F.B b
 fr:∀ p<F.os.length,tJ F fresh p=false->(∃ w∈F.ws,w.f=p)->xp F last p=last.getD p []
 le:∀ p<F.os.length,(∃ w∈F.ws,w.f=p)->xN (xp F last p) (last.getD p [])
def eG {α:Type}(f:Nat->α) (n p:Nat) (d:α) (h:p<n):((List.range n).map f).getD p d=f p:=by
 rw[zB1,zA3,List.getElem?_range h];rfl
def qF (F:zE) (last:List Bd) (fresh:List Nat):(y4 F last fresh).length=last.length:=by unfold y4;simp
def St.at {F:zE}{last:List Bd}{fresh:List Nat}(s:St F last fresh) {p:Nat}(hp:p<F.os.length) (hw:∃ w∈F.ws,w.f=p):(y4 F last fresh).getD p []=xp F last p:=by
 unfold y4;rw[eG _ _ _ _ (by rw[s.len];exact hp)];split
 .rfl
 .rename_i h;exact (s.fr p hp (by simpa using h) hw).symm
def PB {F:zE}{fresh:List Nat}{p:Nat}(h:tJ F fresh p=true):∃ w∈F.ws,w.f=p:=by
 unfold tJ at h;obtain⟨w,h1,h2⟩:=zD0.mp h;exact⟨w,h1,by simp at h2;exact h2.1⟩
def St.no {F:zE}{last:List Bd}{fresh:List Nat}(s:St F last fresh) {p:Nat}(hp:p<F.os.length) (hw:¬ ∃ w∈F.ws,w.f=p):(y4 F last fresh).getD p []=last.getD p []:=by
 unfold y4;rw[eG _ _ _ _ (by rw[s.len];exact hp),if_neg (λ h=>hw (PB h))]
def St.YW {F:zE}{last:List Bd}{fresh:List Nat}(s:St F last fresh) (p:Nat):xN ((y4 F last fresh).getD p []) (last.getD p []):=by
 by_cases hp:p<F.os.length
 .by_cases hw:∃ w∈F.ws,w.f=p
  .rw[s.at hp hw];exact s.le p hp hw
  .rw[s.no hp hw];exact xN.refl _
 .have h1:(y4 F last fresh).getD p []=[]:=by
   rw[zB1,List.getElem?_eq_none (by rw[qF,s.len];omega)];rfl
  rw[h1];intro q x;cases x
def St.next {F:zE}(ok:F.Ok) {last:List Bd}{fresh:List Nat}(s:St F last fresh):St F (y4 F last fresh) (wz last (y4 F last fresh)) where
 len:=by rw[qF,s.len]
 gd:=λ b hb=>by
  unfold y4 at hb;obtain⟨p,hp,rfl⟩:=zB0.mp hb;split
  .exact Zo ok last p
  .have hlt:=zC1.mp hp;rw[zB1,zA1 hlt];exact s.gd _ (zD8 hlt)
 fr:=λ p hp hn hw=>by
  rw[s.at hp hw];refine Qt F p λ w w1 w2=>?_;have hwt:=(ok.ws w w1).2;by_cases e:(y4 F last fresh).getD w.t []=last.getD w.t []
  .exact e
  .have:tJ F (wz last (y4 F last fresh)) p=true:=by
    unfold tJ;refine zD0.mpr ⟨w,w1,?_⟩;have:w.t∈wz last (y4 F last fresh):=by
     unfold wz;exact zC8.mpr ⟨zC1.mpr (by rw[qF,s.len];exact hwt),by simpa using e⟩
    simp[w2,this]
   rw[this] at hn;cases hn
 le:=λ p hp hw=>by
  rw[s.at hp hw];exact Qu F p λ w w1 w2=>s.YW w.t
def PX {last fo:List Bd}(hl:fo.length=last.length) (h:wz last fo≠[]):fo≠last:=λ e=>h (by
 subst e;unfold wz;simp)
noncomputable def start (F:zE):List Bd:=List.replicate F.os.length wG
theorem St.start {F:zE}(ok:F.Ok):St F (start F) (List.range F.os.length) where
 len:=by unfold RN.start;simp
 gd:=λ b hb=>by rw[List.eq_of_mem_replicate hb];exact Gd.wG ok.a0 ok.b0
 fr:=λ p hp hn ⟨w,w1,w2⟩=>by
  have:tJ F (List.range F.os.length) p=true:=by
   unfold tJ;refine zD0.mpr ⟨w,w1,?_⟩;have:=(ok.ws w w1).2;simp[w2,this]
  rw[this] at hn;cases hn
 le:=λ p hp hw=>by
  have e:(RN.start F).getD p []=wG:=by
   unfold RN.start;rw[zB1,List.getElem?_replicate,if_pos hp];rfl
  rw[e];exact (Zo ok _ p).QL
theorem bX {F:zE}(ok:F.Ok):∀ (n:Nat) (told:List (List Bd)) (last:List Bd) (fresh:List Nat),St F last fresh->u9 last<n->
  ∃ more last',qw F n told last fresh=some (told++last::more)/\(∀ r∈last::more,r.length=F.os.length/\∀ b∈r,Gd F.A F.B b)/\(last::more).getLast?=some last'/\more.length<=u9 last
 | 0,_,_,_,_,h=>by omega
 | n+1,told,last,fresh,s,h=>by
  unfold qw;split
  .exact⟨[],last,rfl,λ r hr=>by cases zB6.mp hr;exact⟨s.len,s.gd⟩,rfl,zD4 _⟩
  .dsimp only;split
   .exact⟨[],last,rfl,λ r hr=>by cases zB6.mp hr;exact⟨s.len,s.gd⟩,rfl,zD4 _⟩
   .rename_i hf;have s':=s.next ok;have hlt:u9 (y4 F last fresh)<u9 last:=fL ok.a1 ok.b1 (qF ..) s'.gd s.gd s.YW (PX (qF ..) hf);obtain⟨more,last',e1,e2,e3,e4⟩:=bX ok n (told++[last]) _ _ s' (by omega);refine⟨y4 F last fresh::more,last',by rw[e1];simp,λ r hr=>?_,by rw[List.getLast?_cons_cons];exact e3,by rw[zC0];omega⟩;rcases zA5.mp hr with e | e
    .subst e;exact⟨s.len,s.gd⟩
    .exact e2 r e
def NL {A B a b:Int}{bd:Bd}(h0:∀ p∈bd,0<=p.1/\0<=p.2) {q:Int×Int}(hq:(0<=q.1/\q.1<=A)/\0<=q.2/\q.2<=B):zR (qX A B a b bd) q=true↔zR bd (q.1+a,q.2+b)=true:=by
 unfold qX;rw[nc,yL,yL];constructor
 .rintro⟨p,hp,h1,h2⟩;obtain⟨hp,_⟩:=zC8.mp hp;obtain⟨r,hr,rfl⟩:=zB0.mp hp;refine⟨r,hr,?_,?_⟩
  .unfold xR xf at h1;dsimp only at h1 ⊢;split at h1 <;> omega
  .unfold xR xf at h2;dsimp only at h2 ⊢;split at h2 <;> omega
 .rintro⟨r,hr,h1,h2⟩;dsimp only at h1 h2;have e1:(xR a b r).1<=q.1:=by unfold xR xf;dsimp only;split <;> omega
  have e2:(xR a b r).2<=q.2:=by unfold xR xf;dsimp only;split <;> omega
  refine⟨xR a b r,zC8.mpr ⟨zB0.mpr ⟨r,hr,rfl⟩,?_⟩,e1,e2⟩;unfold ua;rw[decide_eq_true (by omega),decide_eq_true (by omega)];rfl
theorem di (pu:Bool) (yc give get:Int) (hg:1<=give) (hgt:0<=get):∀ (n:Nat) (g t:Int),0<=t->yc-g<n->∀ (G T:Int),G<=yc->
  ((∃ e∈wW pu yc give get n g t,z_ pu e<=G/\yD pu e<=T)↔∃ k:Nat,g+k*give<=G/\xf (t-k*get)<=T)
 | 0,g,t,ht,hn,G,T,hG=>by
  constructor
  .rintro⟨e,he,_⟩;cases he
  .rintro⟨k,h1,_⟩;exfalso;have:0<=(k:Int)*give:=Int.mul_nonneg (by omega) (by omega);omega
 | n+1,g,t,ht,hn,G,T,hG=>by
  have gv:∀ x y,z_ pu (xa pu x y)=x:=λ x y=>by cases pu <;> rfl
  have gt:∀ x y,yD pu (xa pu x y)=y:=λ x y=>by cases pu <;> rfl
  have ih:=di pu yc give get hg hgt n (g+give) (xf (t-get)) (jq _) (by omega) G T hG;have mm:∀ k:Nat,xf (xf (t-get)-k*get)=xf (t-(k+1:Nat)*get):=λ k=>by
   have:0<=(k:Int)*get:=Int.mul_nonneg (by omega) hgt;have e:((k+1:Nat):Int)*get=k*get+get:=by rw[Int.natCast_succ,Int.add_mul];omega
   rw[e];unfold xf;split <;> split <;> (try split) <;> omega
  have gg:∀ k:Nat,g+give+k*give=g+(k+1:Nat)*give:=λ k=>by
   rw[Int.natCast_succ,Int.add_mul];omega
  unfold wW;split
  .rename_i hgb;constructor
   .rintro⟨e,he,h1,h2⟩;rcases zA5.mp he with rfl | he
    .rw[gv] at h1;rw[gt] at h2;refine⟨0,by simpa using h1,?_⟩;unfold xf;split <;> simp at * <;> omega
    .obtain⟨k,k1,k2⟩:=ih.mp ⟨e,he,h1,h2⟩;exact⟨k+1,by rw[<- gg];exact k1,by rw[<- mm];exact k2⟩
   .rintro⟨k,k1,k2⟩;cases k with
    | zero=>
     refine⟨_,zMc,by rw[gv];simpa using k1,?_⟩;rw[gt];unfold xf at k2;split at k2 <;> simp at * <;> omega
    | succ k=>
     obtain⟨e,he,h1⟩:=ih.mpr ⟨k,by rw[gg];exact k1,by rw[mm];exact k2⟩;exact⟨e,zMo _ he,h1⟩
  .rename_i hgb;constructor
   .rintro⟨e,he,_⟩;cases he
   .rintro⟨k,h1,_⟩;exfalso;have:0<=(k:Int)*give:=Int.mul_nonneg (by omega) (by omega);omega
def tK {pu:Bool}{p q:Int×Int}:(p.1<=q.1/\p.2<=q.2)↔z_ pu p<=z_ pu q/\yD pu p<=yD pu q:=by
 cases pu
 .exact Iff.rfl
 .exact And.comm
def Nc {F:zE}{s:Sl}(hs:1<=s.gv/\0<=s.gt) (hA:F.A<=12) (hB:F.B<=12) {b:Bd}(hb:∀ p∈b,0<=p.1/\0<=p.2) {q:Int×Int}(hq:(0<=q.1/\q.1<=F.A)/\0<=q.2/\q.2<=F.B):
  zR (oa F s b) q=true↔∃ k:Nat,zR b (xa s.pu (z_ s.pu q-k*s.gv) (yD s.pu q+k*s.gt))=true:=by
 have hbr:F.yc s.pu<=12:=by unfold zE.yc;split <;> assumption
 have hqb:z_ s.pu q<=F.yc s.pu:=by unfold z_ zE.yc;split <;> omega
 have hq0:0<=z_ s.pu q/\0<=yD s.pu q:=by unfold z_ yD;split <;> omega
 have gv:∀ x y,z_ s.pu (xa s.pu x y)=x:=λ x y=>by cases s.pu <;> rfl
 have gt:∀ x y,yD s.pu (xa s.pu x y)=y:=λ x y=>by cases s.pu <;> rfl
 unfold oa;rw[nc,yL];constructor
 .rintro⟨e,he,h12⟩;obtain⟨p,hp,he⟩:=List.mem_flatMap.mp he;obtain⟨h1,h2⟩:=tK (pu:=s.pu).mp h12;have p0:=hb p hp;have g0:0<=z_ s.pu p/\0<=yD s.pu p:=by unfold z_ yD;split <;> omega
  obtain⟨k,k1,k2⟩:=(di s.pu (F.yc s.pu) s.gv s.gt hs.1 hs.2 100 _ _ g0.2 (by omega) _ _ hqb).mp ⟨e,he,h1,h2⟩;refine⟨k,yL.mpr ⟨p,hp,tK (pu:=s.pu).mpr ⟨by rw[gv];omega,?_⟩⟩⟩;rw[gt];unfold xf at k2;split at k2 <;> omega
 .rintro⟨k,hk⟩;obtain⟨p,hp,h12⟩:=yL.mp hk;obtain⟨h1,h2⟩:=tK (pu:=s.pu).mp h12;rw[gv] at h1;rw[gt] at h2;have p0:=hb p hp;have g0:0<=z_ s.pu p/\0<=yD s.pu p:=by unfold z_ yD;split <;> omega
  obtain⟨e,he,h3⟩:=(di s.pu (F.yc s.pu) s.gv s.gt hs.1 hs.2 100 (z_ s.pu p) (yD s.pu p) g0.2 (by omega) (z_ s.pu q) (yD s.pu q) hqb).mpr ⟨k,by omega,by unfold xf;split <;> omega⟩;exact⟨e,List.mem_flatMap.mpr ⟨p,hp,he⟩,tK (pu:=s.pu).mpr h3⟩
noncomputable def xq (F:zE):Nat->List Bd
 | 0=>start F
 | k+1=>(List.range F.os.length).map λ p=>xp F (xq F k) p
theorem eh (F:zE):∀ k,(xq F k).length=F.os.length
 | 0=>by unfold xq start;simp
 | k+1=>by unfold xq;simp
def Qs {F:zE}{last:List Bd}{fresh:List Nat}(s:St F last fresh) (hw:∀ p<F.os.length,∃ w∈F.ws,w.f=p):y4 F last fresh=(List.range F.os.length).map λ p=>xp F last p:=by
 refine List.ext_getElem (by rw[qF,s.len];simp) λ i h1 h2=>?_;have hi:i<F.os.length:=by simpa using h2
 have e:=s.at hi (hw i hi);rw[zB1,zA1 h1] at e;simpa using e
def PY {last fo:List Bd}(hl:fo.length=last.length) (h:wz last fo=[]):fo=last:=by
 refine List.ext_getElem hl λ i h1 h2=>?_;have:i∉wz last fo:=by rw[h];simp
 unfold wz at this;rw[zC8] at this;have e:fo.getD i []=last.getD i []:=Classical.byContradiction λ hne=>this ⟨zC1.mpr h1,by simpa using hne⟩;rw[zB1,zA1 h1,zB1,zA1 h2] at e;simpa using e
theorem bZ {F:zE}(ok:F.Ok) (hw:∀ p<F.os.length,∃ w∈F.ws,w.f=p):∀ (n:Nat) (told:List (List Bd)) (k:Nat) (fresh:List Nat) (res:List (List Bd)),St F (xq F k) fresh->fresh≠[]->told=(List.range k).map (xq F)->
  qw F n told (xq F k) fresh=some res->∃ m,res=(List.range (m+1)).map (xq F)/\xq F (m+1)=xq F m
 | 0,_,_,_,_,_,_,_,h=>by cases h
 | n+1,told,k,fresh,res,s,hf,ht,h=>by
  unfold qw at h;rw[if_neg hf] at h;dsimp only at h;have e:y4 F (xq F k) fresh=xq F (k+1):=Qs s hw;have et:told++[xq F k]=(List.range (k+1)).map (xq F):=by rw[ht,List.range_succ,zE7];rfl
  rw[e,et] at h;split at h
  .rename_i hfr;cases h;exact⟨k,rfl,PY (by rw[eh,eh]) hfr⟩
  .rename_i hfr;have s':=s.next ok;rw[e] at s';exact bZ ok hw n _ (k+1) _ res s' hfr rfl h
def yM (F:zE) (q:Int×Int):Prop:=(0<=q.1/\q.1<=F.A)/\0<=q.2/\q.2<=F.B
noncomputable def tB (F:zE) (q:Int×Int) (w:Wy):Option (Int×Int):=if q.1+w.a<0\/q.2+w.b<0 then none else some (min (q.1+w.a) F.A,min (q.2+w.b) F.B)
noncomputable def yO (F:zE) (last:List Bd) (q:Int×Int) (w:Wy):Bool:=match tB F q w with
 | none=>false
 | some r=>zR (last.getD w.t []) r
noncomputable def xO (F:zE) (p:Nat):List Wy:=F.ws.filter λ w=>decide (w.f=p)
noncomputable def vc (F:zE) (s:Sl):Nat->Int×Int->List (Int×Int)
 | 0,q=>[q]
 | n+1,q=>q::if s.gv<=z_ s.pu q then vc F s n (xa s.pu (z_ s.pu q-s.gv) (min (yD s.pu q+s.gt) (F.yc (!s.pu)))) else []
noncomputable def yw (F:zE) (p:Nat) (q:Int×Int):List (Int×Int):=match F.stall p with
 | none=>[q]
 | some s=>vc F s 20 q
noncomputable def pV (F:zE) (last:List Bd) (p:Nat) (q:Int×Int):Bool:=
 if F.os.getD p false=true then (yw F p q).any λ r=>(xO F p).any (yO F last r) else (xO F p).all (yO F last q)
def OO {A B:Int}{b:Bd}(hb:Gd A B b) (x y:Int):zR b (min x A,min y B)=zR b (x,y):=by
 rw[zC7,yL,yL];constructor
 .rintro⟨p,hp,h1,h2⟩;dsimp only at h1 h2;exact⟨p,hp,by dsimp only;omega,by dsimp only;omega⟩
 .rintro⟨p,hp,h1,h2⟩;have:=hb.wy p hp;dsimp only at h1 h2;exact⟨p,hp,by dsimp only;omega,by dsimp only;omega⟩
def Z7 {F:zE}{last:List Bd}{w:Wy}(hb:Gd F.A F.B (last.getD w.t [])) (q:Int×Int):yO F last q w=zR (last.getD w.t []) (q.1+w.a,q.2+w.b):=by
 unfold yO tB;by_cases h:q.1+w.a<0\/q.2+w.b<0
 .rw[if_pos h]
  symm
  rw[<- zE9,yL];rintro⟨p,hp,h1,h2⟩;have:=hb.wy p hp;dsimp only at h1 h2;omega
 .rw[if_neg h];exact OO hb _ _
def jw {F:zE}{last:List Bd}{w:Wy}(hb:Gd F.A F.B (last.getD w.t [])) {q:Int×Int}(hq:yM F q):zR (qX F.A F.B w.a w.b (last.getD w.t [])) q=yO F last q w:=by
 rw[Z7 hb,zC7];exact NL (λ p hp=>⟨(hb.wy p hp).1.1,(hb.wy p hp).2.1⟩) hq
def eT {F:zE}{last:List Bd}(hg:∀ p,Gd F.A F.B (last.getD p [])) {p:Nat}{q:Int×Int}(hq:yM F q):zR (tp (wX F last p)) q=(xO F p).any (yO F last q):=by
 rw[zC7,tp,eU,zD0];constructor
 .rintro (h | ⟨c,hc,h⟩)
  .cases h
  .unfold wX at hc;obtain⟨w,hw,rfl⟩:=zB0.mp hc;exact⟨w,hw,by rw[<- jw (hg w.t) hq];exact h⟩
 .rintro⟨w,hw,h⟩;exact .inr ⟨_,zB0.mpr ⟨w,hw,rfl⟩,by rw[jw (hg w.t) hq];exact h⟩
def N7 {F:zE}{last:List Bd}(hg:∀ p,Gd F.A F.B (last.getD p [])) {p:Nat}{q:Int×Int}(hq:yM F q):zR (nA (wX F last p)) q=(xO F p).all (yO F last q):=by
 rw[zC7,nA,dn,zE4];constructor
 .rintro⟨_,h⟩ w hw;rw[<- jw (hg w.t) hq];exact h _ (zB0.mpr ⟨w,hw,rfl⟩)
 .intro h;refine⟨OQ.mpr ⟨hq.1.1,hq.2.1⟩,λ c hc=>?_⟩;unfold wX at hc;obtain⟨w,hw,rfl⟩:=zB0.mp hc;rw[jw (hg w.t) hq];exact h w hw
def vx (pu:Bool) (x y:Int):z_ pu (xa pu x y)=x:=by cases pu <;> rfl
def uY (pu:Bool) (x y:Int):yD pu (xa pu x y)=y:=by cases pu <;> rfl
def mE (pu:Bool) (q:Int×Int):xa pu (z_ pu q) (yD pu q)=q:=by cases pu <;> rfl
def vb {F:zE}{pu:Bool}{q:Int×Int}:yM F q↔(0<=z_ pu q/\z_ pu q<=F.yc pu)/\0<=yD pu q/\yD pu q<=F.yc (!pu):=by
 unfold yM zE.yc;cases pu
 .exact Iff.rfl
 .exact And.comm
theorem dg {F:zE}{s:Sl}(hs:1<=s.gv/\0<=s.gt):∀ (n:Nat) {q:Int×Int},yM F q->∀ r∈vc F s n q,yM F r
 | 0,q,h,r,hr=>by cases zB6.mp hr;exact h
 | n+1,q,h,r,hr=>by
  unfold vc at hr;rcases zA5.mp hr with rfl | hr
  .exact h
  .split at hr
   .rename_i hg;refine dg hs n ?_ r hr;have h':=vb (pu:=s.pu).mp h;rw[vb (pu:=s.pu),vx,uY];omega
   .cases hr
theorem Y_ {F:zE}{s:Sl}(hs:1<=s.gv/\0<=s.gt) {b:Bd}(hb:Gd F.A F.B b):∀ (n:Nat) {q:Int×Int},yM F q->z_ s.pu q<n->
  ((∃ k:Nat,zR b (xa s.pu (z_ s.pu q-k*s.gv) (yD s.pu q+k*s.gt))=true)↔(vc F s n q).any (zR b)=true)
 | 0,q,h,hn=>by
  have:=(vb (pu:=s.pu).mp h).1.1;omega
 | n+1,q,h,hn=>by
  have h':=vb (pu:=s.pu).mp h;have cut:∀ x y,zR b (xa s.pu x y)=zR b (xa s.pu x (min y (F.yc (!s.pu)))):=λ x y=>by
   rw[zC7,yL,yL];constructor
   .rintro⟨p,hp,h1⟩;have h2:=tK (pu:=s.pu).mp h1;have h3:=vb (pu:=s.pu).mp (show yM F p from hb.wy p hp);rw[vx,uY] at h2;exact⟨p,hp,tK (pu:=s.pu).mpr (by rw[vx,uY];omega)⟩
   .rintro⟨p,hp,h1⟩;have h2:=tK (pu:=s.pu).mp h1;rw[vx,uY] at h2;exact⟨p,hp,tK (pu:=s.pu).mpr (by rw[vx,uY];omega)⟩
  unfold vc;rw[List.any_cons,Bool.or_eq_true];by_cases hg:s.gv<=z_ s.pu q
  .rw[if_pos hg];have hi:yM F (xa s.pu (z_ s.pu q-s.gv) (min (yD s.pu q+s.gt) (F.yc (!s.pu)))):=by
    rw[vb (pu:=s.pu),vx,uY];omega
   have ih:=Y_ hs hb n hi (by rw[vx];omega);rw[vx,uY] at ih;have sh:∀ k:Nat,zR b (xa s.pu (z_ s.pu q-s.gv-k*s.gv) (min (yD s.pu q+s.gt) (F.yc (!s.pu))+k*s.gt))=zR b (xa s.pu (z_ s.pu q-(k+1:Nat)*s.gv) (yD s.pu q+(k+1:Nat)*s.gt)):=λ k=>by
    have e1:((k+1:Nat):Int)*s.gv=k*s.gv+s.gv:=by rw[Int.natCast_succ,Int.add_mul];omega
    have e2:((k+1:Nat):Int)*s.gt=k*s.gt+s.gt:=by rw[Int.natCast_succ,Int.add_mul];omega
    have k0:0<=(k:Int)*s.gt:=Int.mul_nonneg (by omega) hs.2;rw[e1,e2,cut,cut (z_ s.pu q-(k*s.gv+s.gv))];congr 2
    .omega
    .omega
   rw[<- ih];constructor
   .rintro⟨k,hk⟩;cases k with
    | zero=>exact .inl (by simpa [mE] using hk)
    | succ k=>exact .inr ⟨k,by rw[sh];exact hk⟩
   .rintro (hk | ⟨k,hk⟩)
    .exact⟨0,by simpa [mE] using hk⟩
    .exact⟨k+1,by rw[<- sh];exact hk⟩
  .rw[if_neg hg];constructor
   .rintro⟨k,hk⟩;cases k with
    | zero=>exact .inl (by simpa [mE] using hk)
    | succ k=>
     exfalso;obtain⟨p,hp,h1⟩:=yL.mp hk;have h2:=tK (pu:=s.pu).mp h1;have h3:=vb (pu:=s.pu).mp (show yM F p from hb.wy p hp);rw[vx] at h2;have e1:((k+1:Nat):Int)*s.gv=k*s.gv+s.gv:=by rw[Int.natCast_succ,Int.add_mul];omega
     have k0:0<=(k:Int)*s.gv:=Int.mul_nonneg (by omega) (by omega);rw[e1] at h2;omega
   .rintro (hk | hk)
    .exact⟨0,by simpa [mE] using hk⟩
    .cases hk
def Qr {F:zE}(ok:F.Ok) {last:List Bd}(hg:∀ p,Gd F.A F.B (last.getD p [])) (p:Nat) {q:Int×Int}(hq:yM F q):zR (xp F last p) q=pV F last p q:=by
 have ge:Gd F.A F.B (tp (wX F last p)):=l6 _ _ Gd.nil (ik F last p);unfold xp pV yw;by_cases ho:F.os.getD p false=true
 .rw[if_pos ho,if_pos ho];cases hs:F.stall p with
  | none=>simp only[List.any_cons,List.any_nil,Bool.or_false];exact eT hg hq
  | some s=>
   have hs':=ok.ss s (List.mem_of_find?_eq_some hs);have hgv:z_ s.pu q<20:=by
    have:=vb (pu:=s.pu).mp hq;have:F.yc s.pu<=12:=by have:=ok.a1;have:=ok.b1;unfold zE.yc;split <;> assumption
    omega
   rw[zC7];dsimp only;rw[Nc hs' ok.a1 ok.b1 (λ p hp=>⟨(ge.wy p hp).1.1,(ge.wy p hp).2.1⟩) hq,Y_ hs' ge 20 hq (by omega),zD0,zD0];constructor
   .rintro⟨r,hr,h⟩;exact⟨r,hr,by rw[<- eT hg (dg hs' 20 hq r hr)];exact h⟩
   .rintro⟨r,hr,h⟩;exact⟨r,hr,by rw[eT hg (dg hs' 20 hq r hr)];exact h⟩
 .rw[if_neg ho,if_neg ho];exact N7 hg hq
end RN
namespace yx
open PySem L2 L3 L5
def WG:Sm:=
 (retS (nE (instS "int" (zc 0)) (Zh (instS "bool" (zc 0)))))
def iC:List T->Option T:=yn ["thing"] 1 WG
def Ww:Sm:=
 (retS (zF yZ (ze (zb zj (zc 0) (cS (.int 1))) zq)))
def qe:List T->Option T:=yn ["floor"] 1 Ww
def WT:Sm:=
 (retS (nE (zb vT (zb zj (zc 0) (cS (.int 0))) (zb zj (zc 1) (cS (.int 0)))) (zb vT (zb zj (zc 0) (cS (.int 1))) (zb zj (zc 1) (cS (.int 1))))))
def mj:List T->Option T:=yn ["pair","other"] 2 WT
def lQ:Sm:=
 (yC (sO (qS (w9 (zc 1))) (zO (zb yV (zb zj (zc 2) (cS (.int 1))) (zb zj (zb zj (zc 1) (rN (cS (.int 1)))) (cS (.int 1)))))) (tu 1 (zr 2)) yB)
def W2:Sm:=
 (zy (uh 1 (xV zq))
 (zy (wC [2] (xg (zF oE (ze (zc 0) zq))) (zJ 2) lQ)
 (retS (zF rp (ze (zc 1) zq)))))
def qf:List T->Option T:=yn ["pairs","least","pair"] 1 W2
def om:Sm:=
 (zy (tu 4 (ZZ (zO (zb (zK false) (zc 3) (cS (.int 0)))) (tupS (ze (zr 5) (ze (zr 6) zq))) (tupS (ze (zr 6) (ze (zr 5) zq)))))
 (zy (zL 5 (zb yE (zc 5) (zb zj (zc 1) (cS (.int 2)))))
 (zL 6 (zF mY (ze (cS (.int 0)) (ze (zb wM (zc 6) (zb zj (zc 1) (cS (.int 3)))) zq))))))
def Wx:Sm:=
 (zy (zL 3 (zb zj (zc 1) (cS (.int 1))))
 (zy (uh 4 (xV zq))
 (zy (zL 5 (zb zj (zc 2) (zc 3)))
 (zy (zL 6 (zb zj (zc 2) (zb wM (cS (.int 1)) (zc 3))))
 (zy (rj 1000000 [] (zO (zb pQ (zc 5) (zb zj (zc 0) (zc 3)))) om)
 (pG 4))))))
def kc:List T->Option T:=yn ["brims","stall","pair","purse","pairs","given","got"] 3 Wx
def Wt:Sm:=
 (zy (zL 3 (kH (zb zj (zb zj (zc 0) (cS (.int 2))) (zc 2)) (some (cS (.int 2))) none))
 (zy (zL 4 (zb yE (zb zj (zc 1) (cS (.int 0))) (zb zj (zc 3) (cS (.int 0)))))
 (zy (zL 5 (zb yE (zb zj (zc 1) (cS (.int 1))) (zb zj (zc 3) (cS (.int 1)))))
 (zy (yC (sO (zO (zb yV (zc 4) (cS (.int 0)))) (zO (zb yV (zc 5) (cS (.int 0))))) (retS (cS .zp)) yB)
 (retS (tupS (ze (zF tI (ze (zc 4) (ze (zb zj (zb zj (zc 0) (cS (.int 0))) (cS (.int 0))) zq))) (ze (zF tI (ze (zc 5) (ze (zb zj (zb zj (zc 0) (cS (.int 0))) (cS (.int 1))) zq))) zq))))))))
def nR:List T->Option T:=yn ["floor","pair","way","coins","first","second"] 3 Wt
def WL:Sm:=
 (zy (zL 4 (zb zj (zc 1) (cS (.int 1))))
 (zy (zL 5 (zb wM (zb zj (zc 2) (zc 4)) (zb wB (zc 3) (zb zj (zc 1) (cS (.int 2))))))
 (zy (yC (zO (zb yV (zc 5) (cS (.int 0)))) (retS (cS .zp)) yB)
 (zy (zL 6 (zF tI (ze (zb yE (zb zj (zc 2) (zb wM (cS (.int 1)) (zc 4))) (zb wB (zc 3) (zb zj (zc 1) (cS (.int 3))))) (ze (zb zj (zc 0) (zb wM (cS (.int 1)) (zc 4))) zq))))
 (zy (yC (zO (zb (zK false) (zc 4) (cS (.int 0)))) (retS (tupS (ze (zr 5) (ze (zr 6) zq)))) yB)
 (retS (tupS (ze (zr 6) (ze (zr 5) zq)))))))))
def o6:List T->Option T:=yn ["brims","stall","pair","times","purse","left","got"] 4 WL
def WA:Sm:=
 (zy (yC (zO (zb yV (zc 1) (zF yZ (ze (zc 0) zq)))) (retS (zb yj (zb zj (zc 0) (zc 1)) (zb mF (cS (.int 10)) (cS (.int 40))))) yB)
 (retS (cS (.int 0))))
def xn:List T->Option T:=yn ["_law_script","_law_k"] 2 WA
def cR:Sm:=
 (zy (yC (zO (zb (zK false) (zb yj (zc 0) (cS (.int 5))) (cS (.int 1)))) (retS (zb wM (zb yj (zb xt (zc 0) (cS (.int 5))) (cS (.int 25))) (cS (.int 12)))) yB)
 (retS (zb wM (zb yj (zb yj (zb xt (zc 0) (cS (.int 5))) (cS (.int 25))) (cS (.int 7))) (cS (.int 3)))))
def qg:List T->Option T:=yn ["_law_number"] 1 cR
def WC:Sm:=
 (zy (zL 3 (zb yE (zb zj (zc 1) (cS (.int 0))) (zb zj (zc 2) (cS (.int 2)))))
 (zy (zL 4 (zb yE (zb zj (zc 1) (cS (.int 1))) (zb zj (zc 2) (cS (.int 3)))))
 (zy (yC (sO (zO (zb yV (zc 3) (cS (.int 0)))) (zO (zb yV (zc 4) (cS (.int 0))))) (retS (cS .zp)) yB)
 (retS (tupS (ze (zF tI (ze (zc 3) (ze (zb zj (zb zj (zc 0) (cS (.int 0))) (cS (.int 0))) zq))) (ze (zF tI (ze (zc 4) (ze (zb zj (zb zj (zc 0) (cS (.int 0))) (cS (.int 1))) zq))) zq)))))))
def qh:List T->Option T:=yn ["_law_floor_here","_law_pair","_law_way","_law_first","_law_second"] 3 WC
def nD:Sm:=
 (zy (uh 8 (zF listS (ze (zb zj (zc 3) (rN (cS (.int 1)))) zq)))
 (zy (jv 8 (zc 5) (zb wM (zb zj (zc 8) (zc 5)) (zc 6)))
 (zy (jv 8 (zb wM (cS (.int 1)) (zc 5)) (zF tI (ze (zb yE (zb zj (zc 8) (zb wM (cS (.int 1)) (zc 5))) (zc 7)) (ze (zb zj (zb zj (zc 0) (cS (.int 0))) (zb wM (cS (.int 1)) (zc 5))) zq))))
 (tu 3 (zF rp (ze (zc 8) zq))))))
def nB:Sm:=
 (rj 1000000 [8] (vU (zO (zb (zK false) (zc 4) (zc 1))) (zO (zb vT (zb zj (zb zj (zc 3) (rN (cS (.int 1)))) (zc 5)) (zc 6)))) nD)
def W9:Sm:=
 (zy (uh 3 (xV (ze (zr 2) zq)))
 (zy (wC [4,5,6,7,8] (xg (zb zj (zc 0) (cS (.int 3)))) (vA 4 (yW (zJ 4) (yW (zJ 5) (yW (zJ 6) (yW (zJ 7) v_))))) nB)
 (pG 3)))
def ph:List T->Option T:=yn ["_law_floor_here","_law_place","_law_pair","_law_found","_law_home","_law_purse","_law_give","_law_get","_law_coins_here"] 3 W9
def dw:Sm:=
 (yC (vU (zO (zb vT (zb zj (zc 1) (cS (.int 0))) (zc 2))) (zO (zb vT (zb zj (zc 1) (cS (.int 1))) (zc 3)))) (retS (cS (.bl true))) yB)
def W8:Sm:=
 (zy (wC [2,3] (xg (zr 0)) (vA 2 (yW (zJ 2) (yW (zJ 3) v_))) dw)
 (retS (cS (.bl false))))
def t9:List T->Option T:=yn ["_law_border","_law_pair","_law_x","_law_y"] 2 W8
def jS:Ev->Option T:=
 wa [none,some 2] (vk vM (ze (zb yE (zb zj (zb zj (zc 0) (cS (.int 0))) (cS (.int 1))) (cS (.int 1))) zq)) (zJ 0) tS (tupS (ze (zr 1) (ze (zr 0) zq)))
def ia:Sm:=
 (l4 1 jS)
def W6:Sm:=
 (zy (uh 1 (xV zq))
 (zy (wC [2] (vk vM (ze (zb yE (zb zj (zb zj (zc 0) (cS (.int 0))) (cS (.int 0))) (cS (.int 1))) zq)) (zJ 2) ia)
 (pG 1)))
def ke:List T->Option T:=yn ["_law_floor_here","_law_found","_law_x"] 1 W6
def jT:Ev->Option T:=
 wa [none,some 0,some 2] (vk vM (ze (zF yZ (ze (zb zj (zc 0) (cS (.int 2))) zq)) zq)) (zJ 0) (zO (zb (zK false) (zb zj (zb zj (zb zj (zc 1) (cS (.int 2))) (zc 0)) (cS (.int 0))) (zc 2))) (zr 0)
def lK:Ev->Option T:=
 wa [none,some 3] (xg (zb zj (zc 1) (zc 2))) (zJ 0) (vU (zO (zb vT (zb zj (zc 1) (cS (.int 0))) (zb zj (zb zj (zc 0) (cS (.int 0))) (cS (.int 0))))) (zO (zb vT (zb zj (zc 1) (cS (.int 1))) (zb zj (zb zj (zc 0) (cS (.int 0))) (cS (.int 1)))))) (zr 0)
def cQ:Sm:=
 (zy (yC (zO (zb (zK false) (zb zj (zb zj (zc 0) (cS (.int 1))) (zc 2)) (cS (.str "taker")))) (zy (zL 5 jT)
 (retS (tupS (ze (cS (.int 0)) (ze (zb zj (zc 5) (zb yj (zc 4) (zF yZ (ze (zc 5) zq)))) zq))))) yB)
 (zy (zL 6 lK)
 (zy (yC (zO (zb (zK false) (zc 6) (xV zq))) (retS (cS .zp)) yB)
 (retS (kH (zb zj (zc 6) (zb yj (zc 4) (zF yZ (ze (zc 6) zq)))) (some (cS (.int 1))) none)))))
def o4:List T->Option T:=yn ["_law_floor_here","_law_rows","_law_place","_law_pair","_law_number","_law_ways_here","_law_some"] 5 cQ
def WE:Sm:=
 (retS (nE (zF iC (ze (zr 0) zq)) (Xe pQ pQ (zc 1) (zc 0) (zc 2))))
def iB:List T->Option T:=yn ["thing","least","most"] 3 WE
def jV:Ev->Option T:=
 wa [none,some 1] (xg (zc 0)) (zJ 0) tS (zF mj (ze (zr 1) (ze (zr 0) zq)))
def WH:Sm:=
 (retS (zF (lO λ bs=>bs.any id) (ze jV zq)))
def mf:List T->Option T:=yn ["border","pair"] 2 WH
def Xh:Ev->Option T:=
 wa [none] (xg (zc 0)) (zJ 0) tS (tupS (ze (zb zj (zc 0) (cS (.int 0))) (ze (cS (.int 0)) (ze (zb zj (zc 0) (cS (.int 1))) zq))))
def Xg:Ev->Option T:=
 wa [none] (xg (zc 1)) (zJ 0) tS (tupS (ze (zb zj (zc 0) (cS (.int 0))) (ze (cS (.int 1)) (ze (zb zj (zc 0) (cS (.int 1))) zq))))
def ic:Sm:=
 (zy (Y3 3 (zc 6) (zF tI (ze (zc 7) (ze (Y5 3 (zc 6) (zr 7)) zq))))
 (yC (zO (zb (zK false) (eW 3) (cS (.int 2)))) (tu 4 (tupS (ze (zr 5) (ze (zF mY (ze (eX 3 (cS (.int 0))) (ze (eX 3 (cS (.int 1))) zq))) zq)))) yB))
def WM:Sm:=
 (zy (zL 2 (zb yE Xh Xg))
 (zy (Y4 3)
 (zy (uh 4 (xV zq))
 (zy (wC [5,6,7] (xg (zF oE (ze (zc 2) zq))) (vA 3 (yW (zJ 5) (yW (zJ 6) (yW (zJ 7) v_)))) ic)
 (eK 4 (retS (zF qf (ze (zr 4) zq))))))))
def kj:List T->Option T:=yn ["border","other","steps","lows","shared","first","side","second"] 2 WM
def WI:Sm:=
 (retS (zF qf (ze (zb yE (zF listS (ze (zc 0) zq)) (zF listS (ze (zc 1) zq))) zq)))
def kg:List T->Option T:=yn ["border","other"] 2 WI
def jW:Ev->Option T:=
 wa [none,some 1] (xg (zc 2)) (zJ 0) tS (tupS (ze (zF mY (ze (cS (.int 0)) (ze (zb wM (zb zj (zc 0) (cS (.int 0))) (zb zj (zc 1) (cS (.int 2)))) zq))) (ze (zF mY (ze (cS (.int 0)) (ze (zb wM (zb zj (zc 0) (cS (.int 1))) (zb zj (zc 1) (cS (.int 3)))) zq))) zq)))
def jN:Ev->Option T:=
 wa [none,some 0] (xg (zc 3)) (zJ 0) (w9 (zF mj (ze (zr 1) (ze (zr 0) zq)))) (zr 0)
def WR:Sm:=
 (zy (zL 3 jW)
 (retS (zF qf (ze jN zq))))
def kr:List T->Option T:=yn ["brims","way","border","pairs"] 3 WR
def WB:Sm:=
 (zy (zL 2 (zF xn (ze (zr 0) (ze (cS (.int 1)) zq))))
 (zy (zL 3 (xV (ze (zb zj (xV (ze (cS (.int 3)) (ze (cS (.int 2)) (ze (cS (.int 4)) (ze (cS (.int 1)) (ze (cS (.int 5)) (ze (cS (.int 2)) (ze (cS (.int 3)) (ze (cS (.int 0)) zq))))))))) (zb yj (zc 2) (cS (.int 8)))) (ze (zb zj (xV (ze (cS (.int 2)) (ze (cS (.int 3)) (ze (cS (.int 1)) (ze (cS (.int 4)) (ze (cS (.int 2)) (ze (cS (.int 5)) (ze (cS (.int 3)) (ze (cS (.int 0)) zq))))))))) (zb yj (zb xt (zc 2) (cS (.int 8))) (cS (.int 8)))) zq))))
 (zy (yC (zO (zb j6 (zc 1) (cS (.int 4)))) (retS (tupS (ze (zF tI (ze (zb zj (zc 3) (cS (.int 0))) (ze (cS (.int 2)) zq))) (ze (zF tI (ze (zb zj (zc 3) (cS (.int 1))) (ze (cS (.int 2)) zq))) zq)))) yB)
 (zy (yC (zO (zb (zK false) (zb yj (zb xt (zc 2) (cS (.int 64))) (cS (.int 10))) (cS (.int 1)))) (retS (tupS (ze (cS (.int 12)) (ze (zb yj (zb zj (zc 3) (cS (.int 1))) (cS (.int 3))) zq)))) yB)
 (zy (yC (zO (zb (zK false) (zb yj (zb xt (zc 2) (cS (.int 64))) (cS (.int 10))) (cS (.int 2)))) (retS (tupS (ze (zb yj (zb zj (zc 3) (cS (.int 0))) (cS (.int 3))) (ze (cS (.int 12)) zq)))) yB)
 (zy (yC (vU (zO (zb (zK false) (zb yj (zb xt (zc 2) (cS (.int 64))) (cS (.int 10))) (cS (.int 3)))) (zO (zb yV (zc 1) (cS (.int 3))))) (retS (tupS (ze (cS (.int 12)) (ze (cS (.int 12)) zq)))) yB)
 (retS (zF rp (ze (zc 3) zq)))))))))
def md:List T->Option T:=yn ["_law_script","_law_many","_law_number","_law_found"] 2 WB
def ib:Sm:=
 (zy (tu 3 (zb zj (xV (ze (cS (.str "keeper")) (ze (cS (.str "taker")) zq))) (zb yj (zc 2) (cS (.int 2)))))
 (zL 2 (zb xt (zc 2) (cS (.int 2)))))
def W7:Sm:=
 (zy (zL 2 (zF xn (ze (zr 0) (ze (cS (.int 2)) zq))))
 (zy (uh 3 (xV zq))
 (zy (wC [4] (vk vM (ze (zc 1) zq)) (zJ 4) ib)
 (retS (zF rp (ze (zc 3) zq))))))
def ma:List T->Option T:=yn ["_law_script","_law_many","_law_number","_law_found","_law_place"] 2 W7
def nC:Sm:=
 (zy (zL 8 (zb yE (zb wB (zc 3) (zc 5)) (zc 7)))
 (zy (zL 9 (zb yj (zb yE (zb yE (zb wB (zF xn (ze (zr 0) (ze (zb yE (cS (.int 4)) (zc 8)) zq))) (cS (.int 2957))) (zb wB (cS (.int 61)) (zc 8))) (cS (.int 17))) (cS (.int 999983))))
 (zy (zL 10 (zb xt (zc 9) (cS (.int 8))))
 (tu 4 (tupS (ze (zr 5) (ze (zb yj (zb yj (zc 9) (cS (.int 8))) (zc 1)) (ze (zF qg (ze (zr 10) zq)) (ze (zF qg (ze (zb xt (zc 10) (cS (.int 125))) zq)) zq)))))))))
def jZ:Sm:=
 (zy (zL 6 (zb yE (cS (.int 1)) (zb yj (zc 2) (cS (.int 3)))))
 (zy (yC (vU (zO (zb yV (zc 1) (cS (.int 3)))) (zO (zb (zK false) (zb yj (zb xt (zc 2) (cS (.int 3))) (cS (.int 8))) (cS (.int 1))))) (zL 6 (zb yE (cS (.int 9)) (zc 6))) yB)
 (zy (wC [7,8,9,10] (vk vM (ze (zc 6) zq)) (zJ 7) nC)
 (zL 2 (zb xt (zc 2) (cS (.int 24)))))))
def W3:Sm:=
 (zy (zL 2 (zF xn (ze (zr 0) (ze (cS (.int 3)) zq))))
 (zy (zL 3 (zb zj (xV (ze (cS (.int 3)) (ze (cS (.int 12)) zq))) (zF ej (ze (zb yV (zc 1) (cS (.int 3))) zq))))
 (zy (uh 4 (xV zq))
 (zy (wC [5,6,7,8,9,10] (vk vM (ze (zc 1) zq)) (zJ 5) jZ)
 (retS (zF rp (ze (zF pA (ze (zc 4) zq)) zq)))))))
def nX:List T->Option T:=yn ["_law_script","_law_many","_law_number","_law_wide","_law_found","_law_place","_law_size","_law_k","_law_at","_law_drawn","_law_rest"] 2 W3
def lR:Sm:=
 (zy (zL 4 (zb yj (zb yE (zb yE (zb wB (zF xn (ze (zr 0) (ze (zb yE (cS (.int 28)) (zc 3)) zq))) (cS (.int 3571))) (zb wB (cS (.int 29)) (zc 3))) (cS (.int 5))) (cS (.int 999979))))
 (yC (vU (zO (zb (zK false) (zb zj (zc 1) (zc 3)) (cS (.str "keeper")))) (zO (zb (zK false) (zb yj (zc 4) (cS (.int 3))) (cS (.int 1))))) (zy (zL 5 (zb xt (zc 4) (cS (.int 6))))
 (zy (zL 6 (zb yE (cS (.int 1)) (zb zj (xV (ze (zb yj (zc 5) (cS (.int 3))) (ze (zb yj (zc 5) (cS (.int 3))) (ze (zb yj (zc 5) (cS (.int 12))) zq)))) (zb yj (zb xt (zc 5) (cS (.int 12))) (cS (.int 3))))))
 (zy (zL 7 (zb zj (xV (ze (zb yj (zb xt (zc 5) (cS (.int 36))) (cS (.int 4))) (ze (zb yj (zb xt (zc 5) (cS (.int 36))) (cS (.int 4))) (ze (zb yj (zb xt (zc 5) (cS (.int 36))) (cS (.int 13))) zq)))) (zb yj (zb xt (zc 5) (cS (.int 468))) (cS (.int 3)))))
 (tu 2 (tupS (ze (zr 3) (ze (zb yj (zb xt (zc 4) (cS (.int 3))) (cS (.int 2))) (ze (zr 6) (ze (zr 7) zq))))))))) yB))
def W4:Sm:=
 (zy (uh 2 (xV zq))
 (zy (wC [3,4,5,6,7] (vk vM (ze (zF yZ (ze (zc 1) zq)) zq)) (zJ 3) lR)
 (retS (zF rp (ze (zc 2) zq)))))
def nY:List T->Option T:=yn ["_law_script","_law_owners_here","_law_found","_law_place","_law_drawn","_law_rest","_law_give","_law_get"] 2 W4
def cO:Sm:=
 (zy (zL 4 (zF qh (ze (zr 0) (ze (zr 2) (ze (zr 3) zq)))))
 (retS (nE (zb (xI true) (zc 4) (cS .zp)) (zF t9 (ze (zb zj (zc 1) (zb zj (zc 3) (cS (.int 1)))) (ze (zr 4) zq))))))
def nZ:List T->Option T:=yn ["_law_floor_here","_law_told","_law_pair","_law_way","_law_behind_here"] 4 cO
def lS:Sm:=
 (zy (zL 7 (zF o4 (ze (zr 1) (ze (zr 3) (ze (zr 4) (ze (zr 5) (ze (zb yj (zc 6) (zb mF (cS (.int 10)) (cS (.int 40)))) zq)))))))
 (zy (yC (zO (zb (xI false) (zc 7) (cS .zp))) (retS (cS (.bl false))) yB)
 (zy (zL 8 (zF ph (ze (zr 1) (ze (zr 4) (ze (zr 5) zq)))))
 (zy (yC (sO (zO (zb vT (zb zj (zc 7) (cS (.int 0))) (zF yZ (ze (zc 8) zq)))) (zO (zb (zK true) (zb zj (zb zj (zb zj (zc 1) (cS (.int 2))) (zb zj (zc 7) (cS (.int 1)))) (cS (.int 0))) (zc 4)))) (retS (cS (.bl false))) yB)
 (zy (zL 5 (zF qh (ze (zr 1) (ze (zb zj (zc 8) (zb zj (zc 7) (cS (.int 0)))) (ze (zb zj (zb zj (zc 1) (cS (.int 2))) (zb zj (zc 7) (cS (.int 1)))) zq)))))
 (zy (zL 4 (zb zj (zb zj (zb zj (zc 1) (cS (.int 2))) (zb zj (zc 7) (cS (.int 1)))) (cS (.int 1))))
 (yC (sO (zO (zb (xI false) (zc 5) (cS .zp))) (qS (w9 (zF t9 (ze (zb zj (zc 2) (zc 4)) (ze (zr 5) zq)))))) (retS (cS (.bl false))) yB)))))))
def W5:Sm:=
 (zy (wC [6,7,8] (xg (kH (zc 0) (some (cS (.int 39))) (some (cS (.int 63))))) (zJ 6) lS)
 (retS (cS (.bl true))))
def n_:List T->Option T:=yn ["_law_script","_law_floor_here","_law_told","_law_rows","_law_place","_law_pair","_law_cell_here","_law_deed_here","_law_held_here"] 6 W5
def WK:Sm:=
 (yC (qS (w9 (zF iB (ze (zr 1) (ze (cS (.int 0)) (ze (zb wM (zF qe (ze (zr 0) zq)) (cS (.int 1))) zq)))))) Zg yB)
def ki:List T->Option T:=yn ["floor","place"] 2 WK
def ie:Sm:=
 (zL 1 (zF kg (ze (zr 1) (ze (zr 2) zq))))
def WO:Sm:=
 (zy (zL 1 (tupS zq))
 (zy (wC [2] (xg (zr 0)) (zJ 2) ie)
 (retS (zr 1))))
def km:List T->Option T:=yn ["borders","joined","border"] 1 WO
def ig:Sm:=
 (zL 1 (zF kj (ze (zr 1) (ze (zr 2) zq))))
def WQ:Sm:=
 (zy (zL 1 (tupS (ze (tupS (ze (cS (.int 0)) (ze (cS (.int 0)) zq))) zq)))
 (zy (wC [2] (xg (zr 0)) (zJ 2) ig)
 (retS (zr 1))))
def kq:List T->Option T:=yn ["borders","joined","border"] 1 WQ
def cN:Sm:=
 (zy (zL 4 (zF nR (ze (zr 0) (ze (zr 1) (ze (zr 2) zq)))))
 (retS (nE (zb (xI true) (zc 4) (cS .zp)) (zF mf (ze (zb zj (zc 3) (zb zj (zb zj (zb zj (zc 0) (cS (.int 2))) (zc 2)) (cS (.int 1)))) (ze (zr 4) zq))))))
def nW:List T->Option T:=yn ["floor","pair","way","held","behind"] 4 cN
def cP:Sm:=
 (zy (zL 1 (zF xn (ze (zr 0) (ze (cS (.int 0)) zq))))
 (zy (zL 2 (zb zj (xV (ze (cS (.int 2)) (ze (cS (.int 3)) (ze (cS (.int 1)) (ze (cS (.int 4)) (ze (cS (.int 3)) (ze (cS (.int 2)) (ze (cS (.int 4)) (ze (zb yE (cS (.int 5)) (zb yj (zb xt (zc 1) (cS (.int 8))) (cS (.int 4)))) zq))))))))) (zb yj (zc 1) (cS (.int 8)))))
 (zy (zL 3 (zF ma (ze (zr 0) (ze (zr 2) zq))))
 (zy (zL 4 (zF md (ze (zr 0) (ze (zr 2) zq))))
 (zy (zL 5 (zF nX (ze (zr 0) (ze (zr 2) zq))))
 (zy (zL 6 (zF nY (ze (zr 0) (ze (zr 3) zq))))
 (zy (yC (vU (zO (zb (zK false) (zc 4) (tupS (ze (cS (.int 12)) (ze (cS (.int 12)) zq))))) (sO (zO (zb j6 (zF yZ (ze (zc 5) zq)) (cS (.int 6)))) (zO (zb j6 (zF yZ (ze (zc 6) zq)) (cS (.int 0)))))) (zL 4 (tupS (ze (cS (.int 12)) (ze (cS (.int 3)) zq)))) yB)
 (retS (tupS (ze (zr 4) (ze (zr 3) (ze (zr 5) (ze (zr 6) zq)))))))))))))
def o3:List T->Option T:=yn ["_law_script","_law_number","_law_many","_law_owners_here","_law_brims_here","_law_ways_here","_law_stalls_here"] 1 cP
def jU:Ev->Option T:=
 wa [none,some 2] (xg (zb zj (zc 0) (cS (.int 2)))) (zJ 0) (zO (zb (zK false) (zb zj (zc 0) (cS (.int 0))) (zc 1))) (zr 0)
def jM:Ev->Option T:=
 wa [none,some 0,some 1,some 6] (xg (zc 3)) (zJ 0) tS (zF nZ (ze (zr 1) (ze (zr 2) (ze (zr 3) (ze (zr 0) zq)))))
def lT:Sm:=
 (l4 5 jM)
def oj:Sm:=
 (yC (qS (w9 (zF t9 (ze (zb zj (zc 1) (zc 2)) (ze (zr 4) zq))))) (zy (uh 5 (xV zq))
 (zy (wC [6] (xg (zF ph (ze (zr 0) (ze (zr 2) (ze (zr 4) zq))))) (zJ 6) lT)
 (yC (sO (vU (zO (zb (zK false) (zb zj (zb zj (zc 0) (cS (.int 1))) (zc 2)) (cS (.str "keeper")))) (w9 (zF (lO λ bs=>bs.any id) (ze (zc 5) zq)))) (vU (zO (zb (zK false) (zb zj (zb zj (zc 0) (cS (.int 1))) (zc 2)) (cS (.str "taker")))) (w9 (zF (lO λ bs=>bs.all id) (ze (zc 5) zq))))) (retS (cS (.bl false))) yB))) yB)
def jY:Sm:=
 (zy (zL 3 jU)
 (wC [4,5,6] (xg (zF ke (ze (zr 0) zq))) (zJ 4) oj))
def WD:Sm:=
 (zy (wC [2,3,4,5,6] (vk vM (ze (zF yZ (ze (zb zj (zc 0) (cS (.int 1))) zq)) zq)) (zJ 2) jY)
 (retS (cS (.bl true))))
def me:List T->Option T:=yn ["_law_floor_here","_law_told","_law_place","_law_ways_here","_law_pair","_law_safe_here","_law_held_here"] 2 WD
def jO:Ev->Option T:=
 wa [none,none,some 1] (vk qR (ze (zb zj (zc 0) (cS (.int 2))) zq)) (vA 2 (yW (zJ 0) (yW (zJ 1) v_))) (zO (zb (zK false) (zb zj (zc 1) (cS (.int 0))) (zc 2))) (zr 0)
def Wr:Sm:=
 (zy (eV (zF ki (ze (zr 0) (ze (zr 1) zq))))
 (retS jO))
def pd:List T->Option T:=yn ["floor","place"] 2 Wr
def lP:Sm:=
 (yC (zO (zb (zK false) (zb zj (zc 2) (cS (.int 0))) (zc 1))) (retS (zr 2)) yB)
def Wu:Sm:=
 (zy (eV (zF ki (ze (zr 0) (ze (zr 1) zq))))
 (zy (wC [2] (xg (zb zj (zc 0) (cS (.int 3)))) (zJ 2) lP)
 (retS (cS .zp))))
def rg:List T->Option T:=yn ["floor","place","stall"] 2 Wu
def ij:Sm:=
 (l4 4 (zF kc (ze (zb zj (zc 0) (cS (.int 0))) (ze (zr 3) (ze (zr 5) zq)))))
def cU:Sm:=
 (zy (zL 3 (zF rg (ze (zr 0) (ze (zr 1) zq))))
 (zy (yC (zO (zb (xI false) (zc 3) (cS .zp))) (retS (zr 2)) yB)
 (zy (uh 4 (xV zq))
 (zy (wC [5] (xg (zr 2)) (zJ 5) ij)
 (eK 4 (retS (zF qf (ze (zr 4) zq))))))))
def mh:List T->Option T:=yn ["floor","place","border","stall","pairs","pair"] 3 cU
def iH:Sm:=
 (zy (yC (zO (zb (zK false) (zc 3) (cS (.int 0)))) (retS (tupS (ze (zb zj (zc 2) (cS (.int 0))) (ze (zb zj (zc 2) (cS (.int 1))) zq)))) yB)
 (zy (zL 4 (zF rg (ze (zr 0) (ze (zr 1) zq))))
 (zy (yC (zO (zb (xI false) (zc 4) (cS .zp))) (retS (cS .zp)) yB)
 (retS (zF o6 (ze (zb zj (zc 0) (cS (.int 0))) (ze (zr 4) (ze (zr 2) (ze (zr 3) zq)))))))))
def o7:List T->Option T:=yn ["floor","place","pair","times","stall"] 4 iH
def jR:Ev->Option T:=
 wa [none,some 0] (xg (zF pd (ze (zr 0) (ze (zr 1) zq)))) (zJ 0) tS (zb zj (zb zj (zc 1) (cS (.int 2))) (zc 0))
def jL:Ev->Option T:=
 wa [none,some 0,some 2] (xg (zc 3)) (zJ 0) tS (zF kr (ze (zb zj (zc 1) (cS (.int 0))) (ze (zr 0) (ze (zb zj (zc 2) (zb zj (zc 0) (cS (.int 1)))) zq))))
def W0:Sm:=
 (zy (zL 3 jR)
 (zy (zL 4 jL)
 (zy (yC (zO (zb (zK false) (zb zj (zb zj (zc 0) (cS (.int 1))) (zc 1)) (cS (.str "keeper")))) (retS (zF mh (ze (zr 0) (ze (zr 1) (ze (zF km (ze (zr 4) zq)) zq))))) yB)
 (retS (zF kq (ze (zr 4) zq))))))
def kd:List T->Option T:=yn ["floor","place","last","ways","ahead"] 3 W0
def oq:Sm:=
 (yC (w9 (zF nW (ze (zr 0) (ze (zr 6) (ze (zr 7) (ze (zr 3) zq)))))) (retS (tupS (ze (zr 5) (ze (zr 7) zq)))) yB)
def qW:Sm:=
 (zy (wC [7] (xg (zr 4)) (zJ 7) oq)
 (zy (zL 5 (zb yE (zc 5) (cS (.int 1))))
 (zL 6 (zF o7 (ze (zr 0) (ze (zr 1) (ze (zr 2) (ze (zr 5) zq))))))))
def WJ:Sm:=
 (zy (zL 4 (zF pd (ze (zr 0) (ze (zr 1) zq))))
 (zy (zL 5 (cS (.int 0)))
 (zy (zL 6 (zr 2))
 (zy (rj 1000000 [7] (zO (zb (xI true) (zc 6) (cS .zp))) qW)
 (retS (cS .zp))))))
def kh:List T->Option T:=yn ["floor","place","pair","held","ways","times","ready","way"] 4 WJ
def jQ:Ev->Option T:=
 wa [none,some 2] (xg (zb zj (zc 0) (cS (.int 2)))) (zJ 0) (zO (zb (nk false) (zb zj (zc 0) (cS (.int 1))) (zc 1))) (zb zj (zc 0) (cS (.int 0)))
def j_:Sm:=
 (jv 3 (zc 4) (zF kd (ze (zr 0) (ze (zr 4) (ze (zr 1) zq)))))
def Wz:Sm:=
 (zy (uh 3 (zF listS (ze (zc 1) zq)))
 (zy (wC [4] (xg (zF pA (ze jQ zq))) (zJ 4) j_)
 (pG 3)))
def nV:List T->Option T:=yn ["floor","last","fresh","following","place"] 3 Wz
def lL:Ev->Option T:=
 wa [none,some 0,some 1,some 2] (xg (zb zj (zc 2) (zc 1))) (zJ 0) tS (zb yE (tupS (ze (zr 0) zq)) (zF kh (ze (zr 1) (ze (zr 2) (ze (zr 0) (ze (zr 3) zq))))))
def cM:Sm:=
 (zy (yC (zO (zb (zK true) (zb zj (zb zj (zc 0) (cS (.int 1))) (zc 1)) (cS (.str "keeper")))) (retS (tupS zq)) yB)
 (retS (zF rp (ze lL zq))))
def nS:List T->Option T:=yn ["floor","place","held"] 3 cM
def lM:Ev->Option T:=
 wa [none,none,some 3] (vk qR (ze (zc 4) zq)) (vA 2 (yW (zJ 0) (yW (zJ 1) v_))) (zO (zb (zK true) (zc 1) (zb zj (zc 2) (zc 0)))) (zr 0)
def sU:Sm:=
 (zy (zL 3 (zb zj (zc 1) (rN (cS (.int 1)))))
 (zy (zL 4 (zF nV (ze (zr 0) (ze (zr 3) (ze (zr 2) zq)))))
 (zy (zL 2 lM)
 (yC (w9 (zc 2)) (tu 1 (zr 4)) yB))))
def Wv:Sm:=
 (zy (uh 1 (xV (ze (zb wB (xV (ze (tupS (ze (tupS (ze (cS (.int 0)) (ze (cS (.int 0)) zq))) zq)) zq)) (zF qe (ze (zr 0) zq))) zq)))
 (zy (zL 2 (zF mZ (ze (zF qe (ze (zr 0) zq)) zq)))
 (zy (rj 1000000 [3,4] (w9 (zc 2)) sU)
 (pG 1))))
def nU:List T->Option T:=yn ["floor","told","fresh","last","following"] 1 Wv
def WN:Sm:=
 (retS (zb zj (zF nU (ze (zr 0) zq)) (rN (cS (.int 1)))))
def qk:List T->Option T:=yn ["floor"] 1 WN
def jP:Ev->Option T:=
 wa [none,some 0,some 1] (vk vM (ze (zF qe (ze (zr 0) zq)) zq)) (zJ 0) tS (zF nS (ze (zr 1) (ze (zr 0) (ze (zr 2) zq))))
def Ws:Sm:=
 (zy (zL 1 (zF qk (ze (zr 0) zq)))
 (retS jP))
def ka:List T->Option T:=yn ["floor","held"] 1 Ws
def lN:Ev->Option T:=
 wa [none,some 2] (vk vM (ze (zF yZ (ze (zc 2) zq)) zq)) (zJ 0) (zO (zb (zK true) (zb zj (zc 1) (zc 0)) (tupS zq))) (zr 0)
def cT:Sm:=
 (zy (zL 1 (zF o3 (ze (zr 0) zq)))
 (zy (zL 2 (zF qk (ze (zr 1) zq)))
 (zy (yC (qS (w9 (zF me (ze (zr 1) (ze (zr 2) zq))))) (retS (cS (.bl false))) yB)
 (zy (zL 3 lN)
 (zy (yC (zO (zb (zK false) (zc 3) (xV zq))) (retS (cS (.bl true))) yB)
 (zy (zL 4 (zb zj (zc 3) (zb yj (zF xn (ze (zr 0) (ze (cS (.int 36)) zq))) (zF yZ (ze (zc 3) zq)))))
 (zy (bu (zb zj (zb zj (zc 2) (zc 4)) (zb yj (zF xn (ze (zr 0) (ze (cS (.int 37)) zq))) (zF yZ (ze (zb zj (zc 2) (zc 4)) zq)))) (vA 2 (yW (zJ 5) (yW (zJ 6) v_))))
 (zy (zL 7 (zF xn (ze (zr 0) (ze (cS (.int 38)) zq))))
 (zy (zL 8 (tupS (ze (zb yE (zc 5) (zb yj (zc 7) (zb yE (zb wM (zb zj (zb zj (zc 1) (cS (.int 0))) (cS (.int 0))) (zc 5)) (cS (.int 1))))) (ze (zb yE (zc 6) (zb yj (zb xt (zc 7) (cS (.int 13))) (zb yE (zb wM (zb zj (zb zj (zc 1) (cS (.int 0))) (cS (.int 1))) (zc 6)) (cS (.int 1))))) zq))))
 (retS (zF n_ (ze (zr 0) (ze (zr 1) (ze (zr 2) (ze (zF ka (ze (zr 1) zq)) (ze (zr 4) (ze (zr 8) zq)))))))))))))))))
def o5:List T->Option T:=yn ["_law_script","_law_floor_here","_law_told","_law_some","_law_place","_law_x","_law_y","_law_cell_here","_law_pair"] 1 cT
def VU (ps:List (Int×Int)) (h:ps.length<64):oE [.lst (ps.map zk)]=some (.lst ((rA ps).map zk)):=by
 show (wA (ps.map zk)).bind _=_;rw[U0,zC9,if_pos ⟨by simpa using h,λ r hr=>by obtain⟨p,_,rfl⟩:=zB0.mp hr;simp[uw]⟩,<- bA,zD6];rfl
noncomputable def cell (ns:List Int) (k:Nat):Int:=if k<ns.length then ns.getD k 0%10 ^ 40 else 0
def qj (ns:List Int) (k:Nat):xn [yi ns,.int (k:Int)]=some (.int (cell ns k)):=by
 unfold xn WA cell yi;by_cases h:k<ns.length
 .have e:L2.yh (ns.map T.int) (k:Int)=some (.int (ns.getD k 0)):=wF (by simp[h]);simp[h,e,pz,yV]
 .simp[h,yV]
def cD (b:T) (ps:List (Int×Int)) (q:Int×Int) (hb:wZ b=some (ps.map zk)):t9 [b,zk q]=some (.bl (zR ps q)):=by
 have h:=fS (is:=[2,3]) (g:=vA 2 (yW (zJ 2) (yW (zJ 3) v_))) (b:=dw) zk (xh q) (.bl true) [some (.im b),some (.im (zk q)),none,none] ps [some (.im b),some (.im (zk q)),none,none] (by simp) λ p hp=>⟨[some (.im b),some (.im (zk q)),some (.im (.int p.1)),some (.im (.int p.2))],by simp,by
  by_cases h1:p.1<=q.1 <;> by_cases h2:p.2<=q.2 <;> simp[turn,dw,zk,xh,h1,h2]⟩
 unfold t9 W8;simp only[wC,xg,zr,yn,zy,p9] at h ⊢;simp[hb,h];unfold zR;cases ps.any (xh q) <;> simp
def PC {qs p:List (Int×Int)}{x:Int×Int}(hr:∀ r,qs++xr r (qs.getLast?.map (·.2))=xr (p++r) none) (hb:sT (qs.getLast?.map (·.2)) x.2=true) (r:List (Int×Int)):
  (qs++[x])++xr r ((qs++[x]).getLast?.map (·.2))=xr (p++[x]++r) none:=by
 have:=hr (x::r);rw[show xr (x::r) (qs.getLast?.map (·.2))=x::xr r (some x.2) by rw[xr,if_pos hb]] at this;simpa using this
def PH {qs p:List (Int×Int)}{x:Int×Int}(hr:∀ r,qs++xr r (qs.getLast?.map (·.2))=xr (p++r) none) (hb:sT (qs.getLast?.map (·.2)) x.2=false) (r:List (Int×Int)):
  qs++xr r (qs.getLast?.map (·.2))=xr (p++[x]++r) none:=by
 have:=hr (x::r);rw[show xr (x::r) (qs.getLast?.map (·.2))=xr r (qs.getLast?.map (·.2)) by rw[xr,if_neg (by rw[hb];nofun)]] at this;simpa using this
def i9 (ps:List (Int×Int)) (hl:ps.length<64):qf [.lst (ps.map zk)]=some (.tup ((vQ ps).map zk)):=by
 obtain⟨J',h1,qs,h2,h3,h4⟩:=vP (is:=[2]) (g:=zJ 2) (b:=lQ) zk (λ p J=>∃ qs:List (Int×Int),J=[some (.im (.lst (ps.map zk))),some (.own (.lst (qs.map zk))),none]/\qs.length<=p.length/\
   ∀ r,qs++xr r (qs.getLast?.map (·.2))=xr (p++r) none) (rA ps) [some (.im (.lst (ps.map zk))),some (.own (.lst [])),none] ⟨[],by simp,by simp,λ r=>by simp⟩ (by
  rintro p x q e J ⟨qs,rfl,hq,hr⟩;have hlen:p.length<64:=by
   have:=congrArg List.length e;rw[(i_ ps).length_eq] at this;simp at this;omega
  have app:sT (qs.getLast?.map (·.2)) x.2=true->∃ qs':List (Int×Int),yP [2] [some (.im (.lst (ps.map zk))),some (.own (.lst (qs.map zk++[zk x]))),some (.im (zk x))]=[some (.im (.lst (ps.map zk))),some (.own (.lst (qs'.map zk))),none]/\qs'.length<=(p++[x]).length/\∀ r,qs'++xr r (qs'.getLast?.map (·.2))=xr (p++[x]++r) none:=λ hb=>
   ⟨qs++[x],by simp,by simp;omega,PC hr hb⟩
  rcases List.eq_nil_or_concat qs with rfl | ⟨init,l,rfl⟩
  .refine⟨_,?_,app (by simp[sT])⟩;simp[turn,lQ]
  .simp only[List.concat_eq_append] at *;by_cases hb:x.2<l.2
   .refine⟨_,?_,app (by simp[sT,hb])⟩;simp at hq;simp[turn,lQ,zk,hb,yV];omega
   .refine⟨[some (.im (.lst (ps.map zk))),some (.own (.lst ((init++[l]).map zk))),some (.im (zk x))],?_,init++[l],by simp,by simp at hq ⊢;omega,PH hr (by simp[sT];omega)⟩;simp[turn,lQ,zk,hb,yV])
 have h5:=h4 [];simp[xr] at h5;unfold qf W2;simp[VU ps hl,h1,h2,h5,vQ]
def Mp (b o:List (Int×Int)) (hl:b.length+o.length<64):kg [.tup (b.map zk),.tup (o.map zk)]=some (.tup ((vQ (b++o)).map zk)):=by
 have h:=i9 (b++o) (by simpa using hl);rw[zE7] at h;have:b.length+o.length<=16777216:=by omega
 unfold kg WI;simp[h,this]
noncomputable def r0 (p:Int×Int):List Int:=[p.1,0,p.2]
noncomputable def r1 (p:Int×Int):List Int:=[p.1,1,p.2]
noncomputable def xQ (l:Option Int) (v:Int):Int:=match l with
 | none=>v
 | some m=>if m<v then m else v
noncomputable def uS (l:Option Int) (sh:List (Int×Int)) (f:Int->Int×Int):List (Int×Int):=match l with
 | some m=>sh++[f m]
 | none=>sh
structure Sw (b o:List (Int×Int)) (p:List (List Int)) (l0 l1:Option Int) (sh:List (Int×Int)):Prop where
 fP:∀ x,r0 x∈p->∃ m,l0=some m/\m<=x.2
 fO:∀ x,r1 x∈p->∃ m,l1=some m/\m<=x.2
 d9:∀ m,l0=some m->∃ x,r0 x∈p/\x.2=m
 d7:∀ m,l1=some m->∃ x,r1 x∈p/\x.2=m
 len:sh.length<=p.length
 snd:∀ s∈sh,(∃ x,r0 x∈p/\x.1<=s.1/\x.2<=s.2)/\∃ x,r1 x∈p/\x.1<=s.1/\x.2<=s.2
 all:∀ x y,r0 x∈p->r1 y∈p->∃ s∈sh,(s.1<=x.1\/s.1<=y.1)/\(s.2<=x.2\/s.2<=y.2)
def kZ {x y:Int×Int}(h:r0 x=r0 y):x=y:=by
 unfold r0 at h;injection h with h1 h2;injection h2 with _ h2;injection h2 with h2 _;exact Prod.ext h1 h2
def kY {x y:Int×Int}(h:r1 x=r1 y):x=y:=by
 unfold r1 at h;injection h with h1 h2;injection h2 with _ h2;injection h2 with h2 _;exact Prod.ext h1 h2
def oQ {x y:Int×Int}(h:r0 x=r1 y):False:=by
 unfold r0 r1 at h;injection h with h1 h2;injection h2 with h2 _;omega
def sC {p:List (List Int)}{a x:List Int}(h:a∈p++[x]):a∈p\/a=x:=by simpa using h
def Sw.VM {b o:List (Int×Int)}{p:List (List Int)}{l0 l1:Option Int}{sh:List (Int×Int)}(h:Sw b o p l0 l1 sh) (x:Int×Int) (hx:∀ y,r0 y∈p->y.1<=x.1) (hy:∀ y,r1 y∈p->y.1<=x.1):
  Sw b o (p++[r0 x]) (some (xQ l0 x.2)) l1 (uS l1 sh λ m=>(x.1,if m>xQ l0 x.2 then m else xQ l0 x.2)):=by
 have lo:xQ l0 x.2<=x.2/\∀ m,l0=some m->xQ l0 x.2<=m:=by
  unfold xQ;cases l0 with
  | none=>exact⟨zC6 _,nofun⟩
  | some m=>dsimp only;split <;> refine⟨by omega,λ m' e=>?_⟩ <;> cases e <;> omega
 have la:∃ y,r0 y∈p++[r0 x]/\y.2=xQ l0 x.2:=by
  unfold xQ;cases l0 with
  | none=>exact⟨x,by simp,rfl⟩
  | some m=>
   dsimp only;split
   .obtain⟨y,h1,h2⟩:=h.d9 m rfl;exact⟨y,by simp[h1],h2⟩
   .exact⟨x,by simp,rfl⟩
 have snd':∀ s∈sh,(∃ x',r0 x'∈p++[r0 x]/\x'.1<=s.1/\x'.2<=s.2)/\∃ x',r1 x'∈p++[r0 x]/\x'.1<=s.1/\x'.2<=s.2:=λ s hs=>by
  obtain⟨⟨a,a1,a2⟩,c,c1,c2⟩:=h.snd s hs;exact⟨⟨a,by simp[a1],a2⟩,c,by simp[c1],c2⟩
 refine⟨λ y hm=>?_,λ y hm=>?_,λ m e=>?_,λ m e=>?_,?_,λ s hs=>?_,λ y z hm hz=>?_⟩
 .rcases sC hm with q | q
  .obtain⟨m,e,q2⟩:=h.fP y q;exact⟨_,rfl,by have:=lo.2 m e;omega⟩
  .cases kZ q;exact⟨_,rfl,lo.1⟩
 .rcases sC hm with q | q
  .exact h.fO y q
  .exact (oQ q.symm).elim
 .cases e;exact la
 .obtain⟨y,q1,q2⟩:=h.d7 m e;exact⟨y,by simp[q1],q2⟩
 .have:=h.len;cases l1 <;> simp[uS] <;> omega
 .cases l1 with
  | none=>exact snd' s hs
  | some m=>
   rcases zB9.mp hs with q | q
   .exact snd' s q
   .obtain rfl:s=_:=by simpa using q
    obtain⟨y,y1,y2⟩:=la;obtain⟨z,z1,z2⟩:=h.d7 m rfl;have hzx:=hy z z1;refine⟨⟨y,y1,?_,by dsimp only;split <;> omega⟩,z,by simp[z1],hzx,by dsimp only;split <;> omega⟩;rcases sC y1 with w | w
    .exact hx y w
    .cases kZ w;exact zC6 _
 .have hz':r1 z∈p:=by
   rcases sC hz with q | q
   .exact q
   .exact (oQ q.symm).elim
  rcases sC hm with q | q
  .obtain⟨s,s1,s2⟩:=h.all y z q hz';refine⟨s,?_,s2⟩;cases l1 <;> simp[uS,s1]
  .cases kZ q;obtain⟨m,e,hm⟩:=h.fO z hz';subst e;refine⟨_,zB4 _ zMc,.inl (zC6 _),?_⟩;have:=lo.1;dsimp only;split <;> omega
def Sw.swap {b o:List (Int×Int)}{p:List (List Int)}{l0 l1:Option Int}{sh:List (Int×Int)}(x:Int×Int) (h:Sw b o p l0 l1 sh) (hx:∀ y,r0 y∈p->y.1<=x.1) (hy:∀ y,r1 y∈p->y.1<=x.1):
  Sw b o (p++[r1 x]) l0 (some (xQ l1 x.2)) (uS l0 sh λ m=>(x.1,if xQ l1 x.2>m then xQ l1 x.2 else m)):=by
 have lo:xQ l1 x.2<=x.2/\∀ m,l1=some m->xQ l1 x.2<=m:=by
  unfold xQ;cases l1 with
  | none=>exact⟨zC6 _,nofun⟩
  | some m=>dsimp only;split <;> refine⟨by omega,λ m' e=>?_⟩ <;> cases e <;> omega
 have la:∃ y,r1 y∈p++[r1 x]/\y.2=xQ l1 x.2:=by
  unfold xQ;cases l1 with
  | none=>exact⟨x,by simp,rfl⟩
  | some m=>
   dsimp only;split
   .obtain⟨y,h1,h2⟩:=h.d7 m rfl;exact⟨y,by simp[h1],h2⟩
   .exact⟨x,by simp,rfl⟩
 have snd':∀ s∈sh,(∃ x',r0 x'∈p++[r1 x]/\x'.1<=s.1/\x'.2<=s.2)/\∃ x',r1 x'∈p++[r1 x]/\x'.1<=s.1/\x'.2<=s.2:=λ s hs=>by
  obtain⟨⟨a,a1,a2⟩,c,c1,c2⟩:=h.snd s hs;exact⟨⟨a,by simp[a1],a2⟩,c,by simp[c1],c2⟩
 refine⟨λ y hm=>?_,λ y hm=>?_,λ m e=>?_,λ m e=>?_,?_,λ s hs=>?_,λ y z hm hz=>?_⟩
 .rcases sC hm with q | q
  .exact h.fP y q
  .exact (oQ q).elim
 .rcases sC hm with q | q
  .obtain⟨m,e,q2⟩:=h.fO y q;exact⟨_,rfl,by have:=lo.2 m e;omega⟩
  .cases kY q;exact⟨_,rfl,lo.1⟩
 .obtain⟨y,q1,q2⟩:=h.d9 m e;exact⟨y,by simp[q1],q2⟩
 .cases e;exact la
 .have:=h.len;cases l0 <;> simp[uS] <;> omega
 .cases l0 with
  | none=>exact snd' s hs
  | some m=>
   rcases zB9.mp hs with q | q
   .exact snd' s q
   .obtain rfl:s=_:=by simpa using q
    obtain⟨y,y1,y2⟩:=la;obtain⟨z,z1,z2⟩:=h.d9 m rfl;have hzx:=hx z z1;refine⟨⟨z,by simp[z1],hzx,by dsimp only;split <;> omega⟩,y,y1,?_,by dsimp only;split <;> omega⟩;rcases sC y1 with w | w
    .exact hy y w
    .cases kY w;exact zC6 _
 .have hm':r0 y∈p:=by
   rcases sC hm with q | q
   .exact q
   .exact (oQ q).elim
  rcases sC hz with q | q
  .obtain⟨s,s1,s2⟩:=h.all y z hm' q;refine⟨s,?_,s2⟩;cases l0 <;> simp[uS,s1]
  .cases kY q;obtain⟨m,e,hm⟩:=h.fP y hm';subst e;refine⟨_,zB4 _ zMc,.inr (zC6 _),?_⟩;have:=lo.1;dsimp only;split <;> omega
structure Lw (d:List (Key×T)) (l0 l1:Option Int):Prop where
 v0:xZ d (.inl 0)=l0.map T.int
 v1:xZ d (.inl 1)=l1.map T.int
 len:d.length=(if l0.isSome then 1 else 0)+if l1.isSome then 1 else 0
def Lw.UM {d:List (Key×T)}{l0 l1:Option Int}(h:Lw d l0 l1) (v:Int):Lw (uR d (.inl 0) (.int v)) (some v) l1:=by
 refine⟨by rw[k6];simp,by rw[k6];simpa using h.v1,?_⟩;rw[Z2,h.v0,h.len];cases l0 <;> cases l1 <;> simp
def Lw.UL {d:List (Key×T)}{l0 l1:Option Int}(h:Lw d l0 l1) (v:Int):Lw (uR d (.inl 1) (.int v)) l0 (some v):=by
 refine⟨by rw[k6];simpa using h.v0,by rw[k6];simp,?_⟩;rw[Z2,h.v1,h.len];cases l0 <;> cases l1 <;> simp
def jB {rows p q:List (List Int)}{x:List Int}(e:L4.wN rows=p++x::q) {a:List Int}(ha:a∈p) {i j:Int}{as xs:List Int}(h1:a=i::as) (h2:x=j::xs):i<=j:=by
 have h:=L4.iZ rows;rw[e,List.pairwise_append] at h;have:=h.2.2 a ha x zMc;subst h1 h2;rw[HT.qH] at this;by_cases c:j=i
 .omega
 .rw[if_neg c] at this;have:=of_decide_eq_false this;omega
def M0 (b o:List (Int×Int)) (hl:b.length+o.length<64):∃ sh:List (Int×Int),kj [.tup (b.map zk),.tup (o.map zk)]=some (.tup ((vQ sh).map zk))/\sh.length<64/\∀ q,zR sh q=(zR b q&&zR o q):=by
 let a0:W:=.im (.tup (b.map zk))
 let a1:W:=.im (.tup (o.map zk))
 let rows:=b.map r0++o.map r1
 let a2:W:=.im (.lst (rows.map yG))
 have hlen:rows.length<64:=by simp[rows];exact hl
 have hs:oE [.lst (rows.map yG)]=some (.lst ((L4.wN rows).map yG)):=by
  show ((wA (rows.map yG)).bind λ rs=>_)=_;rw[gS,zC9,if_pos ⟨hlen,λ r hr=>by
   rcases zB9.mp hr with h | h <;> obtain⟨_,_,rfl⟩:=zB0.mp h <;> simp[r0,r1]⟩]
 have plen:(L4.wN rows).length=rows.length:=(L4.tD rows).length_eq;obtain⟨J1,h1,d,l0,l1,sh,e1,w1,s1⟩:=vP (is:=[5,6,7]) (g:=vA 3 (yW (zJ 5) (yW (zJ 6) (yW (zJ 7) v_)))) (b:=ic) yG (λ p J=>∃ d l0 l1 sh,J=[some a0,some a1,some a2,some (.own (.y6 d)),some (.own (.lst (sh.map zk))),none,none,none]/\Lw d l0 l1/\Sw b o p l0 l1 sh) (L4.wN rows) [some a0,some a1,some a2,some (.own (.y6 [])),some (.own (.lst [])),none,none,none]
  ⟨[],none,none,[],by simp,⟨rfl,rfl,rfl⟩,⟨nofun,nofun,nofun,nofun,by simp,nofun,nofun⟩⟩ (by
  rintro p x q e J ⟨d,l0,l1,sh,rfl,hw,hsw⟩;have hx:x∈rows:=(L4.tD rows).mem_iff.mp (by rw[e];simp);have hpl:p.length<64:=by
   have:=congrArg List.length e;rw[plen] at this;simp at this;omega
  have hsl:sh.length<16777216:=by have:=hsw.len;omega
  have hdl:d.length<16777216:=by rw[hw.len];split <;> split <;> omega
  rcases zB9.mp hx with hm | hm
  .obtain⟨y,_,rfl⟩:=zB0.mp hm;have st:=hsw.VM y (λ z hz=>jB e hz rfl rfl) (λ z hz=>jB e hz rfl rfl);have hw':=hw.UM (xQ l0 y.2);refine⟨[some a0,some a1,some a2,some (.own (.y6 (uR d (.inl 0) (.int (xQ l0 y.2))))),some (.own (.lst ((uS l1 sh λ m=>(y.1,if m>xQ l0 y.2 then m else xQ l0 y.2)).map zk))),some (.im (.int y.1)),some (.im (.int 0)),some (.im (.int y.2))],?_,_,_,_,_,(by simp),hw',st⟩;have hr:yG (r0 y)=.tup [.int y.1,.int 0,.int y.2]:=rfl;have v0:=hw'.v0;have v1:=hw'.v1;have ln:=hw'.len;cases l0 <;> cases l1 <;> simp[turn,ic,hr,hw.v0,hdl,hsl,xQ,uS,zK,dep,eqT] at v0 v1 ln ⊢ <;> simp[v0,v1,ln,zk,uS]
  .obtain⟨y,_,rfl⟩:=zB0.mp hm;have st:=hsw.swap y (λ z hz=>jB e hz rfl rfl) (λ z hz=>jB e hz rfl rfl);have hw':=hw.UL (xQ l1 y.2);refine⟨[some a0,some a1,some a2,some (.own (.y6 (uR d (.inl 1) (.int (xQ l1 y.2))))),some (.own (.lst ((uS l0 sh λ m=>(y.1,if xQ l1 y.2>m then xQ l1 y.2 else m)).map zk))),some (.im (.int y.1)),some (.im (.int 1)),some (.im (.int y.2))],?_,_,_,_,_,(by simp),hw',st⟩;have hr:yG (r1 y)=.tup [.int y.1,.int 1,.int y.2]:=rfl;have v0:=hw'.v0;have v1:=hw'.v1;have ln:=hw'.len;cases l0 <;> cases l1 <;> simp[turn,ic,hr,hw.v1,hdl,hsl,xQ,uS,zK,dep,eqT] at v0 v1 ln ⊢ <;> simp[v0,v1,ln,zk,uS])
 have hsh:sh.length<64:=by have:=s1.len;omega
 refine⟨sh,?_,hsh,λ q=>?_⟩
 .subst e1;have hc1:Xh [some a0,some a1,none,none,none,none,none,none]=some (.lst ((b.map r0).map yG)):=by
   rw[zD6];exact sD zk (yG ∘ r0) b (by simp[a0]) (by omega) λ y _=>by simp[zk,yG,r0]
  have hc2:Xg [some a0,some a1,none,none,none,none,none,none]=some (.lst ((o.map r1).map yG)):=by
   rw[zD6];exact sD zk (yG ∘ r1) o (by simp[a1]) (by omega) λ y _=>by simp[zk,yG,r1]
  have hF:=i9 sh hsh;have z:b.length+o.length<=16777216:=by omega
  simp only[a0,a1,a2,rows,zE7] at hc1 hc2 hs h1;unfold kj WM;simp[hc1,hc2,z,hs,h1,hF] at hc1 hc2 hs h1 ⊢;simp[hc1,hc2,z,hs,h1,hF]
 .have m0:∀ x,r0 x∈L4.wN rows↔x∈b:=λ x=>by
   rw[(L4.tD rows).mem_iff];constructor
   .intro h;rcases zB9.mp h with h | h <;> obtain⟨y,hy,e⟩:=zB0.mp h
    .cases kZ e;exact hy
    .exact (oQ e.symm).elim
   .exact λ h=>List.mem_append_left _ (List.mem_map_of_mem h)
  have m1:∀ x,r1 x∈L4.wN rows↔x∈o:=λ x=>by
   rw[(L4.tD rows).mem_iff];constructor
   .intro h;rcases zB9.mp h with h | h <;> obtain⟨y,hy,e⟩:=zB0.mp h
    .exact (oQ e).elim
    .cases kY e;exact hy
   .exact λ h=>zB4 _ (List.mem_map_of_mem h)
  rw[zC7,zE5,yL,yL,yL];constructor
  .rintro⟨s,hs,g1,g2⟩;obtain⟨⟨x,x1,x2,x3⟩,y,y1,y2,y3⟩:=s1.snd s hs;exact⟨⟨x,(m0 x).mp x1,by omega,by omega⟩,y,(m1 y).mp y1,by omega,by omega⟩
  .rintro⟨⟨x,x1,x2,x3⟩,y,y1,y2,y3⟩;obtain⟨s,s1,g1,g2⟩:=s1.all x y ((m0 x).mpr x1) ((m1 y).mpr y1);exact⟨s,s1,by omega,by omega⟩
theorem lC {α:Type}(enc:α->T) (n:Nat) (h:∀ x,dep (enc x)<=n):∀ xs:List α,yH (xs.map enc)<=n
 | []=>by simp[yH]
 | x::xs=>by
  have:=h x;have:=lC enc n h xs;simp only[zA6,yH];omega
def OB (p:Int×Int):dep (zk p)<=1:=by simp[zk,dep,yH]
def Y8 (ps:List (Int×Int)):dep (.tup (ps.map zk))<=60:=by
 have:=lC zk 1 OB ps;simp only[dep];omega
end yx
namespace yx
open PySem L2 L3 L5 RN
noncomputable def bT (b:Bd):T:=.tup (b.map zk)
noncomputable def rT (r:List Bd):T:=.lst (r.map bT)
noncomputable def kt (b:Bool):T:=if b=true then .str "keeper" else .str "taker"
noncomputable def zQ (w:Wy):T:=.tup [.int w.f,.int w.t,.int w.a,.int w.b]
noncomputable def wO (b:Bool):Int:=if b=true then 1 else 0
noncomputable def yF (s:Sl):T:=.tup [.int s.p,.int (wO s.pu),.int s.gv,.int s.gt]
noncomputable def zv (F:zE):T:=.tup [.tup [.int F.A,.int F.B],.tup (F.os.map kt),.tup (F.ws.map zQ),.tup (F.ss.map yF)]
def eq_int (i j:Int) (neg:Bool):zK neg (.int i) (.int j)=some (.bl (cond neg (!decide (i=j)) (decide (i=j)))):=by
 simp[zK,dep,eqT];cases neg <;> simp[Bool.beq_eq_decide_eq]
def cC (F:zE):qe [zv F]=some (.int F.os.length):=by
 simp[qe,Ww,zv]
def XH (q p:Int×Int):mj [zk q,zk p]=some (.bl (xh q p)):=by
 by_cases h1:p.1<=q.1 <;> by_cases h2:p.2<=q.2 <;> simp[mj,WT,zk,xh,h1,h2]
def NA {α:Type}(g:α->Bool) (xs:List α):oh (xs.map λ x=>T.bl (g x))=some (xs.map g):=by
 have:=Xl (xs.map g)
 rwa [zD6] at this
def Ml (ps:List (Int×Int)) (q:Int×Int) (hl:ps.length<=10000):mf [bT ps,zk q]=some (.bl (zR ps q)):=by
 have hc:jV [some (.im (bT ps)),some (.im (zk q))]=some (.lst (ps.map λ p=>T.bl (xh q p))):=by
  unfold jV;refine sD zk _ ps (by simp[bT]) (by omega) λ p _=>?_;simp[XH]
 unfold mf WH;generalize jV=cc at hc ⊢;simp[hc,NA];rfl
def M3 (A B:Int) (w:Wy) (bd:Bd) (hl:bd.length<64):kr [.tup [.int A,.int B],zQ w,bT bd]=some (bT (qX A B w.a w.b bd)):=by
 have h1:jW [some (.im (.tup [.int A,.int B])),some (.im (zQ w)),some (.im (bT bd)),none]=some (.lst ((bd.map (xR w.a w.b)).map zk)):=by
  rw[zD6];unfold jW;refine sD zk _ bd (by simp[bT]) (by omega) λ p _=>?_;simp[zk,zQ,xR,xf,pS]
 have h2:jN [some (.im (.tup [.int A,.int B])),some (.im (zQ w)),some (.im (bT bd)),some (.im (.lst ((bd.map (xR w.a w.b)).map zk)))]=some (.lst (((bd.map (xR w.a w.b)).filter (ua A B)).map zk)):=by
  have:=qJ zk (λ p=>if ua A B p=true then some (zk p) else none) (pick:=[none,some 0]) (it:=xg (zc 3)) (g:=zJ 0) (c:=w9 (zF mj (ze (zr 1) (ze (zr 0) zq)))) (f:=zr 0) (J:=[some (.im (.tup [.int A,.int B])),some (.im (zQ w)),some (.im (bT bd)),some (.im (.lst ((bd.map (xR w.a w.b)).map zk)))]) (bd.map (xR w.a w.b)) (by simp) (by simp;omega) (λ p _=>by
   have e:T.tup [.int A,.int B]=zk (A,B):=rfl;have ga:xh (A,B) p=ua A B p:=rfl;simp only[nh,e];simp[XH,ga];cases ua A B p <;> simp)
  unfold jN;rw[this,show ∀ l:List (Int×Int),l.filterMap (λ p=>if ua A B p=true then some (zk p) else none)=(l.filter (ua A B)).map zk from λ l=>by
   induction l with
   | nil=>rfl
   | cons a l ih=>by_cases h:ua A B a=true <;> simp[List.filterMap_cons,h,ih]]
 have h3:=i9 ((bd.map (xR w.a w.b)).filter (ua A B)) (Nat.lt_of_le_of_lt (List.length_filter_le _ _) (by simpa using hl));unfold kr WR;generalize jW=d1 at h1 ⊢;generalize jN=d2 at h2 ⊢;generalize qf=ff at h3 ⊢;generalize (bd.map (xR w.a w.b)).map zk=L1 at h1 h2;generalize (((bd.map (xR w.a w.b)).filter (ua A B)).map zk)=L2 at h2 h3;simp[h1,h2,h3];rfl
def Mo (b c:Bd) (hl:b.length+c.length<64):kg [bT b,bT c]=some (bT (tm b c)):=Mp b c hl
def Mz (b c:Bd) (hl:b.length+c.length<64):kj [bT b,bT c]=some (bT (uH b c)):=by
 obtain⟨sh,h1,_,h2⟩:=M0 b c hl;have:vQ sh=uH b c:=uq.eq (fX _) (fX _) λ q=>by
  rw[nc,h2,<- Xi]
 rw[<- this];exact h1
def Mn {A B:Int}(hA:0<=A/\A<=12) (bs:List Bd) (h:∀ b∈bs,Gd A B b):km [.lst (bs.map bT)]=some (bT (tp bs)):=by
 obtain⟨J',h1,h2⟩:=vP (is:=[2]) (g:=zJ 2) (b:=ie) bT (λ p J=>J=[some (.im (.lst (bs.map bT))),some (.im (bT (p.foldl tm []))),none]) bs [some (.im (.lst (bs.map bT))),some (.im (bT [])),none] rfl (by
  rintro p x q e J rfl;have g1:Gd A B (p.foldl tm []):=l6 p [] Gd.nil λ c hc=>h c (by rw[e];simp[hc]);have g2:Gd A B x:=h x (by rw[e];simp);have l1:=g1.qI hA.1;have l2:=g2.qI hA.1;refine⟨[some (.im (.lst (bs.map bT))),some (.im (bT (tm (p.foldl tm []) x))),some (.im (bT x))],?_,by simp⟩;simp[turn,ie,Mo (p.foldl tm []) x (by omega)])
 subst h2;unfold km WO;generalize ie=bb at h1 ⊢;have e:bT []=.tup []:=rfl;rw[e] at h1;simp[h1,tp]
def My {A B:Int}(hA:0<=A/\A<=12) (hB:0<=B) (bs:List Bd) (h:∀ b∈bs,Gd A B b):kq [.lst (bs.map bT)]=some (bT (nA bs)):=by
 obtain⟨J',h1,h2⟩:=vP (is:=[2]) (g:=zJ 2) (b:=ig) bT (λ p J=>J=[some (.im (.lst (bs.map bT))),some (.im (bT (p.foldl uH wG))),none]) bs [some (.im (.lst (bs.map bT))),some (.im (bT wG)),none] rfl (by
  rintro p x q e J rfl;have g1:Gd A B (p.foldl uH wG):=dm p wG (Gd.wG hA.1 hB) λ c hc=>h c (by rw[e];simp[hc]);have g2:Gd A B x:=h x (by rw[e];simp);have l1:=g1.qI hA.1;have l2:=g2.qI hA.1;refine⟨[some (.im (.lst (bs.map bT))),some (.im (bT (uH (p.foldl uH wG) x))),some (.im (bT x))],?_,by simp⟩;simp[turn,ig,Mz (p.foldl uH wG) x (by omega)])
 subst h2;unfold kq WQ;generalize ig=bb at h1 ⊢;have e:bT wG=.tup [.tup [.int 0,.int 0]]:=rfl;rw[e] at h1;simp[h1,nA]
theorem fQ {α:Type}{is:List Nat}{g:T->Ev->Option Ev}{b:Sm}(enc ret:α->T) (test:α->Bool) (J0:Ev):∀ (xs:List α) (J:Ev),yP is J=J0->
  (∀ x∈xs,∃ J',yP is J'=J0/\turn g b (enc x) J0=some (if test x=true then .rt (ret x) else .nx J'))->
  vj is g b (xs.map enc) J=some (match xs.find? test with | some x=>.rt (ret x) | none=>.nx J0)
 | [],J,h,_=>by rw[List.map_nil,List.find?_nil,vj,h]
 | x::xs,J,h,ht=>by
  rw[zA6,fR,h];obtain⟨J',h1,h2⟩:=ht x zMc;rw[h2,List.find?_cons];by_cases c:test x=true
  .rw[if_pos c,c];rfl
  .rw[if_neg c];rw[zE9] at c;rw[c];exact fQ enc ret test J0 xs J' h1 λ y hy=>ht y (zMo _ hy)
def NX (i a b:Int):iB [.int i,.int a,.int b]=some (.bl (decide (a<=i)&&decide (i<=b))):=by
 have h:iC [.int i]=some (.bl true):=by simp[iC,WG,rP]
 by_cases h1:a<=i <;> by_cases h2:i<=b <;> simp[iB,WE,h,h1,h2]
def XE (F:zE) (p:Nat) (h:p<F.os.length):ki [zv F,.int p]=some .zp:=by
 have h1:=NX p 0 ((F.os.length:Int)-1);rw[show decide ((0:Int)<=p)=true from decide_eq_true (by omega),show decide ((p:Int)<=(F.os.length:Int)-1)=true from decide_eq_true (by omega)] at h1;have h2:=cC F;unfold ki WK;generalize zv F=fl at *;simp[h1,h2]
def OZ (pu:Bool) (A B:Int) (sp gv gt:Int) (x y:Int) (hg:1<=gv) (b0 b1:T) (hb:zj b0 (.int (wO pu))=some (.int (if pu=true then B else A))) (hs2:zj b1 (.int 2)=some (.int gv)) (hs3:zj b1 (.int 3)=some (.int gt)) (pr:T):
  ∀ (n m:Nat) (g t:Int) (acc:Bd),(if pu=true then B else A)+1-g<=n->n<m->acc.length+n<=1000->
  ∃ g' t',xP [] (zO (zb pQ (zc 5) (zb zj (zc 0) (zc 3)))) om m [some (.im b0),some (.im b1),some (.im pr),some (.im (.int (wO pu))),some (.own (.lst (acc.map zk))),some (.im (.int g)),some (.im (.int t))]
   = some (.nx [some (.im b0),some (.im b1),some (.im pr),some (.im (.int (wO pu))),some (.own (.lst ((acc++wW pu (if pu=true then B else A) gv gt n g t).map zk))),some (.im (.int g')),some (.im (.int t'))]):=by
 have hend:∀ (m:Nat) (g t:Int) (acc:Bd),¬ g<=(if pu=true then B else A)->xP [] (zO (zb pQ (zc 5) (zb zj (zc 0) (zc 3)))) om (m+1) [some (.im b0),some (.im b1),some (.im pr),some (.im (.int (wO pu))),some (.own (.lst (acc.map zk))),some (.im (.int g)),some (.im (.int t))]
   = some (.nx [some (.im b0),some (.im b1),some (.im pr),some (.im (.int (wO pu))),some (.own (.lst (acc.map zk))),some (.im (.int g)),some (.im (.int t))]):=λ m g t acc hn=>by
  unfold xP;simp only[zj] at hb;simp[hb,hn]
 intro n
 induction n with
 | zero=>
  intro m g t acc h1 h2 h3;obtain⟨m,rfl⟩:∃ k,m=k+1:=⟨m-1,by omega⟩
  refine⟨g,t,?_⟩;rw[hend m g t acc (by omega)];simp[wW]
 | succ n ih=>
  intro m g t acc h1 h2 h3;obtain⟨m,rfl⟩:∃ k,m=k+1:=⟨m-1,by omega⟩
  by_cases hc:g<=(if pu=true then B else A)
  .obtain⟨g',t',e⟩:=ih m (g+gv) (xf (t-gt)) (acc++[xa pu g t]) (by omega) (by omega) (by simp;omega);refine⟨g',t',?_⟩;have hb1:om [some (.im b0),some (.im b1),some (.im pr),some (.im (.int (wO pu))),some (.own (.lst (acc.map zk))),some (.im (.int g)),some (.im (.int t))]=some (.nx [some (.im b0),some (.im b1),some (.im pr),some (.im (.int (wO pu))),some (.own (.lst ((acc++[xa pu g t]).map zk))),some (.im (.int (g+gv))),some (.im (.int (xf (t-gt))))]):=by
    simp only[zj] at hs2 hs3;have hl:acc.length<16777216:=by omega
    unfold om;cases pu <;> simp[wO,eq_int,hs2,hs3,hl,pS,xf,xa,zk]
   unfold xP;simp only[zj] at hb;generalize om=bb at *;have e2:wW pu (if pu=true then B else A) gv gt (n+1) g t=xa pu g t::wW pu (if pu=true then B else A) gv gt n (g+gv) (xf (t-gt)):=by
    rw[wW,if_pos hc]
   rw[e2];simp only[List.append_assoc,List.singleton_append] at e;simp[hb,hc,hb1];simpa using e
  .refine⟨g,t,?_⟩;rw[hend m g t acc hc,wW,if_neg hc,List.append_nil]
def Mv {F:zE}(ok:F.Ok) (s:Sl) (hs:1<=s.gv/\0<=s.gt) (p:Int×Int) (h0:0<=p.1/\0<=p.2):kc [.tup [.int F.A,.int F.B],yF s,zk p]=some (.lst ((xK F s p).map zk)):=by
 obtain⟨sp,pu,gv,gt⟩:=s;have a1:=ok.a1;have b1:=ok.b1;obtain⟨g',t',h⟩:=OZ pu F.A F.B sp gv gt p.1 p.2 hs.1 (.tup [.int F.A,.int F.B]) (yF ⟨sp,pu,gv,gt⟩) (by cases pu <;> simp[wO]) (by simp[yF]) (by simp[yF]) (zk p) 100 1000000 (z_ pu p) (yD pu p) [] (by cases pu <;> simp[z_] <;> omega) (by decide) (by simp);unfold kc Wx rj;generalize hb:om=bb at h ⊢;unfold xK zE.yc;simp only[List.map_nil,List.nil_append] at h;cases pu <;> simp[yF,wO,zk,z_,yD] at h ⊢ <;> simp[h]
def XC (F:zE) (p:Nat) (h:p<F.os.length) (hl:F.ss.length<=60):rg [zv F,.int p]=some (match F.stall p with | some s=>yF s | none=>.zp):=by
 have hl':=fQ (is:=[2]) (g:=zJ 2) (b:=lP) yF yF (λ s=>decide (s.p=p)) [some (.im (zv F)),some (.im (.int p)),none] F.ss [some (.im (zv F)),some (.im (.int p)),none] (by simp) λ s _=>⟨[some (.im (zv F)),some (.im (.int p)),some (.im (yF s))],by simp,by
  by_cases c:s.p=p
  .simp[turn,lP,yF,eq_int,c]
  .have c':¬ ((s.p:Int)=(p:Int)):=by omega
   simp[turn,lP,yF,eq_int,c,c']⟩
 have h1:=XE F p h;have h2:zj (zv F) (.int 3)=some (.tup (F.ss.map yF)):=by simp[zv]
 unfold rg Wu;generalize lP=bb,zv F=fl at *;simp only[zj] at h2;unfold zE.stall;generalize F.ss.find? _=o at *;simp[h1,h2,hl'];cases o <;> simp
theorem Yw:∀ (ws:List Wy) (k:Nat),qQ k (ws.map zQ)=(ws.zipIdx k).map λ wi=>T.tup [.int (wi.2:Int),zQ wi.1]
 | [],k=>rfl
 | w::ws,k=>by
  rw[zA6,qQ,Yw ws (k+1),List.zipIdx_cons,zA6]
theorem k5 (f:Wy->Bool):∀ (ws:List Wy) (k:Nat),((ws.zipIdx k).filter λ wi=>f wi.1).map (λ wi=>wi.1)=ws.filter f
 | [],k=>rfl
 | w::ws,k=>by
  rw[List.zipIdx_cons,List.filter_cons,List.filter_cons];by_cases c:f w=true
  .rw[if_pos (by exact c),if_pos c,zA6,k5 f ws]
  .rw[if_neg (by exact c),if_neg c,k5 f ws]
def XB (F:zE) (p:Nat) (h:p<F.os.length) (hl:F.ws.length<=60):pd [zv F,.int p]=some (.lst (((F.ws.zipIdx).filter λ wi=>decide (wi.1.f=p)).map λ wi=>T.int (wi.2:Int))):=by
 have hc:jO [some (.im (zv F)),some (.im (.int p))]=some (.lst (((F.ws.zipIdx).filter λ wi=>decide (wi.1.f=p)).map λ wi=>T.int (wi.2:Int))):=by
  have:=qJ (λ wi:Wy×Nat=>T.tup [.int (wi.2:Int),zQ wi.1]) (λ wi=>if wi.1.f=p then some (T.int (wi.2:Int)) else none) (pick:=[none,none,some 1]) (it:=vk qR (ze (zb zj (zc 0) (cS (.int 2))) zq)) (g:=vA 2 (yW (zJ 0) (yW (zJ 1) v_))) (c:=zO (zb (zK false) (zb zj (zc 1) (cS (.int 0))) (zc 2))) (f:=zr 0) (J:=[some (.im (zv F)),some (.im (.int p))]) (F.ws.zipIdx) (by
   rw[<- Yw];simp[zv]) (by simp;omega) (λ wi _=>by
   by_cases c:wi.1.f=p
   .simp[zQ,eq_int,c]
   .have c':¬ ((wi.1.f:Int)=(p:Int)):=by omega
    simp[zQ,eq_int,c,c'])
  unfold jO;rw[this];congr 2
  induction F.ws.zipIdx with
  | nil=>rfl
  | cons a l ih=>by_cases c:a.1.f=p <;> simp[List.filterMap_cons,c,ih]
 have h1:=XE F p h;unfold pd Wr;generalize jO=cc,zv F=fl at *;generalize List.map (λ wi:Wy×Nat=>T.int (wi.2:Int)) _=LL at *;simp[h1,hc]
theorem Yt:∀ (b c:Bd),we (b.map zk) (c.map zk)=decide (b=c)
 | [],[]=>by simp[we]
 | [],_::_=>by simp[we]
 | _::_,[]=>by simp[we]
 | p::b,q::c=>by
  have h:=Yt b c;have e:eqT (zk p) (zk q)=decide (p=q):=by
   obtain⟨p1,p2⟩:=p;obtain⟨q1,q2⟩:=q;by_cases h1:p1=q1 <;> by_cases h2:p2=q2 <;> simp[zk,eqT,we,h1,h2]
  rw[zA6,zA6,we,e,h];by_cases h1:p=q <;> by_cases h2:b=c <;> simp[h1,h2]
def Zp (b c:Bd):zK true (bT b) (bT c)=some (.bl (decide (b≠c))):=by
 have h1:dep (bT b)<=60:=Y8 b;have h2:dep (bT c)<=60:=Y8 c;unfold zK;rw[if_pos ⟨h1,h2⟩];show some (T.bl (!(we (b.map zk) (c.map zk))))=_;rw[Yt];by_cases h:b=c <;> simp[h]
def sE (l:List Bd) (p:Nat) (h:p<l.length):zj (rT l) (.int p)=some (bT (l.getD p [])):=by
 show L2.yh (l.map bT) (p:Int)=_;refine wF ?_;rw[zA3,zA1 h,zB1,zA1 h];rfl
def Mu {F:zE}(ok:F.Ok) (p:Nat) (hp:p<F.os.length) (b:Bd) (hb:Gd F.A F.B b):mh [zv F,.int p,bT b]=some (bT (match F.stall p with | none=>b | some s=>oa F s b)):=by
 have h1:=XC F p hp ok.s8;cases hs:F.stall p with
 | none=>
  rw[hs] at h1;unfold mh cU;generalize rg=f1 at h1 ⊢;generalize zv F=fl,bT b=bb at *;have is1:xI false .zp .zp=some (.bl true):=rfl;simp[h1,is1]
 | some s=>
  rw[hs] at h1;replace h1:rg [zv F,.int p]=some (yF s):=h1;have hmem:s∈F.ss:=List.mem_of_find?_eq_some hs;have hsz:=ok.ss s hmem;have h64:(F.A+1)*(F.B+1)<64:=by
   rcases ok.sl with x | x
   .rw[x] at hmem;cases hmem
   .exact x
  have a0:=ok.a0;have b0:=ok.b0;have hone:∀ x∈b,((xK F s x).length:Int)<=F.yc s.pu+1:=λ x hx=>by
   have q:=hb.wy x hx;have:=Xb s.pu (F.yc s.pu) s.gv s.gt hsz.1 100 (z_ s.pu x) (yD s.pu x) (by unfold zE.yc z_;split <;> omega);have g0:0<=z_ s.pu x:=by unfold z_;split <;> omega
   unfold xK;omega
  have hall:∀ q:Bd,(∀ x∈q,x∈b)->((q.flatMap (xK F s)).length:Int)<=q.length*(F.yc s.pu+1):=λ q=>by
   induction q with
   | nil=>intro _;simp
   | cons x q ih=>
    intro hq;have i1:=ih λ y hy=>hq y (zMo _ hy);have i2:=hone x (hq x zMc);rw[List.flatMap_cons,zD7,zC0,Int.natCast_add,Int.natCast_add,Int.add_mul];omega
  have hlen:(b.flatMap (xK F s)).length<64:=by
   have h2:=hall b λ _ h=>h;have l1:=hb.qI a0;have l2:=hb.QH b0;have:((b.flatMap (xK F s)).length:Int)<64:=by
    refine Int.lt_of_le_of_lt h2 (Int.lt_of_le_of_lt ?_ h64);unfold zE.yc;split
    .exact Int.mul_le_mul_of_nonneg_right l1 (by omega)
    .rw[Int.mul_comm (F.A+1)];exact Int.mul_le_mul_of_nonneg_right l2 (by omega)
   omega
  have hbr:zj (zv F) (.int 0)=some (.tup [.int F.A,.int F.B]):=by simp[zv]
  obtain⟨J',h2,h3⟩:=vP (is:=[5]) (g:=zJ 5) (b:=ij) zk (λ q J=>J=[some (.im (zv F)),some (.im (.int p)),some (.im (bT b)),some (.im (yF s)),some (.own (.lst ((q.flatMap (xK F s)).map zk))),none]) b [some (.im (zv F)),some (.im (.int p)),some (.im (bT b)),some (.im (yF s)),some (.own (.lst [])),none] rfl (by
   rintro q x r e J rfl;have hx:x∈b:=by rw[e];simp
   have q1:=hb.wy x hx;have hF:=Mv ok s hsz x ⟨q1.1.1,q1.2.1⟩;have hl2:(q.flatMap (xK F s)).length+(xK F s x).length<=16777216:=by
    have e2:(b.flatMap (xK F s)).length=(q.flatMap (xK F s)).length+((xK F s x).length+(r.flatMap (xK F s)).length):=by rw[e];simp
    omega
   refine⟨[some (.im (zv F)),some (.im (.int p)),some (.im (bT b)),some (.im (yF s)),some (.own (.lst (((q++[x]).flatMap (xK F s)).map zk))),some (.im (zk x))],?_,by simp⟩;have e3:((q++[x]).flatMap (xK F s)).map zk=(q.flatMap (xK F s)).map zk++(xK F s x).map zk:=by simp
   rw[e3];unfold turn ij;have l3:((q.flatMap (xK F s)).map zk).length+((xK F s x).map zk).length<=16777216:=by simpa using hl2
   generalize kc=ff,(q.flatMap (xK F s)).map zk=L1,(xK F s x).map zk=L2,zv F=fl at *;simp only[zj] at hbr;simp[hbr,hF,l3])
  subst h3;have hF:=i9 (b.flatMap (xK F s)) hlen;have nn:xI false (yF s) .zp=some (.bl false):=rfl;unfold mh cU;generalize ij=bb,qf=ff,rg=f1,(b.flatMap (xK F s)).map zk=L1 at *;have hbT:wZ (bT b)=some (b.map zk):=rfl;generalize bT b=bt,zv F=fl,yF s=st at *;simp[h1,nn,hbT,h2,hF];rfl
def Mh {F:zE}(ok:F.Ok) (p:Nat) (hp:p<F.os.length) (l:List Bd) (hl:l.length=F.os.length) (hg:∀ b∈l,Gd F.A F.B b):kd [zv F,.int p,rT l]=some (bT (xp F l p)):=by
 have h1:=XB F p hp ok.uO;have hw2:zj (zv F) (.int 2)=some (.tup (F.ws.map zQ)):=by simp[zv]
 have hw0:zj (zv F) (.int 0)=some (.tup [.int F.A,.int F.B]):=by simp[zv]
 have hw1:zj (zv F) (.int 1)=some (.tup (F.os.map kt)):=by simp[zv]
 have c1:jR [some (.im (zv F)),some (.im (.int p)),some (.im (rT l)),none,none]=some (.lst ((F.ws.filter λ w=>decide (w.f=p)).map zQ)):=by
  rw[<- k5 (λ w=>decide (w.f=p)) F.ws 0,zD6];unfold jR;refine sD (λ wi:Wy×Nat=>T.int (wi.2:Int)) _ ((F.ws.zipIdx).filter λ wi=>decide (wi.1.f=p)) ?_ (zE0 (List.length_filter_le _ _) (by rw[List.length_zipIdx];have:=ok.uO;omega)) λ wi hwi=>?_
  .generalize pd=ff at *;simp[h1]
  .have hm:=(zC8.mp hwi).1;have hg:=List.mem_zipIdx_iff_getElem?.mp hm;have:L2.yh (F.ws.map zQ) (wi.2:Int)=some (zQ wi.1):=by
    exact wF (by rw[zA3,hg];rfl)
   generalize zv F=fl at *;simp only[zj] at hw2;simp[hw2,this]
 have c2:jL [some (.im (zv F)),some (.im (.int p)),some (.im (rT l)),some (.im (.lst ((F.ws.filter λ w=>decide (w.f=p)).map zQ))),none]=some (.lst ((wX F l p).map bT)):=by
  unfold wX;rw[zD6];unfold jL;refine sD zQ _ (F.ws.filter λ w=>decide (w.f=p)) (by simp) (zE0 (List.length_filter_le _ _) (by have:=ok.uO;omega)) λ w hw=>?_;have hm:=(zC8.mp hw).1;have ht:w.t<l.length:=by rw[hl];exact (ok.ws w hm).2
  have e1:=sE l w.t ht;have gb:Gd F.A F.B (l.getD w.t []):=by
   rw[zB1,zA1 ht];exact hg _ (zD8 ht)
  have l13:=gb.qI ok.a0;have a12:=ok.a1;have hF:=M3 F.A F.B w (l.getD w.t []) (by omega);have e2:zj (zQ w) (.int 1)=some (.int (w.t:Int)):=by simp[zQ]
  obtain⟨bd,hbd⟩:∃ bd,l.getD w.t []=bd:=⟨_,rfl⟩
  rw[hbd] at e1 gb hF;have hbd':(l[w.t]?).getD []=bd:=by rw[<- hbd,zB1]
  generalize kr=ff,zv F=fl,rT l=rt,zQ w=wt at *;simp only[zj] at hw0 e1 e2;simp[hw0,e1,e2,hF,hbd']
 have gah:=ik F l p;have c3:=Mn ⟨ok.a0,ok.a1⟩ (wX F l p) gah;have c4:=My ⟨ok.a0,ok.a1⟩ ok.b0 (wX F l p) gah;have c5:=Mu ok p hp (tp (wX F l p)) (l6 _ _ Gd.nil gah);have ho:L2.yh (F.os.map kt) (p:Int)=some (kt (F.os.getD p false)):=by
  refine wF ?_;rw[zA3,zA1 hp,zB1,zA1 hp];rfl
 have hk:∀ b:Bool,zK false (kt b) (.str "keeper")=some (.bl b):=λ b=>by cases b <;> rfl
 unfold kd W0;generalize jR=d1,jL=d2,km=f1,kq=f2,mh=f3,((F.ws.filter λ w=>decide (w.f=p)).map zQ)=L1,zv F=fl,rT l=rt at *;unfold xp;have hk':=hk (F.os.getD p false);generalize F.os.getD p false=kb at *;generalize kt kb=ktb at *;generalize (T.str "keeper")=ks at *;simp only[zj] at hw1;cases kb with
 | true=>
  simp[c1,c2,hw1,ho,hk',c3,c5]
  all_goals (cases F.stall p <;> rfl)
 | false=>simp[c1,c2,hw1,ho,hk',c4]
theorem lu {α β:Type}(c:α->Bool) (g:α->β):∀ l:List α,l.filterMap (λ x=>if c x=true then some (g x) else none)=(l.filter c).map g
 | []=>rfl
 | a::l=>by by_cases h:c a=true <;> simp[List.filterMap_cons,h,lu c g l]
def Pq (t:Nat) (fr:List Nat):nk false (.int t) (.lst (fr.map λ(k:Nat)=>T.int (k:Int)))=some (.bl (fr.contains t)):=by
 have d1:yH (fr.map λ(k:Nat)=>T.int (k:Int))<=60:=by
  refine lC _ 60 (λ x=>?_) fr;simp[dep]
 have d0:dep (.int (t:Int))<=60:=by simp[dep]
 unfold nk;show (if dep (.int (t:Int))<=60/\yH (fr.map λ(k:Nat)=>T.int (k:Int))<=60 then _ else _)=_;rw[if_pos ⟨d0,d1⟩];show some (T.bl ((fr.map λ(k:Nat)=>T.int (k:Int)).any λ x=>eqT x (.int t)))=_;congr 2;rw[zC7,zD0,List.contains_iff_mem];constructor
 .rintro⟨x,hx,h⟩;obtain⟨k,hk,rfl⟩:=zB0.mp hx;have:(k:Int)=(t:Int):=by simpa [eqT] using h
  have:k=t:=by omega
  subst this;exact hk
 .intro h;exact⟨_,zB0.mpr ⟨t,h,rfl⟩,by simp[eqT]⟩
def Mg {F:zE}(ok:F.Ok) (last:List Bd) (fr:List Nat) (hl:last.length=F.os.length) (hg:∀ b∈last,Gd F.A F.B b):
  nV [zv F,rT last,.lst (fr.map λ(k:Nat)=>T.int (k:Int))]=some (rT (y4 F last fr)):=by
 have hw2:zj (zv F) (.int 2)=some (.tup (F.ws.map zQ)):=by simp[zv]
 have c1:jQ [some (.im (zv F)),some (.im (rT last)),some (.im (.lst (fr.map λ(k:Nat)=>T.int (k:Int)))),some (.own (.lst (last.map bT))),none]=some (.lst (((F.ws.filter λ w=>fr.contains w.t).map λ w=>(w.f:Int)).map T.int)):=by
  have:=qJ zQ (λ w=>if fr.contains w.t=true then some (T.int (w.f:Int)) else none) (pick:=[none,some 2]) (it:=xg (zb zj (zc 0) (cS (.int 2)))) (g:=zJ 0) (c:=zO (zb (nk false) (zb zj (zc 0) (cS (.int 1))) (zc 1))) (f:=zb zj (zc 0) (cS (.int 0))) (J:=[some (.im (zv F)),some (.im (rT last)),some (.im (.lst (fr.map λ(k:Nat)=>T.int (k:Int)))),some (.own (.lst (last.map bT))),none]) F.ws (by
    generalize zv F=fl at *;simp only[zj] at hw2;simp[hw2]) (by have:=ok.uO;omega) (λ w _=>by
   have hi:=Pq w.t fr;generalize (T.lst (fr.map λ(k:Nat)=>T.int (k:Int)))=ft,fr.contains w.t=cb at *;cases cb <;> simp[zQ,hi])
  unfold jQ;rw[this];rw[lu (λ w:Wy=>fr.contains w.t) (λ w:Wy=>T.int (w.f:Int)),zD6];rfl
 have hss:pA [.lst (((F.ws.filter λ w=>fr.contains w.t).map λ w=>(w.f:Int)).map T.int)]=some (.lst ((v9 ((F.ws.filter λ w=>fr.contains w.t).map λ w=>(w.f:Int))).map T.int)):=by
  show (match uW (((F.ws.filter λ w=>fr.contains w.t).map λ w=>(w.f:Int)).map T.int) with | some ns=>_ | none=>_)=_;rw[ZV];refine if_pos ?_;have:=List.length_filter_le (λ w:Wy=>fr.contains w.t) F.ws;have:=ok.uO;simp only[zA7];omega
 have hmem:∀ k∈v9 ((F.ws.filter λ w=>fr.contains w.t).map λ w=>(w.f:Int)),∃ p:Nat,k=(p:Int)/\p<F.os.length/\tJ F fr p=true:=λ k hk=>by
  obtain⟨w,hw,rfl⟩:=zB0.mp (jr.mp hk);obtain⟨w1,w2⟩:=zC8.mp hw;exact⟨w.f,rfl,(ok.ws w w1).1,zD0.mpr ⟨w,w1,by simpa using w2⟩⟩
 have hway:∀ p:Nat,tJ F fr p=true->(p:Int)∈v9 ((F.ws.filter λ w=>fr.contains w.t).map λ w=>(w.f:Int)):=λ p h=>by
  obtain⟨w,w1,w2⟩:=zD0.mp h;have w3:w.f=p/\fr.contains w.t=true:=by simpa using w2
  exact jr.mpr (zB0.mpr ⟨w,zC8.mpr ⟨w1,w3.2⟩,by rw[w3.1]⟩)
 generalize v9 ((F.ws.filter λ w=>fr.contains w.t).map λ w=>(w.f:Int))=up at *;have ft:∃ t,(T.lst (fr.map λ(k:Nat)=>T.int (k:Int)))=t:=⟨_,rfl⟩
 obtain⟨J',h1,h2⟩:=vP (is:=[4]) (g:=zJ 4) (b:=j_) T.int (λ pre J=>J=[some (.im (zv F)),some (.im (rT last)),some (.im (.lst (fr.map λ(k:Nat)=>T.int (k:Int)))),some (.own (.lst (((List.range last.length).map λ(p:Nat)=>if (p:Int)∈pre then xp F last p else last.getD p []).map bT))),none]) up
   [some (.im (zv F)),some (.im (rT last)),some (.im (.lst (fr.map λ(k:Nat)=>T.int (k:Int)))),some (.own (.lst (last.map bT))),none] (by
  have e:(List.range last.length).map (λ(p:Nat)=>if (p:Int)∈([]:List Int) then xp F last p else last.getD p [])=last:=by
   refine List.ext_getElem (by simp) λ i h1 h2=>?_;simp[h2]
  rw[e];rfl) (by
  rintro pre k q e J rfl;obtain⟨p,rfl,hp,hw⟩:=hmem k (by rw[e];simp);have hF:=Mh ok p hp last hl hg;refine⟨[some (.im (zv F)),some (.im (rT last)),some (.im (.lst (fr.map λ(k:Nat)=>T.int (k:Int)))),some (.own (.lst (((List.range last.length).map λ(i:Nat)=>if (i:Int)∈pre++[(p:Int)] then xp F last i else last.getD i []).map bT))),some (.im (.int p))],?_,by simp⟩;have hset:(((List.range last.length).map λ(i:Nat)=>if (i:Int)∈pre then xp F last i else last.getD i []).map bT).set p (bT (xp F last p))=((List.range last.length).map λ(i:Nat)=>if (i:Int)∈pre++[(p:Int)] then xp F last i else last.getD i []).map bT:=by
   refine List.ext_getElem (by simp) λ i h1 h2=>?_;rw[List.getElem_set];simp only[List.getElem_map,List.getElem_range,zB9,zB6];by_cases c:p=i
   .subst c;simp
   .have c':¬ ((i:Int)=(p:Int)):=by omega
    simp[c,c']
  have hix:vw (((List.range last.length).map λ(i:Nat)=>if (i:Int)∈pre then xp F last i else last.getD i []).map bT).length (p:Int)=some p:=by
   unfold vw;simp only[zA7,zC5];rw[if_pos (by omega),if_pos (by omega),Int.toNat_natCast]
  rw[<- hset];unfold turn j_;generalize kd=ff,(((List.range last.length).map λ(i:Nat)=>if (i:Int)∈pre then xp F last i else last.getD i []).map bT)=LL,zv F=fl,rT last=rl,(T.lst (fr.map λ(k:Nat)=>T.int (k:Int)))=ftt at *;simp[hF,hix])
 subst h2;have fin:((List.range last.length).map λ(p:Nat)=>if (p:Int)∈up then xp F last p else last.getD p [])=y4 F last fr:=by
  unfold y4;refine List.map_congr_left λ p hp=>?_;by_cases c:tJ F fr p=true
  .rw[if_pos c,if_pos (hway p c)]
  .rw[if_neg c,if_neg λ h=>c (by obtain⟨p',e,_,h'⟩:=hmem _ h;exact (show p'=p by omega)▸h')]
 rw[fin] at h1;have hlist:listS [rT last]=some (.lst (last.map bT)):=rfl;unfold nV Wz;generalize jQ=cc,j_=bb,(((F.ws.filter λ w=>fr.contains w.t).map λ w=>(w.f:Int)).map T.int)=L1 at *;generalize hup:up.map T.int=L2 at *;generalize last.map bT=L3,zv F=fl at *;have hsq:wZ (rT last)=some L3:=by simpa using hlist
 generalize rT last=rl,(T.lst (fr.map λ(k:Nat)=>T.int (k:Int)))=ftt at *;simp[hsq,c1,hss,h1,rT]
theorem Yx {α:Type}(enc:α->T) (d:α) (fo:List α):∀ (l:List α) (k:Nat),(∀ i,l.getD i d=fo.getD (k+i) d)->qQ k (l.map enc)=(List.range l.length).map λ(p:Nat)=>T.tup [.int ((k+p:Nat):Int),enc (fo.getD (k+p) d)]
 | [],k,_=>rfl
 | b::l,k,h=>by
  have h0:=h 0;rw[zA6,qQ,Yx enc d fo l (k+1) λ i=>by have:=h (i+1);rw[show k+1+i=k+(i+1) from by omega];simpa using this];rw[zC0,List.range_succ_eq_map,zA6,zD6];have e:b=fo.getD k d:=by simpa using h0
  congr 1
  .rw[e];rfl
  .refine List.map_congr_left λ p _=>?_;simp only[Function.comp];rw[show k+1+p=k+Nat.succ p from by omega]
noncomputable def wb (fr:List Nat):T:=.lst (fr.map λ(k:Nat)=>T.int (k:Int))
def N5 (a:T) (b c:Option L5.W) (last fo:List Bd) (hl:fo.length=last.length) (h16:fo.length<=10000):lM [some (.im a),b,c,some (.im (rT last)),some (.im (rT fo))]=some (wb (wz last fo)):=by
 have:=qJ (λ p:Nat=>T.tup [.int (p:Int),bT (fo.getD p [])]) (λ p=>if decide (fo.getD p []≠last.getD p [])=true then some (T.int (p:Int)) else none) (pick:=[none,none,some 3]) (it:=vk qR (ze (zc 4) zq)) (g:=vA 2 (yW (zJ 0) (yW (zJ 1) v_))) (c:=zO (zb (zK true) (zc 1) (zb zj (zc 2) (zc 0)))) (f:=zr 0) (J:=[some (.im a),b,c,some (.im (rT last)),some (.im (rT fo))]) (List.range fo.length) (by
   have:=Yx bT [] fo fo 0 λ i=>by rw[Nat.zero_add]
   simp only[Nat.zero_add] at this;have e:qR [rT fo]=some (qQ 0 (fo.map bT)):=rfl;rw[<- this];generalize qR=en at *;simp[e]) (by simp;omega) (λ p hp=>by
  have hp':p<last.length:=by rw[<- hl];exact zC1.mp hp
  have h1:=sE last p hp';have h2:=Zp (fo.getD p []) (last.getD p []);generalize fo.getD p []=x,last.getD p []=y,rT last=rl at *;generalize decide (x≠y)=d at *;simp only[zj] at h1;cases d <;> simp[h1,h2])
 unfold lM;rw[this,lu (λ p:Nat=>decide (fo.getD p []≠last.getD p [])) (λ p:Nat=>T.int (p:Int))];rfl
theorem bW {F:zE}(ok:F.Ok):∀ (n:Nat) (pre:List (List Bd)) (last:List Bd) (fr:List Nat) (res:List (List Bd)),St F last fr->qw F n pre last fr=some res->pre.length+n<=10000->∀ (m:Nat),n<m->∀ x3 x4:Option L5.W,
  ∃ fr',xP [3,4] (w9 (zc 2)) sU m [some (.im (zv F)),some (.own (.lst ((pre++[last]).map rT))),some (.im (wb fr)),x3,x4]=some (.nx [some (.im (zv F)),some (.own (.lst (res.map rT))),some (.im fr'),none,none])
 | 0,_,_,_,_,_,h,_,_,_,_,_=>by cases h
 | n+1,pre,last,fr,res,s,h,hn,m,hm,x3,x4=>by
  have hend:∀ (m:Nat) (told:List (List Bd)) (x3 x4:Option L5.W),xP [3,4] (w9 (zc 2)) sU (m+1) [some (.im (zv F)),some (.own (.lst (told.map rT))),some (.im (wb [])),x3,x4]=some (.nx [some (.im (zv F)),some (.own (.lst (told.map rT))),some (.im (wb [])),none,none]):=λ m told x3 x4=>by
   unfold xP;simp[wb]
  obtain⟨m,rfl⟩:∃ k,m=k+1:=⟨m-1,by omega⟩
  unfold qw at h;by_cases hfr:fr=[]
  .rw[if_pos hfr] at h;cases h;subst hfr;exact⟨_,hend m _ x3 x4⟩
  .rw[if_neg hfr] at h;dsimp only at h;have hlen:=s.len;have n8:=ok.n8;have hF:=Mg ok last fr s.len s.gd;have hlast:zj (.lst ((pre++[last]).map rT)) (.int (-1))=some (rT last):=by
    show L2.yh ((pre++[last]).map rT) (-1)=_;rw[zE7];exact lU _ _
   have hc:=λ b c=>N5 (zv F) b c last (y4 F last fr) (qF ..) (by rw[qF,s.len];omega);have hne:qq (wb fr)=some true:=by
    cases fr with
    | nil=>exact absurd rfl hfr
    | cons a l=>rfl
   have hb:∃ told',sU [some (.im (zv F)),some (.own (.lst ((pre++[last]).map rT))),some (.im (wb fr)),none,none]=some (.nx [some (.im (zv F)),some (.own (.lst (told'.map rT))),some (.im (wb (wz last (y4 F last fr)))),some (.im (rT last)),some (.im (rT (y4 F last fr)))])/\told'=if wz last (y4 F last fr)=[] then pre++[last] else pre++[last]++[y4 F last fr]:=by
    have hl2:((pre++[last]).map rT).length<16777216:=by simp;omega
    by_cases hf:wz last (y4 F last fr)=[]
    .refine⟨pre++[last],?_,by rw[if_pos hf]⟩;have ht:qq (wb (wz last (y4 F last fr)))=some false:=by rw[hf];rfl
     unfold sU;generalize lM=cc,nV=ff,(pre++[last]).map rT=L1,wb (wz last (y4 F last fr))=f2 at *;unfold wb at *;simp only[zj] at hlast;generalize (T.lst (fr.map λ(k:Nat)=>T.int (k:Int)))=f1,rT (y4 F last fr)=r2,rT last=r1 at *;simp only[wZ] at hlast;simp[-qq,hlast,hF,hc,ht]
    .refine⟨pre++[last]++[y4 F last fr],?_,by rw[if_neg hf]⟩;have ht:qq (wb (wz last (y4 F last fr)))=some true:=by
      cases e:wz last (y4 F last fr) with
      | nil=>exact absurd e hf
      | cons a l=>rfl
     have e2:(pre++[last]++[y4 F last fr]).map rT=(pre++[last]).map rT++[rT (y4 F last fr)]:=by simp
     rw[e2];unfold sU;generalize lM=cc,nV=ff,(pre++[last]).map rT=L1,wb (wz last (y4 F last fr))=f2 at *;unfold wb at *;simp only[zj] at hlast;generalize (T.lst (fr.map λ(k:Nat)=>T.int (k:Int)))=f1,rT (y4 F last fr)=r2,rT last=r1 at *;simp only[wZ] at hlast;simp[-qq,hlast,hF,hc,ht,hl2]
   obtain⟨told',hb1,hb2⟩:=hb;have key:∀ R,xP [3,4] (w9 (zc 2)) sU m [some (.im (zv F)),some (.own (.lst (told'.map rT))),some (.im (wb (wz last (y4 F last fr)))),some (.im (rT last)),some (.im (rT (y4 F last fr)))]=R->xP [3,4] (w9 (zc 2)) sU (m+1) [some (.im (zv F)),some (.own (.lst ((pre++[last]).map rT))),some (.im (wb fr)),x3,x4]=R:=λ R e=>by
    rw[xP];generalize hbb:sU=bb at *;generalize hlw:xP [3,4] (w9 (zc 2)) bb m=lw at *;have hf:yP [3,4] [some (.im (zv F)),some (.own (.lst ((pre++[last]).map rT))),some (.im (wb fr)),x3,x4]=[some (.im (zv F)),some (.own (.lst ((pre++[last]).map rT))),some (.im (wb fr)),none,none]:=rfl;rw[hf];have ht:w9 (zc 2) [some (.im (zv F)),some (.own (.lst ((pre++[last]).map rT))),some (.im (wb fr)),none,none]=some true:=by
     generalize wb fr=f1 at *;simp[-qq,hne]
    rw[ht,zC9,if_pos rfl,hb1,zC9];exact e
   by_cases hf:wz last (y4 F last fr)=[]
   .rw[if_pos hf] at h hb2;cases h;subst hb2;rw[hf] at key;obtain⟨m,rfl⟩:∃ k,m=k+1:=⟨m-1,by omega⟩
    exact⟨_,key _ (hend m _ _ _)⟩
   .rw[if_neg hf] at h hb2;subst hb2;obtain⟨fr',e⟩:=bW ok n (pre++[last]) (y4 F last fr) (wz last (y4 F last fr)) res (s.next ok) h (by simp;omega) m (by omega) (some (.im (rT last))) (some (.im (rT (y4 F last fr))));exact⟨fr',key _ e⟩
def Mc {F:zE}(ok:F.Ok):∃ more,nU [zv F]=some (.lst ((RN.start F::more).map rT))/\(∀ r∈RN.start F::more,r.length=F.os.length/\∀ b∈r,Gd F.A F.B b)/\more.length<=2000/\qw F 2000 [] (RN.start F) (List.range F.os.length)=some (RN.start F::more):=by
 have hmu:=Zr (RN.start F);have hsl:(RN.start F).length=F.os.length:=by unfold RN.start;simp
 have n8:=ok.n8;have n1:=ok.n1;obtain⟨more,last',e1,e2,_,e4⟩:=bX ok 2000 [] (RN.start F) (List.range F.os.length) (St.start ok) (by omega);obtain⟨fr',e⟩:=bW ok 2000 [] (RN.start F) (List.range F.os.length) _ (St.start ok) e1 (by simp) 1000000 (by decide) none none;refine⟨more,?_,e2,by omega,e1⟩;have hp:=cC F;have hst:rT (RN.start F)=.lst (List.replicate F.os.length (.tup [.tup [.int 0,.int 0]])):=by
  unfold rT RN.start;rw[List.map_replicate];rfl
 have hmul:wB (.lst [.tup [.tup [.int 0,.int 0]]]) (.int F.os.length)=some (rT (RN.start F)):=by
  rw[hst];unfold wB;dsimp only;rw[if_pos ⟨by simp,by omega,by omega,QD (by simp;omega)⟩];have:∀ n:Nat,(List.replicate n [T.tup [.tup [.int 0,.int 0]]]).flatten=List.replicate n (.tup [.tup [.int 0,.int 0]]):=λ n=>by
   induction n with
   | zero=>rfl
   | succ n ih=>rw[List.replicate_succ,List.replicate_succ,List.flatten_cons,ih];rfl
  rw[Int.toNat_natCast,this]
 have hrg:mZ [.int F.os.length]=some (wb (List.range F.os.length)):=by
  show (if 0<=(F.os.length:Int)/\(F.os.length:Int)<=16777216 then some (T.lst (rangeT 0 (F.os.length:Int).toNat)) else none)=_;rw[if_pos ⟨by omega,by omega⟩];show some (T.lst ((List.range (F.os.length:Int).toNat).map λ(k:Nat)=>T.int (0+(k:Int))))=_;rw[Int.toNat_natCast];unfold wb;simp
 unfold nU Wv rj;generalize sU=bb,qe=ff,mZ=lr at *;simp only[List.nil_append,zA6,List.map_nil] at e;generalize wb (List.range F.os.length)=f1 at *;rw[zA6];generalize rT (RN.start F)=r0,zv F=fl at *;generalize hlw:xP [3,4] (w9 (zc 2)) bb 1000000=lw at *;generalize wB=mw at *;simp[hp,hmul,hrg,e]
def Zq (i j:Int):wB (.int i) (.int j)=if vo i j then some (.int (i*j)) else none:=rfl
def Po {r:List Int}{rs:List (List Int)}:uW ((r::rs).map yG)=none:=rfl
def VQ (rs:List (List Int)) (h0:rs≠[]) (hl:rs.length<64) (hn:∀ r∈rs,r≠[]):pA [.lst (rs.map yG)]=some (.lst ((L4.wN (vv rs)).map yG)):=by
 cases rs with
 | nil=>exact absurd rfl h0
 | cons r rs=>
  show (match uW ((r::rs).map yG) with
   | some ns=>if ns.length<64 then some (T.lst ((v9 ns).map T.int)) else none
   | none=>kG [T.lst ((r::rs).map yG)])=_
  rw[Po];show (wA ((r::rs).map yG)).bind _=_;rw[gS,zC9,if_pos ⟨hl,hn⟩]
def dk (ns:List Int) (k:Nat):0<=cell ns k:=by
 unfold cell;split
 .exact zF0 _ (by decide)
 .exact zC6 _
def mH {L:List T}{P:Int->Prop}(hP:∀ y∈L,∃ v,y=.int v/\P v) {i:Int}(h0:0<=i) (h1:i<L.length):∃ v,L2.yh L i=some (.int v)/\P v:=by
 have hl:i.toNat<L.length:=by omega
 have e:L2.yh L i=some L[i.toNat]:=by
  have:=wF (k:=i.toNat) (zA1 hl);rw[zF2 h0] at this;exact this
 obtain⟨v,e2,hv⟩:=hP _ (zD8 hl);exact⟨v,by rw[e,e2],hv⟩
def XD (x:Int):∃ y,qg [.int x]=some (.int y):=by
 have d5:wK x 5:=⟨by decide,by decide⟩
 by_cases h:x%5=1
 .exact⟨_,by simp[qg,cR,eq_int,h,d5];rfl⟩
 .exact⟨_,by simp[qg,cR,eq_int,h,d5];rfl⟩
def Mf (ns:List Int) (many:Nat) (hm:many<=8):∃ os:List Bool,ma [yi ns,.int many]=some (.tup (os.map kt))/\os.length=many:=by
 have hc:=qj ns 2;generalize cell ns 2=num at *;obtain⟨J',h1,c,os,h2,h3⟩:=vP (is:=[4]) (g:=zJ 4) (b:=ib) (λ k:Nat=>T.int (0+(k:Int))) (λ p J=>∃ (c:Int) (os:List Bool),J=[some (.im (yi ns)),some (.im (.int many)),some (.im (.int c)),some (.own (.lst (os.map kt))),none]/\os.length=p.length)
   (List.range many) [some (.im (yi ns)),some (.im (.int many)),some (.im (.int num)),some (.own (.lst [])),none] ⟨num,[],rfl,rfl⟩ (by
  rintro p k q e J ⟨c,os,rfl,r1⟩;have hp:p.length<many:=by have:=congrArg List.length e;simp at this;omega
  have hl:(os.map kt).length<16777216:=by simp;omega
  have d2:wK c 2:=⟨by decide,by decide⟩
  have pk:∃ b:Bool,L2.yh [T.str "keeper",T.str "taker"] (c%2)=some (kt b):=by
   rcases Int.emod_two_eq c with h | h <;> rw[h]
   .exact⟨true,rfl⟩
   .exact⟨false,rfl⟩
  obtain⟨b,hb⟩:=pk;refine⟨[some (.im (yi ns)),some (.im (.int many)),some (.im (.int (c/2))),some (.own (.lst ((os++[b]).map kt))),some (.im (.int (0+(k:Int))))],?_,c/2,os++[b],by simp,by simp[r1]⟩;have e2:(os++[b]).map kt=os.map kt++[kt b]:=by simp
  rw[e2];unfold turn ib;generalize (T.str "keeper")=s1,(T.str "taker")=s2,kt b=kb,os.map kt=L,(0+(k:Int))=kk at *;simp[hb,hl,d2])
 subst h2;have hr:=sa many (by omega);refine⟨os,?_,by simpa using h3⟩;unfold ma W7;generalize ib=bb,os.map kt=L,(List.range many).map (λ(k:Nat)=>T.int (0+(k:Int)))=R at *;have hc':xn [yi ns,.int 2]=some (.int num):=hc;generalize xn=fc,yi ns=sc at *;simp[hc',hr,h1]
def kz (A B:Int):Prop:=(0<=A/\A<=12)/\(0<=B/\B<=12)/\((A=12/\B=12)\/(A+1)*(B+1)<64)
def kz.small {A B:Int}(h:0<=A/\A<=5) (h':0<=B/\B<=5):kz A B:=by
 refine⟨⟨h.1,by omega⟩,⟨h'.1,by omega⟩,.inr ?_⟩;have:(A+1)*(B+1)<=6*6:=Int.mul_le_mul (by omega) (by omega) (by omega) (by decide);omega
def Mx (ns:List Int) (many:Nat):∃ A B:Int,md [yi ns,.int many]=some (.tup [.int A,.int B])/\kz A B:=by
 have hc:=qj ns 1;have c0:=dk ns 1;generalize cell ns 1=num at *;have hc':xn [yi ns,.int 1]=some (.int num):=hc;have d8:wK num 8:=⟨by decide,by decide⟩
 have d64:wK num 64:=⟨by decide,by decide⟩
 obtain⟨x,hx,x0,x5⟩:=mH (L:=[T.int 3,.int 2,.int 4,.int 1,.int 5,.int 2,.int 3,.int 0]) (P:=λ v=>0<=v/\v<=5) (by intro y hy;simp only[zA5,List.mem_nil_iff,or_false] at hy;rcases hy with rfl | rfl | rfl | rfl | rfl | rfl | rfl | rfl <;> exact⟨_,rfl,by decide,by decide⟩) (i:=num%8) (by omega) (by simp;omega);obtain⟨y,hy,y0,y5⟩:=mH (L:=[T.int 2,.int 3,.int 1,.int 4,.int 2,.int 5,.int 3,.int 0]) (P:=λ v=>0<=v/\v<=5) (by intro y hy;simp only[zA5,List.mem_nil_iff,or_false] at hy;rcases hy with rfl | rfl | rfl | rfl | rfl | rfl | rfl | rfl <;> exact⟨_,rfl,by decide,by decide⟩) (i:=num/8%8) (by omega) (by simp;omega);have mn:∀ v:Int,0<=v->0<=(if 2<v then 2 else v)/\(if 2<v then 2 else v)<=5:=λ v hv=>by split <;> omega
 unfold md WB;generalize xn=fc,yi ns=sc at *;by_cases h1:many>4
 .refine⟨_,_,?_,kz.small (mn x x0) (mn y y0)⟩;have h1':(4:Int)<many:=by omega
  simp[hc',hx,hy,d8,h1',pS]
 .have h1':¬ (4:Int)<many:=by omega
  by_cases h2:num/64%10=1
  .refine⟨12,y%3,?_,⟨⟨by decide,by decide⟩,⟨by omega,by omega⟩,.inr (by omega)⟩⟩;simp[hc',hx,hy,d8,h1',d64,eq_int,h2]
  .by_cases h3:num/64%10=2
   .refine⟨x%3,12,?_,⟨⟨by omega,by omega⟩,⟨by decide,by decide⟩,.inr (by omega)⟩⟩;simp[hc',hx,hy,d8,h1',d64,eq_int,h3]
   .by_cases h4:num/64%10=3/\many<3
    .refine⟨12,12,?_,⟨⟨by decide,by decide⟩,⟨by decide,by decide⟩,.inl ⟨rfl,rfl⟩⟩⟩;have h5:(many:Int)<3:=by omega
     simp[hc',hx,hy,d8,h1',d64,eq_int,h4.1,h5,yV]
    .refine⟨x,y,?_,kz.small ⟨x0,x5⟩ ⟨y0,y5⟩⟩;by_cases h6:num/64%10=3
     .have h5:¬ (many:Int)<3:=by omega
      simp[hc',hx,hy,d8,h1',d64,eq_int,h6,h5,yV]
     .simp[hc',hx,hy,d8,h1',d64,eq_int,h2,h3,h6]
def seq_eq {a b:Sm}{J J':Ev}(h:a J=some (.nx J')):zy a b J=b J':=by
 show (a J).bind _=_;rw[h];rfl
def pM {f:T->T->Option T}{fa fb:Ev->Option T}{J:Ev}{x y:T}{r:Option T}(h1:fa J=some x) (h2:fb J=some y) (h:f x y=r):zb f fa fb J=r:=by
 show (fa J).bind _=r;rw[h1];show (fb J).bind _=r;rw[h2];exact h
def Xs {i:Nat}{f:Ev->Option T}{J:Ev}{y:T}(h:f J=some y):zL i f J=some (.nx (J.set i (some (.im y)))):=by
 show (f J).map _=_;rw[h];rfl
def mX {i j:Int}(h:vo i j):wB (.int i) (.int j)=some (.int (i*j)):=by rw[Zq,if_pos h]
def oB (many:Nat) (r:List Int):Prop:=∃ (f t:Nat) (a b:Int),r=[(f:Int),(t:Int),a,b]/\f<many/\t<many
def WX (M C:Int) (hM:0<M) (hC:∀ i,vo i C) (bb:Sm) (hbb:bb=(zy (zL 8 (zb yE (zb wB (zc 3) (zc 5)) (zc 7)))
 (zy (zL 9 (zb yj (zb yE (zb yE (zb wB (zF xn (ze (zr 0) (ze (zb yE (cS (.int 4)) (zc 8)) zq))) (cS (.int C))) (zb wB (cS (.int 61)) (zc 8))) (cS (.int 17))) (cS (.int M))))
 (zy (zL 10 (zb xt (zc 9) (cS (.int 8))))
 (tu 4 (tupS (ze (zr 5) (ze (zb yj (zb yj (zc 9) (cS (.int 8))) (zc 1)) (ze (zF qg (ze (zr 10) zq)) (ze (zF qg (ze (zb xt (zc 10) (cS (.int 125))) zq)) zq))))))))))
  (ns:List Int) (many wide place k:Nat) (num sz:Int) (rows:List T) (hm:1<=many) (hp:place<many) (hw:wide<=12) (hm8:many<=8) (hl:rows.length<=1000):
  ∃ r x y z,(oB many r/\r.head?=some (place:Int))/\turn (zJ 7) bb (.int (0+(k:Int))) [some (.im (yi ns)),some (.im (.int many)),some (.im (.int num)),some (.im (.int wide)),some (.own (.lst rows)),some (.im (.int place)),some (.im (.int sz)),none,none,none,none]
   = some (.nx [some (.im (yi ns)),some (.im (.int many)),some (.im (.int num)),some (.im (.int wide)),some (.own (.lst (rows++[yG r]))),some (.im (.int place)),some (.im (.int sz)),some (.im (.int (0+(k:Int)))),x,y,z]):=by
 obtain⟨at',hat⟩:∃ at':Nat,(wide:Int)*(place:Int)+(0+(k:Int))=(at':Int):=⟨wide*place+k,by simp[Int.natCast_add,Int.natCast_mul]⟩
 have hc:=qj ns (4+at');rw[Int.natCast_add] at hc;have hc':xn [yi ns,.int (4+(at':Int))]=some (.int (cell ns (4+at'))):=hc;generalize cell ns (4+at')=ce at *;have m1:vo (wide:Int) (place:Int):=.inl ⟨by omega,by omega⟩;have m2:vo ce C:=hC ce;have m3:vo 61 (at':Int):=.inl ⟨by decide,by decide⟩;generalize hd:(ce*C+61*(at':Int)+17)%M=dr;have d8:wK dr 8:=⟨by decide,by decide⟩
 have d125:wK (dr/8) 125:=⟨by decide,by decide⟩
 obtain⟨a,ha⟩:=XD (dr/8);obtain⟨b,hb⟩:=XD (dr/8/125);have hmp:(0:Int)<many:=by omega
 have t0:0<=dr%8%many:=zF0 _ (by omega);have t1:dr%8%many<many:=zF1 _ hmp;have hm':0<many:=hm;have hl':rows.length<16777216:=by omega
 refine⟨[(place:Int),((dr%8%many).toNat:Int),a,b],some (.im (.int (at':Int))),some (.im (.int dr)),some (.im (.int (dr/8))),⟨⟨place,(dr%8%many).toNat,a,b,rfl,hp,by omega⟩,rfl⟩,?_⟩;rw[zF2 t0];have hr:yG [(place:Int),dr%8%many,a,b]=.tup [.int place,.int (dr%8%many),.int a,.int b]:=rfl;rw[hr];rw[show turn (zJ 7) bb (.int (0+(k:Int))) [some (.im (yi ns)),some (.im (.int many)),some (.im (.int num)),some (.im (.int wide)),some (.own (.lst rows)),some (.im (.int place)),some (.im (.int sz)),none,none,none,none]=bb [some (.im (yi ns)),some (.im (.int many)),some (.im (.int num)),some (.im (.int wide)),some (.own (.lst rows)),some (.im (.int place)),some (.im (.int sz)),some (.im (.int (0+(k:Int)))),none,none,none] from rfl];subst hbb;generalize (0+(k:Int))=kk,xn=fc,qg=fco,yi ns=sc at *;rw[seq_eq (J':=[some (.im sc),some (.im (.int many)),some (.im (.int num)),some (.im (.int wide)),some (.own (.lst rows)),some (.im (.int place)),some (.im (.int sz)),some (.im (.int kk)),some (.im (.int at')),none,none]) (Xs (pM (pM (x:=.int wide) (y:=.int place) rfl rfl (mX m1)) (y:=.int kk) rfl (by show some (T.int ((wide:Int)*(place:Int)+kk))=_;rw[hat])))];rw[seq_eq (J':=[some (.im sc),some (.im (.int many)),some (.im (.int num)),some (.im (.int wide)),some (.own (.lst rows)),some (.im (.int place)),some (.im (.int sz)),some (.im (.int kk)),some (.im (.int at')),some (.im (.int dr)),none]) (by simp[Zq,hc',m2,m3,hd,hM])];rw[seq_eq (J':=[some (.im sc),some (.im (.int many)),some (.im (.int num)),some (.im (.int wide)),some (.own (.lst rows)),some (.im (.int place)),some (.im (.int sz)),some (.im (.int kk)),some (.im (.int at')),some (.im (.int dr)),some (.im (.int (dr/8)))]) (by simp[d8])];simp[d125,ha,hb,hm',hl']
def WY (ns:List Int) (many wide place k:Nat) (num sz:Int) (rows:List T) (hm:1<=many) (hp:place<many) (hw:wide<=12) (hm8:many<=8) (hl:rows.length<=1000):
  ∃ r x y z,(oB many r/\r.head?=some (place:Int))/\turn (zJ 7) nC (.int (0+(k:Int))) [some (.im (yi ns)),some (.im (.int many)),some (.im (.int num)),some (.im (.int wide)),some (.own (.lst rows)),some (.im (.int place)),some (.im (.int sz)),none,none,none,none]
   = some (.nx [some (.im (yi ns)),some (.im (.int many)),some (.im (.int num)),some (.im (.int wide)),some (.own (.lst (rows++[yG r]))),some (.im (.int place)),some (.im (.int sz)),some (.im (.int (0+(k:Int)))),x,y,z]):=
 by
  refine WX 999983 2957 ?_ ?_ nC ?_ ns many wide place k num sz rows hm hp hw hm8 hl
  .omega
  .exact λ _=>.inr ⟨by omega,by omega⟩
  .unfold nC;rfl
def NY (ns:List Int) (many:Nat) (hm:1<=many) (hm8:many<=8):∃ ws:List Wy,nX [yi ns,.int many]=some (.tup (ws.map zQ))/\ws.length<=60/\(∀ w∈ws,w.f<many/\w.t<many)/\∀ x<many,∃ w∈ws,w.f=x:=by
 have hc:=qj ns 3;have c0:=dk ns 3;generalize cell ns 3=num at *;have hc':xn [yi ns,.int 3]=some (.int num):=hc;obtain⟨wide,hw,hw12⟩:∃ wide:Nat,L2.yh [T.int 3,.int 12] (if many<3 then 1 else 0)=some (.int (wide:Int))/\wide<=12:=by
  by_cases h:many<3
  .rw[if_pos h];exact⟨12,rfl,by decide⟩
  .rw[if_neg h];exact⟨3,rfl,by decide⟩
 obtain⟨J',h1,c,rows,h2,h3,h4,h5⟩:=vP (is:=[5,6,7,8,9,10]) (g:=zJ 5) (b:=jZ) (λ k:Nat=>T.int (0+(k:Int))) (λ p J=>∃ (c:Int) (rows:List (List Int)),J=[some (.im (yi ns)),some (.im (.int many)),some (.im (.int c)),some (.im (.int wide)),some (.own (.lst (rows.map yG))),none,none,none,none,none,none]/\0<=c/\rows.length<=(if many<3 then 12 else 3)*p.length/\((∀ r∈rows,oB many r)/\(∀ x∈p,∃ r∈rows,r.head?=some (x:Int))))
   (List.range many) [some (.im (yi ns)),some (.im (.int many)),some (.im (.int num)),some (.im (.int wide)),some (.own (.lst [])),none,none,none,none,none,none] ⟨num,[],rfl,c0,by simp,nofun,nofun⟩ (by
  rintro p k q e J ⟨c,rows,rfl,r0,r1,r2,r3⟩;have hp:p.length<many:=by have:=congrArg List.length e;simp at this;omega
  have hk:k<many:=zC1.mp (by rw[e];simp);obtain⟨size,hs,s1,s2⟩:∃ size:Nat,(if (many<3/\c/3%8=1) then 9+(1+c%3) else 1+c%3)=(size:Int)/\1<=size/\size<=(if many<3 then 12 else 3):=by
   by_cases h:many<3/\c/3%8=1
   .rw[if_pos h,if_pos h.1];exact⟨(9+(1+c%3)).toNat,by omega,by omega,by omega⟩
   .rw[if_neg h];exact⟨(1+c%3).toNat,by omega,by omega,by split <;> omega⟩
  have hbig:(if many<3 then 12 else 3)*p.length<=96:=by split <;> omega
  obtain⟨J2,g1,rows',g2,g3,g4,g5,g6⟩:=vP (is:=[7,8,9,10]) (g:=zJ 7) (b:=nC) (λ k:Nat=>T.int (0+(k:Int))) (λ p' J=>∃ rows':List (List Int),J=[some (.im (yi ns)),some (.im (.int many)),some (.im (.int c)),some (.im (.int wide)),some (.own (.lst (rows'.map yG))),some (.im (.int k)),some (.im (.int size)),none,none,none,none]/\rows'.length=rows.length+p'.length/\(∀ r∈rows',oB many r)/\(∀ r∈rows,r∈rows')/\(p'≠[]->∃ r∈rows',r.head?=some (k:Int)))
    (List.range size) [some (.im (yi ns)),some (.im (.int many)),some (.im (.int c)),some (.im (.int wide)),some (.own (.lst (rows.map yG))),some (.im (.int k)),some (.im (.int size)),none,none,none,none] ⟨rows,rfl,rfl,r2,λ _ h=>h,λ h=>absurd rfl h⟩ (by
   rintro p' k' q' e' J ⟨rows',rfl,u1,u2,u3,u4⟩;have hp':p'.length<size:=by have:=congrArg List.length e';simp at this;omega
   have hs12:size<=12:=by split at s2 <;> omega
   obtain⟨r,x,y,z,⟨v1,v3⟩,v2⟩:=WY ns many wide k k' c size (rows'.map yG) hm hk hw12 hm8 (by simp;omega);refine⟨_,v2,rows'++[r],by simp,by simp[u1];omega,λ r' hr'=>?_,λ r' h=>List.mem_append_left _ (u3 r' h),λ _=>⟨r,by simp,v3⟩⟩;rcases zB9.mp hr' with h | h
   .exact u2 r' h
   .cases zB6.mp h;exact v1)
  subst g2;have hrg:=sa size (by split at s2 <;> omega);have d3:wK c 3:=⟨by decide,by decide⟩
  have d24:wK c 24:=⟨by decide,by decide⟩
  refine⟨[some (.im (yi ns)),some (.im (.int many)),some (.im (.int (c/24))),some (.im (.int wide)),some (.own (.lst (rows'.map yG))),some (.im (.int (0+(k:Int)))),some (.im (.int size)),none,none,none,none],?_,c/24,rows',by simp,by omega,?_,g4,λ x hx=>?_⟩
  .unfold turn jZ;generalize nC=bb at *;simp only[Int.zero_add] at g1 hrg ⊢;generalize (List.range size).map (λ(k:Nat)=>T.int (k:Int))=RR,rows'.map yG=L2',rows.map yG=L1',yi ns=sc at *;by_cases hA:many<3
   .have hA':(many:Int)<3:=by omega
    by_cases hB:c/3%8=1
    .rw[if_pos ⟨hA,hB⟩] at hs;simp[hA',hB,d3,d24,yV,eq_int,hs,hrg,g1]
    .rw[if_neg (λ h=>hB h.2)] at hs;simp[hA',hB,d3,d24,yV,eq_int,hs,hrg,g1]
   .have hA':¬ (many:Int)<3:=by omega
    rw[if_neg (λ h=>hA h.1)] at hs;simp[hA',d3,d24,yV,eq_int,hs,hrg,g1]
  .have:rows'.length=rows.length+size:=by simpa using g3
   rw[zD7,List.length_singleton,Nat.mul_add,Nat.mul_one];omega
  .rcases zB9.mp hx with h | h
   .obtain⟨r,h1,h2⟩:=r3 x h;exact⟨r,g5 r h1,h2⟩
   .cases zB6.mp h;exact g6 (λ h=>by have:=congrArg List.length h;simp at this;omega))
 subst h2;have hrg:=sa many (by omega);have hlen:rows.length<64:=by
  rw[zC5] at h4;split at h4 <;> omega
 have hne:rows≠[]:=λ h=>by
  obtain⟨r,hr,_⟩:=h5.2 0 (zC1.mpr (by omega));rw[h] at hr;cases hr
 have hrow:∀ r∈rows,r≠[]:=λ r hr=>by obtain⟨f,t,a,b,rfl,_⟩:=h5.1 r hr;simp
 have hss:=VQ rows hne hlen hrow;have hall:∀ r∈L4.wN (vv rows),oB many r:=λ r hr=>h5.1 r (o_.mp ((L4.tD _).mem_iff.mp hr));have hl60:(L4.wN (vv rows)).length<64:=by rw[(L4.tD _).length_eq];have:=jo rows;omega
 have conv:∀ l:List (List Int),(∀ r∈l,oB many r)->∃ ws:List Wy,l.map yG=ws.map zQ/\ws.length=l.length/\(∀ w∈ws,w.f<many/\w.t<many)/\∀ r∈l,∃ w∈ws,r.head?=some (w.f:Int):=λ l=>by
  induction l with
  | nil=>exact λ _=>⟨[],rfl,rfl,nofun,nofun⟩
  | cons r l ih=>
   intro h;obtain⟨ws,e1,e2,e3,e4⟩:=ih λ x hx=>h x (zMo _ hx);obtain⟨f,t,a,b,rfl,hf,ht⟩:=h r zMc;refine⟨⟨f,t,a,b⟩::ws,by rw[zA6,zA6,e1];rfl,by simp[e2],λ w hw=>?_,λ r' hr'=>?_⟩
   .rcases zA5.mp hw with x | x
    .subst x;exact⟨hf,ht⟩
    .exact e3 w x
   .rcases zA5.mp hr' with x | x
    .subst x;exact⟨_,zMc,rfl⟩
    .obtain⟨w,h1,h2⟩:=e4 r' x;exact⟨w,zMo _ h1,h2⟩
 obtain⟨ws,e1,e2,e3,e4⟩:=conv _ hall;refine⟨ws,?_,by
  have hn:(vv rows).length<=rows.length:=jo rows;rw[e2,(L4.tD _).length_eq];rw[zC5] at h4;split at h4 <;> omega,e3,λ x hx=>by
   obtain⟨r,k1,k2⟩:=h5.2 x (zC1.mpr hx);obtain⟨w,k3,k4⟩:=e4 r ((L4.tD _).mem_iff.mpr (o_.mpr k1));rw[k2] at k4
   injection k4 with k4
   exact⟨w,k3,by omega⟩⟩
 rw[e1] at hss;unfold nX W3;generalize jZ=bb,ws.map zQ=L1,rows.map yG=L2',pA=sv,(List.range many).map (λ(k:Nat)=>T.int (0+(k:Int)))=RR,xn=fc,yi ns=sc at *;by_cases hA:many<3
 .have hA':(many:Int)<3:=by omega
  rw[if_pos hA] at hw;simp[hc',yV,hA',hw,hrg,h1,hss]
 .have hA':¬ (many:Int)<3:=by omega
  rw[if_neg hA] at hw;simp[hc',yV,hA',hw,hrg,h1,hss]
def eQ (x y:Str):zK false (.str x) (.str y)=some (.bl (x == y)):=by simp[zK,dep,eqT]
def VO (M C:Int) (hM:0<M) (hC:∀ i,vo i C) (kk:Str) (bb:Sm) (hbb:bb=(zy (zL 4 (zb yj (zb yE (zb yE (zb wB (zF xn (ze (zr 0) (ze (zb yE (cS (.int 28)) (zc 3)) zq))) (cS (.int C))) (zb wB (cS (.int 29)) (zc 3))) (cS (.int 5))) (cS (.int M))))
 (yC (vU (zO (zb (zK false) (zb zj (zc 1) (zc 3)) (cS (.str kk)))) (zO (zb (zK false) (zb yj (zc 4) (cS (.int 3))) (cS (.int 1))))) (zy (zL 5 (zb xt (zc 4) (cS (.int 6))))
 (zy (zL 6 (zb yE (cS (.int 1)) (zb zj (xV (ze (zb yj (zc 5) (cS (.int 3))) (ze (zb yj (zc 5) (cS (.int 3))) (ze (zb yj (zc 5) (cS (.int 12))) zq)))) (zb yj (zb xt (zc 5) (cS (.int 12))) (cS (.int 3))))))
 (zy (zL 7 (zb zj (xV (ze (zb yj (zb xt (zc 5) (cS (.int 36))) (cS (.int 4))) (ze (zb yj (zb xt (zc 5) (cS (.int 36))) (cS (.int 4))) (ze (zb yj (zb xt (zc 5) (cS (.int 36))) (cS (.int 13))) zq)))) (zb yj (zb xt (zc 5) (cS (.int 468))) (cS (.int 3)))))
 (tu 2 (tupS (ze (zr 3) (ze (zb yj (zb xt (zc 4) (cS (.int 3))) (cS (.int 2))) (ze (zr 6) (ze (zr 7) zq))))))))) yB)))
  (ns:List Int) (ots:List T) (place:Nat) (s:Str) (hs:L2.yh ots (place:Int)=some (.str s)) (rows:List T) (hl:rows.length<=1000):
  ∃ more:List Sl,more.length<=1/\(∀ x∈more,(1<=x.gv/\0<=x.gt)/\x.p=place)/\∃ a b c d,turn (zJ 3) bb (.int (place:Int)) [some (.im (yi ns)),some (.im (.tup ots)),some (.own (.lst rows)),none,none,none,none,none]
   = some (.nx [some (.im (yi ns)),some (.im (.tup ots)),some (.own (.lst (rows++more.map yF))),some (.im (.int (place:Int))),a,b,c,d]):=by
 have hc:=qj ns (28+place);rw[Int.natCast_add] at hc;have hc':xn [yi ns,.int (28+(place:Int))]=some (.int (cell ns (28+place))):=hc;generalize cell ns (28+place)=ce at *;have m2:vo ce C:=hC ce;have m3:vo 29 (place:Int):=.inl ⟨by decide,by decide⟩;generalize hd:(ce*C+29*(place:Int)+5)%M=dr;have hdr:0<=dr:=by rw[<- hd];exact zF0 _ (by omega)
 have d6:wK dr 6:=⟨by decide,by decide⟩
 have d3:wK dr 3:=⟨by decide,by decide⟩
 have r0:0<=dr/6:=by omega
 generalize hrs:dr/6=rs at *;have d12:wK rs 12:=⟨by decide,by decide⟩
 have d36:wK rs 36:=⟨by decide,by decide⟩
 have d468:wK rs 468:=⟨by decide,by decide⟩
 obtain⟨gv,hg,g0⟩:=mH (L:=[T.int (rs%3),.int (rs%3),.int (rs%12)]) (P:=λ v=>0<=v) (by intro y hy;simp only[zA5,List.mem_nil_iff,or_false] at hy;rcases hy with rfl | rfl | rfl <;> exact⟨_,rfl,by omega⟩) (i:=rs/12%3) (by omega) (by simp;omega);obtain⟨gt,ht,t0⟩:=mH (L:=[T.int (rs/36%4),.int (rs/36%4),.int (rs/36%13)]) (P:=λ v=>0<=v) (by intro y hy;simp only[zA5,List.mem_nil_iff,or_false] at hy;rcases hy with rfl | rfl | rfl <;> exact⟨_,rfl,by omega⟩) (i:=rs/468%3) (by omega) (by simp;omega);have hl':rows.length<16777216:=by omega
 rw[show turn (zJ 3) bb (.int (place:Int)) [some (.im (yi ns)),some (.im (.tup ots)),some (.own (.lst rows)),none,none,none,none,none]=bb [some (.im (yi ns)),some (.im (.tup ots)),some (.own (.lst rows)),some (.im (.int (place:Int))),none,none,none,none] from rfl];subst hbb;generalize xn=fc,yi ns=sc at *;rw[seq_eq (J':=[some (.im sc),some (.im (.tup ots)),some (.own (.lst rows)),some (.im (.int (place:Int))),some (.im (.int dr)),none,none,none]) (Xs (pM (x:=.int (ce*C+29*(place:Int)+5)) (y:=.int M) (pM (pM (pM (x:=.int ce) (y:=.int C) (by
   show ((ze (zr 0) (ze (zb yE (cS (.int 28)) (zc 3)) zq)) _).bind fc=_;exact hc') rfl (mX m2)) (pM (x:=.int 29) (y:=.int place) rfl rfl (mX m3)) rfl) rfl rfl) rfl (by
   show (if 0<M then some (T.int ((ce*C+29*(place:Int)+5)%M)) else none)=_;rw[if_pos hM,hd])))]
 by_cases hk:(s == kk)=true/\dr%3=1
 .refine⟨[⟨place,decide (dr/3%2=1),1+gv,gt⟩],by simp,λ x hx=>by cases zB6.mp hx;exact⟨⟨by show 1<=1+gv;omega,t0⟩,rfl⟩,some (.im (.int dr)),some (.im (.int rs)),some (.im (.int (1+gv))),some (.im (.int gt)),?_⟩;have hpu:wO (decide (dr/3%2=1))=dr/3%2:=by
   unfold wO;rcases Int.emod_two_eq (dr/3) with h | h <;> simp[h]
  have hsl:yF ⟨place,decide (dr/3%2=1),1+gv,gt⟩=.tup [.int place,.int (dr/3%2),.int (1+gv),.int gt]:=by
   unfold yF;rw[hpu]
  rw[zA6,List.map_nil,hsl];simp[hs,eQ,hk.1,eq_int,hk.2,d6,d3,hrs,d12,d36,d468,hg,ht,hl']
 .refine⟨[],by simp,nofun,some (.im (.int dr)),none,none,none,?_⟩;rw[List.map_nil,List.append_nil];by_cases h1:(s == kk)=true
  .have h2:¬ dr%3=1:=λ h=>hk ⟨h1,h⟩;simp[hs,eQ,h1,eq_int,h2]
  .rw[zE9] at h1;simp[hs,eQ,h1]
def Ma (ns:List Int) (os:List Bool) (h8:os.length<=8):∃ ss:List Sl,nY [yi ns,.tup (os.map kt)]=some (.tup (ss.map yF))/\ss.length<=60/\(∀ s∈ss,1<=s.gv/\0<=s.gt)/\ss.Pairwise (λ a b=>a.p≠b.p):=by
 obtain⟨J',h1,ss,h2,h3,h4,h5,h6⟩:=vP (is:=[3,4,5,6,7]) (g:=zJ 3) (b:=lR) (λ k:Nat=>T.int (k:Int)) (λ p J=>∃ ss:List Sl,J=[some (.im (yi ns)),some (.im (.tup (os.map kt))),some (.own (.lst (ss.map yF))),none,none,none,none,none]/\ss.length<=p.length/\(∀ s∈ss,1<=s.gv/\0<=s.gt)/\(∀ s∈ss,s.p∈p)/\ss.Pairwise (λ a b=>a.p≠b.p))
   (List.range os.length) [some (.im (yi ns)),some (.im (.tup (os.map kt))),some (.own (.lst [])),none,none,none,none,none] ⟨[],rfl,zA4 _,nofun,nofun,List.Pairwise.nil⟩ (by
  rintro p k q e J ⟨ss,rfl,r1,r2,r3,r4⟩;have hp:p.length<os.length:=by have:=congrArg List.length e;simp at this;omega
  have hk:k<os.length:=zC1.mp (by rw[e];simp);obtain⟨s,hs⟩:∃ s:Str,L2.yh (os.map kt) (k:Int)=some (.str s):=by
   cases hb:os[k] with
   | true=>exact⟨"keeper",wF (by rw[zA3,zA1 hk,hb];rfl)⟩
   | false=>exact⟨"taker",wF (by rw[zA3,zA1 hk,hb];rfl)⟩
  obtain⟨more,m1,m2,a,b,c,d,m3⟩:=VO 999979 3571 (by omega) (λ _=>.inr ⟨by omega,by omega⟩) "keeper" lR (by unfold lR;rfl) ns (os.map kt) k s hs (ss.map yF) (by simp;omega);refine⟨_,m3,ss++more,by simp,by simp;omega,λ x hx=>?_,λ x hx=>?_,?_⟩
  .rcases zB9.mp hx with h | h
   .exact r2 x h
   .exact (m2 x h).1
  .rcases zB9.mp hx with h | h
   .exact List.mem_append_left _ (r3 x h)
   .rw[(m2 x h).2];simp
  .have hnd:=List.nodup_range (n:=os.length);rw[e] at hnd;refine List.pairwise_append.mpr ⟨r4,?_,λ a ha b hb=>?_⟩
   .match more,m1 with
    | [],_=>exact List.Pairwise.nil
    | [_],_=>exact List.pairwise_singleton _ _
    | _::_::_,m=>simp at m
   .rw[(m2 b hb).2];exact (List.nodup_append.mp hnd).2.2 a.p (r3 a ha) k zMc)
 subst h2;rw[zC5] at h3;refine⟨ss,?_,by omega,h4,h6⟩;have hr:=sa os.length (by omega);simp only[Int.zero_add] at hr;unfold nY W4;generalize lR=bb,(List.range os.length).map (λ(k:Nat)=>T.int (k:Int))=R at *;have hlen:(os.map kt).length=os.length:=by simp
 generalize os.map kt=L1,ss.map yF=L2',yi ns=sc at *;simp[hlen,hr,h1]
def Mm (ns:List Int):∃ F:zE,o3 [yi ns]=some (zv F)/\F.Ok/\(∀ x<F.os.length,∃ w∈F.ws,w.f=x)/\F.ss.Pairwise (λ a b=>a.p≠b.p):=by
 have hc:=qj ns 0;have c0:=dk ns 0;generalize cell ns 0=num at *;have hc':xn [yi ns,.int 0]=some (.int num):=hc;have d8:wK num 8:=⟨by decide,by decide⟩
 obtain⟨mi,hm,m1,m8⟩:=mH (L:=[T.int 2,.int 3,.int 1,.int 4,.int 3,.int 2,.int 4,.int (5+num/8%4)]) (P:=λ v=>1<=v/\v<=8) (by intro y hy;simp only[zA5,List.mem_nil_iff,or_false] at hy;rcases hy with rfl | rfl | rfl | rfl | rfl | rfl | rfl | rfl <;> exact⟨_,rfl,by omega,by omega⟩) (i:=num%8) (by omega) (by simp;omega);obtain⟨many,rfl⟩:∃ k:Nat,mi=(k:Int):=⟨mi.toNat,by omega⟩
 obtain⟨os,h1,o1⟩:=Mf ns many (by omega);obtain⟨A,B,h2,a1,b1,ab⟩:=Mx ns many;obtain⟨ws,h3,w1,w2,w3⟩:=NY ns many (by omega) (by omega);obtain⟨ss,h4,s1,s2,s3⟩:=Ma ns os (by omega);by_cases hbig:(A=12/\B=12)/\(6<ws.length\/0<ss.length)
 .refine⟨⟨12,3,os,ws,ss⟩,?_,⟨by show (0:Int)<=12;decide,by show (12:Int)<=12;decide,by show (0:Int)<=3;decide,by show (3:Int)<=12;decide,by show 1<=os.length;omega,by show os.length<=8;omega,λ w hw=>by show w.f<os.length/\w.t<os.length;rw[o1];exact w2 w hw,w1,s2,.inr (by show ((12:Int)+1)*(3+1)<64;decide),s1⟩,by show ∀ x<os.length,_;rw[o1];exact w3,s3⟩;obtain⟨⟨rfl,rfl⟩,hb⟩:=hbig;have he:zK false (.tup [.int 12,.int 12]) (.tup [.int 12,.int 12])=some (.bl true):=by simp[zK,dep,yH,eqT,we]
  unfold o3 cP zv;have l1:(ws.map zQ).length=ws.length:=by simp
  have l2:(ss.map yF).length=ss.length:=by simp
  generalize ws.map zQ=L1,ss.map yF=L2',os.map kt=L3',xn=f1 at *;generalize ma=f2 at *;generalize md=f3,nX=f4,nY=f5,yi ns=sc at *;rcases hb with hb | hb
  .have hb':(6:Int)<(ws.length:Int):=by omega
   simp[hc',d8,hm,h1,h2,h3,h4,he,l1,l2,hb',hb]
  .have hb':(0:Int)<(ss.length:Int):=by omega
   by_cases h6:6<ws.length
   .have h6':(6:Int)<(ws.length:Int):=by omega
    simp[hc',d8,hm,h1,h2,h3,h4,he,l1,l2,h6,h6']
   .have h6':¬ (6:Int)<(ws.length:Int):=by omega
    simp[hc',d8,hm,h1,h2,h3,h4,he,l1,l2,h6,h6',hb,hb']
 .refine⟨⟨A,B,os,ws,ss⟩,?_,⟨a1.1,a1.2,b1.1,b1.2,by show 1<=os.length;omega,by show os.length<=8;omega,λ w hw=>by show w.f<os.length/\w.t<os.length;rw[o1];exact w2 w hw,w1,s2,?_,s1⟩,by show ∀ x<os.length,_;rw[o1];exact w3,s3⟩
  .have he:zK false (.tup [.int A,.int B]) (.tup [.int 12,.int 12])=some (.bl (decide (A=12/\B=12))):=by
    by_cases x:A=12 <;> by_cases y:B=12 <;> simp[zK,dep,yH,eqT,we,x,y]
   unfold o3 cP zv;have l1:(ws.map zQ).length=ws.length:=by simp
   have l2:(ss.map yF).length=ss.length:=by simp
   generalize ws.map zQ=L1,ss.map yF=L2',os.map kt=L3',xn=f1 at *;generalize ma=f2 at *;generalize md=f3,nX=f4,nY=f5,yi ns=sc at *;by_cases hAB:A=12/\B=12
   .have n1:¬ 6<ws.length:=λ h=>hbig ⟨hAB,.inl h⟩;have n2:¬ 0<ss.length:=λ h=>hbig ⟨hAB,.inr h⟩;have n1':¬ (6:Int)<(ws.length:Int):=by omega
    have n2':¬ (0:Int)<(ss.length:Int):=by omega
    rw[decide_eq_true hAB] at he;simp[hc',d8,hm,h1,h2,h3,h4,he,l1,l2,n1,n2,n1',n2']
   .rw[decide_eq_false hAB] at he;simp[hc',d8,hm,h1,h2,h3,h4,he]
  .show ss=[]\/(A+1)*(B+1)<64;rcases ab with x | x
   .refine .inl ?_;cases ss with
    | nil=>rfl
    | cons a l=>exact absurd ⟨x,.inr (by simp)⟩ hbig
   .exact .inr x
def mi (x y:Int):(if y<x then y else x)=min x y:=by split <;> omega
noncomputable def xT (o:Option (Int×Int)):T:=match o with
 | none=>.zp
 | some r=>zk r
def ny (F:zE):zj (zv F) (.int 0)=some (.tup [.int F.A,.int F.B]):=by simp[zv]
def jA (F:zE):zj (zv F) (.int 1)=some (.tup (F.os.map kt)):=by simp[zv]
def lx (F:zE):zj (zv F) (.int 2)=some (.tup (F.ws.map zQ)):=by simp[zv]
def Ob (F:zE):zj (zv F) (.int 3)=some (.tup (F.ss.map yF)):=by simp[zv]
def XG (F:zE) (q:Int×Int) (w:Wy):qh [zv F,zk q,zQ w]=some (xT (tB F q w)):=by
 have hw0:=ny F;unfold qh WC tB zk zQ;generalize zv F=fl at *;simp only[zj] at hw0;by_cases h1:q.1+w.a<0
 .simp[h1,yV,xT]
 .by_cases h2:q.2+w.b<0
  .simp[h1,h2,yV,xT]
  .simp[h1,h2,yV,xT,hw0,mi,zk]
def N_ (F:zE) (q:Int×Int) {i:Nat}{w:Wy}(hw:F.ws[i]?=some w):nR [zv F,zk q,.int (i:Int)]=some (xT (tB F q w)):=by
 have hw0:=ny F;have hw2:=lx F;have hi:L2.yh (F.ws.map zQ) (i:Int)=some (.tup [.int w.f,.int w.t,.int w.a,.int w.b]):=wF (by rw[zA3,hw];rfl);have hc:uf [T.int w.f,.int w.t,.int w.a,.int w.b] (some 2) none=[.int w.a,.int w.b]:=rfl;unfold nR Wt tB zk;generalize F.ws.map zQ=WS,zv F=fl at *;simp only[zj] at hw0 hw2;by_cases h1:q.1+w.a<0
 .simp[h1,yV,xT,hw2,hi,hc]
 .by_cases h2:q.2+w.b<0
  .simp[h1,h2,yV,xT,hw2,hi,hc]
  .simp[h1,h2,yV,xT,hw0,hw2,hi,hc,mi,zk]
def Mk {F:zE}{l:List Bd}{q:Int×Int}{i:Nat}{w:Wy}(hw:F.ws[i]?=some w) (ht:w.t<l.length) (hb:(l.getD w.t []).length<=10000):nW [zv F,zk q,.int (i:Int),rT l]=some (.bl (yO F l q w)):=by
 have hw2:=lx F;have hi:L2.yh (F.ws.map zQ) (i:Int)=some (zQ w):=wF (by rw[zA3,hw];rfl);have h1:zj (zQ w) (.int 1)=some (.int w.t):=by simp[zQ]
 have h2:=N_ F q hw;have h3:=sE l w.t ht;unfold yO;cases ho:tB F q w with
 | none=>
  rw[ho] at h2;have i1:xI true .zp .zp=some (.bl false):=rfl;unfold nW cN;generalize nR=f1,mf=f2,zv F=fl,zk q=pq,rT l=rl at *;simp[h2,xT,i1]
 | some r=>
  rw[ho] at h2;have h4:=Ml (l.getD w.t []) r hb;have i1:xI true (zk r) .zp=some (.bl true):=rfl;unfold nW cN;generalize nR=f1,mf=f2,bT (l.getD w.t [])=bt,F.ws.map zQ=WS,zQ w=wt,zv F=fl,zk q=pq,rT l=rl at *;simp only[zj] at hw2 h1 h3;simp only[xT] at h2;generalize zk r=rr at *;simp[h2,i1,hw2,hi,h1,h3,h4]
def Mj {F:zE}{l:List Bd}{q:Int×Int}{w:Wy}(ht:w.t<l.length):nZ [zv F,rT l,zk q,zQ w]=some (.bl (yO F l q w)):=by
 have h1:zj (zQ w) (.int 1)=some (.int w.t):=by simp[zQ]
 have h2:=XG F q w;have h3:=sE l w.t ht;unfold yO;cases ho:tB F q w with
 | none=>
  rw[ho] at h2;have i1:xI true .zp .zp=some (.bl false):=rfl;unfold nZ cO;generalize qh=f1,t9=f2,zv F=fl,zk q=pq,rT l=rl,zQ w=wt at *;simp[h2,xT,i1]
 | some r=>
  rw[ho] at h2;have h4:=cD (bT (l.getD w.t [])) (l.getD w.t []) r rfl;have i1:xI true (zk r) .zp=some (.bl true):=rfl;unfold nZ cO;generalize qh=f1,t9=f2,bT (l.getD w.t [])=bt,zQ w=wt,zv F=fl,zk q=pq,rT l=rl at *;simp only[zj] at h1 h3;simp only[xT] at h2;generalize zk r=rr at *;simp[h2,i1,h1,h3,h4]
noncomputable def oe (F:zE) (s:Sl) (q:Int×Int) (k:Nat):Int×Int:=xa s.pu (z_ s.pu q-k*s.gv) (min (yD s.pu q+k*s.gt) (F.yc (!s.pu)))
theorem jK {F:zE}{s:Sl}(hs:1<=s.gv/\0<=s.gt):∀ (n:Nat) {q:Int×Int},yM F q->z_ s.pu q<n->∀ k:Nat,(vc F s n q)[k]?=if (k:Int)*s.gv<=z_ s.pu q then some (oe F s q k) else none
 | 0,q,h,hn,_=>by
  have:=(vb (pu:=s.pu).mp h).1.1;omega
 | n+1,q,h,hn,0=>by
  have h':=vb (pu:=s.pu).mp h;unfold vc oe;rw[List.getElem?_cons_zero,if_pos (by simp;omega)];simp only[Int.natCast_zero,Int.zero_mul,Int.sub_zero,Int.add_zero];rw[Int.min_eq_left h'.2.2,mE]
 | n+1,q,h,hn,k+1=>by
  have h':=vb (pu:=s.pu).mp h;have e1:((k+1:Nat):Int)*s.gv=k*s.gv+s.gv:=by rw[Int.natCast_succ,Int.add_mul];omega
  have e2:((k+1:Nat):Int)*s.gt=k*s.gt+s.gt:=by rw[Int.natCast_succ,Int.add_mul];omega
  have k0:0<=(k:Int)*s.gt:=Int.mul_nonneg (by omega) hs.2;have k1:0<=(k:Int)*s.gv:=Int.mul_nonneg (by omega) (by omega);unfold vc;rw[List.getElem?_cons_succ];by_cases hg:s.gv<=z_ s.pu q
  .rw[if_pos hg];have hi:yM F (xa s.pu (z_ s.pu q-s.gv) (min (yD s.pu q+s.gt) (F.yc (!s.pu)))):=by
    rw[vb (pu:=s.pu),vx,uY];omega
   rw[jK hs n hi (by rw[vx];omega) k,vx];unfold oe;rw[vx,uY,e1,e2];by_cases hk:(k:Int)*s.gv<=z_ s.pu q-s.gv
   .rw[if_pos hk,if_pos (by omega)];congr 2
    .omega
    .omega
   .rw[if_neg hk,if_neg (by omega)]
  .rw[if_neg hg,e1,if_neg (by omega)];rfl
def Ms (mw:T->T->Option T) {F:zE}{s:Sl}{q:Int×Int}{k:Nat}(hb:WL=(zy (zL 4 (zb zj (zc 1) (cS (.int 1))))
 (zy (zL 5 (zb wM (zb zj (zc 2) (zc 4)) (zb mw (zc 3) (zb zj (zc 1) (cS (.int 2))))))
 (zy (yC (zO (zb yV (zc 5) (cS (.int 0)))) (retS (cS .zp)) yB)
 (zy (zL 6 (zF tI (ze (zb yE (zb zj (zc 2) (zb wM (cS (.int 1)) (zc 4))) (zb mw (zc 3) (zb zj (zc 1) (cS (.int 3))))) (ze (zb zj (zc 0) (zb wM (cS (.int 1)) (zc 4))) zq))))
 (zy (yC (zO (zb (zK false) (zc 4) (cS (.int 0)))) (retS (tupS (ze (zr 5) (ze (zr 6) zq)))) yB)
 (retS (tupS (ze (zr 6) (ze (zr 5) zq))))))))))
  (m1:mw (.int (k:Int)) (.int s.gv)=some (.int (k*s.gv))) (m2:mw (.int (k:Int)) (.int s.gt)=some (.int (k*s.gt))):o6 [.tup [.int F.A,.int F.B],yF s,zk q,.int (k:Int)]=some (xT (if (k:Int)*s.gv<=z_ s.pu q then some (oe F s q k) else none)):=by
 unfold o6;rw[hb];unfold yF zk oe;generalize (k:Int)*s.gv=x at *;generalize (k:Int)*s.gt=y at *;cases hpu:s.pu with
 | true=>
  by_cases h:x<=q.2
  .have h':¬ q.2-x<0:=by omega
   simp[wO,m1,m2,h,h',yV,z_,hpu,xT,mi,eq_int,zk,xa,yD,zE.yc]
  .have h':q.2-x<0:=by omega
   simp[wO,m1,m2,h,h',yV,z_,hpu,xT]
 | false=>
  by_cases h:x<=q.1
  .have h':¬ q.1-x<0:=by omega
   simp[wO,m1,m2,h,h',yV,z_,hpu,xT,mi,eq_int,zk,xa,yD,zE.yc]
  .have h':q.1-x<0:=by omega
   simp[wO,m1,m2,h,h',yV,z_,hpu,xT]
def Mt {F:zE}{s:Sl}{q:Int×Int}{k:Nat}(hk:k<=100):o6 [.tup [.int F.A,.int F.B],yF s,zk q,.int (k:Int)]=some (xT (if (k:Int)*s.gv<=z_ s.pu q then some (oe F s q k) else none)):=
 Ms wB rfl (mX (.inl ⟨by omega,by omega⟩)) (mX (.inl ⟨by omega,by omega⟩))
def jJ (F:zE) (p:Nat) (q:Int×Int):(yw F p q)[0]?=some q:=by
 unfold yw;cases F.stall p with
 | none=>rfl
 | some s=>rfl
def Mw {F:zE}(ok:F.Ok) {p:Nat}(hp:p<F.os.length) {q:Int×Int}(hq:yM F q) {k:Nat}(hk:k<=100):o7 [zv F,.int (p:Int),zk q,.int (k:Int)]=some (xT (yw F p q)[k]?):=by
 cases k with
 | zero=>
  rw[jJ];unfold o7 iH xT zk;simp[eq_int]
 | succ k=>
  have hk0:¬ ((k:Int)+1=0):=by omega
  have h1:=XC F p hp ok.s8;have hw0:=ny F;unfold yw;cases hs:F.stall p with
  | none=>
   rw[hs] at h1;have i1:xI false .zp .zp=some (.bl true):=rfl;unfold o7 iH;generalize rg=f1,o6=f2,zv F=fl,zk q=pq at *;simp[eq_int,hk0,h1,i1,xT]
  | some s=>
   rw[hs] at h1;have hs':=ok.ss s (List.mem_of_find?_eq_some hs);have hgv:z_ s.pu q<20:=by
    have:=vb (pu:=s.pu).mp hq;have:F.yc s.pu<=12:=by have:=ok.a1;have:=ok.b1;unfold zE.yc;split <;> assumption
    omega
   have h2:=Mt (F:=F) (s:=s) (q:=q) (k:=k+1) hk;rw[<- jK hs' 20 hq (by omega)] at h2;rw[Int.natCast_succ] at h2;have i1:xI false (yF s) .zp=some (.bl false):=rfl;unfold o7 iH;dsimp only;generalize (vc F s 20 q)[k+1]?=oo,rg=f1,o6=f2,zv F=fl,zk q=pq at *;dsimp only at h1;generalize yF s=sl at *;simp only[zj] at hw0;simp[eq_int,hk0,h1,i1,hw0,h2]
noncomputable def wq (F:zE) (p:Nat):List (Wy×Nat):=F.ws.zipIdx.filter λ wi=>decide (wi.1.f=p)
def cW {F:zE}{p:Nat}{wi:Wy×Nat}(h:wi∈wq F p):F.ws[wi.2]?=some wi.1/\wi.1.f=p:=by
 obtain⟨h1,h2⟩:=zC8.mp h;exact⟨List.mem_zipIdx_iff_getElem?.mp h1,of_decide_eq_true h2⟩
def WV {F:zE}{p:Nat}(t:Wy->Bool):(wq F p).any (λ wi=>t wi.1)=(xO F p).any t:=by
 unfold xO;rw[<- k5 (λ w=>decide (w.f=p)) F.ws 0,List.any_map];rfl
noncomputable def tq (F:zE) (l:List Bd) (p:Nat):Nat->List (Int×Int)->Option (Nat×Nat)
 | _,[]=>none
 | k,r::cs=>match (wq F p).find? (λ wi=>yO F l r wi.1) with
  | some wi=>some (k,wi.2)
  | none=>tq F l p (k+1) cs
noncomputable def dT (o:Option (Nat×Nat)):T:=match o with
 | none=>.zp
 | some x=>.tup [.int (x.1:Int),.int (x.2:Int)]
theorem YA {F:zE}{l:List Bd}{p:Nat}:∀ {cs:List (Int×Int)}{k:Nat}{x:Nat×Nat},tq F l p k cs=some x->k<=x.1/\∃ r w,cs[x.1-k]?=some r/\F.ws[x.2]?=some w/\w.f=p/\yO F l r w=true
 | [],k,x,h=>by cases h
 | r::cs,k,x,h=>by
  unfold tq at h;cases ho:(wq F p).find? (λ wi=>yO F l r wi.1) with
  | some wi=>
   rw[ho] at h;cases h;obtain⟨h1,h2⟩:=cW (List.mem_of_find?_eq_some ho);exact⟨zA4 _,r,wi.1,by simp,h1,h2,by simpa using List.find?_some ho⟩
  | none=>
   rw[ho] at h;obtain⟨h1,r',w,h2,h3⟩:=YA h;refine⟨by omega,r',w,?_,h3⟩;rw[show x.1-k=(x.1-(k+1))+1 by omega,List.getElem?_cons_succ];exact h2
theorem YB {F:zE}{l:List Bd}{p:Nat}:∀ {cs:List (Int×Int)}{k:Nat},(cs.any λ r=>(xO F p).any (yO F l r))=true->∃ x,tq F l p k cs=some x
 | [],k,h=>by cases h
 | r::cs,k,h=>by
  unfold tq;cases ho:(wq F p).find? (λ wi=>yO F l r wi.1) with
  | some wi=>exact⟨_,rfl⟩
  | none=>
   refine YB ?_;rw[List.any_cons,<- WV,Bool.or_eq_true] at h;rcases h with h | h
   .rw[List.find?_eq_none] at ho;obtain⟨wi,h1,h2⟩:=zD0.mp h;exact absurd h2 (ho wi h1)
   .exact h
theorem YY {F:zE}{s:Sl}:∀ (n:Nat) (q:Int×Int),(vc F s n q).length<=n+1
 | 0,q=>by unfold vc;simp
 | n+1,q=>by
  unfold vc;rw[zC0];split
  .have:=YY n (F:=F) (s:=s) (xa s.pu (z_ s.pu q-s.gv) (min (yD s.pu q+s.gt) (F.yc (!s.pu))));omega
  .simp
def YX (F:zE) (p:Nat) (q:Int×Int):(yw F p q).length<=21:=by
 unfold yw;cases F.stall p with
 | none=>simp
 | some s=>exact YY 20 q
noncomputable def xu (F:zE) (l:List Bd) (p:Nat) (q:Int×Int) (k:Nat):Ev:=[some (.im (zv F)),some (.im (.int (p:Int))),some (.im (zk q)),some (.im (rT l)),some (.im (.lst ((wq F p).map λ wi=>T.int (wi.2:Int)))),some (.im (.int (k:Int))),some (.im (xT (yw F p q)[k]?)),none]
def OC {F:zE}(ok:F.Ok) {l:List Bd}(hl:l.length=F.os.length) (hb:∀ b∈l,b.length<=10000) {p:Nat}{q r:Int×Int}{k:Nat}(hr:(yw F p q)[k]?=some r) {wi:Wy×Nat}(hw:wi∈wq F p):
  ∃ J',yP [7] J'=xu F l p q k/\turn (zJ 7) oq (T.int (wi.2:Int)) (xu F l p q k)=some (if yO F l r wi.1=true then .rt (.tup [.int (k:Int),.int (wi.2:Int)]) else .nx J'):=by
 have hE:xu F l p q k=[some (.im (zv F)),some (.im (.int (p:Int))),some (.im (zk q)),some (.im (rT l)),some (.im (.lst ((wq F p).map λ wi=>T.int (wi.2:Int)))),some (.im (.int (k:Int))),some (.im (zk r)),none]:=by unfold xu;rw[hr];rfl
 obtain⟨h1,h2⟩:=cW hw;have ht:=(ok.ws wi.1 (zB7 h1)).2;have ht':wi.1.t<l.length:=by omega
 have h3:=Mk (F:=F) (l:=l) (q:=r) h1 ht' (by
  rw[zB1,zA1 ht'];exact hb _ (zD8 ht'))
 refine⟨(xu F l p q k).set 7 (some (.im (.int (wi.2:Int)))),by rw[hE];simp,?_⟩;rw[hE];unfold turn oq;generalize nW=f1,zv F=fl,zk r=pr,zk q=pq,rT l=rl,(wq F p).map (λ wi=>T.int (wi.2:Int))=WS at *;cases hc:yO F l r wi.1 <;> rw[hc] at h3 <;> simp[h3]
def OD {F:zE}(ok:F.Ok) {l:List Bd}(hl:l.length=F.os.length) (hb:∀ b∈l,b.length<=10000) {p:Nat}{q r:Int×Int}{k:Nat}(hr:(yw F p q)[k]?=some r):
  vj [7] (zJ 7) oq ((wq F p).map λ wi=>T.int (wi.2:Int)) (xu F l p q k)=some (match (wq F p).find? (λ wi=>yO F l r wi.1) with | some wi=>.rt (.tup [.int (k:Int),.int (wi.2:Int)]) | none=>.nx (xu F l p q k)):=by
 have hE:xu F l p q k=[some (.im (zv F)),some (.im (.int (p:Int))),some (.im (zk q)),some (.im (rT l)),some (.im (.lst ((wq F p).map λ wi=>T.int (wi.2:Int)))),some (.im (.int (k:Int))),some (.im (zk r)),none]:=by unfold xu;rw[hr];rfl
 have key:=fQ (is:=[7]) (g:=zJ 7) (b:=oq) (λ wi:Wy×Nat=>T.int (wi.2:Int)) (λ wi=>.tup [.int (k:Int),.int (wi.2:Int)]) (λ wi=>yO F l r wi.1) (xu F l p q k) (wq F p) (xu F l p q k) (by rw[hE];simp) λ wi hw=>OC ok hl hb hr hw;rw[key];cases (wq F p).find? (λ wi=>yO F l r wi.1) <;> rfl
theorem Y9 {F:zE}(ok:F.Ok) {l:List Bd}(hl:l.length=F.os.length) (hb:∀ b∈l,b.length<=10000) {p:Nat}(hp:p<F.os.length) {q:Int×Int}(hq:yM F q):∀ (cs:List (Int×Int)) (k m:Nat),(yw F p q).drop k=cs->k+cs.length<=21->cs.length<m->
  xP [7] (zO (zb (xI true) (zc 6) (cS .zp))) qW m (xu F l p q k)=some (match tq F l p k cs with | some x=>.rt (dT (some x)) | none=>.nx (xu F l p q (k+cs.length)))
 | [],k,m+1,h,hk,hm=>by
  have hn:(yw F p q)[k]?=none:=by
   have:=congrArg List.length h;simp at this;exact List.getElem?_eq_none (by omega)
  have i1:xI true .zp .zp=some (.bl false):=rfl;have hE:xu F l p q k=[some (.im (zv F)),some (.im (.int (p:Int))),some (.im (zk q)),some (.im (rT l)),some (.im (.lst ((wq F p).map λ wi=>T.int (wi.2:Int)))),some (.im (.int (k:Int))),some (.im .zp),none]:=by unfold xu;rw[hn];rfl
  unfold xP tq;show _=some (Out.nx (xu F l p q k));rw[hE];simp[i1]
 | r::cs,k,m+1,h,hk,hm=>by
  have hr:(yw F p q)[k]?=some r:=by
   have:=congrArg (λ x=>x[0]?) h;simpa using this
  have hd:(yw F p q).drop (k+1)=cs:=by
   have:=congrArg List.tail h;rw[List.tail_drop] at this;simpa using this
  have hlen:(r::cs).length=cs.length+1:=rfl;have hf:=OD ok hl hb hr (p:=p);have hc:=Mw ok hp hq (k:=k+1) (by omega);rw[Int.natCast_succ] at hc;have i1:xI true (zk r) .zp=some (.bl true):=rfl;have hE:xu F l p q k=[some (.im (zv F)),some (.im (.int (p:Int))),some (.im (zk q)),some (.im (rT l)),some (.im (.lst ((wq F p).map λ wi=>T.int (wi.2:Int)))),some (.im (.int (k:Int))),some (.im (zk r)),none]:=by unfold xu;rw[hr];rfl
  have hfr:yP [7] (xu F l p q k)=xu F l p q k:=by rw[hE];simp
  have htest:zO (zb (xI true) (zc 6) (cS .zp)) (xu F l p q k)=some true:=by rw[hE];simp[i1]
  unfold xP tq;rw[hfr,htest,zC9,if_pos rfl];cases ho:(wq F p).find? (λ wi=>yO F l r wi.1) with
  | some wi=>
   rw[ho] at hf;have:qW (xu F l p q k)=some (.rt (.tup [.int (k:Int),.int (wi.2:Int)])):=by
    unfold qW;rw[hE] at hf ⊢;generalize oq=b1 at *;simp[hf]
   rw[this];rfl
  | none=>
   rw[ho] at hf;have hb2:qW (xu F l p q k)=some (.nx (xu F l p q (k+1))):=by
    unfold qW;have hE2:xu F l p q (k+1)=[some (.im (zv F)),some (.im (.int (p:Int))),some (.im (zk q)),some (.im (rT l)),some (.im (.lst ((wq F p).map λ wi=>T.int (wi.2:Int)))),some (.im (.int ((k:Int)+1))),some (.im (xT (yw F p q)[k+1]?)),none]:=by unfold xu;rw[Int.natCast_succ]
    rw[hE2];rw[hE] at hf ⊢;generalize oq=b1,o7=f1,xT (yw F p q)[k+1]?=s1,zv F=fl,zk r=pr,zk q=pq,rT l=rl,(wq F p).map (λ wi=>T.int (wi.2:Int))=WS at *;simp at hf;simp[hf,hc]
   rw[hb2,zC9];show xP [7] _ qW m (xu F l p q (k+1))=_;rw[Y9 ok hl hb hp hq cs (k+1) m hd (by omega) (by omega),hlen];rw[show k+1+cs.length=k+(cs.length+1) by omega]
def Mq {F:zE}(ok:F.Ok) {l:List Bd}(hl:l.length=F.os.length) (hb:∀ b∈l,b.length<=10000) {p:Nat}(hp:p<F.os.length) {q:Int×Int}(hq:yM F q):kh [zv F,.int (p:Int),zk q,rT l]=some (dT (tq F l p 0 (yw F p q))):=by
 have h1:=XB F p hp ok.uO;have hl21:=YX F p q;have hw:=Y9 ok hl hb hp hq (yw F p q) 0 1000000 rfl (by omega) (by omega);have hE:xu F l p q 0=[some (.im (zv F)),some (.im (.int (p:Int))),some (.im (zk q)),some (.im (rT l)),some (.im (.lst ((wq F p).map λ wi=>T.int (wi.2:Int)))),some (.im (.int 0)),some (.im (zk q)),none]:=by unfold xu;rw[jJ];rfl
 rw[hE] at hw;replace h1:pd [zv F,.int (p:Int)]=some (.lst ((wq F p).map λ wi=>T.int (wi.2:Int))):=h1;unfold kh WJ rj;generalize xu F l p q (0+(yw F p q).length)=EE,zO (zb (xI true) (zc 6) (cS .zp))=tt,qW=b2,pd=f1,(1000000:Nat)=M,zv F=fl,zk q=pq,rT l=rl,(wq F p).map (λ wi=>T.int (wi.2:Int))=WS at *;cases hd:tq F l p 0 (yw F p q) with
 | some x=>rw[hd] at hw;simp at hw;simp[h1,hw]
 | none=>rw[hd] at hw;simp at hw;simp[h1,hw,dT]
noncomputable def vd (F:zE) (p:Nat) (q:Int×Int) (s:Sl) (L:List (Int×Int)) (c:Option L5.W):Ev:=[some (.im (zv F)),some (.im (.int (p:Int))),some (.im (zk q)),some (.own (.lst (L.map zk))),some (.im (.int (s.p:Int))),some (.im (.int (wO s.pu))),some (.im (.int s.gv)),some (.im (.int s.gt)),c]
noncomputable def tR (F:zE) (s:Sl) (r:Int×Int):Int×Int:=xa s.pu (z_ s.pu r-s.gv) (min (yD s.pu r+s.gt) (F.yc (!s.pu)))
def Nf {F:zE}{p:Nat}{q:Int×Int}{s:Sl}{pre:List (Int×Int)}{r:Int×Int}(hl:pre.length<=1000):∃ c,nD (vd F p q s (pre++[r]) none)=some (.nx (vd F p q s (pre++[r]++[tR F s r]) c)):=by
 have hlast:L2.yh ((pre++[r]).map zk) (-1)=some (.tup [.int r.1,.int r.2]):=by rw[zE7];exact lU
 have e2:(pre++[r]++[tR F s r]).map zk=(pre++[r]).map zk++[zk (tR F s r)]:=by simp
 have hlen:((pre++[r]).map zk).length<16777216:=by simp;omega
 have hw0:=ny F;have n0:vw 2 0=some 0:=rfl;have n1:vw 2 1=some 1:=rfl;refine⟨some (.own (.lst [.int (tR F s r).1,.int (tR F s r).2])),?_⟩;unfold vd;rw[e2];unfold nD;generalize (pre++[r]).map zk=LL,zv F=fl,zk q=pq at *;simp only[zj] at hw0;unfold tR;cases hpu:s.pu <;> simp[wO,hlast,hw0,n0,n1,hlen,xa,z_,yD,zE.yc,mi,zk]
def Xd {F:zE}{p:Nat}{q:Int×Int}{s:Sl}{pre:List (Int×Int)}{r:Int×Int}:vU (zO (zb (zK false) (zc 4) (zc 1))) (zO (zb vT (zb zj (zb zj (zc 3) (rN (cS (.int 1)))) (zc 5)) (zc 6))) (vd F p q s (pre++[r]) none)=some (decide (s.p=p)&&decide (s.gv<=z_ s.pu r)):=by
 have hlast:L2.yh ((pre++[r]).map zk) (-1)=some (.tup [.int r.1,.int r.2]):=by rw[zE7];exact lU
 unfold vd;generalize (pre++[r]).map zk=LL,zv F=fl,zk q=pq at *;by_cases hp:s.p=p
 .have hp':(s.p:Int)=(p:Int):=by omega
  cases hpu:s.pu <;> simp[wO,hlast,z_,eq_int,hp]
 .have hp':¬ (s.p:Int)=(p:Int):=by omega
  simp[eq_int,hp,hp']
theorem Xc {F:zE}{p:Nat}{q:Int×Int}{s:Sl}(hs:1<=s.gv/\0<=s.gt) (hsp:s.p=p):∀ (n:Nat) (pre:List (Int×Int)) (r:Int×Int) (m:Nat),yM F r->z_ s.pu r<n->n<m->pre.length+n<=1000->∀ c,
  xP [8] (vU (zO (zb (zK false) (zc 4) (zc 1))) (zO (zb vT (zb zj (zb zj (zc 3) (rN (cS (.int 1)))) (zc 5)) (zc 6)))) nD m (vd F p q s (pre++[r]) c)=some (.nx (vd F p q s (pre++vc F s n r) none))
 | 0,pre,r,m,hr,hn,hm,hl,c=>by
  have:=(vb (pu:=s.pu).mp hr).1.1;omega
 | n+1,pre,r,m+1,hr,hn,hm,hl,c=>by
  have hfr:yP [8] (vd F p q s (pre++[r]) c)=vd F p q s (pre++[r]) none:=by unfold vd;simp
  unfold xP vc;rw[hfr,Xd,zC9,decide_eq_true hsp,Bool.true_and];by_cases hg:s.gv<=z_ s.pu r
  .rw[decide_eq_true hg,if_pos rfl,if_pos hg];obtain⟨c',hb⟩:=Nf (F:=F) (p:=p) (q:=q) (s:=s) (pre:=pre) (r:=r) (by omega);rw[hb,zC9];have h':=vb (pu:=s.pu).mp hr;have hi:yM F (tR F s r):=by
    unfold tR;rw[vb (pu:=s.pu),vx,uY];omega
   have ih:=Xc (q:=q) hs hsp n (pre++[r]) (tR F s r) m hi (by unfold tR;rw[vx];omega) (by omega) (by simp;omega) c';show xP [8] _ nD m (vd F p q s (pre++[r]++[tR F s r]) c')=_;rw[ih,List.append_assoc];rfl
  .rw[decide_eq_false hg,if_neg (by decide),if_neg hg]
def Nd {F:zE}{p:Nat}{q:Int×Int}{s:Sl}(hsp:¬ s.p=p) (pre:List (Int×Int)) (r:Int×Int) (m:Nat) (c:Option L5.W):
  xP [8] (vU (zO (zb (zK false) (zc 4) (zc 1))) (zO (zb vT (zb zj (zb zj (zc 3) (rN (cS (.int 1)))) (zc 5)) (zc 6)))) nD (m+1) (vd F p q s (pre++[r]) c)=some (.nx (vd F p q s (pre++[r]) none)):=by
 have hfr:yP [8] (vd F p q s (pre++[r]) c)=vd F p q s (pre++[r]) none:=by unfold vd;simp
 unfold xP;rw[hfr,Xd,zC9,decide_eq_false hsp,Bool.false_and,if_neg (by decide)]
theorem YZ {F:zE}{s:Sl}:∀ (n:Nat) (q:Int×Int),∃ pre r,vc F s n q=pre++[r]
 | 0,q=>⟨[],q,rfl⟩
 | n+1,q=>by
  unfold vc;split
  .obtain⟨pre,r,e⟩:=YZ (F:=F) (s:=s) n (xa s.pu (z_ s.pu q-s.gv) (min (yD s.pu q+s.gt) (F.yc (!s.pu))));exact⟨q::pre,r,by rw[e];rfl⟩
  .exact⟨[],q,rfl⟩
noncomputable def ug (F:zE) (p:Nat) (q:Int×Int) (ss:List Sl):List (Int×Int):=match ss.find? (λ s=>decide (s.p=p)) with
 | none=>[q]
 | some s=>vc F s 20 q
def XF {F:zE}(ok:F.Ok) (hpw:F.ss.Pairwise (λ a b=>a.p≠b.p)) (p:Nat) {q:Int×Int}(hq:yM F q):ph [zv F,.int (p:Int),zk q]=some (.lst ((yw F p q).map zk)):=by
 obtain⟨J',h1,h2⟩:=vP (is:=[4,5,6,7,8]) (g:=vA 4 (yW (zJ 4) (yW (zJ 5) (yW (zJ 6) (yW (zJ 7) v_))))) (b:=nB) yF (λ ss J=>J=[some (.im (zv F)),some (.im (.int (p:Int))),some (.im (zk q)),some (.own (.lst ((ug F p q ss).map zk))),none,none,none,none,none])
   F.ss [some (.im (zv F)),some (.im (.int (p:Int))),some (.im (zk q)),some (.own (.lst [zk q])),none,none,none,none,none] rfl (by
  rintro pf s sf e J rfl;have hs:=ok.ss s (by rw[e];simp);have hb:turn (vA 4 (yW (zJ 4) (yW (zJ 5) (yW (zJ 6) (yW (zJ 7) v_))))) nB (yF s) [some (.im (zv F)),some (.im (.int (p:Int))),some (.im (zk q)),some (.own (.lst ((ug F p q pf).map zk))),none,none,none,none,none]=nB (vd F p q s (ug F p q pf) none):=rfl;rw[hb];refine⟨vd F p q s (ug F p q (pf++[s])) none,?_,by unfold vd;simp⟩;unfold nB rj;by_cases hsp:s.p=p
  .have hno:pf.find? (λ s=>decide (s.p=p))=none:=by
    rw[List.find?_eq_none];intro a ha h;rw[e] at hpw;exact (List.pairwise_append.mp hpw).2.2 a ha s zMc (by rw[of_decide_eq_true h,hsp])
   have e1:ug F p q pf=[]++[q]:=by unfold ug;rw[hno];rfl
   have e2:ug F p q (pf++[s])=vc F s 20 q:=by
    unfold ug;rw[List.find?_append,hno,List.find?_cons,decide_eq_true hsp];rfl
   have hgv:z_ s.pu q<20:=by
    have:=vb (pu:=s.pu).mp hq;have:F.yc s.pu<=12:=by have:=ok.a1;have:=ok.b1;unfold zE.yc;split <;> assumption
    omega
   rw[e1,e2];exact Xc hs hsp 20 [] q 1000000 hq (by omega) (by omega) (by simp) none
  .have e2:ug F p q (pf++[s])=ug F p q pf:=by
    unfold ug;rw[List.find?_append,List.find?_cons,decide_eq_false hsp];cases pf.find? (λ s=>decide (s.p=p)) <;> rfl
   obtain⟨pre,r,e3⟩:∃ pre r,ug F p q pf=pre++[r]:=by
    unfold ug;cases pf.find? (λ s=>decide (s.p=p)) with
    | none=>exact⟨[],q,rfl⟩
    | some s=>exact YZ 20 q
   rw[e2,e3];exact Nd hsp pre r 999999 none)
 subst h2;have hw3:=Ob F;have e:ug F p q F.ss=yw F p q:=rfl;rw[e] at h1;unfold ph W9;generalize nB=b2,F.ss.map yF=SS,(yw F p q).map zk=CC,zv F=fl,zk q=pq at *;simp only[zj] at hw3;simp[hw3,h1]
structure Fix (F:zE) (l:List Bd):Prop where
 ok:F.Ok
 len:l.length=F.os.length
 gd:∀ b∈l,Gd F.A F.B b
 pw:F.ss.Pairwise (λ a b=>a.p≠b.p)
 go:∀ p<F.os.length,∀ q,yM F q->zR (l.getD p []) q=pV F l p q
noncomputable def sQ (F:zE) (l:List Bd) (p:Nat) (q:Int×Int):Nat×Nat:=(tq F l p 0 (yw F p q)).getD (0,0)
noncomputable def wL (F:zE) (l:List Bd) (p:Nat) (q:Int×Int):T:=.tup [zk q,.int ((sQ F l p q).1:Int),.int ((sQ F l p q).2:Int)]
noncomputable def wA (F:zE) (l:List Bd) (p:Nat):T:=if F.os.getD p false=true then .tup ((l.getD p []).map (wL F l p)) else .tup []
section
variable {F:zE}{l:List Bd}
def Fix.at (X:Fix F l) {p:Nat}(hp:p<F.os.length):Gd F.A F.B (l.getD p []):=by
 have hp':p<l.length:=by rw[X.len];exact hp
 rw[zB1,zA1 hp'];exact X.gd _ (zD8 hp')
def Fix.sz (X:Fix F l):∀ b∈l,b.length<=10000:=λ b hb=>by
 have:=(X.gd b hb).qI X.ok.a0;have:=X.ok.a1;omega
def Fix.b5 (X:Fix F l) {p:Nat}(hp:p<F.os.length):(l.getD p []).length<=10000:=by
 have:=(X.at hp).qI X.ok.a0;have:=X.ok.a1;omega
def Fix.on (X:Fix F l) {p:Nat}(hp:p<F.os.length) {q:Int×Int}(hq:q∈l.getD p []):yM F q/\pV F l p q=true:=by
 have hi:yM F q:=(X.at hp).wy q hq;exact⟨hi,by rw[<- X.go p hp q hi];exact yL.mpr ⟨q,hq,zC6 _,zC6 _⟩⟩
def Fix.YC (X:Fix F l) {p:Nat}(hp:p<F.os.length) (ho:F.os.getD p false=true) {q:Int×Int}(hq:q∈l.getD p []):yM F q/\tq F l p 0 (yw F p q)=some (sQ F l p q):=by
 obtain⟨h1,h2⟩:=X.on hp hq;unfold pV at h2;rw[if_pos ho] at h2;obtain⟨x,hx⟩:=YB (k:=0) h2;exact⟨h1,by unfold sQ;rw[hx];rfl⟩
def fy {p:Nat}(hp:p<F.os.length):L2.yh (F.os.map kt) (p:Int)=some (kt (F.os.getD p false)):=wF (by rw[zA3,zB1,zA1 hp];rfl)
def ZE (b:Bool):zK true (kt b) (.str "keeper")=some (.bl (!b)):=by
 have h:(("taker":Str) == ("keeper":Str))=false:=by decide
 cases b
 .show zK true (.str "taker") (.str "keeper")=_;simp[zK,dep,eqT,h]
 .show zK true (.str "keeper") (.str "keeper")=_;simp[zK,dep,eqT]
def ZD (b:Bool):zK false (kt b) (.str "taker")=some (.bl (!b)):=by
 have h:(("keeper":Str) == ("taker":Str))=false:=by decide
 cases b
 .show zK false (.str "taker") (.str "taker")=_;simp[zK,dep,eqT]
 .show zK false (.str "keeper") (.str "taker")=_;simp[zK,dep,eqT,h]
def QS (b:Bool):zK false (kt b) (.str "keeper")=some (.bl b):=by
 have h:(("taker":Str) == ("keeper":Str))=false:=by decide
 cases b
 .show zK false (.str "taker") (.str "keeper")=_;simp[zK,dep,eqT,h]
 .show zK false (.str "keeper") (.str "keeper")=_;simp[zK,dep,eqT]
def Mb (X:Fix F l) {p:Nat}(hp:p<F.os.length):nS [zv F,.int (p:Int),rT l]=some (wA F l p):=by
 have hw1:=jA F;have ho:=fy hp;have hix:=sE l p (by rw[X.len];exact hp);unfold wA;cases hk:F.os.getD p false with
 | false=>
  rw[hk] at ho;have he:zK true (kt false) (.str "keeper")=some (.bl true):=ZE false;unfold nS cM;generalize lL=cc,F.os.map kt=OS,zv F=fl,rT l=rl,kt false=kf,(T.str "keeper")=ks,zK true=ee at *;simp only[zj] at hw1;simp[hw1,ho,he]
 | true=>
  have hc:lL [some (.im (zv F)),some (.im (.int (p:Int))),some (.im (rT l))]=some (.lst ((l.getD p []).map (wL F l p))):=by
   unfold lL;refine sD zk (wL F l p) (l.getD p []) ?_ (by have:=X.b5 hp;omega) λ q hq=>?_
   .generalize bT (l.getD p [])=bt at *;have hbt:wZ (bT (l.getD p []))=some ((l.getD p []).map zk):=rfl;have hix':zb zj (zc 2) (zc 1) [some (.im (zv F)),some (.im (.int (p:Int))),some (.im (rT l))]=some (bT (l.getD p [])):=sE l p (by rw[X.len];exact hp);show (zb zj (zc 2) (zc 1) _).bind wZ=_;rw[hix'];exact hbt
   .obtain⟨h1,h2⟩:=X.YC hp hk hq;have h3:=Mq X.ok X.len X.sz hp h1;rw[h2] at h3;unfold wL;generalize kh=f1,zv F=fl,rT l=rl,zk q=pq at *;simp[h3,dT]
  rw[hk] at ho;have he:zK true (kt true) (.str "keeper")=some (.bl false):=ZE true;unfold nS cM;generalize lL=cc,(l.getD p []).map (wL F l p)=RR,F.os.map kt=OS,zv F=fl,rT l=rl,kt true=kf,(T.str "keeper")=ks,zK true=ee at *;simp only[zj] at hw1;simp[hw1,ho,he,hc]
noncomputable def vg (F:zE) (l:List Bd):List T:=(List.range F.os.length).map (wA F l)
def NZ (X:Fix F l) (hB:qk [zv F]=some (rT l)):ka [zv F]=some (.lst (vg F l)):=by
 have h8:=X.ok.n8;have hr:=sa F.os.length (by omega);have hpl:=cC F;have hc:jP [some (.im (zv F)),some (.im (rT l))]=some (.lst ((List.range F.os.length).map (wA F l))):=by
  unfold jP;refine sD (λ k:Nat=>T.int (0+(k:Int))) (wA F l) (List.range F.os.length) ?_ (by simp;omega) λ p hp=>?_
  .generalize qe=f1,zv F=fl,(List.range F.os.length).map (λ k:Nat=>T.int (0+(k:Int)))=RR at *;simp[hpl,hr]
  .have h1:=Mb X (zC1.mp hp);generalize nS=f1,zv F=fl,rT l=rl at *;simp[h1]
 unfold ka Ws vg;generalize jP=cc,(List.range F.os.length).map (wA F l)=TT,qk=f1,zv F=fl,rT l=rl at *;simp[hB,hc]
end
def M1 {F:zE}{pre:List (List Bd)}{lst:List Bd}(hr:nU [zv F]=some (.lst ((pre++[lst]).map rT))):qk [zv F]=some (rT lst):=by
 have hix:L2.yh ((pre++[lst]).map rT) (-1)=some (rT lst):=by
  rw[zE7];exact lU
 unfold qk WN;generalize (pre++[lst]).map rT=L,nU=f1,zv F=fl at *;simp[hr,hix]
def Oc {F:zE}(ok:F.Ok) (hpw:F.ss.Pairwise (λ a b=>a.p≠b.p)) {m:Nat}(hg:∀ b∈xq F m,Gd F.A F.B b) (hst:xq F (m+1)=xq F m):Fix F (xq F m):=by
 refine⟨ok,eh F m,hg,hpw,λ p hp q hq=>?_⟩;have hg':∀ p,Gd F.A F.B ((xq F m).getD p []):=λ p=>by
  rcases Nat.lt_or_ge p (xq F m).length with h | h
  .rw[zB1,zA1 h];exact hg _ (zD8 h)
  .rw[zB1,List.getElem?_eq_none h];exact Gd.nil
 have e:(xq F m).getD p []=xp F (xq F m) p:=by
  have:(xq F (m+1)).getD p []=xp F (xq F m) p:=eG (λ p=>xp F (xq F m) p) F.os.length p [] hp;rw[hst] at this;exact this
 rw[e];exact Qr ok hg' p hq
section
variable {F:zE}{l:List Bd}
def Me (ok:F.Ok):∃ L:List (Int×Int),ke [zv F]=some (.lst (L.map zk))/\(∀ q∈L,yM F q)/\L.length<=1000:=by
 obtain⟨a,ha,a12⟩:∃ a:Nat,F.A+1=(a:Int)/\a<=13:=⟨(F.A+1).toNat,by have:=ok.a0;omega,by have:=ok.a1;omega⟩
 obtain⟨b,hb,b12⟩:∃ b:Nat,F.B+1=(b:Int)/\b<=13:=⟨(F.B+1).toNat,by have:=ok.b0;omega,by have:=ok.b1;omega⟩
 have ra:=sa a (by omega);have rb:=sa b (by omega);have hw0:=ny F;obtain⟨J',h1,L,h2,h3,h4⟩:=vP (is:=[2]) (g:=zJ 2) (b:=ia) (λ k:Nat=>T.int (0+(k:Int))) (λ p J=>∃ L:List (Int×Int),J=[some (.im (zv F)),some (.own (.lst (L.map zk))),none]/\(∀ q∈L,yM F q)/\L.length<=13*p.length)
   (List.range a) [some (.im (zv F)),some (.own (.lst [])),none] ⟨[],rfl,nofun,by simp⟩ (by
  rintro p k q e J ⟨L,rfl,r1,r2⟩;have hp:p.length<a:=by have:=congrArg List.length e;simp at this;omega
  have hk:k<a:=zC1.mp (by rw[e];simp);have hc:jS [some (.im (zv F)),some (.own (.lst (L.map zk))),some (.im (.int (0+(k:Int))))]=some (.lst ((List.range b).map λ y:Nat=>zk ((k:Int),(y:Int)))):=by
   unfold jS;refine sD (λ k:Nat=>T.int (0+(k:Int))) (λ y:Nat=>zk ((k:Int),(y:Int))) (List.range b) ?_ (by rw[zC5];omega) λ y hy=>?_
   .generalize (List.range b).map (λ k:Nat=>T.int (0+(k:Int)))=RR,zv F=fl at *;simp only[zj] at hw0;simp[hw0,hb,rb]
   .simp[zk]
  have e2:(L++(List.range b).map λ y:Nat=>((k:Int),(y:Int))).map zk=L.map zk++(List.range b).map λ y:Nat=>zk ((k:Int),(y:Int)):=by simp
  have hl:(L.map zk).length+((List.range b).map λ y:Nat=>zk ((k:Int),(y:Int))).length<=16777216:=by
   rw[zA7,zA7,zC5];omega
  refine⟨[some (.im (zv F)),some (.own (.lst ((L++(List.range b).map λ y:Nat=>((k:Int),(y:Int))).map zk))),some (.im (.int (0+(k:Int))))],?_,L++(List.range b).map λ y:Nat=>((k:Int),(y:Int)),by simp,λ x hx=>?_,?_⟩
  .rw[e2];unfold turn ia;generalize (List.range b).map (λ y:Nat=>zk ((k:Int),(y:Int)))=RR at *;generalize L.map zk=LL at *;generalize jS=cc,zv F=fl,(0+(k:Int))=kk at *;simp[hc,hl]
  .rcases zB9.mp hx with h | h
   .exact r1 x h
   .obtain⟨y,hy,rfl⟩:=zB0.mp h;have:=zC1.mp hy;exact⟨⟨by show (0:Int)<=k;omega,by show (k:Int)<=F.A;omega⟩,by show (0:Int)<=y;omega,by show (y:Int)<=F.B;omega⟩
  .rw[zD7,zA7,zC5,zD7,List.length_singleton];omega)
 subst h2;rw[zC5] at h4;refine⟨L,?_,h3,by omega⟩;unfold ke W6;generalize L.map zk=LL,(List.range a).map (λ k:Nat=>T.int (0+(k:Int)))=RR,ia=bb,zv F=fl at *;simp only[zj] at hw0;simp[hw0,ha,ra,h1]
noncomputable def vt (F:zE) (l:List Bd) (p:Nat) (cs:List (Int×Int)):List Bool:=cs.flatMap λ r=>(xO F p).map (yO F l r)
theorem bS (ok:F.Ok) (l:List Bd) (p:Nat):∀ cs:List (Int×Int),(vt F l p cs).length<=60*cs.length
 | []=>by simp[vt]
 | r::cs=>by
  have h1:=bS ok l p cs;have h2:(xO F p).length<=F.ws.length:=List.length_filter_le _ _;have h3:=ok.uO;unfold vt at h1 ⊢;rw[List.flatMap_cons,zD7,zA7,zC0];omega
def Uv (X:Fix F l) {p:Nat}(hp:p<F.os.length) {q:Int×Int}(hq:yM F q) (hc:zR (l.getD p []) q=false):(F.os.getD p false=true->(vt F l p (yw F p q)).any id=false)/\(F.os.getD p false=false->(vt F l p (yw F p q)).all id=false):=by
 have hg:=X.go p hp q hq;rw[hc] at hg;unfold pV at hg;constructor
 .intro ho;rw[if_pos ho] at hg;rw[<- zE9,zD0];rintro⟨x,hx,hx'⟩;obtain⟨r,hr,hx⟩:=List.mem_flatMap.mp hx;obtain⟨w,hw,rfl⟩:=zB0.mp hx;have:((yw F p q).any λ r=>(xO F p).any (yO F l r))=true:=zD0.mpr ⟨r,hr,zD0.mpr ⟨w,hw,hx'⟩⟩;rw[<- hg] at this;cases this
 .intro ho;rw[if_neg (by rw[ho];decide)] at hg;rw[<- zE9,zE4];intro h;have:(xO F p).all (yO F l q)=true:=zE4.mpr λ w hw=>h _ (List.mem_flatMap.mpr ⟨q,zB7 (jJ F p q),zB0.mpr ⟨w,hw,rfl⟩⟩);rw[<- hg] at this;cases this
noncomputable def xW (F:zE) (l:List Bd) (p:Nat) (v4 v5 v6:Option L5.W):Ev:=[some (.im (zv F)),some (.im (rT l)),some (.im (.int (p:Int))),some (.im (.lst ((xO F p).map zQ))),v4,v5,v6]
def Q8 (X:Fix F l) {p:Nat}(hp:p<F.os.length) {q:Int×Int}(hq:yM F q):∃ J',yP [4,5,6] J'=xW F l p none none none/\turn (zJ 4) oj (zk q) (xW F l p none none none)=some (if (λ _:Int×Int=>false) q=true then .rt (.bl false) else .nx J'):=by
 have hheld:=cD (bT (l.getD p [])) (l.getD p []) q rfl;have hix:=sE l p (by rw[X.len];exact hp)
 suffices h:∃ J',yP [4,5,6] J'=xW F l p none none none/\oj (xW F l p (some (.im (zk q))) none none)=some (.nx J') by
  obtain⟨J',h1,h2⟩:=h;exact⟨J',h1,by rw[if_neg (λ h=>nomatch h)];exact h2⟩
 cases hc:zR (l.getD p []) q with
 | true=>
  rw[hc] at hheld;refine⟨xW F l p (some (.im (zk q))) none none,by unfold xW;simp,?_⟩;unfold oj xW;generalize bT (l.getD p [])=bt,t9=f1,zv F=fl,rT l=rl,zk q=pq,(xO F p).map zQ=WW at *;simp only[zj] at hix;simp[hix,hheld]
 | false=>
  rw[hc] at hheld;obtain⟨s1,s2⟩:=Uv X hp hq hc;have h1:=XF X.ok X.pw p hq;have hw1:=jA F;have ho:=fy hp;have k1:=QS (F.os.getD p false);have k2:=ZD (F.os.getD p false);obtain⟨J',g1,g2⟩:=vP (is:=[6]) (g:=zJ 6) (b:=lT) zk (λ cs J=>J=xW F l p (some (.im (zk q))) (some (.own (.lst ((vt F l p cs).map T.bl)))) none)
    (yw F p q) (xW F l p (some (.im (zk q))) (some (.own (.lst []))) none) rfl (by
   rintro cs r sf e J rfl;have hcl:cs.length<21:=by have h5:=YX F p q;have h6:=congrArg List.length e;simp at h6;omega
   have hc2:jM (xW F l p (some (.im (zk q))) (some (.own (.lst ((vt F l p cs).map T.bl)))) (some (.im (zk r))))=some (.lst ((xO F p).map λ w=>T.bl (yO F l r w))):=by
    unfold jM;refine sD zQ (λ w=>T.bl (yO F l r w)) (xO F p) (by unfold xW;simp) (by
     have:(xO F p).length<=F.ws.length:=List.length_filter_le _ _;have:=X.ok.uO;omega) λ w hw=>?_
    have hw':w∈F.ws:=(zC8.mp hw).1;have h2:=Mj (F:=F) (l:=l) (q:=r) (w:=w) (by rw[X.len];exact (X.ok.ws w hw').2);unfold xW;generalize nZ=f1,zv F=fl,rT l=rl,zk q=pq,zk r=pr,zQ w=wt at *;simp[h2]
   have e2:(vt F l p (cs++[r])).map T.bl=(vt F l p cs).map T.bl++(xO F p).map λ w=>T.bl (yO F l r w):=by simp[vt]
   have hl:((vt F l p cs).map T.bl).length+((xO F p).map λ w=>T.bl (yO F l r w)).length<=16777216:=by
    rw[zA7,zA7];have h1:=bS X.ok l p cs;have h2:(xO F p).length<=F.ws.length:=List.length_filter_le _ _;have h3:=X.ok.uO;omega
   refine⟨xW F l p (some (.im (zk q))) (some (.own (.lst ((vt F l p (cs++[r])).map T.bl)))) (some (.im (zk r))),?_,by unfold xW;simp⟩;rw[e2];show lT (xW F l p (some (.im (zk q))) (some (.own (.lst ((vt F l p cs).map T.bl)))) (some (.im (zk r))))=_;unfold lT;generalize jM=c2,(xO F p).map (λ w=>T.bl (yO F l r w))=NN,(vt F l p cs).map T.bl=SS at *;unfold xW at hc2 ⊢;generalize zv F=fl,rT l=rl,zk q=pq,zk r=pr,(xO F p).map zQ=WW at *;simp[hc2,hl])
  subst g2;refine⟨xW F l p (some (.im (zk q))) (some (.own (.lst ((vt F l p (yw F p q)).map T.bl)))) none,by unfold xW;simp,?_⟩;have hbl:=Xl (vt F l p (yw F p q));generalize vt F l p (yw F p q)=SB at *;unfold oj xW at *;generalize SB.map T.bl=ST,(yw F p q).map zk=CC,bT (l.getD p [])=bt,lT=b1,t9=f1,ph=f2,F.os.map kt=OS,zv F=fl,rT l=rl,zk q=pq,(xO F p).map zQ=WW,F.os.getD p false=ow at *;generalize kt ow=ko at *;generalize (T.str "keeper")=ks,(T.str "taker")=ts,zK false=ee at *;simp only[zj] at hix hw1;cases ow with
  | true=>
   have s:=s1 rfl;simp[hix,hheld,h1,g1,hw1,ho,k1,k2,hbl,s]
  | false=>
   have s:=s2 rfl;simp[hix,hheld,h1,g1,hw1,ho,k1,k2,hbl,s]
def Mi (X:Fix F l):me [zv F,rT l]=some (.bl true):=by
 obtain⟨L,p1,p2,p3⟩:=Me X.ok;have n8:=X.ok.n8;have hr:=sa F.os.length (by omega);have hw1:=jA F;have k2:yZ [.tup (F.os.map kt)]=some (.int (F.os.length:Int)):=by simp
 have hw2:=lx F;obtain⟨J',g1,g2⟩:=vP (is:=[2,3,4,5,6]) (g:=zJ 2) (b:=jY) (λ k:Nat=>T.int (0+(k:Int))) (λ _ J=>J=[some (.im (zv F)),some (.im (rT l)),none,none,none,none,none])
   (List.range F.os.length) [some (.im (zv F)),some (.im (rT l)),none,none,none,none,none] (by simp) (by
  rintro pf p sf e J rfl;have hp:p<F.os.length:=zC1.mp (by rw[e];simp);have hc1:jU [some (.im (zv F)),some (.im (rT l)),some (.im (.int (p:Int))),none,none,none,none]=some (.lst ((xO F p).map zQ)):=by
   have:=qJ zQ (λ w=>if w.f=p then some (zQ w) else none) (pick:=[none,some 2]) (it:=xg (zb zj (zc 0) (cS (.int 2)))) (g:=zJ 0) (c:=zO (zb (zK false) (zb zj (zc 0) (cS (.int 0))) (zc 1))) (f:=zr 0) (J:=[some (.im (zv F)),some (.im (rT l)),some (.im (.int (p:Int))),none,none,none,none]) F.ws (by
    generalize zv F=fl,F.ws.map zQ=WS at *;simp only[zj] at hw2;simp[hw2]) (by have:=X.ok.uO;omega) (λ w _=>by
    by_cases c:w.f=p
    .simp[zQ,eq_int,c]
    .have c':¬ ((w.f:Int)=(p:Int)):=by omega
     simp[zQ,eq_int,c,c'])
   unfold jU;rw[this];congr 2;unfold xO
   induction F.ws with
   | nil=>rfl
   | cons a l ih=>by_cases c:a.f=p <;> simp[List.filterMap_cons,c,ih]
  have hloop:=fS (is:=[4,5,6]) (g:=zJ 4) (b:=oj) zk (λ _=>false) (.bl false) (xW F l p none none none) L (xW F l p none none none) (by unfold xW;simp) λ q hq=>Q8 X hp (p2 q hq);have hany:L.any (λ _=>false)=false:=by simp
  rw[hany,if_neg (by decide)] at hloop;refine⟨xW F l p none none none,?_,by unfold xW;simp⟩;rw[Int.zero_add];unfold turn jY;unfold xW at hloop ⊢;generalize jU=c1,oj=b2,(xO F p).map zQ=WW,L.map zk=LL,ke=f1,zv F=fl,rT l=rl at *;simp[hc1,p1,hloop])
 subst g2;unfold me WD;generalize (List.range F.os.length).map (λ k:Nat=>T.int (0+(k:Int)))=RR,jY=b3,F.os.map kt=OS,zv F=fl,rT l=rl,yZ=ln at *;simp only[zj] at hw1;simp[hw1,k2,hr,g1]
end
def pick {α:Type}{L:List α}{j:Int}(h0:0<=j) (h1:j<L.length):∃ y∈L,L2.yh L j=some y:=by
 have hl:j.toNat<L.length:=by omega
 refine⟨L[j.toNat],zD8 hl,?_⟩;have:=wF (k:=j.toNat) (zA1 hl);rw[zF2 h0] at this;exact this
section
variable {F:zE}{l:List Bd}
def QK {w:Wy}(hb:Gd F.A F.B (l.getD w.t [])) {q q':Int×Int}(h:q.1<=q'.1/\q.2<=q'.2) (hl:yO F l q w=true):yO F l q' w=true:=by
 rw[Z7 hb,yL] at *;obtain⟨p,hp,h1,h2⟩:=hl;dsimp only at h1 h2;exact⟨p,hp,by dsimp only;omega,by dsimp only;omega⟩
def OY (ok:F.Ok) {p:Nat}{q q':Int×Int}(hq:yM F q) (hq':yM F q') (h:q.1<=q'.1/\q.2<=q'.2) {k:Nat}{r:Int×Int}(hr:(yw F p q)[k]?=some r):∃ r',(yw F p q')[k]?=some r'/\r.1<=r'.1/\r.2<=r'.2:=by
 unfold yw at *;cases hs:F.stall p with
 | none=>
  rw[hs] at hr;cases k with
  | zero=>cases hr;exact⟨q',rfl,h⟩
  | succ k=>simp at hr
 | some s=>
  rw[hs] at hr;dsimp only at hr ⊢;have hs':=ok.ss s (List.mem_of_find?_eq_some hs);have hb:F.yc s.pu<=12:=by have:=ok.a1;have:=ok.b1;unfold zE.yc;split <;> assumption
  have g1:=vb (pu:=s.pu).mp hq;have g2:=vb (pu:=s.pu).mp hq';have g3:=tK (pu:=s.pu).mp h;rw[jK hs' 20 hq (by omega)] at hr;rw[jK hs' 20 hq' (by omega)];split at hr
  .rename_i hk;cases hr;refine⟨_,if_pos (by omega),tK (pu:=s.pu).mpr ?_⟩;unfold oe;rw[vx,vx,uY,uY];omega
  .cases hr
def Dd (F:zE) (l:List Bd) (p:Nat) (q:Int×Int) (k i:Nat):Prop:=∃ r w,(yw F p q)[k]?=some r/\F.ws[i]?=some w/\w.f=p/\yO F l r w=true
def Mr (X:Fix F l) (hw:∀ x<F.os.length,∃ w∈F.ws,w.f=x) {p:Nat}(hp:p<F.os.length) {q:Int×Int}(hq:yM F q) (hc:zR (l.getD p []) q=true) (num:Int):∃ k i:Nat,o4 [zv F,.lst (vg F l),.int (p:Int),zk q,.int num]=some (.tup [.int (k:Int),.int (i:Int)])/\Dd F l p q k i:=by
 have hw1:=jA F;have hw2:=lx F;have ho:=fy hp;have hkt:=ZD (F.os.getD p false);have uO:=X.ok.uO;cases hk:F.os.getD p false with
 | false=>
  rw[hk] at ho hkt;have hg:(xO F p).all (yO F l q)=true:=by
   have:=X.go p hp q hq;rw[hc] at this;unfold pV at this;rw[if_neg (by rw[hk];decide)] at this;exact this.symm
  obtain⟨n,hn⟩:∃ n,F.ws.length=n:=⟨_,rfl⟩
  have hr:=sa n (by omega);have k2:yZ [.tup (F.ws.map zQ)]=some (.int (n:Int)):=by simp[hn]
  have hc1:∃ I:List T,jT [some (.im (zv F)),some (.im (.lst (vg F l))),some (.im (.int (p:Int))),some (.im (zk q)),some (.im (.int num)),none,none]=some (.lst I)/\I≠[]/\∀ y∈I,∃ (k:Nat) (w:Wy),y=.int (k:Int)/\F.ws[k]?=some w/\w.f=p:=by
   have:=qJ (λ k:Nat=>T.int (0+(k:Int))) (λ k=>match F.ws[k]? with | some w=>if w.f=p then some (T.int (k:Int)) else none | none=>none) (pick:=[none,some 0,some 2]) (it:=vk vM (ze (zF yZ (ze (zb zj (zc 0) (cS (.int 2))) zq)) zq)) (g:=zJ 0) (c:=zO (zb (zK false) (zb zj (zb zj (zb zj (zc 1) (cS (.int 2))) (zc 0)) (cS (.int 0))) (zc 2))) (f:=zr 0) (J:=[some (.im (zv F)),some (.im (.lst (vg F l))),some (.im (.int (p:Int))),some (.im (zk q)),some (.im (.int num)),none,none]) (List.range n) (by
     generalize (List.range n).map (λ k:Nat=>T.int (0+(k:Int)))=RR,zv F=fl,F.ws.map zQ=WS,yZ=ln at *;simp only[zj] at hw2;simp[hw2,k2,hr]) (by rw[zC5];omega) (λ k hk=>by
     have hkn:k<F.ws.length:=by rw[hn];exact zC1.mp hk
     have hat:L2.yh (F.ws.map zQ) (k:Int)=some (.tup [.int F.ws[k].f,.int F.ws[k].t,.int F.ws[k].a,.int F.ws[k].b]):=wF (by rw[zA3,zA1 hkn];rfl);rw[zA1 hkn];generalize F.ws[k]=w,zv F=fl,F.ws.map zQ=WS at *;simp only[zj] at hw2;by_cases c:w.f=p
     .simp[hw2,hat,eq_int,c]
     .have c':¬ ((w.f:Int)=(p:Int)):=by omega
      simp[hw2,hat,eq_int,c,c'])
   refine⟨_,this,?_,λ y hy=>?_⟩
   .obtain⟨w,h1,h2⟩:=hw p hp;obtain⟨k,hk1,hk2⟩:=List.getElem_of_mem h1;intro h;rw[List.filterMap_eq_nil_iff] at h;have:=h k (zC1.mpr (by omega));rw[zA1 hk1,hk2] at this;simp[h2] at this
   .obtain⟨k,hk1,hk2⟩:=List.mem_filterMap.mp hy;cases hws:F.ws[k]? with
    | none=>rw[hws] at hk2;cases hk2
    | some w=>
     rw[hws] at hk2;dsimp only at hk2;split at hk2
     .rename_i hf;cases hk2;exact⟨k,w,rfl,hws,hf⟩
     .cases hk2
  obtain⟨I,i1,i2,i3⟩:=hc1;have hIl:0<I.length:=zD9.mpr i2;have m0:=zF0 num (b:=(I.length:Int)) (by omega);have m1:=zF1 num (b:=(I.length:Int)) (by omega);obtain⟨y,y1,y2⟩:=pick m0 m1;obtain⟨k,w,rfl,g2,g3⟩:=i3 y y1;refine⟨0,k,?_,q,w,jJ F p q,g2,g3,zE4.mp hg w (zC8.mpr ⟨zB7 g2,by simp[g3]⟩)⟩;have kl:yZ [.lst I]=some (.int (I.length:Int)):=by simp
  have hI':(0:Int)<(I.length:Int):=by omega
  unfold o4 cQ;generalize jT=c1,lK=c2,(I.length:Int)=il,F.os.map kt=OS,zv F=fl,vg F l=tt,zk q=pq,kt false=kf,(T.str "taker")=ts,zK false=ee,yZ=ln at *;simp only[zj] at hw1;simp[hw1,ho,hkt,i1,kl,hI',y2]
 | true=>
  rw[hk] at ho hkt;have hrow:L2.yh (vg F l) (p:Int)=some (.tup ((l.getD p []).map (wL F l p))):=by
   have:L2.yh (vg F l) (p:Int)=some (wA F l p):=wF (by unfold vg;rw[zA3,List.getElem?_range hp];rfl);rw[this];unfold wA;rw[if_pos hk]
  have hsz:=X.b5 hp;have hc2:lK [some (.im (zv F)),some (.im (.lst (vg F l))),some (.im (.int (p:Int))),some (.im (zk q)),some (.im (.int num)),none,none]=some (.lst (((l.getD p []).filter (xh q)).map (wL F l p))):=by
   have:=qJ (wL F l p) (λ b=>if xh q b=true then some (wL F l p b) else none) (pick:=[none,some 3]) (it:=xg (zb zj (zc 1) (zc 2))) (g:=zJ 0) (c:=vU (zO (zb vT (zb zj (zc 1) (cS (.int 0))) (zb zj (zb zj (zc 0) (cS (.int 0))) (cS (.int 0))))) (zO (zb vT (zb zj (zc 1) (cS (.int 1))) (zb zj (zb zj (zc 0) (cS (.int 0))) (cS (.int 1)))))) (f:=zr 0) (J:=[some (.im (zv F)),some (.im (.lst (vg F l))),some (.im (.int (p:Int))),some (.im (zk q)),some (.im (.int num)),none,none]) (l.getD p []) (by
     generalize (l.getD p []).map (wL F l p)=RR,vg F l=tt,zv F=fl,zk q=pq at *;simp[hrow]) (by omega) (λ b hb=>by
     unfold wL zk;by_cases h1:b.1<=q.1 <;> by_cases h2:b.2<=q.2 <;> simp[xh,h1,h2])
   unfold lK;rw[this,lu]
  obtain⟨b0,hb0,hb1⟩:=yL.mp hc;have hb2:xh q b0=true:=by unfold xh;rw[decide_eq_true hb1.1,decide_eq_true hb1.2];rfl
  have hIne:((l.getD p []).filter (xh q)).map (wL F l p)≠[]:=by
   intro h;have:=List.map_eq_nil_iff.mp h;have hm:b0∈(l.getD p []).filter (xh q):=zC8.mpr ⟨hb0,hb2⟩;rw[this] at hm;cases hm
  have hdep:dep (.lst (((l.getD p []).filter (xh q)).map (wL F l p)))<=60:=by
   have:=lC (wL F l p) 2 (λ q=>by simp[wL,zk,dep,yH]) ((l.getD p []).filter (xh q));show 1+yH _<=60;omega
  have hI3:∀ y∈((l.getD p []).filter (xh q)).map (wL F l p),∃ b∈l.getD p [],xh q b=true/\y=wL F l p b:=λ y hy=>by
   obtain⟨b,h1,h2⟩:=zB0.mp hy;obtain⟨h3,h4⟩:=zC8.mp h1;exact⟨b,h3,h4,h2.symm⟩
  generalize ((l.getD p []).filter (xh q)).map (wL F l p)=I at *;have hIl:0<I.length:=zD9.mpr hIne;have m0:=zF0 num (b:=(I.length:Int)) (by omega);have m1:=zF1 num (b:=(I.length:Int)) (by omega);obtain⟨y,y1,y2⟩:=pick m0 m1;obtain⟨b,b1,b2,rfl⟩:=hI3 y y1;obtain⟨hbi,hbd⟩:=X.YC hp hk b1;obtain⟨_,r,w,g1,g2,g3,g4⟩:=YA hbd;rw[Nat.sub_zero] at g1;have hble:b.1<=q.1/\b.2<=q.2:=by
   unfold xh at b2;rw[zE5] at b2;exact⟨of_decide_eq_true b2.1,of_decide_eq_true b2.2⟩
  obtain⟨r',g5,g6⟩:=OY X.ok hbi hq hble g1;refine⟨(sQ F l p b).1,(sQ F l p b).2,?_,r',w,g5,g2,g3,QK (X.at (X.ok.ws w (zB7 g2)).2) g6 g4⟩;have kl:yZ [.lst I]=some (.int (I.length:Int)):=by simp
  have hI':(0:Int)<(I.length:Int):=by omega
  have he:zK false (.lst I) (.lst [])=some (.bl false):=by
   unfold zK;rw[if_pos ⟨hdep,by simp[dep,yH]⟩];cases I with
   | nil=>exact absurd rfl hIne
   | cons _ _=>simp[eqT,we]
  have hcut:e_ (some 1) none (wL F l p b)=some (.tup [.int ((sQ F l p b).1:Int),.int ((sQ F l p b).2:Int)]):=rfl;unfold wL at hcut y2;generalize ((sQ F l p b).1:Int)=d1,((sQ F l p b).2:Int)=d2 at *;replace hcut:uf [zk b,.int d1,.int d2] (some 1) none=[.int d1,.int d2]:=rfl;unfold o4 cQ;generalize jT=c1,lK=c2,(I.length:Int)=il,F.os.map kt=OS,zv F=fl,vg F l=tt,zk q=pq,zk b=pb,kt true=kf,(T.str "taker")=ts,zK false=ee,yZ=ln at *;simp only[zj] at hw1;simp[hw1,ho,hkt,hc2,he,kl,hI',y2,hcut]
end
section
variable {F:zE}{l:List Bd}
def VL (ok:F.Ok) {r r':Int×Int}{w:Wy}(h:tB F r w=some r'):yM F r':=by
 unfold tB at h;split at h
 .cases h
 .rename_i hn;cases h;have:=ok.a0;have:=ok.b0;exact⟨⟨by show (0:Int)<=min _ _;omega,by show min _ _<=_;omega⟩,by show (0:Int)<=min _ _;omega,by show min _ _<=_;omega⟩
noncomputable def qx (ns:List Int) (F:zE) (l:List Bd) (p:Nat) (q:T) (v6 v7 v8:Option L5.W):Ev:=[some (.im (yi ns)),some (.im (zv F)),some (.im (rT l)),some (.im (.lst (vg F l))),some (.im (.int (p:Int))),some (.im q),v6,v7,v8]
def Tf (mw:T->T->Option T) (M:Int) (X:Fix F l) (hw:∀ x<F.os.length,∃ w∈F.ws,w.f=x) (ns:List Int) {p:Nat}(hp:p<F.os.length) {q:Int×Int}(hq:yM F q) (hc:zR (l.getD p []) q=true) (c:Int) (hm:mw (.int 10) (.int 40)=some (.int M)) (hM:0<M) (bb:Sm) (hbb:bb=(zy (zL 7 (zF o4 (ze (zr 1) (ze (zr 3) (ze (zr 4) (ze (zr 5) (ze (zb yj (zc 6) (zb mw (cS (.int 10)) (cS (.int 40)))) zq)))))))
 (zy (yC (zO (zb (xI false) (zc 7) (cS .zp))) (retS (cS (.bl false))) yB)
 (zy (zL 8 (zF ph (ze (zr 1) (ze (zr 4) (ze (zr 5) zq)))))
 (zy (yC (sO (zO (zb vT (zb zj (zc 7) (cS (.int 0))) (zF yZ (ze (zc 8) zq)))) (zO (zb (zK true) (zb zj (zb zj (zb zj (zc 1) (cS (.int 2))) (zb zj (zc 7) (cS (.int 1)))) (cS (.int 0))) (zc 4)))) (retS (cS (.bl false))) yB)
 (zy (zL 5 (zF qh (ze (zr 1) (ze (zb zj (zc 8) (zb zj (zc 7) (cS (.int 0)))) (ze (zb zj (zb zj (zc 1) (cS (.int 2))) (zb zj (zc 7) (cS (.int 1)))) zq)))))
 (zy (zL 4 (zb zj (zb zj (zb zj (zc 1) (cS (.int 2))) (zb zj (zc 7) (cS (.int 1)))) (cS (.int 1))))
 (yC (sO (zO (zb (xI false) (zc 5) (cS .zp))) (qS (w9 (zF t9 (ze (zb zj (zc 2) (zc 4)) (ze (zr 5) zq)))))) (retS (cS (.bl false))) yB)))))))):
  ∃ (p':Nat) (q':Int×Int) (v7 v8:Option L5.W),turn (zJ 6) bb (.int c) (qx ns F l p (zk q) none none none)=some (.nx (qx ns F l p' (zk q') (some (.im (.int c))) v7 v8))/\p'<F.os.length/\yM F q'/\zR (l.getD p' []) q'=true:=by
 obtain⟨k,i,h1,r,w,g1,g2,g3,g4⟩:=Mr X hw hp hq hc (c%M);have hws:=X.ok.ws w (zB7 g2);have h2:=XF X.ok X.pw p hq;have h3:=XG F r w;unfold yO at g4;cases hs:tB F r w with
 | none=>rw[hs] at g4;cases g4
 | some r'=>
  rw[hs] at g4 h3;dsimp only at g4;simp only[xT] at h3;refine⟨w.t,r',some (.im (.tup [.int (k:Int),.int (i:Int)])),some (.im (.lst ((yw F p q).map zk))),?_,hws.2,VL X.ok hs,g4⟩;have h4:=cD (bT (l.getD w.t [])) (l.getD w.t []) r' rfl;rw[g4] at h4;have h5:=sE l w.t (by rw[X.len];exact hws.2);have h6:L2.yh ((yw F p q).map zk) (k:Int)=some (zk r):=wF (by rw[zA3,g1];rfl);have h7:L2.yh (F.ws.map zQ) (i:Int)=some (zQ w):=wF (by rw[zA3,g2];rfl);have h8:zj (zQ w) (.int 0)=some (.int (p:Int)):=by simp[zQ,g3]
  have h9:zj (zQ w) (.int 1)=some (.int (w.t:Int)):=by simp[zQ]
  have hw2:=lx F;have k1:yZ [.lst ((yw F p q).map zk)]=some (.int ((yw F p q).length:Int)):=by simp
  have l1:¬ ((yw F p q).length:Int)<=(k:Int):=by
   have:=(zA2.mp g1).1;omega
  have e2:zK true (.int (p:Int)) (.int (p:Int))=some (.bl false):=by simp[eq_int]
  have i1:xI false (.tup [.int (k:Int),.int (i:Int)]) .zp=some (.bl false):=rfl;have i2:xI false (zk r') .zp=some (.bl false):=rfl;unfold turn;subst hbb;unfold qx;generalize ((yw F p q).length:Int)=cl,(yw F p q).map zk=CC,F.ws.map zQ=WS,bT (l.getD w.t [])=bt,o4=f1,ph=f2,qh=f3,t9=f4,vg F l=tt,zv F=fl,rT l=rl,yi ns=sc,zQ w=wt,zk r'=pr' at *;generalize zk r=pr at *;generalize zk q=pq,yZ=ln,zK true=ee,xI false=si at *;simp only[zj] at hw2 h5 h8 h9;simp[hm,hM,h1,i1,h2,k1,l1,hw2,h7,h8,h9,e2,h6,h3,i2,h5,h4]
def Tg (X:Fix F l) (hw:∀ x<F.os.length,∃ w∈F.ws,w.f=x) (ns:List Int) {p:Nat}(hp:p<F.os.length) {q:Int×Int}(hq:yM F q) (hc:zR (l.getD p []) q=true) (c:Int):
  ∃ (p':Nat) (q':Int×Int) (v7 v8:Option L5.W),turn (zJ 6) lS (.int c) (qx ns F l p (zk q) none none none)=some (.nx (qx ns F l p' (zk q') (some (.im (.int c))) v7 v8))/\p'<F.os.length/\yM F q'/\zR (l.getD p' []) q'=true:=by
 have hm:mF (.int 10) (.int 40)=some (.int (10 ^ 40)):=by
  have:pz 10 40:=by decide
  simp[this]
 exact Tf mF (10 ^ 40) X hw ns hp hq hc c hm (by decide) lS rfl
def Md (X:Fix F l) (hw:∀ x<F.os.length,∃ w∈F.ws,w.f=x) (ns:List Int) {p:Nat}(hp:p<F.os.length) {q:Int×Int}(hq:yM F q) (hc:zR (l.getD p []) q=true):n_ [yi ns,zv F,rT l,.lst (vg F l),.int (p:Int),zk q]=some (.bl true):=by
 obtain⟨cs,hcs⟩:∃ cs:List Int,uf (ns.map T.int) (some 39) (some 63)=cs.map T.int:=by
  unfold uf;rw[<- List.map_drop,<- List.map_take];exact⟨_,rfl⟩
 obtain⟨J',g1,p',q',g2,_⟩:=vP (is:=[6,7,8]) (g:=zJ 6) (b:=lS) T.int (λ _ J=>∃ (p:Nat) (q:Int×Int),J=qx ns F l p (zk q) none none none/\p<F.os.length/\yM F q/\zR (l.getD p []) q=true)
   cs (qx ns F l p (zk q) none none none) ⟨p,q,rfl,hp,hq,hc⟩ (by
  rintro pf c sf e J ⟨p,q,rfl,u1,u2,u3⟩;obtain⟨p',q',v7,v8,g1,g2⟩:=Tg X hw ns u1 u2 u3 c;exact⟨_,g1,p',q',rfl,g2⟩)
 subst g2;have hsc:yi ns=.lst (ns.map T.int):=rfl;unfold n_ W5;unfold qx at g1;rw[hsc] at g1 ⊢;generalize ns.map T.int=NS,cs.map T.int=CS,lS=bb,vg F l=tt,zv F=fl,rT l=rl,zk q=pq at *;generalize zk q'=pq' at *;simp[hcs,g1]
def Qv (b:Bd):zK true (bT b) (.tup [])=some (.bl (decide (b≠[]))):=Zp b []
end
def QP (ns:List Int) (_:ns.length<=63):o5 [yi ns]=some (.bl true):=by
 obtain⟨F,h1,ok,hw,hpw⟩:=Mm ns;obtain⟨more,hr,hn,hm,hR⟩:=Mc ok;have n1:=ok.n1;have n8:=ok.n8;have hne:List.range F.os.length≠[]:=λ h=>by
  have h2:=congrArg List.length h;rw[zC5] at h2;rw[h2] at n1;exact absurd n1 (by decide)
 obtain⟨m,e,hst⟩:=bZ ok hw 2000 [] 0 (List.range F.os.length) _ (St.start ok) hne rfl hR;have e':RN.start F::more=(List.range m).map (xq F)++[xq F m]:=by rw[e,List.range_succ,zE7];rfl
 rw[e'] at hr hn;have X:Fix F (xq F m):=Oc ok hpw (hn (xq F m) (by simp)).2 hst;have hB:=M1 hr;have hT:=NZ X hB;have hL:=Mi X;generalize xq F m=l at *;have hrg:=sa F.os.length (by omega);have k1:yZ [rT l]=some (.int (F.os.length:Int)):=by simp[rT,X.len]
 have hc1:lN [some (.im (yi ns)),some (.im (zv F)),some (.im (rT l)),none,none,none,none,none,none]=some (.lst (((List.range F.os.length).filter λ p=>decide (l.getD p []≠[])).map λ p:Nat=>T.int (p:Int))):=by
  have:=qJ (λ k:Nat=>T.int (0+(k:Int))) (λ p=>if decide (l.getD p []≠[])=true then some (T.int (p:Int)) else none) (pick:=[none,some 2]) (it:=vk vM (ze (zF yZ (ze (zc 2) zq)) zq)) (g:=zJ 0) (c:=zO (zb (zK true) (zb zj (zc 1) (zc 0)) (tupS zq))) (f:=zr 0) (J:=[some (.im (yi ns)),some (.im (zv F)),some (.im (rT l)),none,none,none,none,none,none]) (List.range F.os.length) (by
    generalize (List.range F.os.length).map (λ k:Nat=>T.int (0+(k:Int)))=RR,yZ=ln,rT l=rl at *;simp[k1,hrg]) (by rw[zC5];omega) (λ p hp=>by
    have hix:=sE l p (by rw[X.len];exact zC1.mp hp);have hq:=Qv (l.getD p []);generalize l.getD p []=b at *;generalize bT b=bt at *;generalize rT l=rl,zK true=ee at *;simp only[zj] at hix;by_cases c:b=[] <;> simp[hix,hq,c])
  unfold lN;rw[this,lu]
 have hIm:∀ y∈((List.range F.os.length).filter λ p=>decide (l.getD p []≠[])).map λ p:Nat=>T.int (p:Int),∃ p:Nat,y=.int (p:Int)/\p<F.os.length/\l.getD p []≠[]:=λ y hy=>by
  obtain⟨p,h2,rfl⟩:=zB0.mp hy;obtain⟨h3,h4⟩:=zC8.mp h2;exact⟨p,rfl,zC1.mp h3,of_decide_eq_true h4⟩
 have hdep:dep (.lst (((List.range F.os.length).filter λ p=>decide (l.getD p []≠[])).map λ p:Nat=>T.int (p:Int)))<=60:=by
  have:=lC (λ p:Nat=>T.int (p:Int)) 0 (λ _=>by simp[dep]) ((List.range F.os.length).filter λ p=>decide (l.getD p []≠[]));show 1+yH _<=60;omega
 generalize ((List.range F.os.length).filter λ p=>decide (l.getD p []≠[])).map (λ p:Nat=>T.int (p:Int))=I at *;clear hrg k1;cases hI:I with
 | nil=>
  subst hI;have he:zK false (.lst []) (.lst [])=some (.bl true):=by simp[zK,dep,yH,eqT,we]
  unfold o5 cT;generalize lN=c1,o3=f1,qk=f2,me=f3,n_=f4,zv F=fl,rT l=rl,yi ns=sc,zK false=ee at *;simp[h1,hB,hL,hc1,he]
 | cons i0 I0=>
  have he:zK false (.lst I) (.lst [])=some (.bl false):=by
   unfold zK;rw[if_pos ⟨hdep,by simp[dep,yH]⟩,hI];simp[eqT,we]
  have hIl:0<I.length:=by rw[hI];simp
  clear hI;have c36:xn [yi ns,.int 36]=some (.int (cell ns 36)):=qj ns 36;have c37:xn [yi ns,.int 37]=some (.int (cell ns 37)):=qj ns 37;have c38:xn [yi ns,.int 38]=some (.int (cell ns 38)):=qj ns 38;generalize cell ns 36=x36,cell ns 37=x37,cell ns 38=x38 at *;have m0:=zF0 x36 (b:=(I.length:Int)) (by omega);have m1:=zF1 x36 (b:=(I.length:Int)) (by omega);obtain⟨y,y1,y2⟩:=pick m0 m1;obtain⟨p,rfl,hp,hb⟩:=hIm y y1;have hix:=sE l p (by rw[X.len];exact hp);have hgd:=X.at hp;have hbl:0<(l.getD p []).length:=zD9.mpr hb;have b0:=zF0 x37 (b:=((l.getD p []).length:Int)) (by omega);have b1:=zF1 x37 (b:=((l.getD p []).length:Int)) (by omega);obtain⟨xy,z1,z2⟩:=pick b0 b1;have hat:L2.yh ((l.getD p []).map zk) (x37%((l.getD p []).length:Int))=some (.tup [.int xy.1,.int xy.2]):=by
   obtain⟨yy,q1,q2⟩:=pick (L:=(l.getD p []).map zk) b0 (by rw[zA7];exact b1);have hj:(x37%((l.getD p []).length:Int)).toNat<(l.getD p []).length:=by omega
   have e1:=wF (k:=(x37%((l.getD p []).length:Int)).toNat) (zA1 hj);rw[zF2 b0,z2] at e1;have e2:((l.getD p []).map zk)[(x37%((l.getD p []).length:Int)).toNat]?=some (zk (l.getD p [])[(x37%((l.getD p []).length:Int)).toNat]):=by rw[zA3,zA1 hj];rfl
   have e3:=wF e2;rw[zF2 b0] at e3;rw[e3,<- zD5 e1];rfl
  have hin:=hgd.wy xy z1;have hA:0<F.A-xy.1+1:=by omega
  have hBp:0<F.B-xy.2+1:=by omega
  have d13:wK x38 13:=⟨by decide,by decide⟩
  have t0:=zF0 x38 (b:=F.A-xy.1+1) (by omega);have t1:=zF1 x38 hA;have u0:=zF0 (x38/13) (b:=F.B-xy.2+1) (by omega);have u1:=zF1 (x38/13) hBp;have hpl:=Md X hw ns hp (q:=(xy.1+x38%(F.A-xy.1+1),xy.2+x38/13%(F.B-xy.2+1))) ⟨⟨by show (0:Int)<=xy.1+_;omega,by show xy.1+_<=F.A;omega⟩,by show (0:Int)<=xy.2+_;omega,by show xy.2+_<=F.B;omega⟩ (yL.mpr ⟨xy,z1,by show xy.1<=xy.1+_;omega,by show xy.2<=xy.2+_;omega⟩);have kl:yZ [.lst I]=some (.int (I.length:Int)):=by simp
  have kb:yZ [bT (l.getD p [])]=some (.int ((l.getD p []).length:Int)):=by simp[bT]
  have hbt:wZ (bT (l.getD p []))=some ((l.getD p []).map zk):=rfl;have hI':(0:Int)<(I.length:Int):=by omega
  have hb':(0:Int)<((l.getD p []).length:Int):=by omega
  have hw0:=ny F;have hpq:zk (xy.1+x38%(F.A-xy.1+1),xy.2+x38/13%(F.B-xy.2+1))=.tup [.int (xy.1+x38%(F.A-xy.1+1)),.int (xy.2+x38/13%(F.B-xy.2+1))]:=rfl;rw[hpq] at hpl;unfold o5 cT;generalize (l.getD p []).map zk=BB,((l.getD p []).length:Int)=bl,bT (l.getD p [])=bt,(I.length:Int)=il,lN=c1,o3=f1,qk=f2,me=f3,n_=f4,ka=f5,xn=f6,vg F l=tt,zv F=fl,rT l=rl,yi ns=sc,zK false=ee,yZ=ln at *;simp only[zj] at hix hw0;simp[h1,hB,hL,hc1,he,c36,kl,hI',y2,hix,c37,kb,hb',hbt,hat,c38,hw0,hA,hBp,d13,hT,hpl]
end yx
namespace PySem.W.Fast
def te17918884855002411239:=0
def tw9736636960317997393:=0
def tw14719435017587381994:=0
def tw10455438799591706768:=0
def tw9571539169353433276:=0
def tw17660027229599905196:=0
def tw58407782775823946:=0
def tw14230399175440653314:=0
def tw12215767570196647212:=0
def tw8867076081205278569:=0
def tw9822939958354727947:=0
def tw2920663210354857613:=0
def tw7220770314250421457:=0
def tw2324276412089144139:=0
def tw12411189734036698225:=0
def tw15146242827579198822:=0
def tw5263764216167340485:=0
def tw12186949109166259836:=0
def tw17470179978073889960:=0
def tw9999100794123751323:=0
def tw3302171533478549352:=0
def tw10916320987105913737:=0
def tw15003813246059887170:=0
def tw3213334439483988086:=0
def tw9729424334204065858:=0
def tw7755392359537412395:=0
def tw2240377147535156887:=0
def tw11906852415570566784:=0
def tw16666907421061550927:=0
def tw2489197999366573719:=0
def tw11644249661874275256:=0
def tw10532780738004352328:=0
def tw558628685956236068:=0
def tw11335244874226987060:=0
def tw4296919242105385042:=0
def tw7296670960751252252:=0
def tw1860317268107860777:=0
def tw8285608898630994091:=0
def tw17917057918588958924:=0
def tw4208334048610005943:=0
def tw3798663165937198681:=0
def tw6033858902289265416:=0
def tw17435283654557967649:=0
def tw11201659391792452357:=0
def tw7478438124925521490:=0
def tw4519784016120156154:=0
def tw8641068881466350675:=0
def tw15383979788955901194:=0
def tw17870166706041116238:=0
def tw5261314651524523649:=0
def tw6474470581523690583:=0
def tw8464757714381865970:=0
def tw6272685292709930256:=0
def tw7856711637309597678:=0
def tw14734518285362793701:=0
def tw13638064809325919153:=0
def tw4465829725008306572:=0
def tw2743613421322713915:=0
def tw179113484927143468:=0
def tw9766413930194373841:=0
def tw5896130034515929888:=0
def tw15055232240349261286:=0
def tw4069247747938297207:=0
def tw17508567479746845876:=0
def tw17762178894320818515:=0
def tw8911469499126924113:=0
def tw7283333740233602764:=0
def tw10617724827147479040:=0
def tw17831244980599358776:=0
def tw7836862583029303634:=0
def tw11661129018687819391:=0
def tw10146945697526662147:=0
def tw13974713729943242360:=0
def tw5245546685193096496:=0
def tw17343205725053166303:=0
def tw17590079807865825920:=0
def tw10573160184381843701:=0
def tw5498288618062556475:=0
def tw12011439764392618672:=0
def tw1098109616844764427:=0
def tw17961351889638139626:=0
def tw8737389008310335664:=0
def tw18004869855443120209:=0
def tw6229232610538233393:=0
def tw10925425702045365542:=0
end PySem.W.Fast
namespace yx
open PySem L2 L3 L5
open PyProof.Rows hiding St
def yu (i:Nat):Stmt:=PySem.Challenge.pw_purseborder_k44_whole_enough_for_ever.main.body.getD i (.Pass ⟨0,0,0,0⟩)
abbrev gF:Stmt:=yu 5
abbrev gE:Stmt:=yu 6
abbrev gm:Stmt:=yu 7
abbrev gI:Stmt:=yu 8
abbrev kO:Stmt:=yu 9
abbrev gk:Stmt:=yu 10
abbrev gP:Stmt:=yu 12
abbrev gq:Stmt:=yu 13
abbrev kW:Stmt:=yu 14
abbrev m5:Stmt:=yu 15
abbrev gG:Stmt:=yu 16
abbrev m6:Stmt:=yu 18
abbrev gp:Stmt:=yu 19
abbrev gO:Stmt:=yu 20
abbrev gM:Stmt:=yu 21
abbrev gN:Stmt:=yu 22
abbrev my:Stmt:=yu 23
abbrev kS:Stmt:=yu 24
abbrev kR:Stmt:=yu 25
abbrev gj:Stmt:=yu 27
abbrev gJ:Stmt:=yu 28
abbrev gK:Stmt:=yu 29
abbrev gL:Stmt:=yu 31
abbrev gr:Stmt:=yu 32
abbrev gH:Stmt:=yu 33
abbrev kQ:Stmt:=yu 34
abbrev kP:Stmt:=yu 35
abbrev gB:Stmt:=yu 37
abbrev g9:Stmt:=yu 38
abbrev gC:Stmt:=yu 39
abbrev gz:Stmt:=yu 40
abbrev gs:Stmt:=yu 41
abbrev gu:Stmt:=yu 42
abbrev g8:Stmt:=yu 43
abbrev gD:Stmt:=yu 44
abbrev gA:Stmt:=yu 45
abbrev g7:Stmt:=yu 46
abbrev kT:Stmt:=yu 47
abbrev gw:Stmt:=yu 48
abbrev m4:Stmt:=yu 49
abbrev mz:Stmt:=yu 50
abbrev gy:Stmt:=yu 51
abbrev kU:Stmt:=yu 52
def Uo:yr ["thing"] ["thing"] (zN gF):=⟨rfl,rfl,rfl,by decide +kernel,rfl,by decide +kernel,by decide +kernel⟩
def Uj:yr ["floor"] ["floor"] (zN gm):=⟨rfl,rfl,rfl,by decide +kernel,rfl,by decide +kernel,by decide +kernel⟩
def Uu:yr ["pair","other"] ["pair","other"] (zN gP):=⟨rfl,rfl,rfl,by decide +kernel,rfl,by decide +kernel,by decide +kernel⟩
def hX:yr ["pairs","least","pair"] ["pairs"] (zN gq):=⟨rfl,rfl,rfl,by decide +kernel,rfl,by decide +kernel,by decide +kernel⟩
def pB:yr ["brims","stall","pair","purse","pairs","given","got"] ["brims","stall","pair"] (zN gp):=⟨rfl,rfl,rfl,by decide +kernel,rfl,by decide +kernel,by decide +kernel⟩
def kJ:yr ["floor","pair","way","coins","first","second"] ["floor","pair","way"] (zN gj):=⟨rfl,rfl,rfl,by decide +kernel,rfl,by decide +kernel,by decide +kernel⟩
def kK:yr ["brims","stall","pair","times","purse","left","got"] ["brims","stall","pair","times"] (zN gJ):=⟨rfl,rfl,rfl,by decide +kernel,rfl,by decide +kernel,by decide +kernel⟩
def Ul:yr ["_law_script","_law_k"] ["_law_script","_law_k"] (zN gB):=⟨rfl,rfl,rfl,by decide +kernel,rfl,by decide +kernel,by decide +kernel⟩
def Uk:yr ["_law_number"] ["_law_number"] (zN g9):=⟨rfl,rfl,rfl,by decide +kernel,rfl,by decide +kernel,by decide +kernel⟩
def gi:yr ["_law_floor_here","_law_pair","_law_way","_law_first","_law_second"] ["_law_floor_here","_law_pair","_law_way"] (zN gD):=⟨rfl,rfl,rfl,by decide +kernel,rfl,by decide +kernel,by decide +kernel⟩
def pD:yr ["_law_floor_here","_law_place","_law_pair","_law_found","_law_home","_law_purse","_law_give","_law_get","_law_coins_here"] ["_law_floor_here","_law_place","_law_pair"] (zN gA):=⟨rfl,rfl,rfl,by decide +kernel,rfl,by decide +kernel,by decide +kernel⟩
def h_:yr ["_law_border","_law_pair","_law_x","_law_y"] ["_law_border","_law_pair"] (zN g7):=⟨rfl,rfl,rfl,by decide +kernel,rfl,by decide +kernel,by decide +kernel⟩
def hZ:yr ["_law_floor_here","_law_found","_law_x"] ["_law_floor_here"] (zN kT):=⟨rfl,rfl,rfl,by decide +kernel,rfl,by decide +kernel,by decide +kernel⟩
def gf:yr ["_law_floor_here","_law_rows","_law_place","_law_pair","_law_number","_law_ways_here","_law_some"] ["_law_floor_here","_law_rows","_law_place","_law_pair","_law_number"] (zN mz):=⟨rfl,rfl,rfl,by decide +kernel,rfl,by decide +kernel,by decide +kernel⟩
def Um:yr ["thing","least","most"] ["thing","least","most"] (zN gE):=⟨rfl,rfl,rfl,by decide +kernel,rfl,by decide +kernel,by decide +kernel⟩
def Uq:yr ["border","pair"] ["border","pair"] (zN kW):=⟨rfl,rfl,rfl,by decide +kernel,rfl,by decide +kernel,by decide +kernel⟩
def pF:yr ["border","other","steps","lows","shared","first","side","second"] ["border","other"] (zN m5):=⟨rfl,rfl,rfl,by decide +kernel,rfl,by decide +kernel,by decide +kernel⟩
def Ur:yr ["border","other"] ["border","other"] (zN gG):=⟨rfl,rfl,rfl,by decide +kernel,rfl,by decide +kernel,by decide +kernel⟩
def bR:yr ["brims","way","border","pairs"] ["brims","way","border"] (zN m6):=⟨rfl,rfl,rfl,by decide +kernel,rfl,by decide +kernel,by decide +kernel⟩
def gh:yr ["_law_script","_law_many","_law_number","_law_found"] ["_law_script","_law_many"] (zN gC):=⟨rfl,rfl,rfl,by decide +kernel,rfl,by decide +kernel,by decide +kernel⟩
def mx:yr ["_law_script","_law_many","_law_number","_law_found","_law_place"] ["_law_script","_law_many"] (zN gz):=⟨rfl,rfl,rfl,by decide +kernel,rfl,by decide +kernel,by decide +kernel⟩
def uQ:yr ["_law_script","_law_many","_law_number","_law_wide","_law_found","_law_place","_law_size","_law_k","_law_at","_law_drawn","_law_rest"] ["_law_script","_law_many"] (zN gs):=⟨rfl,rfl,rfl,by decide +kernel,rfl,by decide +kernel,by decide +kernel⟩
def pC:yr ["_law_script","_law_owners_here","_law_found","_law_place","_law_drawn","_law_rest","_law_give","_law_get"] ["_law_script","_law_owners_here"] (zN gu):=⟨rfl,rfl,rfl,by decide +kernel,rfl,by decide +kernel,by decide +kernel⟩
def bP:yr ["_law_floor_here","_law_told","_law_pair","_law_way","_law_behind_here"] ["_law_floor_here","_law_told","_law_pair","_law_way"] (zN gw):=⟨rfl,rfl,rfl,by decide +kernel,rfl,by decide +kernel,by decide +kernel⟩
def oK:yr ["_law_script","_law_floor_here","_law_told","_law_rows","_law_place","_law_pair","_law_cell_here","_law_deed_here","_law_held_here"] ["_law_script","_law_floor_here","_law_told","_law_rows","_law_place","_law_pair"] (zN gy):=⟨rfl,rfl,rfl,by decide +kernel,rfl,by decide +kernel,by decide +kernel⟩
def Us:yr ["floor","place"] ["floor","place"] (zN gI):=⟨rfl,rfl,rfl,by decide +kernel,rfl,by decide +kernel,by decide +kernel⟩
def kL:yr ["borders","joined","border"] ["borders"] (zN gM):=⟨rfl,rfl,rfl,by decide +kernel,rfl,by decide +kernel,by decide +kernel⟩
def kM:yr ["borders","joined","border"] ["borders"] (zN gN):=⟨rfl,rfl,rfl,by decide +kernel,rfl,by decide +kernel,by decide +kernel⟩
def bO:yr ["floor","pair","way","held","behind"] ["floor","pair","way","held"] (zN gr):=⟨rfl,rfl,rfl,by decide +kernel,rfl,by decide +kernel,by decide +kernel⟩
def qv:yr ["_law_script","_law_number","_law_many","_law_owners_here","_law_brims_here","_law_ways_here","_law_stalls_here"] ["_law_script"] (zN g8):=⟨rfl,rfl,rfl,by decide +kernel,rfl,by decide +kernel,by decide +kernel⟩
def oM:yr ["_law_floor_here","_law_told","_law_place","_law_ways_here","_law_pair","_law_safe_here","_law_held_here"] ["_law_floor_here","_law_told"] (zN m4):=⟨rfl,rfl,rfl,by decide +kernel,rfl,by decide +kernel,by decide +kernel⟩
def Uh:yr ["floor","place"] ["floor","place"] (zN kO):=⟨rfl,rfl,rfl,by decide +kernel,rfl,by decide +kernel,by decide +kernel⟩
def bN:yr ["floor","place","stall"] ["floor","place"] (zN gk):=⟨rfl,rfl,rfl,by decide +kernel,rfl,by decide +kernel,by decide +kernel⟩
def kN:yr ["floor","place","border","stall","pairs","pair"] ["floor","place","border"] (zN gO):=⟨rfl,rfl,rfl,by decide +kernel,rfl,by decide +kernel,by decide +kernel⟩
def bQ:yr ["floor","place","pair","times","stall"] ["floor","place","pair","times"] (zN gK):=⟨rfl,rfl,rfl,by decide +kernel,rfl,by decide +kernel,by decide +kernel⟩
def hV:yr ["floor","place","last","ways","ahead"] ["floor","place","last"] (zN my):=⟨rfl,rfl,rfl,by decide +kernel,rfl,by decide +kernel,by decide +kernel⟩
def pE:yr ["floor","place","pair","held","ways","times","ready","way"] ["floor","place","pair","held"] (zN gH):=⟨rfl,rfl,rfl,by decide +kernel,rfl,by decide +kernel,by decide +kernel⟩
def hJ:yr ["floor","last","fresh","following","place"] ["floor","last","fresh"] (zN kS):=⟨rfl,rfl,rfl,by decide +kernel,rfl,by decide +kernel,by decide +kernel⟩
def Ui:yr ["floor","place","held"] ["floor","place","held"] (zN kQ):=⟨rfl,rfl,rfl,by decide +kernel,rfl,by decide +kernel,by decide +kernel⟩
def oJ:yr ["floor","told","fresh","last","following"] ["floor"] (zN kR):=⟨rfl,rfl,rfl,by decide +kernel,rfl,by decide +kernel,by decide +kernel⟩
def Ut:yr ["floor"] ["floor"] (zN gL):=⟨rfl,rfl,rfl,by decide +kernel,rfl,by decide +kernel,by decide +kernel⟩
def bM:yr ["floor","held"] ["floor"] (zN kP):=⟨rfl,rfl,rfl,by decide +kernel,rfl,by decide +kernel,by decide +kernel⟩
def rC:yr ["_law_script","_law_floor_here","_law_told","_law_some","_law_place","_law_x","_law_y","_law_cell_here","_law_pair"] ["_law_script"] (zN kU):=⟨rfl,rfl,rfl,by decide +kernel,rfl,by decide +kernel,by decide +kernel⟩
section
variable (P:Program) (w:World) (K:zFr) (mg:Str->Option Value) (base:Heap)
abbrev Wf:=FD P w K mg base "is_whole" 1 ["thing"] (yf zV iC)
abbrev iE:=FD P w K mg base "places_of" 1 ["floor"] (yf zV qe)
abbrev cK:=FD P w K mg base "at_or_above" 1 ["pair","other"] (yf zV mj)
abbrev ku:=FD P w K mg base "least_pairs" 1 ["pairs"] (yf zV qf)
abbrev XO:=FD P w K mg base "pairs_ahead_of_changes" 1 ["brims","stall","pair"] (yf zV kc)
abbrev XJ:=FD P w K mg base "step_by" 1 ["floor","pair","way"] (yf zV nR)
abbrev Wj:=FD P w K mg base "change_by" 1 ["brims","stall","pair","times"] (yf zV o6)
abbrev o8:=FD P w K mg base "_law_cell" 1 ["_law_script","_law_k"] (yf zV xn)
abbrev Wb:=FD P w K mg base "_law_coins" 1 ["_law_number"] (yf zV qg)
abbrev cH:=FD P w K mg base "_law_behind" 1 ["_law_floor_here","_law_pair","_law_way"] (yf zV qh)
abbrev cG:=FD P w K mg base "_law_changes" 1 ["_law_floor_here","_law_place","_law_pair"] (yf zV ph)
abbrev iG:=FD P w K mg base "_law_held" 1 ["_law_border","_law_pair"] (yf zV t9)
abbrev XY:=FD P w K mg base "_law_pairs" 1 ["_law_floor_here"] (yf zV ke)
abbrev Wa:=FD P w K mg base "_law_deed" 1 ["_law_floor_here","_law_rows","_law_place","_law_pair","_law_number"] (yf uK o4)
abbrev We:=FD P w K mg base "is_whole_within" 2 ["thing","least","most"] (yf zV iB)
abbrev Wg:=FD P w K mg base "holds" 2 ["border","pair"] (yf zV mf)
abbrev Wl:=FD P w K mg base "both" 2 ["border","other"] (yf zV kj)
abbrev Wh:=FD P w K mg base "either" 2 ["border","other"] (yf zV kg)
abbrev Wo:=FD P w K mg base "border_ahead_of_way" 2 ["brims","way","border"] (yf zV kr)
abbrev Wc:=FD P w K mg base "_law_brims" 2 ["_law_script","_law_many"] (yf zV md)
abbrev XZ:=FD P w K mg base "_law_owners" 2 ["_law_script","_law_many"] (yf zV ma)
abbrev XT:=FD P w K mg base "_law_ways" 2 ["_law_script","_law_many"] (yf zV nX)
abbrev XU:=FD P w K mg base "_law_stalls" 2 ["_law_script","_law_owners_here"] (yf zV nY)
abbrev XW:=FD P w K mg base "_law_safe" 2 ["_law_floor_here","_law_told","_law_pair","_law_way"] (yf zV nZ)
abbrev XX:=FD P w K mg base "_law_played" 2 ["_law_script","_law_floor_here","_law_told","_law_rows","_law_place","_law_pair"] (yf zV n_)
abbrev cI:=FD P w K mg base "check_place" 3 ["floor","place"] (yf zV ki)
abbrev Wm:=FD P w K mg base "border_of_either" 3 ["borders"] (yf uK km)
abbrev Wn:=FD P w K mg base "border_of_all" 3 ["borders"] (yf uK kq)
abbrev XS:=FD P w K mg base "leads_into" 3 ["floor","pair","way","held"] (yf zV nW)
abbrev X_:=FD P w K mg base "_law_floor" 3 ["_law_script"] (yf zV o3)
abbrev Wd:=FD P w K mg base "_law_all_lost" 3 ["_law_floor_here","_law_told"] (yf zV me)
abbrev cE:=FD P w K mg base "ways_from" 4 ["floor","place"] (yf zV pd)
abbrev cF:=FD P w K mg base "stall_at" 4 ["floor","place"] (yf uK rg)
abbrev Wq:=FD P w K mg base "border_ahead_of_changes" 5 ["floor","place","border"] (yf uK mh)
abbrev Wk:=FD P w K mg base "change_at" 5 ["floor","place","pair","times"] (yf zV o7)
abbrev XR:=FD P w K mg base "next_border" 6 ["floor","place","last"] (yf uK kd)
abbrev Wi:=FD P w K mg base "deed_into" 6 ["floor","place","pair","held"] (yf zV kh)
abbrev XQ:=FD P w K mg base "next_round" 7 ["floor","last","fresh"] (yf zV nV)
abbrev XM:=FD P w K mg base "rows_at" 7 ["floor","place","held"] (yf zV nS)
abbrev XN:=FD P w K mg base "rounds" 8 ["floor"] (yf zV nU)
abbrev cJ:=FD P w K mg base "borders" 9 ["floor"] (yf uK qk)
abbrev XI:=FD P w K mg base "table" 10 ["floor"] (yf zV ka)
variable {K mg} (T:Bt mg) (U:Bq mg)
include T U
theorem RT (F:Fy K mg "is_whole" gF):Wf P w K mg base:=
 y7 (k:=0) F Uo rfl (λ _ _ _ _ _ _=>tT λ _=>rfl) λ f cdv A outer s H E hr=>⟨_,
  (zH (zX (mN (Sy T (za 0 (pv 0))) (mK (Ss (Sz T (za 0 (pv 0)))))))),
  (ya (mT ((Ze (zg 0))).fr (R4 ((Ze (zg 0))).fr)))⟩
theorem R1 (F:Fy K mg "places_of" gm):iE P w K mg base:=
 y7 (k:=0) F Uj rfl (λ _ _ _ _ _ _=>tT λ _=>rfl) λ f cdv A outer s H E hr=>⟨_,
  (zH (zX (u5 T.len (zf (zA (za 0 (pv 0)) zh) zt)))),
  (ya (yv uC (zT ((zm zB (zg 0) ((zi _)).fr)).er ye)))⟩
theorem Qj (F:Fy K mg "at_or_above" gP):cK P w K mg base:=
 y7 (k:=0) F Uu rfl (λ _ _ _ _ _ _=>ui λ _ _=>rfl) λ f cdv A outer s H E hr=>⟨_,
  (zH (zX (mN (aM (zA (za 0 (pv 0)) zh) (zA (za 1 (pv 1)) zh)) (mK (aM (zA (za 0 (pv 0)) zh) (zA (za 1 (pv 1)) zh)))))),
  (ya (mT ((qD ((zm zB (zg 0) ((zi _)).fr)).er ((zm zB (zg 1) ((zi _)).fr)).er)).fr (qD ((zm zB (zg 0) ((zi _)).fr)).er ((zm zB (zg 1) ((zi _)).fr)).er)))⟩
theorem R7 (F:Fy K mg "least_pairs" gq):ku P w K mg base:=
 y7 (k:=0) F hX rfl (λ _ _ _ _ _ _=>tT λ _=>rfl) λ f cdv A outer s H E hr=>⟨_,
  (zC (zP 1 hX.nd (wu zt))
  (zC (w_ PassesOwn.never rfl (xU (aH T.sorted (zf (za 0 (pv 0)) zt))) (yt 2 hX.nd) (zH (yS (xY.pt (pJ (mJ (tE (za 1 (pv 1)))) (pH (rH hr (zA (za 2 (pv 2)) zh) (zA (zA (za 1 (pv 1)) (mL zh)) zh))))) (zH (uz (qA (za 1 (pv 1)) (za 2 (pv 2))))) yR)))
  (zH (zX (pK T.tuple (zf (za 1 (pv 1)) zt)))))),
  (zD (u6 1 (wx zG))
  (zD (va (u7 ((yv Yb (zT (zg 0) ye))).fe) (xH 2) (yU (pN (mS (tG (zg 1))) (ym (zm sH ((zm zB (zg 2) ((zi _)).fr)).er ((zm zB ((zm zB (zg 1) ((mR ((zi _)).fr)).fr)).er ((zi _)).fr)).er).fr)) (qB 1 (zw 2)) yT))
  (ya (yv pT (zT (zg 1) ye)))))⟩
theorem R3 (F:Fy K mg "pairs_ahead_of_changes" gp):XO P w K mg base:=
 y7 (k:=0) F pB rfl (λ _ _ _ _ _ _=>sV λ _ _ _=>rfl) λ f cdv A outer s H E hr=>⟨_,
  (zC (zP 3 pB.nd (zA (za 1 (pv 1)) zh))
  (zC (zP 4 pB.nd (wu zt))
  (zC (zP 5 pB.nd (zA (za 2 (pv 2)) (za 3 (pv 3))))
  (zC (zP 6 pB.nd (zA (za 2 (pv 2)) (vD zh (za 3 (pv 3)))))
  (zC (jc PassesOwn.never (Sd (za 5 (pv 5)) (zA (za 0 (pv 0)) (za 3 (pv 3)))) (zC (uz (qA (za 4 (pv 4)) (S8 (x_ hr (za 3 (pv 3)) zh) (xb (zf (za 5 (pv 5)) (zf (za 6 (pv 6)) zt))) (xb (zf (za 6 (pv 6)) (zf (za 5 (pv 5)) zt))))))
  (zC (zP 5 pB.nd (xF (za 5 (pv 5)) (zA (za 1 (pv 1)) zh)))
  (zH (zP 6 pB.nd (je T.max (zf zh (zf (vD (za 6 (pv 6)) (zA (za 1 (pv 1)) zh)) zt))))))))
  (zH (zX (za 4 (pv 4))))))))),
  (zD (zS 3 (zm zB (zg 1) ((zi _)).fr))
  (zD (u6 4 (wx zG))
  (zD (zS 5 (zm zB (zg 2) (zg 3)))
  (zD (zS 6 (zm zB (zg 2) ((vE ((zi _)).fr (zg 3))).fr))
  (zD (jj (ym (R9 (zg 5) ((zm zB (zg 0) (zg 3))).er).fr) (zD (qB 4 (RU (ym (zm xJ (zg 3) ((zi _)).fr).fr) ((xc (zl (zw 5) (zl (zw 6) zG)))).fe ((xc (zl (zw 6) (zl (zw 5) zG)))).fe))
  (zD (zS 5 ((zm good_add (zg 5) ((zm zB (zg 1) ((zi _)).fr)).er)).fe)
  (zS 6 ((yv j7 (zT ((zi _)).fr (zT ((vE (zg 6) ((zm zB (zg 1) ((zi _)).fr)).er)).fr ye)))).fe))))
  (mQ 4))))))⟩
theorem Rx (F:Fy K mg "step_by" gj):XJ P w K mg base:=
 y7 (k:=0) F kJ rfl (λ _ _ _ _ _ _=>sV λ _ _ _=>rfl) λ f cdv A outer s H E hr=>⟨_,
  (zC (zP 3 kJ.nd (fu (zA (zA (za 0 (pv 0)) zh) (za 2 (pv 2))) (jd zh) aE))
  (zC (zP 4 kJ.nd (xF (zA (za 1 (pv 1)) zh) (zA (za 3 (pv 3)) zh)))
  (zC (zP 5 kJ.nd (xF (zA (za 1 (pv 1)) zh) (zA (za 3 (pv 3)) zh)))
  (zC (yS (xY.pt (pJ (rH hr (za 4 (pv 4)) zh) (pH (rH hr (za 5 (pv 5)) zh)))) (zH (zX vY)) yR)
  (zH (zX (xb (zf (rK T.min (zf (za 4 (pv 4)) (zf (zA (zA (za 0 (pv 0)) zh) zh) zt))) (zf (rK T.min (zf (za 5 (pv 5)) (zf (zA (zA (za 0 (pv 0)) zh) zh) zt))) zt))))))))),
  (zD (zS 3 ((fD ((zm zB ((zm zB (zg 0) ((zi _)).fr)).er (zg 2))).er (jn ((zi _)).fr) Zc)).fe)
  (zD (zS 4 ((zm good_add ((zm zB (zg 1) ((zi _)).fr)).er ((zm zB (zg 3) ((zi _)).fr)).er)).fe)
  (zD (zS 5 ((zm good_add ((zm zB (zg 1) ((zi _)).fr)).er ((zm zB (zg 3) ((zi _)).fr)).er)).fe)
  (zD (yU (pN (ym (zm sH (zg 4) ((zi _)).fr).fr) (ym (zm sH (zg 5) ((zi _)).fr).fr)) (ya vZ) yT)
  (ya (xc (zl ((yv rR (zT (zg 4) (zT ((zm zB ((zm zB (zg 0) ((zi _)).fr)).er ((zi _)).fr)).er ye)))).fe (zl ((yv rR (zT (zg 5) (zT ((zm zB ((zm zB (zg 0) ((zi _)).fr)).er ((zi _)).fr)).er ye)))).fe zG))))))))⟩
theorem Qa (F:Fy K mg "change_by" gJ):Wj P w K mg base:=
 y7 (k:=0) F kK rfl (λ _ _ _ _ _ _=>lV λ _ _ _ _=>rfl) λ f cdv A outer s H E hr=>⟨_,
  (zC (zP 4 kK.nd (zA (za 1 (pv 1)) zh))
  (zC (zP 5 kK.nd (vD (zA (za 2 (pv 2)) (za 4 (pv 4))) (q8 (za 3 (pv 3)) (zA (za 1 (pv 1)) zh))))
  (zC (yS (rH hr (za 5 (pv 5)) zh) (zH (zX vY)) yR)
  (zC (zP 6 kK.nd (rK T.min (zf (xF (zA (za 2 (pv 2)) (vD zh (za 4 (pv 4)))) (q8 (za 3 (pv 3)) (zA (za 1 (pv 1)) zh))) (zf (zA (za 0 (pv 0)) (vD zh (za 4 (pv 4)))) zt))))
  (zC (yS (x_ hr (za 4 (pv 4)) zh) (zH (zX (xb (zf (za 5 (pv 5)) (zf (za 6 (pv 6)) zt))))) yR)
  (zH (zX (xb (zf (za 6 (pv 6)) (zf (za 5 (pv 5)) zt)))))))))),
  (zD (zS 4 (zm zB (zg 1) ((zi _)).fr))
  (zD (zS 5 ((vE ((zm zB (zg 2) (zg 4))).er ((zm qL (zg 3) ((zm zB (zg 1) ((zi _)).fr)).er)).fr)).fe)
  (zD (yU (ym (zm sH (zg 5) ((zi _)).fr).fr) (ya vZ) yT)
  (zD (zS 6 ((yv rR (zT ((zm good_add ((zm zB (zg 2) ((vE ((zi _)).fr (zg 4))).fr)).er ((zm qL (zg 3) ((zm zB (zg 1) ((zi _)).fr)).er)).fr)).fr (zT ((zm zB (zg 0) ((vE ((zi _)).fr (zg 4))).fr)).er ye)))).fe)
  (zD (yU (ym (zm xJ (zg 4) ((zi _)).fr).fr) (ya (xc (zl (zw 5) (zl (zw 6) zG)))) yT)
  (ya (xc (zl (zw 6) (zl (zw 5) zG)))))))))⟩
theorem RL (F:Fy K mg "_law_cell" gB):o8 P w K mg base:=
 y7 (k:=0) F Ul rfl (λ _ _ _ _ _ _=>ui λ _ _=>rfl) λ f cdv A outer s H E hr=>⟨_,
  (zC (yS (rH hr (za 1 (pv 1)) (u5 T.len (zf (za 0 (pv 0)) zt))) (zH (zX (yI (zA (za 0 (pv 0)) (za 1 (pv 1))) (aI zh zh)))) yR)
  (zH (zX zh))),
  (zD (yU (ym (zm sH (zg 1) ((yv uC (zT (zg 0) ye))).fr).fr) (ya (yJ ((zm zB (zg 0) (zg 1))).er ((Zd ((zi _)).fr ((zi _)).fr)).fr)) yT)
  (ya (zi _)))⟩
theorem RJ (F:Fy K mg "_law_coins" g9):Wb P w K mg base:=
 y7 (k:=0) F Uk rfl (λ _ _ _ _ _ _=>tT λ _=>rfl) λ f cdv A outer s H E hr=>⟨_,
  (zC (yS (x_ hr (yI (za 0 (pv 0)) zh) zh) (zH (zX (vD (yI (wQ (za 0 (pv 0)) zh) zh) zh))) yR)
  (zH (zX (vD (yI (yI (wQ (za 0 (pv 0)) zh) zh) zh) zh)))),
  (zD (yU (ym (zm xJ ((yJ (zg 0) ((zi _)).fr)).fr ((zi _)).fr).fr) (ya (vE ((yJ ((wU (zg 0) ((zi _)).fr)).fr ((zi _)).fr)).fr ((zi _)).fr)) yT)
  (ya (vE ((yJ ((yJ ((wU (zg 0) ((zi _)).fr)).fr ((zi _)).fr)).fr ((zi _)).fr)).fr ((zi _)).fr)))⟩
theorem RO (F:Fy K mg "_law_behind" gD):cH P w K mg base:=
 y7 (k:=0) F gi rfl (λ _ _ _ _ _ _=>sV λ _ _ _=>rfl) λ f cdv A outer s H E hr=>⟨_,
  (zC (zP 3 gi.nd (xF (zA (za 1 (pv 1)) zh) (zA (za 2 (pv 2)) zh)))
  (zC (zP 4 gi.nd (xF (zA (za 1 (pv 1)) zh) (zA (za 2 (pv 2)) zh)))
  (zC (yS (xY.pt (pJ (rH hr (za 3 (pv 3)) zh) (pH (rH hr (za 4 (pv 4)) zh)))) (zH (zX vY)) yR)
  (zH (zX (xb (zf (rK T.min (zf (za 3 (pv 3)) (zf (zA (zA (za 0 (pv 0)) zh) zh) zt))) (zf (rK T.min (zf (za 4 (pv 4)) (zf (zA (zA (za 0 (pv 0)) zh) zh) zt))) zt)))))))),
  (zD (zS 3 ((zm good_add ((zm zB (zg 1) ((zi _)).fr)).er ((zm zB (zg 2) ((zi _)).fr)).er)).fe)
  (zD (zS 4 ((zm good_add ((zm zB (zg 1) ((zi _)).fr)).er ((zm zB (zg 2) ((zi _)).fr)).er)).fe)
  (zD (yU (pN (ym (zm sH (zg 3) ((zi _)).fr).fr) (ym (zm sH (zg 4) ((zi _)).fr).fr)) (ya vZ) yT)
  (ya (xc (zl ((yv rR (zT (zg 3) (zT ((zm zB ((zm zB (zg 0) ((zi _)).fr)).er ((zi _)).fr)).er ye)))).fe (zl ((yv rR (zT (zg 4) (zT ((zm zB ((zm zB (zg 0) ((zi _)).fr)).er ((zi _)).fr)).er ye)))).fe zG)))))))⟩
theorem RK (F:Fy K mg "_law_changes" gA):cG P w K mg base:=
 y7 (k:=0) F pD rfl (λ _ _ _ _ _ _=>sV λ _ _ _=>rfl) λ f cdv A outer s H E hr=>⟨_,
  (zC (zP 3 pD.nd (wu (zf (za 2 (pv 2)) zt)))
  (zC (w_ PassesOwn.never rfl (xU (zA (za 0 (pv 0)) zh)) (oW (n:=4) (vO (yt 4 pD.nd) (vO (yt 5 pD.nd) (vO (yt 6 pD.nd) (vO (yt 7 pD.nd) oV))))) (zH (jc PassesOwn.never (xY.pt (rG (x_ hr (za 4 (pv 4)) (za 1 (pv 1))) (rF (oU (zA (zA (za 3 (pv 3)) (mL zh)) (za 5 (pv 5))) (za 6 (pv 6)))))) (zC (zP 8 pD.nd (jf T.list (zf (zA (za 3 (pv 3)) (mL zh)) zt)))
  (zC (fq (za 8 (pv 8)) (za 5 (pv 5)) (vD (zA (za 8 (pv 8)) (za 5 (pv 5))) (za 6 (pv 6))))
  (zC (fq (za 8 (pv 8)) (vD zh (za 5 (pv 5))) (rK T.min (zf (xF (zA (za 8 (pv 8)) (vD zh (za 5 (pv 5)))) (za 7 (pv 7))) (zf (zA (zA (za 0 (pv 0)) zh) (vD zh (za 5 (pv 5)))) zt))))
  (zH (uz (qA (za 3 (pv 3)) (pK T.tuple (zf (za 8 (pv 8)) zt)))))))))))
  (zH (zX (za 3 (pv 3)))))),
  (zD (u6 3 (wx (zl (zw 2) zG)))
  (zD (va (u7 (zm zB (zg 0) ((zi _)).fr)) (jl (tF (xH 4) (tF (xH 5) (tF (xH 6) (tF (xH 7) jk))))) (jj (rM (ym (zm xJ (zg 4) (zg 1)).fr) (ym (qD ((zm zB ((zm zB (zg 3) ((mR ((zi _)).fr)).fr)).er (zg 5))).er (zg 6)).fr)) (zD (u6 8 (yv j8 (zT ((zm zB (zg 3) ((mR ((zi _)).fr)).fr)).er ye)))
  (zD (fB 8 (zg 5) ((vE ((zm zB (zg 8) (zg 5))).er (zg 6))).fe)
  (zD (fB 8 ((vE ((zi _)).fr (zg 5))).fr ((yv rR (zT ((zm good_add ((zm zB (zg 8) ((vE ((zi _)).fr (zg 5))).fr)).er (zg 7))).fr (zT ((zm zB ((zm zB (zg 0) ((zi _)).fr)).er ((vE ((zi _)).fr (zg 5))).fr)).er ye)))).fe)
  (qB 3 ((yv pT (zT (zg 8) ye))).fe))))))
  (mQ 3)))⟩
theorem RG (F:Fy K mg "_law_held" g7):iG P w K mg base:=
 y7 (k:=0) F h_ rfl (λ _ _ _ _ _ _=>ui λ _ _=>rfl) λ f cdv A outer s H E hr=>⟨_,
  (zC (w_ PassesOwn.never rfl (xU (za 0 (pv 0))) (oW (n:=2) (vO (yt 2 h_.nd) (vO (yt 3 h_.nd) oV))) (zH (yS (xY.pt (rG (oU (zA (za 1 (pv 1)) zh) (za 2 (pv 2))) (rF (oU (zA (za 1 (pv 1)) zh) (za 3 (pv 3)))))) (zH (zX sr)) yR)))
  (zH (zX sr))),
  (zD (va (u7 (zw 0)) (jl (tF (xH 2) (tF (xH 3) jk))) (yU (rM (ym (qD ((zm zB (zg 1) ((zi _)).fr)).er (zg 2)).fr) (ym (qD ((zm zB (zg 1) ((zi _)).fr)).er (zg 3)).fr)) (ya (sA _)) yT))
  (ya (sA _)))⟩
theorem RE (F:Fy K mg "_law_pairs" kT):XY P w K mg base:=
 y7 (k:=0) F hZ rfl (λ _ _ _ _ _ _=>tT λ _=>rfl) λ f cdv A outer s H E hr=>⟨_,
  (zC (zP 1 hZ.nd (wu zt))
  (zC (w_ PassesOwn.never rfl (se T.range (zf (xF (zA (zA (za 0 (pv 0)) zh) zh) zh) zt)) (yt 2 hZ.nd) (zH (uz (fw (za 1 (pv 1)) (sk (N':=["_law_y","_law_x"]) (pick:=[none,some 2]) (vn (N:=["_law_floor_here","_law_found","_law_x"]) (esc:=zN kT)) rfl (se T.range (zf (xF (zA (zA (za 0 (pv 0)) zh) zh) zh) zt)) (λ _ _ _ _ _=>(yt 0 (by decide +kernel:List.Nodup (α:=Str) ["_law_y","_law_x"]))) (λ _ _ _ _ _=>sg) (λ _ _ _ _ _=>(xb (zf (za 1 (pv 1)) (zf (za 0 (pv 0)) zt)))))))))
  (zH (zX (za 1 (pv 1)))))),
  (zD (u6 1 (wx zG))
  (zD (va (su (b:=true) (zT ((zm good_add ((zm zB ((zm zB (zg 0) ((zi _)).fr)).er ((zi _)).fr)).er ((zi _)).fr)).fr ye)) (xH 2) (fC 1 (vi (su (b:=false) (zT ((zm good_add ((zm zB ((zm zB (zg 0) ((zi _)).fr)).er ((zi _)).fr)).er ((zi _)).fr)).fr ye)) (wR 0) sy ((xc (zl (zw 1) (zl (zw 0) zG)))).fe)))
  (mQ 1)))⟩
theorem RI (F:Fy K mg "_law_deed" mz):Wa P w K mg base:=
 y7 (k:=0) F gf rfl (λ _ _ _ _ _ _=>NI λ _ _ _ _ _=>rfl) λ f cdv A outer s H E hr=>⟨_,
  (zC (yS (x_ hr (zA (zA (za 0 (pv 0)) zh) (za 2 (pv 2))) oX) (zC (qy (i:=5) (N':=["_law_k","_law_floor_here","_law_place"]) (pick:=[none,some 0,some 2]) (vn (N:=["_law_floor_here","_law_rows","_law_place","_law_pair","_law_number","_law_ways_here","_law_some"]) (esc:=zN mz)) rfl (se T.range (zf (u5 T.len (zf (zA (za 0 (pv 0)) zh) zt)) zt)) (λ _ _ _ _ _=>(yt 0 (by decide +kernel:List.Nodup (α:=Str) ["_law_k","_law_floor_here","_law_place"]))) (λ _ _ _ _ _=>qz (x_ hr (zA (zA (zA (za 1 (pv 1)) zh) (za 0 (pv 0))) zh) (za 2 (pv 2)))) (λ _ _ _ _ _=>(za 0 (pv 0))) gf.nd rfl (by first | exact Or.inl rfl | exact Or.inr rfl))
  (zH (zX (xb (zf zh (zf (zA (za 5 (pv 5)) (yI (za 4 (pv 4)) (u5 T.len (zf (za 5 (pv 5)) zt)))) zt)))))) yR)
  (zC (qy (i:=6) (N':=["_law_row","_law_pair"]) (pick:=[none,some 3]) (vn (N:=["_law_floor_here","_law_rows","_law_place","_law_pair","_law_number","_law_ways_here","_law_some"]) (esc:=zN mz)) rfl (xU (zA (za 1 (pv 1)) (za 2 (pv 2)))) (λ _ _ _ _ _=>(yt 0 (by decide +kernel:List.Nodup (α:=Str) ["_law_row","_law_pair"]))) (λ _ _ _ _ _=>qz (xY.pt (rG (oU (zA (za 1 (pv 1)) zh) (zA (zA (za 0 (pv 0)) zh) zh)) (rF (oU (zA (za 1 (pv 1)) zh) (zA (zA (za 0 (pv 0)) zh) zh)))))) (λ _ _ _ _ _=>(za 0 (pv 0))) gf.nd rfl (by first | exact Or.inl rfl | exact Or.inr rfl))
  (zC (yS (x_ hr (za 6 (pv 6)) (wu zt)) (zH (zX vY)) yR)
  (zH (zX (fu (zA (za 6 (pv 6)) (yI (za 4 (pv 4)) (u5 T.len (zf (za 6 (pv 6)) zt)))) (jd zh) aE)))))),
  (zD (yU (ym (zm xJ ((zm zB ((zm zB (zg 0) ((zi _)).fr)).er (zg 2))).er ((qC _)).fr).fr) (zD (zS 5 ((vi (su (b:=false) (zT ((yv uC (zT ((zm zB (zg 0) ((zi _)).fr)).er ye))).fr ye)) (wR 0) (ym (zm xJ ((zm zB ((zm zB ((zm zB (zg 1) ((zi _)).fr)).er (zg 0))).er ((zi _)).fr)).er (zg 2)).fr) (zw 0))).fe)
  (ya ((xc (zl ((zi _)).fe (zl (zm zB (zg 5) ((yJ (zg 4) ((yv uC (zT (zg 5) ye))).fr)).fr) zG)))).fe)) yT)
  (zD (zS 6 ((vi (uV ((zm zB (zg 1) (zg 2))).er) (wR 0) (rM (ym (qD ((zm zB (zg 1) ((zi _)).fr)).er ((zm zB ((zm zB (zg 0) ((zi _)).fr)).er ((zi _)).fr)).er).fr) (ym (qD ((zm zB (zg 1) ((zi _)).fr)).er ((zm zB ((zm zB (zg 0) ((zi _)).fr)).er ((zi _)).fr)).er).fr)) (zw 0))).fe)
  (zD (yU (ym (zm xJ (zg 6) ((wx zG)).fr).fr) (ya (vZ).fe) yT)
  (ya ((fD ((zm zB (zg 6) ((yJ (zg 4) ((yv uC (zT (zg 6) ye))).fr)).fr)).er (jn ((zi _)).fr) Zc)).fe))))⟩
theorem RS (F:Fy K mg "is_whole_within" gE) (cu:Wf P w K mg base):We P w K mg base:=
 y7 (k:=1) F Um rfl (λ _ _ _ _ _ _=>sV λ _ _ _=>rfl) λ f cdv A outer s H E hr=>⟨_,
  (zH (zX (mN (zY cu (hr.mono (by decide)) (zf (za 0 (pv 0)) zt)) (mK (SF f9 f9 fit_le fit_le wc.mo wc.mo (za 1 (pv 1)) (za 0 (pv 0)) (za 2 (pv 2))))))),
  (ya (mT ((zZ (zl (zw 0) zG))).fr (Qc Yc Yc (zg 1) (zg 0) (zg 2))))⟩
theorem RV (F:Fy K mg "holds" kW) (nQ:cK P w K mg base):Wg P w K mg base:=
 y7 (k:=1) F Uq rfl (λ _ _ _ _ _ _=>ui λ _ _=>rfl) λ f cdv A outer s H E hr=>⟨_,
  (zH (zX (aO T.any (zf (sk (N':=["own","pair"]) (pick:=[none,some 1]) (vn (N:=["border","pair"]) (esc:=zN kW)) rfl (xU (za 0 (pv 0))) (λ _ _ _ _ _=>(yt 0 (by decide +kernel:List.Nodup (α:=Str) ["own","pair"]))) (λ _ _ _ _ _=>sg) (λ _ _ _ _ _=>(zY nQ (hr.mono (by decide)) (zf (za 1 (pv 1)) (zf (za 0 (pv 0)) zt))))) zt)))),
  (ya (yv eD (zT ((vi (uV (zg 0)) (wR 0) sy ((zZ (zl (zw 1) (zl (zw 0) zG)))).fe)).fr ye)))⟩
theorem Qd (F:Fy K mg "both" m5) (t7:ku P w K mg base):Wl P w K mg base:=
 y7 (k:=1) F pF rfl (λ _ _ _ _ _ _=>ui λ _ _=>rfl) λ f cdv A outer s H E hr=>⟨_,
  (zC (zP 2 pF.nd (xF (sk (N':=["pair"]) (pick:=[none]) (vn (N:=["border","other","steps","lows","shared","first","side","second"]) (esc:=zN m5)) rfl (xU (za 0 (pv 0))) (λ _ _ _ _ _=>(yt 0 (by decide +kernel:List.Nodup (α:=Str) ["pair"]))) (λ _ _ _ _ _=>sg) (λ _ _ _ _ _=>(xb (zf (zA (za 0 (pv 0)) zh) (zf zh (zf (zA (za 0 (pv 0)) zh) zt)))))) (sk (N':=["pair"]) (pick:=[none]) (vn (N:=["border","other","steps","lows","shared","first","side","second"]) (esc:=zN m5)) rfl (xU (za 1 (pv 1))) (λ _ _ _ _ _=>(yt 0 (by decide +kernel:List.Nodup (α:=Str) ["pair"]))) (λ _ _ _ _ _=>sg) (λ _ _ _ _ _=>(xb (zf (zA (za 0 (pv 0)) zh) (zf zh (zf (zA (za 0 (pv 0)) zh) zt))))))))
  (zC (zP 3 pF.nd SD)
  (zC (zP 4 pF.nd (wu zt))
  (zC (w_ PassesOwn.never rfl (xU (aH T.sorted (zf (za 2 (pv 2)) zt))) (oW (n:=3) (vO (yt 5 pF.nd) (vO (yt 6 pF.nd) (vO (yt 7 pF.nd) oV)))) (zC (Si hr (za 3 (pv 3)) (za 6 (pv 6)) (rK T.min (zf (za 7 (pv 7)) (zf (SE hr (za 3 (pv 3)) (za 6 (pv 6)) (za 7 (pv 7))) zt))))
  (zH (yS (x_ hr (SA T.len (zf (za 3 (pv 3)) zt)) zh) (zH (uz (qA (za 4 (pv 4)) (xb (zf (za 5 (pv 5)) (zf (je T.max (zf (aN hr (za 3 (pv 3)) zh) (zf (aN hr (za 3 (pv 3)) zh) zt))) zt)))))) yR))))
  (zH (zX (zY t7 (hr.mono (by decide)) (zf (za 4 (pv 4)) zt)))))))),
  (zD (zS 2 ((zm good_add ((vi (uV (zg 0)) (wR 0) sy ((xc (zl (zm zB (zg 0) ((zi _)).fr) (zl ((zi _)).fe (zl (zm zB (zg 0) ((zi _)).fr) zG))))).fe)).fr ((vi (uV (zg 1)) (wR 0) sy ((xc (zl (zm zB (zg 0) ((zi _)).fr) (zl ((zi _)).fe (zl (zm zB (zg 0) ((zi _)).fr) zG))))).fe)).fr)).fe)
  (zD (Ru 3)
  (zD (u6 4 (wx zG))
  (zD (va (u7 ((yv Yb (zT (zg 2) ye))).fe) (jl (tF (xH 5) (tF (xH 6) (tF (xH 7) jk)))) (zD (Rt 3 (zg 6) ((yv rR (zT (zg 7) (zT ((RY 3 (zg 6) (zw 7))).er ye)))).fe)
  (yU (ym (zm xJ ((RX 3)).fr ((zi _)).fr).fr) (qB 4 ((xc (zl (zw 5) (zl ((yv j7 (zT ((Zf 3 ((zi _)).fr)).er (zT ((Zf 3 ((zi _)).fr)).er ye)))).fe zG)))).fe) yT)))
  (aY 4 (ya (zZ (zl (zw 4) zG))))))))⟩
theorem RW (F:Fy K mg "either" gG) (t7:ku P w K mg base):Wh P w K mg base:=
 y7 (k:=1) F Ur rfl (λ _ _ _ _ _ _=>ui λ _ _=>rfl) λ f cdv A outer s H E hr=>⟨_,
  (zH (zX (zY t7 (hr.mono (by decide)) (zf (xF (jf T.list (zf (za 0 (pv 0)) zt)) (jf T.list (zf (za 1 (pv 1)) zt))) zt)))),
  (ya (zZ (zl ((zm good_add ((yv j8 (zT (zg 0) ye))).fr ((yv j8 (zT (zg 1) ye))).fr)).fe zG)))⟩
theorem Qh (F:Fy K mg "border_ahead_of_way" m6) (t7:ku P w K mg base) (nQ:cK P w K mg base):Wo P w K mg base:=
 y7 (k:=1) F bR rfl (λ _ _ _ _ _ _=>sV λ _ _ _=>rfl) λ f cdv A outer s H E hr=>⟨_,
  (zC (qy (i:=3) (N':=["pair","way"]) (pick:=[none,some 1]) (vn (N:=["brims","way","border","pairs"]) (esc:=zN m6)) rfl (xU (za 2 (pv 2))) (λ _ _ _ _ _=>(yt 0 (by decide +kernel:List.Nodup (α:=Str) ["pair","way"]))) (λ _ _ _ _ _=>sg) (λ _ _ _ _ _=>(xb (zf (je T.max (zf zh (zf (vD (zA (za 0 (pv 0)) zh) (zA (za 1 (pv 1)) zh)) zt))) (zf (je T.max (zf zh (zf (vD (zA (za 0 (pv 0)) zh) (zA (za 1 (pv 1)) zh)) zt))) zt)))) bR.nd rfl (by first | exact Or.inl rfl | exact Or.inr rfl))
  (zH (zX (zY t7 (hr.mono (by decide)) (zf (sk (N':=["pair","brims"]) (pick:=[none,some 0]) (vn (N:=["brims","way","border","pairs"]) (esc:=zN m6)) rfl (xU (za 3 (pv 3))) (λ _ _ _ _ _=>(yt 0 (by decide +kernel:List.Nodup (α:=Str) ["pair","brims"]))) (λ _ _ _ _ _=>qz (tE (zY nQ (hr.mono (by decide)) (zf (za 1 (pv 1)) (zf (za 0 (pv 0)) zt))))) (λ _ _ _ _ _=>(za 0 (pv 0)))) zt))))),
  (zD (zS 3 ((vi (uV (zg 2)) (wR 0) sy ((xc (zl ((yv j7 (zT ((zi _)).fr (zT ((vE ((zm zB (zg 0) ((zi _)).fr)).er ((zm zB (zg 1) ((zi _)).fr)).er)).fr ye)))).fe (zl ((yv j7 (zT ((zi _)).fr (zT ((vE ((zm zB (zg 0) ((zi _)).fr)).er ((zm zB (zg 1) ((zi _)).fr)).er)).fr ye)))).fe zG)))).fe)).fe)
  (ya (zZ (zl ((vi (uV (zg 3)) (wR 0) (tG ((zZ (zl (zw 1) (zl (zw 0) zG)))).fr) (zw 0))).fe zG))))⟩
theorem RM (F:Fy K mg "_law_brims" gC) (wJ:o8 P w K mg base):Wc P w K mg base:=
 y7 (k:=1) F gh rfl (λ _ _ _ _ _ _=>ui λ _ _=>rfl) λ f cdv A outer s H E hr=>⟨_,
  (zC (zP 2 gh.nd (zY wJ (hr.mono (by decide)) (zf (za 0 (pv 0)) (zf zh zt))))
  (zC (zP 3 gh.nd (wu (zf (zA (wu (zf zh (zf zh (zf zh (zf zh (zf zh (zf zh (zf zh (zf zh zt))))))))) (yI (za 2 (pv 2)) zh)) (zf (zA (wu (zf zh (zf zh (zf zh (zf zh (zf zh (zf zh (zf zh (zf zh zt))))))))) (yI (wQ (za 2 (pv 2)) zh) zh)) zt))))
  (zC (yS (fm (za 1 (pv 1)) zh) (zH (zX (xb (zf (rK T.min (zf (zA (za 3 (pv 3)) zh) (zf zh zt))) (zf (rK T.min (zf (zA (za 3 (pv 3)) zh) (zf zh zt))) zt))))) yR)
  (zC (yS (x_ hr (yI (wQ (za 2 (pv 2)) zh) zh) zh) (zH (zX (xb (zf zh (zf (yI (zA (za 3 (pv 3)) zh) zh) zt))))) yR)
  (zC (yS (x_ hr (yI (wQ (za 2 (pv 2)) zh) zh) zh) (zH (zX (xb (zf (yI (zA (za 3 (pv 3)) zh) zh) (zf zh zt))))) yR)
  (zC (yS (xY.pt (rG (x_ hr (yI (wQ (za 2 (pv 2)) zh) zh) zh) (rF (rH hr (za 1 (pv 1)) zh)))) (zH (zX (xb (zf zh (zf zh zt))))) yR)
  (zH (zX (pK T.tuple (zf (za 3 (pv 3)) zt)))))))))),
  (zD (zS 2 ((zZ (zl (zw 0) (zl ((zi _)).fe zG)))).fe)
  (zD (zS 3 ((wx (zl (zm zB ((wx (zl ((zi _)).fe (zl ((zi _)).fe (zl ((zi _)).fe (zl ((zi _)).fe (zl ((zi _)).fe (zl ((zi _)).fe (zl ((zi _)).fe (zl ((zi _)).fe zG)))))))))).fr ((yJ (zg 2) ((zi _)).fr)).fr) (zl (zm zB ((wx (zl ((zi _)).fe (zl ((zi _)).fe (zl ((zi _)).fe (zl ((zi _)).fe (zl ((zi _)).fe (zl ((zi _)).fe (zl ((zi _)).fe (zl ((zi _)).fe zG)))))))))).fr ((yJ ((wU (zg 2) ((zi _)).fr)).fr ((zi _)).fr)).fr) zG)))).fe)
  (zD (yU (ym (fE (zg 1) ((zi _)).fr).fr) (ya (xc (zl ((yv rR (zT ((zm zB (zg 3) ((zi _)).fr)).er (zT ((zi _)).fr ye)))).fe (zl ((yv rR (zT ((zm zB (zg 3) ((zi _)).fr)).er (zT ((zi _)).fr ye)))).fe zG)))) yT)
  (zD (yU (ym (zm xJ ((yJ ((wU (zg 2) ((zi _)).fr)).fr ((zi _)).fr)).fr ((zi _)).fr).fr) (ya (xc (zl ((zi _)).fe (zl ((yJ ((zm zB (zg 3) ((zi _)).fr)).er ((zi _)).fr)).fe zG)))) yT)
  (zD (yU (ym (zm xJ ((yJ ((wU (zg 2) ((zi _)).fr)).fr ((zi _)).fr)).fr ((zi _)).fr).fr) (ya (xc (zl ((yJ ((zm zB (zg 3) ((zi _)).fr)).er ((zi _)).fr)).fe (zl ((zi _)).fe zG)))) yT)
  (zD (yU (rM (ym (zm xJ ((yJ ((wU (zg 2) ((zi _)).fr)).fr ((zi _)).fr)).fr ((zi _)).fr).fr) (ym (zm sH (zg 1) ((zi _)).fr).fr)) (ya (xc (zl ((zi _)).fe (zl ((zi _)).fe zG)))) yT)
  (ya (yv pT (zT (zg 3) ye)))))))))⟩
theorem RF (F:Fy K mg "_law_owners" gz) (wJ:o8 P w K mg base):XZ P w K mg base:=
 y7 (k:=1) F mx rfl (λ _ _ _ _ _ _=>ui λ _ _=>rfl) λ f cdv A outer s H E hr=>⟨_,
  (zC (zP 2 mx.nd (zY wJ (hr.mono (by decide)) (zf (za 0 (pv 0)) (zf zh zt))))
  (zC (zP 3 mx.nd (wu zt))
  (zC (w_ PassesOwn.never rfl (se T.range (zf (za 1 (pv 1)) zt)) (yt 4 mx.nd) (zC (uz (qA (za 3 (pv 3)) (zA (wu (zf oX (zf oX zt))) (yI (za 2 (pv 2)) zh))))
  (zH (zP 2 mx.nd (wQ (za 2 (pv 2)) zh)))))
  (zH (zX (pK T.tuple (zf (za 3 (pv 3)) zt))))))),
  (zD (zS 2 ((zZ (zl (zw 0) (zl ((zi _)).fe zG)))).fe)
  (zD (u6 3 (wx zG))
  (zD (va (su (b:=true) (zT (zg 1) ye)) (xH 4) (zD (qB 3 (zm zB ((wx (zl ((qC _)).fe (zl ((qC _)).fe zG)))).fr ((yJ (zg 2) ((zi _)).fr)).fr))
  (zS 2 ((wU (zg 2) ((zi _)).fr)).fe)))
  (ya (yv pT (zT (zg 3) ye))))))⟩
theorem RA (F:Fy K mg "_law_ways" gs) (wJ:o8 P w K mg base) (i8:Wb P w K mg base):XT P w K mg base:=
 y7 (k:=1) F uQ rfl (λ _ _ _ _ _ _=>ui λ _ _=>rfl) λ f cdv A outer s H E hr=>⟨_,
  (zC (zP 2 uQ.nd (zY wJ (hr.mono (by decide)) (zf (za 0 (pv 0)) (zf zh zt))))
  (zC (zP 3 uQ.nd (zA (wu (zf zh (zf zh zt))) (S7 T.int (zf (Su hr (za 1 (pv 1)) zh) zt))))
  (zC (zP 4 uQ.nd (wu zt))
  (zC (w_ PassesOwn.never rfl (se T.range (zf (za 1 (pv 1)) zt)) (yt 5 uQ.nd) (zC (zP 6 uQ.nd (xF zh (yI (za 2 (pv 2)) zh)))
  (zC (yS (xY.pt (rG (rH hr (za 1 (pv 1)) zh) (rF (x_ hr (yI (wQ (za 2 (pv 2)) zh) zh) zh)))) (zH (zP 6 uQ.nd (xF zh (za 6 (pv 6))))) yR)
  (zC (w_ PassesOwn.never rfl (se T.range (zf (za 6 (pv 6)) zt)) (yt 7 uQ.nd) (zC (zP 8 uQ.nd (xF (q8 (za 3 (pv 3)) (za 5 (pv 5))) (za 7 (pv 7))))
  (zC (zP 9 uQ.nd (yI (xF (xF (q8 (zY wJ (hr.mono (by decide)) (zf (za 0 (pv 0)) (zf (xF zh (za 8 (pv 8))) zt))) zh) (q8 zh (za 8 (pv 8)))) zh) zh))
  (zC (zP 10 uQ.nd (wQ (za 9 (pv 9)) zh))
  (zH (uz (qA (za 4 (pv 4)) (xb (zf (za 5 (pv 5)) (zf (yI (yI (za 9 (pv 9)) zh) (za 1 (pv 1))) (zf (zY i8 (hr.mono (by decide)) (zf (za 10 (pv 10)) zt)) (zf (zY i8 (hr.mono (by decide)) (zf (wQ (za 10 (pv 10)) zh) zt)) zt))))))))))))
  (zH (zP 2 uQ.nd (wQ (za 2 (pv 2)) zh)))))))
  (zH (zX (pK T.tuple (zf (aG hr T.sorted U.set (zf (za 4 (pv 4)) zt)) zt)))))))),
  (zD (zS 2 ((zZ (zl (zw 0) (zl ((zi _)).fe zG)))).fe)
  (zD (zS 3 (zm zB ((wx (zl ((zi _)).fe (zl ((zi _)).fe zG)))).fr ((yv good_int (zT ((zm sH (zg 1) ((zi _)).fr)).fr ye))).fr))
  (zD (u6 4 (wx zG))
  (zD (va (su (b:=true) (zT (zg 1) ye)) (xH 5) (zD (zS 6 ((zm good_add ((zi _)).fr ((yJ (zg 2) ((zi _)).fr)).fr)).fe)
  (zD (yU (rM (ym (zm sH (zg 1) ((zi _)).fr).fr) (ym (zm xJ ((yJ ((wU (zg 2) ((zi _)).fr)).fr ((zi _)).fr)).fr ((zi _)).fr).fr)) (zS 6 ((zm good_add ((zi _)).fr (zg 6))).fe) yT)
  (zD (va (su (b:=true) (zT (zg 6) ye)) (xH 7) (zD (zS 8 ((zm good_add ((zm qL (zg 3) (zg 5))).fr (zg 7))).fe)
  (zD (zS 9 ((yJ ((zm good_add ((zm good_add ((zm qL ((zZ (zl (zw 0) (zl ((zm good_add ((zi _)).fr (zg 8))).fe zG)))).fr ((zi _)).fr)).fr ((zm qL ((zi _)).fr (zg 8))).fr)).fr ((zi _)).fr)).fr ((zi _)).fr)).fe)
  (zD (zS 10 ((wU (zg 9) ((zi _)).fr)).fe)
  (qB 4 ((xc (zl (zw 5) (zl ((yJ ((yJ (zg 9) ((zi _)).fr)).fr (zg 1))).fe (zl ((zZ (zl (zw 10) zG))).fe (zl ((zZ (zl ((wU (zg 10) ((zi _)).fr)).fe zG))).fe zG)))))).fe)))))
  (zS 2 ((wU (zg 2) ((zi _)).fr)).fe)))))
  (ya (yv pT (zT ((yv Ya (zT (zg 4) ye))).fr ye)))))))⟩
theorem RB (F:Fy K mg "_law_stalls" gu) (wJ:o8 P w K mg base):XU P w K mg base:=
 y7 (k:=1) F pC rfl (λ _ _ _ _ _ _=>ui λ _ _=>rfl) λ f cdv A outer s H E hr=>⟨_,
  (zC (zP 2 pC.nd (wu zt))
  (zC (w_ PassesOwn.never rfl (se T.range (zf (u5 T.len (zf (za 1 (pv 1)) zt)) zt)) (yt 3 pC.nd) (zC (zP 4 pC.nd (yI (xF (xF (q8 (zY wJ (hr.mono (by decide)) (zf (za 0 (pv 0)) (zf (xF zh (za 3 (pv 3))) zt))) zh) (q8 zh (za 3 (pv 3)))) zh) zh))
  (zH (yS (xY.pt (rG (x_ hr (zA (za 1 (pv 1)) (za 3 (pv 3))) oX) (rF (x_ hr (yI (za 4 (pv 4)) zh) zh)))) (zC (zP 5 pC.nd (wQ (za 4 (pv 4)) zh))
  (zC (zP 6 pC.nd (xF zh (zA (wu (zf (yI (za 5 (pv 5)) zh) (zf (yI (za 5 (pv 5)) zh) (zf (yI (za 5 (pv 5)) zh) zt)))) (yI (wQ (za 5 (pv 5)) zh) zh))))
  (zC (zP 7 pC.nd (zA (wu (zf (yI (wQ (za 5 (pv 5)) zh) zh) (zf (yI (wQ (za 5 (pv 5)) zh) zh) (zf (yI (wQ (za 5 (pv 5)) zh) zh) zt)))) (yI (wQ (za 5 (pv 5)) zh) zh)))
  (zH (uz (qA (za 2 (pv 2)) (xb (zf (za 3 (pv 3)) (zf (yI (wQ (za 4 (pv 4)) zh) zh) (zf (za 6 (pv 6)) (zf (za 7 (pv 7)) zt))))))))))) yR))))
  (zH (zX (pK T.tuple (zf (za 2 (pv 2)) zt)))))),
  (zD (u6 2 (wx zG))
  (zD (va (su (b:=true) (zT ((yv uC (zT (zg 1) ye))).fr ye)) (xH 3) (zD (zS 4 ((yJ ((zm good_add ((zm good_add ((zm qL ((zZ (zl (zw 0) (zl ((zm good_add ((zi _)).fr (zg 3))).fe zG)))).fr ((zi _)).fr)).fr ((zm qL ((zi _)).fr (zg 3))).fr)).fr ((zi _)).fr)).fr ((zi _)).fr)).fe)
  (yU (rM (ym (zm xJ ((zm zB (zg 1) (zg 3))).er ((qC _)).fr).fr) (ym (zm xJ ((yJ (zg 4) ((zi _)).fr)).fr ((zi _)).fr).fr)) (zD (zS 5 ((wU (zg 4) ((zi _)).fr)).fe)
  (zD (zS 6 ((zm good_add ((zi _)).fr ((zm zB ((wx (zl ((yJ (zg 5) ((zi _)).fr)).fe (zl ((yJ (zg 5) ((zi _)).fr)).fe (zl ((yJ (zg 5) ((zi _)).fr)).fe zG))))).fr ((yJ ((wU (zg 5) ((zi _)).fr)).fr ((zi _)).fr)).fr)).er)).fe)
  (zD (zS 7 (zm zB ((wx (zl ((yJ ((wU (zg 5) ((zi _)).fr)).fr ((zi _)).fr)).fe (zl ((yJ ((wU (zg 5) ((zi _)).fr)).fr ((zi _)).fr)).fe (zl ((yJ ((wU (zg 5) ((zi _)).fr)).fr ((zi _)).fr)).fe zG))))).fr ((yJ ((wU (zg 5) ((zi _)).fr)).fr ((zi _)).fr)).fr))
  (qB 2 ((xc (zl (zw 3) (zl ((yJ ((wU (zg 4) ((zi _)).fr)).fr ((zi _)).fr)).fe (zl (zw 6) (zl (zw 7) zG)))))).fe)))) yT)))
  (ya (yv pT (zT (zg 2) ye)))))⟩
theorem RC (F:Fy K mg "_law_safe" gw) (nM:cH P w K mg base) (qd:iG P w K mg base):XW P w K mg base:=
 y7 (k:=1) F bP rfl (λ _ _ _ _ _ _=>lV λ _ _ _ _=>rfl) λ f cdv A outer s H E hr=>⟨_,
  (zC (zP 4 bP.nd (zY nM (hr.mono (by decide)) (zf (za 0 (pv 0)) (zf (za 2 (pv 2)) (zf (za 3 (pv 3)) zt)))))
  (zH (zX (mN (aJ (za 4 (pv 4)) vY) (mK (zY qd (hr.mono (by decide)) (zf (zA (za 1 (pv 1)) (zA (za 3 (pv 3)) zh)) (zf (za 4 (pv 4)) zt)))))))),
  (zD (zS 4 ((zZ (zl (zw 0) (zl (zw 2) (zl (zw 3) zG))))).fe)
  (ya (mT ((zm pU (zg 4) (vZ).fr)).fr (zZ (zl (zm zB (zg 1) ((zm zB (zg 3) ((zi _)).fr)).er) (zl (zw 4) zG))))))⟩
theorem RD (F:Fy K mg "_law_played" gy) (cm:Wa P w K mg base) (nL:cG P w K mg base) (nM:cH P w K mg base) (qd:iG P w K mg base):XX P w K mg base:=
 y7 (k:=1) F oK rfl (λ _ _ _ _ _ _=>NH λ _ _ _ _ _ _=>rfl) λ f cdv A outer s H E hr=>⟨_,
  (zC (w_ PassesOwn.never rfl (xU (fu (za 0 (pv 0)) (jd zh) (jd zh))) (yt 6 oK.nd) (zC (zP 7 oK.nd (zY cm (hr.mono (by decide)) (zf (za 1 (pv 1)) (zf (za 3 (pv 3)) (zf (za 4 (pv 4)) (zf (za 5 (pv 5)) (zf (yI (za 6 (pv 6)) (aI zh zh)) zt)))))))
  (zC (yS (jb (za 7 (pv 7)) vY) (zH (zX sr)) yR)
  (zC (zP 8 oK.nd (zY nL (hr.mono (by decide)) (zf (za 1 (pv 1)) (zf (za 4 (pv 4)) (zf (za 5 (pv 5)) zt)))))
  (zC (yS (xY.pt (pJ (oU (zA (za 7 (pv 7)) zh) (u5 T.len (zf (za 8 (pv 8)) zt))) (pH (ja hr (zA (zA (zA (za 1 (pv 1)) zh) (zA (za 7 (pv 7)) zh)) zh) (za 4 (pv 4)))))) (zH (zX sr)) yR)
  (zC (zP 5 oK.nd (zY nM (hr.mono (by decide)) (zf (za 1 (pv 1)) (zf (zA (za 8 (pv 8)) (zA (za 7 (pv 7)) zh)) (zf (zA (zA (za 1 (pv 1)) zh) (zA (za 7 (pv 7)) zh)) zt)))))
  (zC (zP 4 oK.nd (zA (zA (zA (za 1 (pv 1)) zh) (zA (za 7 (pv 7)) zh)) zh))
  (zH (yS (xY.pt (pJ (jb (za 5 (pv 5)) vY) (pH (mJ (tE (zY qd (hr.mono (by decide)) (zf (zA (za 2 (pv 2)) (za 4 (pv 4))) (zf (za 5 (pv 5)) zt)))))))) (zH (zX sr)) yR)))))))))
  (zH (zX sr))),
  (zD (va (u7 ((fD (zg 0) (jn ((zi _)).fr) (jn ((zi _)).fr))).fe) (xH 6) (zD (zS 7 (zZ (zl (zw 1) (zl (zw 3) (zl (zw 4) (zl (zw 5) (zl ((yJ (zg 6) ((Zd ((zi _)).fr ((zi _)).fr)).fr)).fe zG)))))))
  (zD (yU (ym (zm pU (zg 7) (vZ).fr).fr) (ya (sA _)) yT)
  (zD (zS 8 ((zZ (zl (zw 1) (zl (zw 4) (zl (zw 5) zG))))).fe)
  (zD (yU (pN (ym (qD ((zm zB (zg 7) ((zi _)).fr)).er ((yv uC (zT (zg 8) ye))).fr).fr) (ym (zm xJ ((zm zB ((zm zB ((zm zB (zg 1) ((zi _)).fr)).er ((zm zB (zg 7) ((zi _)).fr)).er)).er ((zi _)).fr)).er (zg 4)).fr)) (ya (sA _)) yT)
  (zD (zS 5 ((zZ (zl (zw 1) (zl (zm zB (zg 8) ((zm zB (zg 7) ((zi _)).fr)).er) (zl (zm zB ((zm zB (zg 1) ((zi _)).fr)).er ((zm zB (zg 7) ((zi _)).fr)).er) zG))))).fe)
  (zD (zS 4 (zm zB ((zm zB ((zm zB (zg 1) ((zi _)).fr)).er ((zm zB (zg 7) ((zi _)).fr)).er)).er ((zi _)).fr))
  (yU (pN (ym (zm pU (zg 5) (vZ).fr).fr) (mS (tG ((zZ (zl (zm zB (zg 2) (zg 4)) (zl (zw 5) zG)))).fr))) (ya (sA _)) yT))))))))
  (ya (sA _)))⟩
theorem R_ (F:Fy K mg "check_place" gI) (cq:We P w K mg base) (rf:iE P w K mg base):cI P w K mg base:=
 y7 (k:=2) F Us rfl (λ _ _ _ _ _ _=>ui λ _ _=>rfl) λ f cdv A outer s H E hr=>⟨_,
  (zH (yS (mJ (tE (zY cq (hr.mono (by decide)) (zf (za 1 (pv 1)) (zf zh (zf (vD (zY rf (hr.mono (by decide)) (zf (za 0 (pv 0)) zt)) zh) zt)))))) (zH Sh) yR)),
  (yU (mS (tG ((zZ (zl (zw 1) (zl ((zi _)).fe (zl ((vE ((zZ (zl (zw 0) zG))).fr ((zi _)).fr)).fe zG))))).fr)) Rr yT)⟩
theorem Qf (F:Fy K mg "border_of_either" gM) (cw:Wh P w K mg base):Wm P w K mg base:=
 y7 (k:=2) F kL rfl (λ _ _ _ _ _ _=>tT λ _=>rfl) λ f cdv A outer s H E hr=>⟨_,
  (zC (zP 1 kL.nd (xb zt))
  (zC (w_ PassesOwn.never rfl (xU (za 0 (pv 0))) (yt 2 kL.nd) (zH (zP 1 kL.nd (zY cw (hr.mono (by decide)) (zf (za 1 (pv 1)) (zf (za 2 (pv 2)) zt))))))
  (zH (zX (za 1 (pv 1)))))),
  (zD (zS 1 ((xc zG)).fe)
  (zD (va (u7 (zw 0)) (xH 2) (zS 1 ((zZ (zl (zw 1) (zl (zw 2) zG)))).fe))
  (ya (zw 1))))⟩
theorem Qg (F:Fy K mg "border_of_all" gN) (c6:Wl P w K mg base):Wn P w K mg base:=
 y7 (k:=2) F kM rfl (λ _ _ _ _ _ _=>tT λ _=>rfl) λ f cdv A outer s H E hr=>⟨_,
  (zC (zP 1 kM.nd (xb (zf (xb (zf zh (zf zh zt))) zt)))
  (zC (w_ PassesOwn.never rfl (xU (za 0 (pv 0))) (yt 2 kM.nd) (zH (zP 1 kM.nd (zY c6 (hr.mono (by decide)) (zf (za 1 (pv 1)) (zf (za 2 (pv 2)) zt))))))
  (zH (zX (za 1 (pv 1)))))),
  (zD (zS 1 ((xc (zl ((xc (zl ((zi _)).fe (zl ((zi _)).fe zG)))).fe zG))).fe)
  (zD (va (u7 (zw 0)) (xH 2) (zS 1 ((zZ (zl (zw 1) (zl (zw 2) zG)))).fe))
  (ya (zw 1))))⟩
theorem R8 (F:Fy K mg "leads_into" gr) (dP:XJ P w K mg base) (cv:Wg P w K mg base):XS P w K mg base:=
 y7 (k:=2) F bO rfl (λ _ _ _ _ _ _=>lV λ _ _ _ _=>rfl) λ f cdv A outer s H E hr=>⟨_,
  (zC (zP 4 bO.nd (zY dP (hr.mono (by decide)) (zf (za 0 (pv 0)) (zf (za 1 (pv 1)) (zf (za 2 (pv 2)) zt)))))
  (zH (zX (mN (aJ (za 4 (pv 4)) vY) (mK (zY cv (hr.mono (by decide)) (zf (zA (za 3 (pv 3)) (zA (zA (zA (za 0 (pv 0)) zh) (za 2 (pv 2))) zh)) (zf (za 4 (pv 4)) zt)))))))),
  (zD (zS 4 ((zZ (zl (zw 0) (zl (zw 1) (zl (zw 2) zG))))).fe)
  (ya (mT ((zm pU (zg 4) (vZ).fr)).fr (zZ (zl (zm zB (zg 3) ((zm zB ((zm zB ((zm zB (zg 0) ((zi _)).fr)).er (zg 2))).er ((zi _)).fr)).er) (zl (zw 4) zG))))))⟩
theorem RH (F:Fy K mg "_law_floor" g8) (wJ:o8 P w K mg base) (cj:XZ P w K mg base) (cn:Wc P w K mg base) (dY:XT P w K mg base) (dZ:XU P w K mg base):X_ P w K mg base:=
 y7 (k:=2) F qv rfl (λ _ _ _ _ _ _=>tT λ _=>rfl) λ f cdv A outer s H E hr=>⟨_,
  (zC (zP 1 qv.nd (zY wJ (hr.mono (by decide)) (zf (za 0 (pv 0)) (zf zh zt))))
  (zC (zP 2 qv.nd (zA (wu (zf zh (zf zh (zf zh (zf zh (zf zh (zf zh (zf zh (zf (xF zh (yI (wQ (za 1 (pv 1)) zh) zh)) zt))))))))) (yI (za 1 (pv 1)) zh)))
  (zC (zP 3 qv.nd (zY cj (hr.mono (by decide)) (zf (za 0 (pv 0)) (zf (za 2 (pv 2)) zt))))
  (zC (zP 4 qv.nd (zY cn (hr.mono (by decide)) (zf (za 0 (pv 0)) (zf (za 2 (pv 2)) zt))))
  (zC (zP 5 qv.nd (zY dY (hr.mono (by decide)) (zf (za 0 (pv 0)) (zf (za 2 (pv 2)) zt))))
  (zC (zP 6 qv.nd (zY dZ (hr.mono (by decide)) (zf (za 0 (pv 0)) (zf (za 3 (pv 3)) zt))))
  (zC (yS (xY.pt (rG (x_ hr (za 4 (pv 4)) (xb (zf zh (zf zh zt)))) (rF (xY.pt (pJ (fm (u5 T.len (zf (za 5 (pv 5)) zt)) zh) (pH (fm (u5 T.len (zf (za 6 (pv 6)) zt)) zh))))))) (zH (zP 4 qv.nd (xb (zf zh (zf zh zt))))) yR)
  (zH (zX (xb (zf (za 4 (pv 4)) (zf (za 3 (pv 3)) (zf (za 5 (pv 5)) (zf (za 6 (pv 6)) zt)))))))))))))),
  (zD (zS 1 ((zZ (zl (zw 0) (zl ((zi _)).fe zG)))).fe)
  (zD (zS 2 (zm zB ((wx (zl ((zi _)).fe (zl ((zi _)).fe (zl ((zi _)).fe (zl ((zi _)).fe (zl ((zi _)).fe (zl ((zi _)).fe (zl ((zi _)).fe (zl ((zm good_add ((zi _)).fr ((yJ ((wU (zg 1) ((zi _)).fr)).fr ((zi _)).fr)).fr)).fe zG)))))))))).fr ((yJ (zg 1) ((zi _)).fr)).fr))
  (zD (zS 3 ((zZ (zl (zw 0) (zl (zw 2) zG)))).fe)
  (zD (zS 4 ((zZ (zl (zw 0) (zl (zw 2) zG)))).fe)
  (zD (zS 5 ((zZ (zl (zw 0) (zl (zw 2) zG)))).fe)
  (zD (zS 6 ((zZ (zl (zw 0) (zl (zw 3) zG)))).fe)
  (zD (yU (rM (ym (zm xJ (zg 4) ((xc (zl ((zi _)).fe (zl ((zi _)).fe zG)))).fr).fr) (pN (ym (fE ((yv uC (zT (zg 5) ye))).fr ((zi _)).fr).fr) (ym (fE ((yv uC (zT (zg 6) ye))).fr ((zi _)).fr).fr))) (zS 4 ((xc (zl ((zi _)).fe (zl ((zi _)).fe zG)))).fe) yT)
  (ya (xc (zl (zw 4) (zl (zw 3) (zl (zw 5) (zl (zw 6) zG)))))))))))))⟩
theorem RP (F:Fy K mg "_law_all_lost" m4) (cg:XY P w K mg base) (qd:iG P w K mg base) (nL:cG P w K mg base) (d_:XW P w K mg base):Wd P w K mg base:=
 y7 (k:=2) F oM rfl (λ _ _ _ _ _ _=>ui λ _ _=>rfl) λ f cdv A outer s H E hr=>⟨_,
  (zC (w_ PassesOwn.never rfl (se T.range (zf (u5 T.len (zf (zA (za 0 (pv 0)) zh) zt)) zt)) (yt 2 oM.nd) (zC (qy (i:=3) (N':=["_law_way","_law_place"]) (pick:=[none,some 2]) (vn (N:=["_law_floor_here","_law_told","_law_place","_law_ways_here","_law_pair","_law_safe_here","_law_held_here"]) (esc:=zN m4)) rfl (xU (zA (za 0 (pv 0)) zh)) (λ _ _ _ _ _=>(yt 0 (by decide +kernel:List.Nodup (α:=Str) ["_law_way","_law_place"]))) (λ _ _ _ _ _=>qz (x_ hr (zA (za 0 (pv 0)) zh) (za 1 (pv 1)))) (λ _ _ _ _ _=>(za 0 (pv 0))) oM.nd rfl (by first | exact Or.inl rfl | exact Or.inr rfl))
  (zH (w_ PassesOwn.never rfl (xU (zY cg (hr.mono (by decide)) (zf (za 0 (pv 0)) zt))) (yt 4 oM.nd) (zH (yS (mJ (tE (zY qd (hr.mono (by decide)) (zf (zA (za 1 (pv 1)) (za 2 (pv 2))) (zf (za 4 (pv 4)) zt))))) (zC (zP 5 oM.nd (wu zt))
  (zC (w_ PassesOwn.never rfl (xU (zY nL (hr.mono (by decide)) (zf (za 0 (pv 0)) (zf (za 2 (pv 2)) (zf (za 4 (pv 4)) zt))))) (yt 6 oM.nd) (zH (uz (fw (za 5 (pv 5)) (sk (N':=["_law_way","_law_floor_here","_law_told","_law_held_here"]) (pick:=[none,some 0,some 1,some 6]) (vn (N:=["_law_floor_here","_law_told","_law_place","_law_ways_here","_law_pair","_law_safe_here","_law_held_here"]) (esc:=zN m4)) rfl (xU (za 3 (pv 3))) (λ _ _ _ _ _=>(yt 0 (by decide +kernel:List.Nodup (α:=Str) ["_law_way","_law_floor_here","_law_told","_law_held_here"]))) (λ _ _ _ _ _=>sg) (λ _ _ _ _ _=>(zY d_ (hr.mono (by decide)) (zf (za 1 (pv 1)) (zf (za 2 (pv 2)) (zf (za 3 (pv 3)) (zf (za 0 (pv 0)) zt)))))))))))
  (zH (yS (xY.pt (pJ (xY.pt (rG (x_ hr (zA (zA (za 0 (pv 0)) zh) (za 2 (pv 2))) oX) (rF (tE (aO T.any (zf (za 5 (pv 5)) zt)))))) (pH (xY.pt (rG (x_ hr (zA (zA (za 0 (pv 0)) zh) (za 2 (pv 2))) oX) (rF (tE (SJ T.all (zf (za 5 (pv 5)) zt))))))))) (zH (zX sr)) yR)))) yR))))))
  (zH (zX sr))),
  (zD (va (su (b:=true) (zT ((yv uC (zT ((zm zB (zg 0) ((zi _)).fr)).er ye))).fr ye)) (xH 2) (zD (zS 3 ((vi (uV ((zm zB (zg 0) ((zi _)).fr)).er) (wR 0) (ym (zm xJ ((zm zB (zg 0) ((zi _)).fr)).er (zg 1)).fr) (zw 0))).fe)
  (va (u7 ((zZ (zl (zw 0) zG))).fe) (xH 4) (yU (mS (tG ((zZ (zl (zm zB (zg 1) (zg 2)) (zl (zw 4) zG)))).fr)) (zD (u6 5 (wx zG))
  (zD (va (u7 ((zZ (zl (zw 0) (zl (zw 2) (zl (zw 4) zG))))).fe) (xH 6) (fC 5 (vi (uV (zg 3)) (wR 0) sy ((zZ (zl (zw 1) (zl (zw 2) (zl (zw 3) (zl (zw 0) zG)))))).fe)))
  (yU (pN (rM (ym (zm xJ ((zm zB ((zm zB (zg 0) ((zi _)).fr)).er (zg 2))).er ((qC _)).fr).fr) (tG ((yv eD (zT (zg 5) ye))).fr)) (rM (ym (zm xJ ((zm zB ((zm zB (zg 0) ((zi _)).fr)).er (zg 2))).er ((qC _)).fr).fr) (tG ((yv eD (zT (zg 5) ye))).fr))) (ya (sA _)) yT))) yT))))
  (ya (sA _)))⟩
theorem Rv (F:Fy K mg "ways_from" kO) (nN:cI P w K mg base):cE P w K mg base:=
 y7 (k:=3) F Uh rfl (λ _ _ _ _ _ _=>ui λ _ _=>rfl) λ f cdv A outer s H E hr=>⟨_,
  (zC (uz (zY nN (hr.mono (by decide)) (zf (za 0 (pv 0)) (zf (za 1 (pv 1)) zt))))
  (zH (zX (sk (N':=["number","way","place"]) (pick:=[none,none,some 1]) (vn (N:=["floor","place"]) (esc:=zN kO)) rfl (aF U.enumerate (zf (zA (za 0 (pv 0)) zh) zt)) (λ _ _ _ _ _=>(oW (n:=2) (vO (yt 0 (by decide +kernel:List.Nodup (α:=Str) ["number","way","place"])) (vO (yt 1 (by decide +kernel:List.Nodup (α:=Str) ["number","way","place"])) oV)))) (λ _ _ _ _ _=>qz (x_ hr (zA (za 1 (pv 1)) zh) (za 2 (pv 2)))) (λ _ _ _ _ _=>(za 0 (pv 0))))))),
  (zD (aZ ((zZ (zl (zw 0) (zl (zw 1) zG)))).fr)
  (ya (vi (a_ (zT ((zm zB (zg 0) ((zi _)).fr)).er ye)) (Zb (jm (wR 0) (jm (wR 1) Za))) (ym (zm xJ ((zm zB (zg 1) ((zi _)).fr)).er (zg 2)).fr) (zw 0))))⟩
theorem Ry (F:Fy K mg "stall_at" gk) (nN:cI P w K mg base):cF P w K mg base:=
 y7 (k:=3) F bN rfl (λ _ _ _ _ _ _=>ui λ _ _=>rfl) λ f cdv A outer s H E hr=>⟨_,
  (zC (uz (zY nN (hr.mono (by decide)) (zf (za 0 (pv 0)) (zf (za 1 (pv 1)) zt))))
  (zC (w_ PassesOwn.never rfl (xU (zA (za 0 (pv 0)) zh)) (yt 2 bN.nd) (zH (yS (x_ hr (zA (za 2 (pv 2)) zh) (za 1 (pv 1))) (zH (zX (za 2 (pv 2)))) yR)))
  (zH (zX vY)))),
  (zD (aZ ((zZ (zl (zw 0) (zl (zw 1) zG)))).fr)
  (zD (va (u7 (zm zB (zg 0) ((zi _)).fr)) (xH 2) (yU (ym (zm xJ ((zm zB (zg 2) ((zi _)).fr)).er (zg 1)).fr) (ya (zw 2)) yT))
  (ya (vZ).fe)))⟩
theorem Qi (F:Fy K mg "border_ahead_of_changes" gO) (nK:cF P w K mg base) (t7:ku P w K mg base) (dS:XO P w K mg base):Wq P w K mg base:=
 y7 (k:=4) F kN rfl (λ _ _ _ _ _ _=>sV λ _ _ _=>rfl) λ f cdv A outer s H E hr=>⟨_,
  (zC (zP 3 kN.nd (zY nK (hr.mono (by decide)) (zf (za 0 (pv 0)) (zf (za 1 (pv 1)) zt))))
  (zC (yS (jb (za 3 (pv 3)) vY) (zH (zX (za 2 (pv 2)))) yR)
  (zC (zP 4 kN.nd (wu zt))
  (zC (w_ PassesOwn.never rfl (xU (za 2 (pv 2))) (yt 5 kN.nd) (zH (uz (fw (za 4 (pv 4)) (zY dS (hr.mono (by decide)) (zf (zA (za 0 (pv 0)) zh) (zf (za 3 (pv 3)) (zf (za 5 (pv 5)) zt))))))))
  (zH (zX (zY t7 (hr.mono (by decide)) (zf (za 4 (pv 4)) zt)))))))),
  (zD (zS 3 (zZ (zl (zw 0) (zl (zw 1) zG))))
  (zD (yU (ym (zm pU (zg 3) (vZ).fr).fr) (ya (zw 2)) yT)
  (zD (u6 4 (wx zG))
  (zD (va (u7 (zw 2)) (xH 5) (fC 4 (zZ (zl (zm zB (zg 0) ((zi _)).fr) (zl (zw 3) (zl (zw 5) zG))))))
  (aY 4 (ya ((zZ (zl (zw 4) zG))).fe))))))⟩
theorem Qb (F:Fy K mg "change_at" gK) (nK:cF P w K mg base) (cy:Wj P w K mg base):Wk P w K mg base:=
 y7 (k:=4) F bQ rfl (λ _ _ _ _ _ _=>lV λ _ _ _ _=>rfl) λ f cdv A outer s H E hr=>⟨_,
  (zC (yS (x_ hr (za 3 (pv 3)) zh) (zH (zX (xb (zf (zA (za 2 (pv 2)) zh) (zf (zA (za 2 (pv 2)) zh) zt))))) yR)
  (zC (zP 4 bQ.nd (zY nK (hr.mono (by decide)) (zf (za 0 (pv 0)) (zf (za 1 (pv 1)) zt))))
  (zC (yS (jb (za 4 (pv 4)) vY) (zH (zX vY)) yR)
  (zH (zX (zY cy (hr.mono (by decide)) (zf (zA (za 0 (pv 0)) zh) (zf (za 4 (pv 4)) (zf (za 2 (pv 2)) (zf (za 3 (pv 3)) zt)))))))))),
  (zD (yU (ym (zm xJ (zg 3) ((zi _)).fr).fr) (ya (xc (zl (zm zB (zg 2) ((zi _)).fr) (zl (zm zB (zg 2) ((zi _)).fr) zG)))) yT)
  (zD (zS 4 (zZ (zl (zw 0) (zl (zw 1) zG))))
  (zD (yU (ym (zm pU (zg 4) (vZ).fr).fr) (ya vZ) yT)
  (ya (zZ (zl (zm zB (zg 0) ((zi _)).fr) (zl (zw 4) (zl (zw 2) (zl (zw 3) zG)))))))))⟩
theorem R6 {oD:Value}(F:Fy K mg "next_border" my) (qM:mg "KEEPER"=some oD) (oP:L2.RelV (.str "keeper") oD) (c8:Wn P w K mg base) (c9:Wo P w K mg base) (cA:Wq P w K mg base) (nJ:cE P w K mg base) (c7:Wm P w K mg base):XR P w K mg base:=
 y7 (k:=5) F hV rfl (λ _ _ _ _ _ _=>sV λ _ _ _=>rfl) λ f cdv A outer s H E hr=>⟨_,
  (zC (qy (i:=3) (N':=["number","floor"]) (pick:=[none,some 0]) (vn (N:=["floor","place","last","ways","ahead"]) (esc:=zN my)) rfl (xU (zY nJ (hr.mono (by decide)) (zf (za 0 (pv 0)) (zf (za 1 (pv 1)) zt)))) (λ _ _ _ _ _=>(yt 0 (by decide +kernel:List.Nodup (α:=Str) ["number","floor"]))) (λ _ _ _ _ _=>sg) (λ _ _ _ _ _=>(zA (zA (za 1 (pv 1)) zh) (za 0 (pv 0)))) hV.nd rfl (by first | exact Or.inl rfl | exact Or.inr rfl))
  (zC (qy (i:=4) (N':=["way","floor","last"]) (pick:=[none,some 0,some 2]) (vn (N:=["floor","place","last","ways","ahead"]) (esc:=zN my)) rfl (xU (za 3 (pv 3))) (λ _ _ _ _ _=>(yt 0 (by decide +kernel:List.Nodup (α:=Str) ["way","floor","last"]))) (λ _ _ _ _ _=>sg) (λ _ _ _ _ _=>(zY c9 (hr.mono (by decide)) (zf (zA (za 1 (pv 1)) zh) (zf (za 0 (pv 0)) (zf (zA (za 2 (pv 2)) (zA (za 0 (pv 0)) zh)) zt))))) hV.nd rfl (by first | exact Or.inl rfl | exact Or.inr rfl))
  (zC (yS (x_ hr (zA (zA (za 0 (pv 0)) zh) (za 1 (pv 1))) (aL qM oP)) (zH (zX (zY cA (hr.mono (by decide)) (zf (za 0 (pv 0)) (zf (za 1 (pv 1)) (zf (zY c7 (hr.mono (by decide)) (zf (za 4 (pv 4)) zt)) zt)))))) yR)
  (zH (zX (zY c8 (hr.mono (by decide)) (zf (za 4 (pv 4)) zt))))))),
  (zD (zS 3 ((vi (uV ((zZ (zl (zw 0) (zl (zw 1) zG)))).fr) (wR 0) sy (zm zB ((zm zB (zg 1) ((zi _)).fr)).er (zg 0)))).fe)
  (zD (zS 4 ((vi (uV (zg 3)) (wR 0) sy ((zZ (zl (zm zB (zg 1) ((zi _)).fr) (zl (zw 0) (zl (zm zB (zg 2) ((zm zB (zg 0) ((zi _)).fr)).er) zG))))).fe)).fe)
  (zD (yU (ym (zm xJ ((zm zB ((zm zB (zg 0) ((zi _)).fr)).er (zg 1))).er ((qC _)).fr).fr) (ya (zZ (zl (zw 0) (zl (zw 1) (zl (zZ (zl (zw 4) zG)) zG))))) yT)
  (ya (zZ (zl (zw 4) zG))))))⟩
theorem RZ (F:Fy K mg "deed_into" gH) (nJ:cE P w K mg base) (cz:Wk P w K mg base) (dX:XS P w K mg base):Wi P w K mg base:=
 y7 (k:=5) F pE rfl (λ _ _ _ _ _ _=>lV λ _ _ _ _=>rfl) λ f cdv A outer s H E hr=>⟨_,
  (zC (zP 4 pE.nd (zY nJ (hr.mono (by decide)) (zf (za 0 (pv 0)) (zf (za 1 (pv 1)) zt))))
  (zC (zP 5 pE.nd zh)
  (zC (zP 6 pE.nd (za 2 (pv 2)))
  (zC (jc PassesOwn.never (Se (za 6 (pv 6)) vY) (zC (w_ PassesOwn.never rfl (xU (za 4 (pv 4))) (yt 7 pE.nd) (zH (yS (tE (zY dX (hr.mono (by decide)) (zf (za 0 (pv 0)) (zf (za 6 (pv 6)) (zf (za 7 (pv 7)) (zf (za 3 (pv 3)) zt)))))) (zH (zX (xb (zf (za 5 (pv 5)) (zf (za 7 (pv 7)) zt))))) yR)))
  (zC (zP 5 pE.nd (xF (za 5 (pv 5)) zh))
  (zH (zP 6 pE.nd (zY cz (hr.mono (by decide)) (zf (za 0 (pv 0)) (zf (za 1 (pv 1)) (zf (za 2 (pv 2)) (zf (za 5 (pv 5)) zt))))))))))
  (zH (zX vY)))))),
  (zD (zS 4 ((zZ (zl (zw 0) (zl (zw 1) zG)))).fe)
  (zD (zS 5 ((zi _)).fe)
  (zD (zS 6 (zw 2))
  (zD (jj (ym (zm pU (zg 6) (vZ).fr).fr) (zD (va (u7 (zw 4)) (xH 7) (yU (tG ((zZ (zl (zw 0) (zl (zw 6) (zl (zw 7) (zl (zw 3) zG)))))).fr) (ya (xc (zl (zw 5) (zl (zw 7) zG)))) yT))
  (zD (zS 5 ((zm good_add (zg 5) ((zi _)).fr)).fe)
  (zS 6 ((zZ (zl (zw 0) (zl (zw 1) (zl (zw 2) (zl (zw 5) zG)))))).fe))))
  (ya vZ)))))⟩
theorem R5 (F:Fy K mg "next_round" kS) (dW:XR P w K mg base):XQ P w K mg base:=
 y7 (k:=6) F hJ rfl (λ _ _ _ _ _ _=>sV λ _ _ _=>rfl) λ f cdv A outer s H E hr=>⟨_,
  (zC (zP 3 hJ.nd (jf T.list (zf (za 1 (pv 1)) zt)))
  (zC (w_ PassesOwn.never rfl (xU (aG hr T.sorted U.set (zf (sk (N':=["way","fresh"]) (pick:=[none,some 2]) (vn (N:=["floor","last","fresh","following","place"]) (esc:=zN kS)) rfl (xU (zA (za 0 (pv 0)) zh)) (λ _ _ _ _ _=>(yt 0 (by decide +kernel:List.Nodup (α:=Str) ["way","fresh"]))) (λ _ _ _ _ _=>qz (Sf hr (zA (za 0 (pv 0)) zh) (za 1 (pv 1)))) (λ _ _ _ _ _=>(zA (za 0 (pv 0)) zh))) zt))) (yt 4 hJ.nd) (zH (fq (za 3 (pv 3)) (za 4 (pv 4)) (zY dW (hr.mono (by decide)) (zf (za 0 (pv 0)) (zf (za 4 (pv 4)) (zf (za 1 (pv 1)) zt)))))))
  (zH (zX (za 3 (pv 3)))))),
  (zD (u6 3 (yv j8 (zT (zg 1) ye)))
  (zD (va (u7 ((yv Ya (zT ((vi (uV ((zm zB (zg 0) ((zi _)).fr)).er) (wR 0) (ym (zm PM ((zm zB (zg 0) ((zi _)).fr)).er (zg 1)).fr) (zm zB (zg 0) ((zi _)).fr))).fr ye))).fe) (xH 4) (fB 3 (zg 4) (zZ (zl (zw 0) (zl (zw 4) (zl (zw 1) zG))))))
  (mQ 3)))⟩
theorem Rz {oD:Value}(F:Fy K mg "rows_at" kQ) (qM:mg "KEEPER"=some oD) (oP:L2.RelV (.str "keeper") oD) (cx:Wi P w K mg base):XM P w K mg base:=
 y7 (k:=6) F Ui rfl (λ _ _ _ _ _ _=>sV λ _ _ _=>rfl) λ f cdv A outer s H E hr=>⟨_,
  (zC (yS (ja hr (zA (zA (za 0 (pv 0)) zh) (za 1 (pv 1))) (aL qM oP)) (zH (zX (xb zt))) yR)
  (zH (zX (pK T.tuple (zf (sk (N':=["pair","floor","place","held"]) (pick:=[none,some 0,some 1,some 2]) (vn (N:=["floor","place","held"]) (esc:=zN kQ)) rfl (xU (zA (za 2 (pv 2)) (za 1 (pv 1)))) (λ _ _ _ _ _=>(yt 0 (by decide +kernel:List.Nodup (α:=Str) ["pair","floor","place","held"]))) (λ _ _ _ _ _=>sg) (λ _ _ _ _ _=>(xF (xb (zf (za 0 (pv 0)) zt)) (zY cx (hr.mono (by decide)) (zf (za 1 (pv 1)) (zf (za 2 (pv 2)) (zf (za 0 (pv 0)) (zf (za 3 (pv 3)) zt)))))))) zt))))),
  (zD (yU (ym (zm xJ ((zm zB ((zm zB (zg 0) ((zi _)).fr)).er (zg 1))).er ((qC _)).fr).fr) (ya (xc zG)) yT)
  (ya (yv pT (zT ((vi (uV ((zm zB (zg 2) (zg 1))).er) (wR 0) sy ((zm good_add ((xc (zl (zw 0) zG))).fr ((zZ (zl (zw 1) (zl (zw 2) (zl (zw 0) (zl (zw 3) zG)))))).fr)).fe)).fr ye))))⟩
theorem R0 (F:Fy K mg "rounds" kR) (dU:XQ P w K mg base) (rf:iE P w K mg base):XN P w K mg base:=
 y7 (k:=7) F oJ rfl (λ _ _ _ _ _ _=>tT λ _=>rfl) λ f cdv A outer s H E hr=>⟨_,
  (zC (zP 1 oJ.nd (wu (zf (q8 (wu (zf (xb (zf (xb (zf zh (zf zh zt))) zt)) zt)) (zY rf (hr.mono (by decide)) (zf (za 0 (pv 0)) zt))) zt)))
  (zC (zP 2 oJ.nd (Sv T.list T.range (zf (zY rf (hr.mono (by decide)) (zf (za 0 (pv 0)) zt)) zt)))
  (zC (jc PassesOwn.never (tE (za 2 (pv 2))) (zC (zP 3 oJ.nd (zA (za 1 (pv 1)) (mL zh)))
  (zC (zP 4 oJ.nd (zY dU (hr.mono (by decide)) (zf (za 0 (pv 0)) (zf (za 3 (pv 3)) (zf (za 2 (pv 2)) zt)))))
  (zC (qy (i:=2) (N':=["place","border","last"]) (pick:=[none,none,some 3]) (vn (N:=["floor","told","fresh","last","following"]) (esc:=zN kR)) rfl (aF U.enumerate (zf (za 4 (pv 4)) zt)) (λ _ _ _ _ _=>(oW (n:=2) (vO (yt 0 (by decide +kernel:List.Nodup (α:=Str) ["place","border","last"])) (vO (yt 1 (by decide +kernel:List.Nodup (α:=Str) ["place","border","last"])) oV)))) (λ _ _ _ _ _=>qz (ja hr (za 1 (pv 1)) (zA (za 2 (pv 2)) (za 0 (pv 0))))) (λ _ _ _ _ _=>(za 0 (pv 0))) oJ.nd rfl (by first | exact Or.inl rfl | exact Or.inr rfl))
  (zH (yS (tE (za 2 (pv 2))) (zH (uz (qA (za 1 (pv 1)) (za 4 (pv 4))))) yR))))))
  (zH (zX (za 1 (pv 1))))))),
  (zD (u6 1 (wx (zl ((zm qL ((wx (zl ((xc (zl ((xc (zl ((zi _)).fe (zl ((zi _)).fe zG)))).fe zG))).fe zG))).fr ((zZ (zl (zw 0) zG))).fr)).fe zG)))
  (zD (zS 2 ((yv PL (zT ((zZ (zl (zw 0) zG))).fr ye))).fe)
  (zD (jj (tG (zg 2)) (zD (zS 3 (zm zB (zg 1) ((mR ((zi _)).fr)).fr))
  (zD (zS 4 ((zZ (zl (zw 0) (zl (zw 3) (zl (zw 2) zG))))).fe)
  (zD (zS 2 ((vi (a_ (zT (zg 4) ye)) (Zb (jm (wR 0) (jm (wR 1) Za))) (ym (zm xJ (zg 1) ((zm zB (zg 2) (zg 0))).er).fr) (zw 0))).fe)
  (yU (tG (zg 2)) (qB 1 (zw 4)) yT)))))
  (mQ 1))))⟩
theorem Qe (F:Fy K mg "borders" gL) (dR:XN P w K mg base):cJ P w K mg base:=
 y7 (k:=8) F Ut rfl (λ _ _ _ _ _ _=>tT λ _=>rfl) λ f cdv A outer s H E hr=>⟨_,
  (zH (zX (zA (zY dR (hr.mono (by decide)) (zf (za 0 (pv 0)) zt)) (mL zh)))),
  (ya (zm zB ((zZ (zl (zw 0) zG))).fr ((mR ((zi _)).fr)).fr))⟩
theorem Rw (F:Fy K mg "table" kP) (nP:cJ P w K mg base) (dQ:XM P w K mg base) (rf:iE P w K mg base):XI P w K mg base:=
 y7 (k:=9) F bM rfl (λ _ _ _ _ _ _=>tT λ _=>rfl) λ f cdv A outer s H E hr=>⟨_,
  (zC (zP 1 bM.nd (zY nP (hr.mono (by decide)) (zf (za 0 (pv 0)) zt)))
  (zH (zX (sk (N':=["place","floor","held"]) (pick:=[none,some 0,some 1]) (vn (N:=["floor","held"]) (esc:=zN kP)) rfl (se T.range (zf (zY rf (hr.mono (by decide)) (zf (za 0 (pv 0)) zt)) zt)) (λ _ _ _ _ _=>(yt 0 (by decide +kernel:List.Nodup (α:=Str) ["place","floor","held"]))) (λ _ _ _ _ _=>sg) (λ _ _ _ _ _=>(zY dQ (hr.mono (by decide)) (zf (za 1 (pv 1)) (zf (za 0 (pv 0)) (zf (za 2 (pv 2)) zt))))))))),
  (zD (zS 1 (zZ (zl (zw 0) zG)))
  (ya (vi (su (b:=false) (zT ((zZ (zl (zw 0) zG))).fr ye)) (wR 0) sy ((zZ (zl (zw 1) (zl (zw 0) (zl (zw 2) zG))))).fe)))⟩
theorem RQ {f:Addr}{fd:FuncData}(F:tV K "law" "law" kU f fd) (ck:X_ P w K mg base) (nP:cJ P w K mg base) (wJ:o8 P w K mg base) (cf:XX P w K mg base) (cp:Wd P w K mg base) (dN:XI P w K mg base):t8 P w K mg base ur 11 f fd ["_law_script"] (rn K (yf zV o5)):=
 Yk (k:=10) F rC rfl λ cdv A outer s H E hr=>⟨_,
  (zC (zP 1 rC.nd (zY ck (hr.mono (by decide)) (zf (za 0 (pv 0)) zt)))
  (zC (zP 2 rC.nd (zY nP (hr.mono (by decide)) (zf (za 1 (pv 1)) zt)))
  (zC (yS (mJ (tE (zY cp (hr.mono (by decide)) (zf (za 1 (pv 1)) (zf (za 2 (pv 2)) zt))))) (zH (zX sr)) yR)
  (zC (qy (i:=3) (N':=["_law_place","_law_told"]) (pick:=[none,some 2]) (vn (N:=["_law_script","_law_floor_here","_law_told","_law_some","_law_place","_law_x","_law_y","_law_cell_here","_law_pair"]) (esc:=zN kU)) rfl (se T.range (zf (u5 T.len (zf (za 2 (pv 2)) zt)) zt)) (λ _ _ _ _ _=>(yt 0 (by decide +kernel:List.Nodup (α:=Str) ["_law_place","_law_told"]))) (λ _ _ _ _ _=>qz (ja hr (zA (za 1 (pv 1)) (za 0 (pv 0))) (xb zt))) (λ _ _ _ _ _=>(za 0 (pv 0))) rC.nd rfl (by first | exact Or.inl rfl | exact Or.inr rfl))
  (zC (yS (x_ hr (za 3 (pv 3)) (wu zt)) (zH (zX sr)) yR)
  (zC (zP 4 rC.nd (zA (za 3 (pv 3)) (yI (zY wJ (hr.mono (by decide)) (zf (za 0 (pv 0)) (zf zh zt))) (u5 T.len (zf (za 3 (pv 3)) zt)))))
  (zC (Sj (zA (zA (za 2 (pv 2)) (za 4 (pv 4))) (yI (zY wJ (hr.mono (by decide)) (zf (za 0 (pv 0)) (zf zh zt))) (u5 T.len (zf (zA (za 2 (pv 2)) (za 4 (pv 4))) zt)))) (oW (n:=2) (vO (yt 5 rC.nd) (vO (yt 6 rC.nd) oV))))
  (zC (zP 7 rC.nd (zY wJ (hr.mono (by decide)) (zf (za 0 (pv 0)) (zf zh zt))))
  (zC (zP 8 rC.nd (xb (zf (xF (za 5 (pv 5)) (yI (za 7 (pv 7)) (xF (vD (zA (zA (za 1 (pv 1)) zh) zh) (za 5 (pv 5))) zh))) (zf (xF (za 6 (pv 6)) (yI (wQ (za 7 (pv 7)) zh) (xF (vD (zA (zA (za 1 (pv 1)) zh) zh) (za 6 (pv 6))) zh))) zt))))
  (zH (zX (zY cf (hr.mono (by decide)) (zf (za 0 (pv 0)) (zf (za 1 (pv 1)) (zf (za 2 (pv 2)) (zf (zY dN (hr.mono (by decide)) (zf (za 1 (pv 1)) zt)) (zf (za 4 (pv 4)) (zf (za 8 (pv 8)) zt)))))))))))))))))),
  (zD (zS 1 ((zZ (zl (zw 0) zG))).fe)
  (zD (zS 2 (zZ (zl (zw 1) zG)))
  (zD (yU (mS (tG ((zZ (zl (zw 1) (zl (zw 2) zG)))).fr)) (ya (sA _)) yT)
  (zD (zS 3 ((vi (su (b:=false) (zT ((yv uC (zT (zg 2) ye))).fr ye)) (wR 0) (ym (zm xJ ((zm zB (zg 1) (zg 0))).er ((xc zG)).fr).fr) (zw 0))).fe)
  (zD (yU (ym (zm xJ (zg 3) ((wx zG)).fr).fr) (ya (sA _)) yT)
  (zD (zS 4 (zm zB (zg 3) ((yJ ((zZ (zl (zw 0) (zl ((zi _)).fe zG)))).fr ((yv uC (zT (zg 3) ye))).fr)).fr))
  (zD (Rq (zm zB ((zm zB (zg 2) (zg 4))).er ((yJ ((zZ (zl (zw 0) (zl ((zi _)).fe zG)))).fr ((yv uC (zT ((zm zB (zg 2) (zg 4))).er ye))).fr)).fr) (jl (tF (xH 5) (tF (xH 6) jk))))
  (zD (zS 7 ((zZ (zl (zw 0) (zl ((zi _)).fe zG)))).fe)
  (zD (zS 8 ((xc (zl ((zm good_add (zg 5) ((yJ (zg 7) ((zm good_add ((vE ((zm zB ((zm zB (zg 1) ((zi _)).fr)).er ((zi _)).fr)).er (zg 5))).fr ((zi _)).fr)).fr)).fr)).fe (zl ((zm good_add (zg 6) ((yJ ((wU (zg 7) ((zi _)).fr)).fr ((zm good_add ((vE ((zm zB ((zm zB (zg 1) ((zi _)).fr)).er ((zi _)).fr)).er (zg 6))).fr ((zi _)).fr)).fr)).fr)).fe zG)))).fe)
  (ya (zZ (zl (zw 0) (zl (zw 1) (zl (zw 2) (zl ((zZ (zl (zw 1) zG))).fe (zl (zw 4) (zl (zw 8) zG)))))))))))))))))⟩
end
def NJ {l:PySem.W.OpenLaw}{w:World}{K:zFr}{h:Heap}{mg:Str->Option Value}{fa:Addr}(X:K.In h) (G:h.Ns mainGlobals mg) (hfa:mg "law"=some (.ref fa))
  (h0:Fx K "is_whole" gF) (h1:Fx K "is_whole_within" gE) (h2:Fx K "places_of" gm) (h3:Fx K "check_place" gI) (h4:Fx K "ways_from" kO) (h5:Fx K "stall_at" gk) (h6:Fx K "at_or_above" gP) (h7:Fx K "least_pairs" gq) (h8:Fx K "holds" kW) (h9:Fx K "both" m5) (h10:Fx K "either" gG) (h11:Fx K "border_ahead_of_way" m6) (h12:Fx K "pairs_ahead_of_changes" gp) (h13:Fx K "border_ahead_of_changes" gO) (h14:Fx K "border_of_either" gM) (h15:Fx K "border_of_all" gN) (h16:Fx K "next_border" my) (h17:Fx K "next_round" kS) (h18:Fx K "rounds" kR) (h19:Fx K "step_by" gj) (h20:Fx K "change_by" gJ) (h21:Fx K "change_at" gK) (h22:Fx K "borders" gL) (h23:Fx K "leads_into" gr) (h24:Fx K "deed_into" gH) (h25:Fx K "rows_at" kQ) (h26:Fx K "table" kP) (h27:Fx K "_law_cell" gB) (h28:Fx K "_law_coins" g9) (h29:Fx K "_law_brims" gC) (h30:Fx K "_law_owners" gz) (h31:Fx K "_law_ways" gs) (h32:Fx K "_law_stalls" gu) (h33:Fx K "_law_floor" g8) (h34:Fx K "_law_behind" gD) (h35:Fx K "_law_changes" gA) (h36:Fx K "_law_held" g7) (h37:Fx K "_law_pairs" kT) (h38:Fx K "_law_safe" gw) (h39:Fx K "_law_all_lost" m4) (h40:Fx K "_law_deed" mz) (h41:Fx K "_law_played" gy) (h42:Fx K "law" kU)
  (qM:Cn K "KEEPER" (.str "keeper"))
  (y0:PySem.W.nsIn K mainGlobals "set"=some none) (y1:PySem.W.nsIn K mainGlobals "zip"=some none) (y2:PySem.W.nsIn K mainGlobals "enumerate"=some none)
  (z0:PySem.W.nsIn K mainGlobals "len"=some none) (z1:PySem.W.nsIn K mainGlobals "range"=some none) (z2:PySem.W.nsIn K mainGlobals "any"=some none) (z3:PySem.W.nsIn K mainGlobals "all"=some none) (z4:PySem.W.nsIn K mainGlobals "sorted"=some none) (z5:PySem.W.nsIn K mainGlobals "isinstance"=some none) (z6:PySem.W.nsIn K mainGlobals "bool"=some none) (z7:PySem.W.nsIn K mainGlobals "int"=some none) (z8:PySem.W.nsIn K mainGlobals "str"=some none) (z9:PySem.W.nsIn K mainGlobals "list"=some none) (z10:PySem.W.nsIn K mainGlobals "tuple"=some none) (z11:PySem.W.nsIn K mainGlobals "max"=some none) (z12:PySem.W.nsIn K mainGlobals "min"=some none):
  ∃ fd:FuncData,(∀ (s:Shared) (v:Value),BindsTo s fd ⟨[v],[]⟩ [("_law_script",v)])/\∀ base:Heap,K.In base->base.Ns mainGlobals mg->t8 l.prog w K mg base ur 11 fa fd ["_law_script"] (rn K (yf zV o5)):=by
 have T:Bt mg:=⟨zC2 X G z0,zC2 X G z1,zC2 X G z2,zC2 X G z3,zC2 X G z4,zC2 X G z5,zC2 X G z6,zC2 X G z7,zC2 X G z8,zC2 X G z9,zC2 X G z10,zC2 X G z11,zC2 X G z12⟩
 have U:Bq mg:=⟨zC2 X G y0,zC2 X G y1,zC2 X G y2⟩
 obtain⟨oD,qM,oP⟩:=qM.mk X G;obtain⟨fd,Fl,hb⟩:=h42.law X G hfa λ _ _ _ _ _ _ _ _=>.of_eq rfl;refine⟨fd,hb,λ base _ _=>?_⟩;have cu:=RT l.prog w base T U (h0.mk X G);have rf:=R1 l.prog w base T U (h2.mk X G);have nQ:=Qj l.prog w base T U (h6.mk X G);have t7:=R7 l.prog w base T U (h7.mk X G);have dS:=R3 l.prog w base T U (h12.mk X G);have dP:=Rx l.prog w base T U (h19.mk X G);have cy:=Qa l.prog w base T U (h20.mk X G);have wJ:=RL l.prog w base T U (h27.mk X G);have i8:=RJ l.prog w base T U (h28.mk X G);have nM:=RO l.prog w base T U (h34.mk X G);have nL:=RK l.prog w base T U (h35.mk X G);have qd:=RG l.prog w base T U (h36.mk X G);have cg:=RE l.prog w base T U (h37.mk X G);have cm:=RI l.prog w base T U (h40.mk X G);have cq:=RS l.prog w base T U (h1.mk X G) cu;have cv:=RV l.prog w base T U (h8.mk X G) nQ;have c6:=Qd l.prog w base T U (h9.mk X G) t7;have cw:=RW l.prog w base T U (h10.mk X G) t7;have c9:=Qh l.prog w base T U (h11.mk X G) t7 nQ;have cn:=RM l.prog w base T U (h29.mk X G) wJ;have cj:=RF l.prog w base T U (h30.mk X G) wJ;have dY:=RA l.prog w base T U (h31.mk X G) wJ i8;have dZ:=RB l.prog w base T U (h32.mk X G) wJ;have d_:=RC l.prog w base T U (h38.mk X G) nM qd;have cf:=RD l.prog w base T U (h41.mk X G) cm nL nM qd;have nN:=R_ l.prog w base T U (h3.mk X G) cq rf;have c7:=Qf l.prog w base T U (h14.mk X G) cw;have c8:=Qg l.prog w base T U (h15.mk X G) c6;have dX:=R8 l.prog w base T U (h23.mk X G) dP cv;have ck:=RH l.prog w base T U (h33.mk X G) wJ cj cn dY dZ;have cp:=RP l.prog w base T U (h39.mk X G) cg qd nL d_;have nJ:=Rv l.prog w base T U (h4.mk X G) nN;have nK:=Ry l.prog w base T U (h5.mk X G) nN;have cA:=Qi l.prog w base T U (h13.mk X G) nK t7 dS;have cz:=Qb l.prog w base T U (h21.mk X G) nK cy;have dW:=R6 l.prog w base T U (h16.mk X G) qM oP c8 c9 cA nJ c7;have cx:=RZ l.prog w base T U (h24.mk X G) nJ cz dX;have dU:=R5 l.prog w base T U (h17.mk X G) dW;have dQ:=Rz l.prog w base T U (h25.mk X G) qM oP cx;have dR:=R0 l.prog w base T U (h18.mk X G) dU rf;have nP:=Qe l.prog w base T U (h22.mk X G) dR;have dN:=Rw l.prog w base T U (h26.mk X G) nP dQ rf;exact RQ l.prog w base T U Fl ck nP wJ cf cp dN
def Vb {l:PySem.W.OpenLaw}{q:Program}{loose:List Str}{XP:(Str->Option Value)->Heap->Prop}{YP:World->Heap->Prop}{d:DefRec}{K:Params->zFr}(hn:l.most=some 63) (hdf:d.params.defaults=[])
  (hY:∀ (w:World) (h:Heap),YP w h->(K w.params).In h)
  (F:∀ (w:World) (mg:Str->Option Value) (fa:Addr) (h:Heap),(K w.params).In h->h.Ns mainGlobals mg->mg d.name=some (.ref fa)->
   ∃ fd:FuncData,(∀ (s:Shared) (u:Value),BindsTo s fd ⟨[u],[]⟩ [("_law_script",u)])/\∀ base:Heap,(K w.params).In base->base.Ns mainGlobals mg->t8 l.prog w (K w.params) mg base ur 11 fa fd ["_law_script"] (rn (K w.params) (yf zV o5))):
  PySem.W.WalkO q loose XP YP l.row.toRowW d [] (λ f vs=>PySem.call f vs):=
 L2.Va (n:=63) (k:=11) (x:="_law_script") (CX:=λ _=>ur) (sp:=λ w=>rn (K w.params) (yf zV o5)) hn (by decide) hdf ⟨rfl,by decide,by decide⟩ hY F (λ _ _ a ns hl hO hS=>QR QP hO hS hl) λ _ _ _ _ _ z=>z
end yx
open PySem PySem.W PyProof.Rows
set_option maxRecDepth 100000 in
set_option maxHeartbeats 0 in
theorem PySem.Challenge.cw_purseborder_k44_whole_enough_for_ever_holds : PySem.Challenge.rw_purseborder_k44_whole_enough_for_ever.Holds := by
 w_on;o_law;k_head;(case hw=>w_witness2)
 k_fill
 refine yx.Vb (l:=PySem.Challenge.rw_purseborder_k44_whole_enough_for_ever) rfl rfl (λ w h Y=>PySem.W.kIn_of Y) ?F
 case F=>
  intro w mg fa h KX G hmg;refine' yx.NJ KX G hmg ?_ ?_ ?_ ?_ ?_ ?_ ?_ ?_ ?_ ?_ ?_ ?_ ?_ ?_ ?_ ?_ ?_ ?_ ?_ ?_ ?_ ?_ ?_ ?_ ?_ ?_ ?_ ?_ ?_ ?_ ?_ ?_ ?_ ?_ ?_ ?_ ?_ ?_ ?_ ?_ ?_ ?_ ?_ ?_ ?_ ?_ ?_ ?_ ?_ ?_ ?_ ?_ ?_ ?_ ?_ ?_ ?_ ?_ ?_ ?_
  all_goals first | exact L5.Fx.i (by k_is) (by k_is) (by k_is) (by k_is) | k_is | exact L5.Cn.i (by k_is) (by exact⟨_,rfl⟩)
