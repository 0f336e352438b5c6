import PyProof.Rows.All
import Wide.All
import OpenK.AllK
import Wide.FinOn
import Lean
import PyProof.EqAt
import PyProof.EqKinds
import PyProof.TupleCall
import PySem.SetOps
import PyProof.SetScanFacts
import PyProof.TupleKey
import PyProof.SetKind
import PyProof.SetRoads
import PyProof.IsRules
import PyProof.ZipIter
import PyProof.TupleIter
import PyProof.ListMulRoad
import PyProof.FactsAll.tuple
import PyProof.ListRange
import PyProof.Draws
import PyProof.EnumFor
import PyProof.Rows.ListMul
import PyProof.AutoListH
import PySem.Challenge.RW_purseborder_k31_rounds_walked
set_option Elab.async false
set_option linter.all false
set_option maxRecDepth 100000
noncomputable section
def zA0:=@List.size_toArray
def zA1:=@List.getElem?_eq_getElem
def zA2:=@List.getElem?_eq_some_iff
def zA3:=@List.getElem?_map
def zA4:=@Nat.le_refl
def zA5:=@List.mem_cons
def zA6:=@List.map_cons
def zA7:=@List.length_map
def zA8:=@PySem.Heap.lt_size
def zA9:=@PySem.Heap.get?_push_size
def zB0:=@List.mem_map
def zB1:=@List.getD_eq_getElem?_getD
def zB2:=@Bool.not_false
def zB3:=@Nat.ne_of_lt
def zB4:=@List.mem_append_right
def zB5:=@Bool.not_true
def zB6:=@List.mem_singleton
def zB7:=@List.mem_of_getElem?
def zB8:=@Array.getElem?_eq_getElem
def zB9:=@List.mem_append
def zC0:=@List.length_cons
def zC1:=@List.mem_range
def zC2:=@PySem.W.mg_none_of
def zC3:=@Nat.lt_of_lt_of_le
def zC4:=@Bool.false_eq_true
def zC5:=@List.length_range
def zC6:=@Int.le_refl
def zC7:=@Bool.eq_iff_iff
def zC8:=@List.mem_filter
def zC9:=@Option.bind_some
def zD0:=@List.any_eq_true
def zD1:=@PySem.wpAny_pure
def zD2:=@Array.length_toList
def zD3:=@Array.getElem?_toList
def zD4:=@Nat.zero_le
def zD5:=@Option.some.inj
def zD6:=@List.map_map
def zD7:=@List.length_append
def zD8:=@List.getElem_mem
def zE0:=@Nat.le_trans
def zE1:=@Nat.lt_irrefl
def zE2:=@Nat.lt_succ_self
def zE3:=@Nat.le_of_lt
def zE4:=@List.all_eq_true
def zE5:=@Bool.and_eq_true
def zE7:=@List.map_append
def zE9:=@Bool.not_eq_true
def zF2:=@Int.toNat_of_nonneg
abbrev zFr:=PySem.W.Frag
noncomputable def zWb:=@PySem.wpAny_bind
noncomputable def zHp:=@PySem.Heap.get?_push_of_some
def zOb {α β:Type}{x:Option α}{f:α->Option β}{b:β} (h:x.bind f=some b):∃ a,x=some a/\f a=some b:=Option.bind_eq_some_iff.mp h
def zOm {α β:Type}{x:Option α}{f:α->β}{b:β} (h:x.map f=some b):∃ a,x=some a/\f a=b:=Option.map_eq_some_iff.mp h
def zMc {α:Type}{a:α}{l:List α}:a∈a::l:=List.mem_cons_self
def zMo {α:Type} (y:α) {a:α}{l:List α} (h:a∈l):a∈y::l:=List.mem_cons_of_mem y h
namespace L2
open PySem PySem.Spec PyProof.Rows
abbrev Key:=Sum Int Str
noncomputable def oJ:Key->Value->Bool
 | .inl k,v=>Value.isInt k v
 | .inr x,v=>Value.isStrOf x v
noncomputable def QR (w:World):Key->Int
 | .inl k=>hashInt k
 | .inr x=>hashStr w x
theorem sM:∀ {k:Key}{v:Value},oJ k v=true->(∃ i t,k=Sum.inl i/\v=Value.int i t)\/(∃ x t,k=Sum.inr x/\v=Value.str x t)
 | .inl i,v,h=>by
  obtain⟨t,e⟩:=Value.isInt_shape (k:=i) (v:=v) h;exact .inl ⟨i,t,rfl,e⟩
 | .inr x,v,h=>by
  obtain⟨t,e⟩:=Value.isStrOf_shape (x:=x) (v:=v) h;exact .inr ⟨x,t,rfl,e⟩
def QQ (i:Int) (t:Tok):oJ (.inl i) (.int i t)=true:=by simp[oJ,Value.isInt]
def QP (x:Str) (t:Tok):oJ (.inr x) (.str x t)=true:=by simp[oJ,Value.isStrOf]
def QO (a b:Int):decide ((Sum.inl a:Key)=Sum.inl b)=(a == b):=by
 by_cases e:a=b
 .subst e;simp
 .have h:¬ (Sum.inl a:Key)=Sum.inl b:=λ q=>e (Sum.inl.inj q);rw[decide_eq_false h];exact (beq_eq_false_iff_ne.mpr e).symm
def QL (a b:Str):decide ((Sum.inr a:Key)=Sum.inr b)=decide (a=b):=by
 by_cases e:a=b
 .subst e;simp
 .have h:¬ (Sum.inr a:Key)=Sum.inr b:=λ q=>e (Sum.inr.inj q);rw[decide_eq_false h,decide_eq_false e]
def QN (a:Int) (b:Str):decide ((Sum.inl a:Key)=Sum.inr b)=false:=decide_eq_false (λ q=>nomatch q)
def QM (a:Str) (b:Int):decide ((Sum.inr a:Key)=Sum.inl b)=false:=decide_eq_false (λ q=>nomatch q)
noncomputable def vb (prog:Program) (w:World):PySem.KeyKind prog w Key where
 is:=oJ
 hash:=QR w
 inj:=λ v a b ha hb=>by
  rcases sM ha with ⟨i,t,rfl,rfl⟩ | ⟨x,t,rfl,rfl⟩
  .rcases sM hb with ⟨j,u,rfl,e⟩ | ⟨y,u,rfl,e⟩
   .injection e with e1 _;rw[e1]
   .exact nomatch e
  .rcases sM hb with ⟨j,u,rfl,e⟩ | ⟨y,u,rfl,e⟩
   .exact nomatch e
   .injection e with e1 _;rw[e1]
 byValue:=λ k v h=>by
  rcases sM h with ⟨i,t,rfl,rfl⟩ | ⟨x,t,rfl,rfl⟩ <;> rfl
 pyHash:=λ hv h=>by
  rcases sM hv with ⟨i,t,rfl,rfl⟩ | ⟨x,t,rfl,rfl⟩
  .exact wpAny_pyHash_int h
  .exact wpAny_pyHash_str h
 eqBool:=λ hu hv h=>by
  rcases sM hu with ⟨i,t,rfl,rfl⟩ | ⟨x,t,rfl,rfl⟩
  .rcases sM hv with ⟨j,u,rfl,rfl⟩ | ⟨y,u,rfl,rfl⟩
   .rw[QO] at h;exact wpAny_eqBool_int h
   .rw[QN] at h;exact SeqAt.EqAt.int_str i t y u _ _ _ _ h
  .rcases sM hv with ⟨j,u,rfl,rfl⟩ | ⟨y,u,rfl,rfl⟩
   .rw[QM] at h;exact SeqAt.EqAt.str_int x t j u _ _ _ _ h
   .rw[QL] at h;exact wpAny_eqBool_str h
 «strs»:=λ k x t v h=>by
  rcases sM h with ⟨i,u,rfl,e⟩ | ⟨y,u,rfl,e⟩
  .exact nomatch e
  .injection e with e1 _
   subst e1;cases v <;> rfl
def Qv (prog:Program) (w:World) (i:Int) (t:Tok):(vb prog w).is (.inl i) (.int i t)=true:=QQ i t
def Qu (prog:Program) (w:World) (x:Str) (t:Tok):(vb prog w).is (.inr x) (.str x t)=true:=QP x t
inductive V where
 | zj | bl (b:Bool) | int (i:Int) | str (x:Str) | oZ (b:Array UInt8) | jo (b:UInt64) | ref (a:Addr) | ty (n:String)
 deriving DecidableEq
noncomputable def RelV:V->Value->Prop
 | .zj,u=>u=Value.none
 | .bl b,u=>u=Value.bool b
 | .int i,u=>∃ t,u=Value.int i t
 | .str x,u=>∃ t,u=Value.str x t
 | .oZ b,u=>∃ t,u=Value.bytes b t
 | .jo b,u=>∃ t,u=Value.float b t
 | .ref a,u=>u=Value.ref a
 | .ty n,u=>u=Value.type n
abbrev Vals:List V->List Value->Prop:=Paired RelV
theorem Vals.length {xs:List V}{us:List Value}(r:Vals xs us):xs.length=us.length:=Paired.length r
theorem Vals.get:∀ {xs:List V}{us:List Value}{i:Nat}{x:V},Vals xs us->xs[i]?=some x->∃ u,us[i]?=some u/\RelV x u
 | _,_,_,_,.nil,e=>by simp at e
 | _,_,0,_,.cons r _,e=>by simp at e;subst e;exact⟨_,rfl,r⟩
 | _,_,i+1,x,.cons _ t,e=>by
  obtain⟨u,h1,h2⟩:=Vals.get (i:=i) (x:=x) t (by simpa using e);exact⟨u,by simpa using h1,h2⟩
theorem Vals.set {x:V}{u:Value}(r:RelV x u):∀ {xs:List V}{us:List Value}(i:Nat),Vals xs us->Vals (xs.set i x) (us.set i u)
 | _,_,_,.nil=>.nil
 | _,_,0,.cons _ t=>.cons r t
 | _,_,i+1,.cons q t=>.cons q (Vals.set r i t)
theorem Vals.append:∀ {xs ys:List V}{us ws:List Value},Vals xs us->Vals ys ws->Vals (xs++ys) (us++ws)
 | _,_,_,_,.nil,s=>s
 | _,_,_,_,.cons r t,s=>.cons r (Vals.append t s)
theorem Vals.take:∀ {xs:List V}{us:List Value}(n:Nat),Vals xs us->Vals (xs.take n) (us.take n)
 | _,_,0,_=>.nil
 | _,_,_+1,.nil=>.nil
 | _,_,n+1,.cons r t=>.cons r (Vals.take n t)
theorem Vals.drop:∀ {xs:List V}{us:List Value}(n:Nat),Vals xs us->Vals (xs.drop n) (us.drop n)
 | _,_,0,r=>r
 | _,_,_+1,.nil=>.nil
 | _,_,n+1,.cons _ t=>Vals.drop n t
noncomputable def uK:Option V->Option Value->Prop
 | some v,some u=>RelV v u
 | none,none=>True
 | _,_=>False
def KV {κ:Type}:List (κ × V)->List (κ × Value)->Prop:=Paired λ(p:κ × V) (q:κ × Value)=>p.1=q.1/\RelV p.2 q.2
noncomputable def kV:Key->V
 | .inl i=>.int i
 | .inr x=>.str x
inductive HO where
  | lst (xs:List V)
  | tup (xs:List V)
  | dK (kvs:List (Key×V)) | dT (kvs:List (List Key×V))
  | set (S:Int->Bool) (n:Nat)
  | ins (C dx:Addr) (fs:List (Str×V))
  | own (x:Addr)
  | xd (fs:List (Str×V))
  | met (f x:Addr)
  | gu (lo hi:Int)
  | wG (o:Obj) (u:HO)
  | qC (ps:Array Value)
  | ext (φ:Heap->Prop)
abbrev Hp:=Addr->Option HO
noncomputable def upd (H:Hp) (a:Addr) (o:HO):Hp:=λ b=>if b=a then some o else H b
def yS {H:Hp}{a:Addr}{o:HO}:upd H a o a=some o:=by unfold upd;rw[if_pos rfl]
def yU {H:Hp}{a b:Addr}{o:HO}(h:b≠a):upd H a o b=H b:=by unfold upd;rw[if_neg h]
def my {H:Hp}{a b:Addr}{o u:HO}(h:H a=some o) (h':H b=some u) (d:o≠u):a≠b:=by
 intro e;subst e;rw[h] at h';exact d (zD5 h')
def rY {H:Hp}{a b:Addr}{o:HO}(h:H a=some o) (h':H b=none):a≠b:=by
 intro e;subst e;rw[h] at h';cases h'
section
variable (P:Program) (w:World)
noncomputable def x8 (H:Hp) (h:Heap) (a:Addr):HO->Prop
 | .lst xs=>xs.length<=sizeLine/\∃ (its:List Value) (n:Nat),Vals xs its/\h.get? a=some { cls:=.type "list",data:=.seq its.toArray n }
 | .tup xs=>xs.length<=sizeLine/\∃ its:List Value,Vals xs its/\IsTup h a its.toArray
 | .dK kvs=>kvs.length<=sizeLine/\(a == sysModules)=false/\∃ vs,KV kvs vs/\h.DictOf (vb P w) a vs
 | .dT kvs=>kvs.length<=sizeLine/\(a == sysModules)=false/\∃ xs:List (List Key×Addr×Value),
   Paired (λ(p:List Key×V) (q:List Key×Addr×Value)=>p.1=q.1/\H q.2.1=some (.tup (p.1.map kV))/\RelV p.2 q.2.2) kvs xs/\
   ∃ o es ep,h.get? a=some o/\o.ExactDict/\o.data=.dict es ep/\es.toList=xs.map (entryOfKey (tupleKind (vb P w)))/\(xs.map (·.1)).Nodup
 | .set S n=>h.SetOf (intKind P w) a S n
 | .ins C dx fs=>H dx=some (.own a)/\fs.length<=1000/\dx≠a/\h.get? a=some (PySem.W.instObj C dx)/\
   ∃ mA,h.Ns1 dx mA/\(∀ f,uK (fs.lookup f) (mA f))/\PySem.Within mA (fs.map (·.1))
 | .own _=>∃ o,h.get? a=some o
 | .xd fs=>∃ mA,h.Ns1 a mA/\∀ f,uK (fs.lookup f) (mA f)
 | .gu lo hi=>∃ t u v,h.get? a=some { cls:=.type "range",data:=.fields #[.int lo t,.int hi u,.int 1 v] }
 | .wG o u=>h.get? a=some o/\x8 H h a u
 | .qC ps=>h.get? a=some { cls:=.none,data:=.fields ps }
 | .met f x=>h.get? a=some (PySem.W.methodObj (.ref f) (.ref x))
 | .ext φ=>φ h/\(∃ o,h.get? a=some o)/\∀ h1 h2:Heap,φ h1->(∀ o,h1.get? a=some o->h2.get? a=some o)->φ h2
def xg (H:Hp) (h:Heap):Prop:=∀ a o,H a=some o->x8 P w H h a o
end
section
variable {P:Program}{w:World}{H H':Hp}{h h':Heap}{a:Addr}{o:HO}
theorem x8.lt (x:x8 P w H h a o):a<h.objs.size:=by
 cases o with
 | lst xs=>obtain⟨_,_,_,_,e⟩:=x;exact zA8 e
 | tup xs=>obtain⟨_,_,_,p⟩:=x;exact p.lt
 | dK kvs=>obtain⟨_,_,_,_,o,_,_,e,_⟩:=x;exact zA8 e
 | dT kvs=>obtain⟨_,_,_,_,o,_,_,e,_⟩:=x;exact zA8 e
 | set S n=>obtain⟨o,_,_,_,e,_⟩:=x;exact zA8 e
 | ins C dx fs=>obtain⟨_,_,_,e,_⟩:=x;exact zA8 e
 | own y=>obtain⟨_,e⟩:=x;exact zA8 e
 | xd fs=>obtain⟨_,⟨_,_,_,e,_⟩,_⟩:=x;exact zA8 e
 | gu lo hi=>obtain⟨_,_,_,e⟩:=x;exact zA8 e
 | wG ob u=>obtain⟨e,_⟩:=x;exact zA8 e
 | qC ps=>exact zA8 (show h.get? a=some _ from x)
 | met f y=>exact zA8 (show h.get? a=some _ from x)
 | ext φ=>obtain⟨_,⟨_,e⟩,_⟩:=x;exact zA8 e
theorem Paired.jd {α β:Type}{F G:α->β->Prop}:∀ {l₁:List α}{l₂:List β},Paired F l₁ l₂->(∀ a b,F a b->G a b)->Paired G l₁ l₂
 | _,_,.nil,_=>.nil
 | _,_,.cons r t,f=>.cons (f _ _ r) (Paired.jd t f)
def x8.sr (x:x8 P w H h a o) (k:∀ b u,(b=a\/H b=some (.own a))->h.get? b=some u->h'.get? b=some u)
  (ho:∀ b,H b=some (.own a)->H' b=some (.own a)) (ht:∀ b xs,H b=some (.tup xs)->H' b=some (.tup xs)):x8 P w H' h' a o:=by
 induction o with
 | lst xs=>obtain⟨z,its,n,r,e⟩:=x;exact⟨z,its,n,r,k _ _ (.inl rfl) e⟩
 | tup xs=>obtain⟨z,its,r,ob,e,c⟩:=x;exact⟨z,its,r,ob,k _ _ (.inl rfl) e,c⟩
 | dK kvs=>obtain⟨z,y,vs,r,ob,es,ep,e,c⟩:=x;exact⟨z,y,vs,r,ob,es,ep,k _ _ (.inl rfl) e,c⟩
 | dT kvs=>
  obtain⟨z,y,xs,r,ob,es,ep,e,c⟩:=x;exact⟨z,y,xs,Paired.jd r λ p q z=>⟨z.1,ht _ _ z.2.1,z.2.2⟩,ob,es,ep,k _ _ (.inl rfl) e,c⟩
 | set S n=>obtain⟨ob,es,ep,t,e,c⟩:=x;exact⟨ob,es,ep,t,k _ _ (.inl rfl) e,c⟩
 | ins C dx fs=>
  obtain⟨d,z,ne,e,mA,⟨od,es,ep,e2,c⟩,r⟩:=x;exact⟨ho _ d,z,ne,k _ _ (.inl rfl) e,mA,⟨od,es,ep,k _ _ (.inr d) e2,c⟩,r⟩
 | own y=>obtain⟨ob,e⟩:=x;exact⟨ob,k _ _ (.inl rfl) e⟩
 | xd fs=>obtain⟨mA,⟨od,es,ep,e,c⟩,r⟩:=x;exact⟨mA,⟨od,es,ep,k _ _ (.inl rfl) e,c⟩,r⟩
 | gu lo hi=>obtain⟨t,u,v,e⟩:=x;exact⟨t,u,v,k _ _ (.inl rfl) e⟩
 | wG ob u ih=>obtain⟨e,q⟩:=x;exact⟨k _ _ (.inl rfl) e,ih q⟩
 | qC ps=>
  have e:h.get? a=some { cls:=.none,data:=.fields ps }:=x;show h'.get? a=some { cls:=.none,data:=.fields ps };exact k a _ (.inl rfl) e
 | met f y=>
  have e:h.get? a=some (PySem.W.methodObj (.ref f) (.ref y)):=x;show h'.get? a=some (PySem.W.methodObj (.ref f) (.ref y));exact k a _ (.inl rfl) e
 | ext φ=>obtain⟨p,⟨o,e⟩,st⟩:=x;exact⟨st _ _ p λ o q=>k _ _ (.inl rfl) q,⟨o,k _ _ (.inl rfl) e⟩,st⟩
theorem xg.lt (x:xg P w H h) (e:H a=some o):a<h.objs.size:=(x a o e).lt
def xg.fresh (x:xg P w H h) (e:h.objs.size<=a):H a=none:=by
 cases q:H a with
 | none=>rfl
 | some u=>exact absurd (zC3 (x.lt q) e) (zE1 _)
def xg.kept (x:xg P w H h) (k:∀ b u,h.get? b=some u->h'.get? b=some u):xg P w H h':=λ a o e=>
 (x a o e).sr (λ b u _ q=>k b u q) (λ _ q=>q) λ _ _ q=>q
def xg.laid (x:xg P w H h) (k:∀ b u,h.get? b=some u->h'.get? b=some u) (hp:h.objs.size<=a) (new:x8 P w (upd H a o) h' a o):xg P w (upd H a o) h':=λ b u e=>by
 have hn:=x.fresh hp;by_cases hb:b=a
 .subst hb;rw[yS] at e;cases e;exact new
 .rw[yU hb] at e;exact (x b u e).sr (λ c v _ q=>k c v q) (λ c q=>by rw[yU (rY q hn)];exact q) λ c xs q=>by rw[yU (rY q hn)];exact q
end
def Rd (H:Hp) (a:Addr) (u:HO):Prop:=H a=some u\/∃ o,H a=some (.wG o u)
def Rd.ok {P:Program}{w:World}{H:Hp}{h:Heap}{a:Addr}{u:HO}(r:Rd H a u) (x:xg P w H h):x8 P w H h a u:=by
 rcases r with r | ⟨o,r⟩
 .exact x a u r
 .obtain⟨_,q⟩:=x a _ r;exact q
noncomputable def lJ:Option HO->Prop
 | some (.lst _)=>True
 | some (.dK _)=>True
 | some (.dT _)=>True
 | some (.set _ _)=>True
 | some (.ins _ _ _)=>True
 | some (.ext _)=>True
 | _=>False
section
variable {P:Program}{w:World}{H:Hp}{h h':Heap}{x e:Addr}{o':HO}
def xg.write (ok:xg P w H h) (mu:lJ (H x)) (he:e=x\/H e=some (.own x)) (k:∀ b u,b≠e->h.get? b=some u->h'.get? b=some u) (heo:∃ u,h'.get? e=some u)
  (new:x8 P w (upd H x o') h' x o'):xg P w (upd H x o') h':=λ b u q=>by
 have nown:∀ c y,H c=some (.own y)->c≠x:=λ c y r z=>by subst z;rw[r] at mu;exact mu
 have ntup:∀ c xs,H c=some (.tup xs)->c≠x:=λ c xs r z=>by subst z;rw[r] at mu;exact mu
 by_cases hb:b=x
 .subst hb;rw[yS] at q;cases q;exact new
 .rw[yU hb] at q;by_cases hbe:b=e
  .have q':H b=some (.own x):=by
    rcases he with z | z
    .exact absurd (hbe.trans z) hb
    .rw[hbe];exact z
   rw[q] at q';cases q';obtain⟨v,hv⟩:=heo;exact⟨v,by rw[hbe];exact hv⟩
  .refine (ok b u q).sr (λ c v hc r=>k c v ?_ r) (λ c r=>by rw[yU (nown c b r)];exact r) λ c xs r=>by rw[yU (ntup c xs r)];exact r
   rcases hc with rfl | hc
   .exact hbe
   .rintro rfl;rcases he with z | z
    .exact nown c b hc z
    .rw[hc] at z;cases z;exact hb rfl
end
structure Un (fs ex:List Addr) (H H':Hp) (h h':Heap):Prop where
 keep:∀ b o,h.get? b=some o->H b=none->b∉fs->b∉ex->h'.get? b=some o
 slot:∀ b o,h.get? b=some o->H b=none->b∈fs->b∉ex->∃ sl,h'.get? b=some { o with slots:=sl }
 free:∀ b o,h.get? b=some o->H b=none->b∉ex->H' b=none
 there:∀ b o,h.get? b=some o->b∉ex->∃ o',h'.get? b=some o'
 t9:∀ b xs,H b=some (.tup xs)->H' b=some (.tup xs)
 sQ:∀ b o u,H b=some (.wG o u)->H' b=some (.wG o u)
 rE:∀ b ps,H b=some (.qC ps)->∃ more,H' b=some (.qC (ps++more))
section
variable {fs fs' ex ex':List Addr}{H H1 H2:Hp}{h h1 h2 h':Heap}{a x e:Addr}{o:HO}
def Un.any (u:Un fs ex H H1 h h1) {b:Addr}{ob:Obj}(q:h.get? b=some ob) (n:H b=none) (hx:b∉ex):∃ sl,h1.get? b=some { ob with slots:=sl }:=by
 by_cases hb:b∈fs
 .exact u.slot b ob q n hb hx
 .exact⟨ob.slots,u.keep b ob q n hb hx⟩
def Un.kept (k:∀ b u,h.get? b=some u->h'.get? b=some u):Un fs ex H H h h':=
 ⟨λ b ob q _ _ _=>k b ob q,λ b ob q _ _ _=>⟨ob.slots,k b ob q⟩,λ _ _ _ n _=>n,λ b ob q _=>⟨ob,k b ob q⟩,λ _ _ q=>q,λ _ _ _ q=>q,λ _ ps q=>⟨#[],by rw[q];simp⟩⟩
def Un.refl:Un fs ex H H h h:=Un.kept λ _ _ q=>q
def Un.laid (k:∀ b u,h.get? b=some u->h'.get? b=some u) (hp:h.objs.size<=a) (hn:H a=none):Un fs ex H (upd H a o) h h' where
 keep:=λ b u q _ _ _=>k b u q
 slot:=λ b u q _ _ _=>⟨u.slots,k b u q⟩
 free:=λ b u q n _=>by rw[yU (zB3 (zC3 (zA8 q) hp))];exact n
 there:=λ b u q _=>⟨u,k b u q⟩
 t9:=λ b xs q=>by rw[yU (rY q hn)];exact q
 sQ:=λ b u xs q=>by rw[yU (rY q hn)];exact q
 rE:=λ b ps q=>⟨#[],by rw[yU (rY q hn),q];simp⟩
def Un.write (mu:lJ (H x)) (he:e=x\/H e=some (.own x)) (k:∀ b u,b≠e->h.get? b=some u->h'.get? b=some u) (heo:∃ u,h'.get? e=some u):Un fs ex H (upd H x o) h h':=by
 have hx:∀ b,H b=none->b≠x:=λ b n z=>by subst z;rw[n] at mu;exact mu
 have hb:∀ b,H b=none->b≠e:=λ b n z=>by
  subst z;rcases he with r | r
  .exact hx b n r
  .rw[n] at r;cases r
 have hm:∀ b u,H b=some u->¬ lJ (some u)->b≠x:=λ b u q nm z=>by subst z;rw[q] at mu;exact nm mu
 refine⟨λ b u q n _ _=>k b u (hb b n) q,λ b u q n _ _=>⟨u.slots,k b u (hb b n) q⟩,λ b u q n _=>by rw[yU (hx b n)];exact n,λ b u q _=>?_,
  λ b xs q=>by rw[yU (hm b _ q λ z=>z)];exact q,λ b u xs q=>by rw[yU (hm b _ q λ z=>z)];exact q,λ b ps q=>⟨#[],by rw[yU (hm b _ q λ z=>z),q];simp⟩⟩
 by_cases hbe:b=e
 .subst hbe;exact heo
 .exact⟨u,k b u hbe q⟩
end
noncomputable def kj (h:Heap) (H:Hp):List Addr:=(List.range h.objs.size).filter λ a=>(H a).isSome
noncomputable def sN (h:Heap) (H:Hp):Heap:=PySem.W.hideAll h (kj h H)
def Pm (h:Heap) (H:Hp):(sN h H).objs.size=h.objs.size:=PySem.W.hideAll_size _ _
def Pn {h:Heap}{H:Hp}{b:Addr}{o:Obj}(e:h.get? b=some o) (n:H b=none):(sN h H).get? b=some o:=
 PySem.W.hideAll_get _ e λ hm=>by
  have q:(H b).isSome=true:=(zC8.mp hm).2;rw[n] at q;simp at q
def Qd {h:Heap}{H:Hp}{b:Addr}{o:Obj}(e:(sN h H).get? b=some o):h.get? b=some o/\H b=none:=by
 have e':h.get? b=some o:=PySem.W.of_hideAll (kj h H) e;refine⟨e',?_⟩;cases q:H b with
 | none=>rfl
 | some x=>
  have hm:b∈kj h H:=zC8.mpr ⟨zC1.mpr (zA8 e'),by simp[q]⟩;have z:(sN h H).get? b=none:=PySem.W.hideAll_none (kj h H) hm;rw[z] at e;cases e
structure Mod (K:zFr) (mg:Str->Option Value) (base:Heap):Prop where
 fL:K.In base
 glob:base.Ns mainGlobals mg
 blt:∃ mb,base.Ns builtinsNs mb/\∀ x:Str,x≠"__name__"->mb x=bootBuiltins x
 nolimit:base.NoLimit
structure Cx where
 prog:Program
 w:World
 K:zFr
 mg:Str->Option Value
 base:Heap
 A:Around
 N:List Str
 s₀:Shared
 H₀:Hp
 env:Env
 outer:List Env
 stack:List Env
 ex:List Addr
 fn:Str->Bool
 calm:Bool
 pn:List (Addr×Obj)
 xe:Value->Shared->Prop
noncomputable def vV (l:List Env):List Addr:=l.filterMap (·.frame)
abbrev Cx.fs (X:Cx):List Addr:=vV X.outer
def dv (sc:Scope) (x:Str):Prop:=sc.names.lookup x=some .local\/sc.names.lookup x=some .cell\/sc.names.lookup x=some .free
def Loc (sc:Scope) (x:Str):Prop:=sc.names.lookup x=some .local\/sc.names.lookup x=some .cell
def Look (env:Env) (h:Heap) (m:Str->Option Value) (x:Str) (u:Value):Prop:=
 (env.kindOf x=some .local/\m x=some u)\/((env.kindOf x=some .cell\/env.kindOf x=some .free)/\∃ c,env.cells.lookup x=some c/\h.IsCell c (some u))
structure Cx.Ok (X:Cx):Prop where
 mod:Mod X.K X.mg X.base
 kind:X.env.scope.kind=.function
 glob:X.env.globals=mainGlobals
 blt:X.env.builtins=builtinsNs
 above:X.s₀.heap.objs.size<=X.env.locals
 inj:∀ x y c,X.env.cells.lookup x=some c->X.env.cells.lookup y=some c->x=y
 has:∀ x,(X.env.kindOf x=some .cell\/X.env.kindOf x=some .free)->∃ c,X.env.cells.lookup x=some c
 lg:∀ x c,X.fn x=true->X.env.cells.lookup x=some c->X.s₀.heap.objs.size<=c
 hd:X.calm=true->X.A.handled=none
 frames:X.A.frames=some X.stack
 kr:X.stack=X.outer\/(X.stack=X.env::X.outer/\X.env.frame=some X.env.locals)
 eB:∀ b∈X.ex,b≠X.env.locals/\∀ x c,X.env.cells.lookup x=some c->c≠b
 bs:∀ b o,X.base.get? b=some o->X.s₀.heap.get? b=some o/\X.H₀ b=none
 pz:X.base.objs.size<=X.s₀.heap.objs.size
 mv:∀ b o,X.base.get? b=some o->b∉X.ex
 mN:∀ b∈X.ex,b∉X.fs
 uW:X.s₀.heap.FunFrames X.base X.outer
 oS:∀ b∈X.fs,X.H₀ b=none
structure Inv (X:Cx) (pins:List (Addr×Obj)) (B:List (Option V)) (H:Hp) (s:Shared):Prop where
 ok:X.Ok
 os:s.os=X.s₀.os
 bare:AllBare s.gens
 base:Un X.fs X.ex X.H₀ H X.s₀.heap s.heap
 loc:∃ m,s.heap.Ns X.env.locals m/\∀ (i:Nat) (x:Str) (v:V),X.N[i]?=some x->B[i]?=some (some v)->dv X.env.scope x->∃ u,RelV v u/\Look X.env s.heap m x u
 cell:∀ x c,X.env.cells.lookup x=some c->∃ v,s.heap.IsCell c v
 free:H X.env.locals=none
 tP:∀ x c,X.env.cells.lookup x=some c->H c=none
 pin:∀ p∈X.pn++pins,s.heap.get? p.1=some p.2/\H p.1=none/\p.1≠X.env.locals/\p.1∉X.fs/\∀ v,p.2.data≠.cell v
 zD:xg X.prog X.w H s.heap
 len:B.length=X.N.length
section
variable {X:Cx}{pins:List (Addr×Obj)}{B:List (Option V)}{H H':Hp}{s:Shared}{h':Heap}
def Cx.Ok.Qh (ok:X.Ok) {b:Addr}{o:Obj}(e:X.base.get? b=some o):b∉X.fs:=λ hb=>by
 have:=(ok.uW.mem hb).1;rw[e] at this;cases this
theorem Inv.bs (I:Inv X pins B H s):∀ b o,X.base.get? b=some o->s.heap.get? b=some o/\H b=none:=λ b o e=>
 ⟨I.base.keep b o (I.ok.bs b o e).1 (I.ok.bs b o e).2 (I.ok.Qh e) (I.ok.mv b o e),I.base.free b o (I.ok.bs b o e).1 (I.ok.bs b o e).2 (I.ok.mv b o e)⟩
def Inv.bk (I:Inv X pins B H s):∀ b o,X.base.get? b=some o->s.heap.get? b=some o:=λ b o e=>(I.bs b o e).1
theorem Inv.mod (I:Inv X pins B H s):Mod X.K X.mg X.base:=I.ok.mod
def Inv.vU (I:Inv X pins B H s):X.K.In s.heap:=I.ok.mod.fL.keeps I.bk
theorem Inv.lt (I:Inv X pins B H s):X.env.locals<s.heap.objs.size:=let ⟨_,hn,_⟩:=I.loc;hn.lt
def Inv.sz (I:Inv X pins B H s):X.s₀.heap.objs.size<=s.heap.objs.size:=zE0 I.ok.above (zE3 I.lt)
def Inv.Zo (I:Inv X pins B H s) {a:Addr}(h:s.heap.objs.size<=a):a∉X.fs:=λ hb=>by
 obtain⟨_,o,ho,_⟩:=I.ok.uW.mem hb;exact absurd (zC3 (zA8 ho) (zE0 I.sz h)) (zE1 _)
def Inv.pj (I:Inv X pins B H s):∀ x c,X.env.cells.lookup x=some c->c≠X.env.locals:=λ x c e z=>by
 obtain⟨v,o,ho,hd⟩:=I.cell x c e;obtain⟨m,⟨o',es,ep,ho',hd',_⟩,_⟩:=I.loc;rw[z,ho'] at ho;cases ho;rw[hd'] at hd;cases hd
theorem Inv.uW (I:Inv X pins B H s):s.heap.FunFrames X.base X.outer:=by
 have all:∀ (l:List Env),(∀ b∈vV l,b∈X.fs)->X.s₀.heap.FunFrames X.base l->s.heap.FunFrames X.base l:=by
  intro l
  induction l with
  | nil=>intro _ _;trivial
  | cons env r ih=>
   intro hs hl;obtain⟨hk,⟨L,o,hf,hn,ho,hd⟩,hr⟩:=hl;have hL:L∈X.fs:=hs L (by unfold vV;rw[List.filterMap_cons,hf];exact zMc);obtain⟨sl,e⟩:=I.base.slot L o ho (I.ok.oS L hL) hL λ z=>I.ok.mN L z hL;exact⟨hk,⟨L,_,hf,hn,e,hd⟩,ih (λ b hb=>hs b (by unfold vV;rw[List.filterMap_cons,hf];exact zMo _ hb)) hr⟩
 exact all X.outer (λ _ hb=>hb) I.ok.uW
theorem Inv.stack (I:Inv X pins B H s):s.heap.FunFrames X.base X.stack:=by
 rcases I.ok.kr with e | ⟨e,hf⟩
 .rw[e];exact I.uW
 .rw[e];obtain⟨m,hn,_⟩:=I.loc;refine .cons (by rw[I.ok.kind];decide) hf hn ?_ I.uW;exact Heap.get?_none_of_le (zE0 I.ok.pz I.ok.above)
def Inv.i0 (I:Inv X pins B H s):∀ b∈vV X.stack,b∈X.env.locals::X.fs:=λ b hb=>by
 rcases I.ok.kr with e | ⟨e,hf⟩
 .rw[e] at hb;exact zMo _ hb
 .rw[e] at hb;unfold vV at hb;rw[List.filterMap_cons,hf] at hb;exact hb
def Inv.bB (I:Inv X pins B H s):∀ b∈vV X.stack,H b=none:=λ b hb=>by
 rcases zA5.mp (I.i0 b hb) with e | hb
 .rw[e];exact I.free
 .obtain⟨_,o,ho,_⟩:=I.ok.uW.mem hb;exact I.base.free b o ho (I.ok.oS b hb) λ z=>I.ok.mN b z hb
def Inv.step {g':Array GenState}{t':Nat}{d':Drawn}{ch:List Addr}(I:Inv X pins B H s)
  (hch:∀ b∈ch,(b∈X.ex\/X.s₀.heap.objs.size<=b)/\b≠X.env.locals/\(∀ x c,X.env.cells.lookup x=some c->c≠b)/\∀ p∈X.pn++pins,p.1≠b)
  (keep:∀ b o,b≠X.env.locals->b∉X.fs->b∉ch->s.heap.get? b=some o->H b=none->h'.get? b=some o)
  (slot:∀ b o,b≠X.env.locals->b∈X.fs->b∉ch->s.heap.get? b=some o->H b=none->∃ sl,h'.get? b=some { o with slots:=sl }) (free:∀ b o,b∉ch->s.heap.get? b=some o->H b=none->H' b=none)
  (there:∀ b o,b∉ch->s.heap.get? b=some o->∃ o',h'.get? b=some o')
  (t9:∀ b xs,H b=some (.tup xs)->H' b=some (.tup xs)) (sQ:∀ b o u,H b=some (.wG o u)->H' b=some (.wG o u)) (rE:∀ b ps,H b=some (.qC ps)->∃ more,H' b=some (.qC (ps++more)))
  (ns:∀ m,s.heap.Ns X.env.locals m->h'.Ns X.env.locals m) (zD:xg X.prog X.w H' h') (hg:AllBare g'):
  Inv X pins B H' { s with heap:=h',gens:=g',drawn:=d',toks:=t' }:=by
 have neL:∀ b o,X.s₀.heap.get? b=some o->b≠X.env.locals:=λ b o e=>zB3 (zC3 (zA8 e) I.ok.above);have neC:∀ b o,X.s₀.heap.get? b=some o->b∉X.ex->b∉ch:=λ b o e hx hb=>by
  rcases (hch b hb).1 with z | z
  .exact hx z
  .exact absurd (zC3 (zA8 e) z) (zE1 _)
 have cellK:∀ x c,X.env.cells.lookup x=some c->∀ v,s.heap.IsCell c v->h'.IsCell c v:=λ x c e v ⟨o,ho,hd⟩=>by
  have nch:c∉ch:=λ z=>(hch c z).2.2.1 x c e rfl;by_cases hc:c∈X.fs
  .obtain⟨sl,q⟩:=slot c o (I.pj x c e) hc nch ho (I.tP x c e);exact⟨_,q,hd⟩
  .exact⟨o,keep c o (I.pj x c e) hc nch ho (I.tP x c e),hd⟩
 refine⟨I.ok,I.os,hg,⟨λ b o e n hb hx=>?_,λ b o e n hb hx=>?_,λ b o e n hx=>?_,λ b o e hx=>?_,λ b xs e=>t9 b xs (I.base.t9 b xs e),λ b o xs e=>sQ b o xs (I.base.sQ b o xs e),λ b ps e=>?_⟩,?_,λ x c e=>?_,?_,λ x c e=>?_,λ p hp=>?_,zD,I.len⟩
 .exact keep b o (neL b o e) hb (neC b o e hx) (I.base.keep b o e n hb hx) (I.base.free b o e n hx)
 .obtain⟨sl,e1⟩:=I.base.slot b o e n hb hx;obtain⟨sl',e2⟩:=slot b _ (neL b o e) hb (neC b o e hx) e1 (I.base.free b o e n hx);exact⟨sl',e2⟩
 .obtain⟨o',e1⟩:=I.base.there b o e hx;exact free b o' (neC b o e hx) e1 (I.base.free b o e n hx)
 .obtain⟨o',e1⟩:=I.base.there b o e hx;exact there b o' (neC b o e hx) e1
 .obtain⟨m1,e1⟩:=I.base.rE b ps e;obtain⟨m2,e2⟩:=rE b _ e1;exact⟨m1++m2,by rw[e2,Array.append_assoc]⟩
 .obtain⟨m,hn,hl⟩:=I.loc;refine⟨m,ns m hn,λ i x v e1 e2 e3=>?_⟩;obtain⟨u,r,l⟩:=hl i x v e1 e2 e3;refine⟨u,r,?_⟩;rcases l with l | ⟨k,c,e,z⟩
  .exact .inl l
  .exact .inr ⟨k,c,e,cellK x c e _ z⟩
 .obtain⟨v,z⟩:=I.cell x c e;exact⟨v,cellK x c e v z⟩
 .obtain⟨m,⟨o,_,_,ho,_⟩,_⟩:=I.loc;exact free _ o (λ z=>(hch _ z).2.1 rfl) ho I.free
 .obtain⟨v,o,ho,hd⟩:=I.cell x c e;exact free c o (λ z=>(hch c z).2.2.1 x c e rfl) ho (I.tP x c e)
 .obtain⟨e,n,ne,nf,d⟩:=I.pin p hp;have nch:p.1∉ch:=λ z=>(hch p.1 z).2.2.2 p hp rfl;exact⟨keep p.1 p.2 ne nf nch e n,free p.1 p.2 nch e n,ne,nf,d⟩
def Inv.un {t':Nat}(I:Inv X pins B H s) (u:Un X.fs [] H H' s.heap h') (zD:xg X.prog X.w H' h'):Inv X pins B H' { s with heap:=h',toks:=t' }:=by
 obtain⟨m,⟨o,es,ep,ho,r⟩,_⟩:=id I.loc;obtain⟨sl,hL⟩:=u.any ho I.free (by simp);exact I.step (g':=s.gens) (d':=s.drawn) (ch:=[]) (λ _ z=>nomatch z) (λ b o _ hb _ e n=>u.keep b o e n hb (by simp)) (λ b o _ hb _ e n=>u.slot b o e n hb (by simp)) (λ b o _ e n=>u.free b o e n (by simp)) (λ b o _ e=>u.there b o e (by simp)) u.t9 u.sQ u.rE (λ m' hm=>by
  obtain⟨o',es',ep',ho',r'⟩:=hm;rw[ho] at ho';cases ho';exact⟨_,es',ep',hL,r'⟩) zD I.bare
def Inv.call {g':Array GenState}{t':Nat}{d':Drawn}{ch:List Addr}(I:Inv X pins B H s) (u:Un (vV X.stack) ch H H' s.heap h') (zD:xg X.prog X.w H' h') (hg:AllBare g')
  (hch:∀ b∈ch,(b∈X.ex\/X.s₀.heap.objs.size<=b)/\b≠X.env.locals/\(∀ x c,X.env.cells.lookup x=some c->c≠b)/\∀ p∈X.pn++pins,p.1≠b):
  Inv X pins B H' { s with heap:=h',gens:=g',drawn:=d',toks:=t' }:=by
 obtain⟨m,⟨o,es,ep,ho,r⟩,_⟩:=id I.loc;obtain⟨sl,hL⟩:=u.any ho I.free λ z=>(hch _ z).2.1 rfl;exact I.step (ch:=ch) hch (λ b o hL hb hc e n=>u.keep b o e n (λ z=>(zA5.mp (I.i0 b z)).elim hL hb) hc) (λ b o _ _ hc e n=>u.any e n hc) (λ b o hc e n=>u.free b o e n hc) (λ b o hc e=>u.there b o e hc) u.t9 u.sQ u.rE (λ m' hm=>by
  obtain⟨o',es',ep',ho',r'⟩:=hm;rw[ho] at ho';cases ho';exact⟨_,es',ep',hL,r'⟩) zD hg
def Inv.turned {t':Nat}{it:Addr}(I:Inv X pins B H s) (k:∀ b o,b≠it->s.heap.get? b=some o->h'.get? b=some o) (hn:H it=none) (hL:it≠X.env.locals)
  (h1:it∈X.ex\/X.s₀.heap.objs.size<=it) (h2:∀ x c,X.env.cells.lookup x=some c->c≠it) (h3:∀ p∈X.pn++pins,p.1≠it):Inv X pins B H { s with heap:=h',toks:=t' }:=by
 have nit:∀ b u,H b=some u->b≠it:=λ b u e z=>by rw[z,hn] at e;cases e
 refine I.step (g':=s.gens) (d':=s.drawn) (ch:=[it]) (λ b hb=>?_) (λ b o _ _ hc e _=>k b o (λ z=>hc (by simp[z])) e) (λ b o _ _ hc e _=>⟨o.slots,k b o (λ z=>hc (by simp[z])) e⟩) (λ _ _ _ _ n=>n)
  (λ b o hc e=>⟨o,k b o (λ z=>hc (by simp[z])) e⟩) (λ _ _ e=>e) (λ _ _ _ e=>e) (λ b ps e=>⟨#[],by rw[e];simp⟩) (λ m hm=>?_) (λ b u e=>?_) I.bare
 .have e:b=it:=by simpa using hb
  subst e;exact⟨h1,hL,h2,h3⟩
 .obtain⟨o,es,ep,ho,r⟩:=hm;exact⟨o,es,ep,k _ o (Ne.symm hL) ho,r⟩
 .refine (I.zD b u e).sr (λ c v hc q=>k c v ?_ q) (λ _ q=>q) λ _ _ q=>q;rcases hc with z | z
  .rw[z];exact nit b u e
  .exact nit c _ z
def Inv.tok (I:Inv X pins B H s) (t:Nat):Inv X pins B H { s with toks:=t }:=I.un (h':=s.heap) (t':=t) Un.refl I.zD
theorem Inv.kept {t':Nat}(I:Inv X pins B H s) (k:∀ b u,s.heap.get? b=some u->h'.get? b=some u):Inv X pins B H { s with heap:=h',toks:=t' }:=I.un (Un.kept k) (I.zD.kept k)
theorem Inv.laid {a:Addr}{o:HO}{t':Nat}(I:Inv X pins B H s) (k:∀ b u,s.heap.get? b=some u->h'.get? b=some u) (hp:s.heap.objs.size<=a) (new:x8 X.prog X.w (upd H a o) h' a o):
  Inv X pins B (upd H a o) { s with heap:=h',toks:=t' }:=I.un (Un.laid k hp (I.zD.fresh hp)) (I.zD.laid k hp new)
theorem Inv.write {x e:Addr}{o:HO}{t':Nat}(I:Inv X pins B H s) (mu:lJ (H x)) (he:e=x\/H e=some (.own x)) (k:∀ b u,b≠e->s.heap.get? b=some u->h'.get? b=some u) (heo:∃ u,h'.get? e=some u)
  (new:x8 X.prog X.w (upd H x o) h' x o):Inv X pins B (upd H x o) { s with heap:=h',toks:=t' }:=I.un (Un.write mu he k heo) (I.zD.write mu he k heo new)
def Inv.gG {pins':List (Addr×Obj)}(I:Inv X pins B H s) (h:∀ p∈pins',s.heap.get? p.1=some p.2/\H p.1=none/\p.1≠X.env.locals/\p.1∉X.fs/\∀ v,p.2.data≠.cell v):Inv X pins' B H s:=
 ⟨I.ok,I.os,I.bare,I.base,I.loc,I.cell,I.free,I.tP,λ p hp=>(zB9.mp hp).elim (λ z=>I.pin p (List.mem_append_left _ z)) (h p),I.zD,I.len⟩
def Zq {N:List Str}(hN:N.Nodup) {i j:Nat}{x:Str}(a:N[i]?=some x) (b:N[j]?=some x):i=j:=by
 obtain⟨h1,e1⟩:=zA2.mp a;obtain⟨h2,e2⟩:=zA2.mp b;exact (List.getElem_inj hN).mp (e1.trans e2.symm)
def Vl {M:Model}{A:Around}{E:Value->Shared->Prop}{i:Nat}{x:Str}{v:V}{u:Value}{Q:Unit->Shared->Prop}(I:Inv X pins B H s) (hN:X.N.Nodup) (hi:X.N[i]?=some x) (hx:Loc X.env.scope x) (r:RelV v u)
  (h:∀ s',Inv X pins (B.set i (some v)) H s'->(∃ a,Heap.SameBut a s.heap s'.heap/\(a=X.env.locals\/X.env.cells.lookup x=some a))->Q () s') (hf:X.fn x=true\/X.env.scope.names.lookup x=some .local:=by first | exact .inl rfl | exact .inr rfl | assumption):wpAny M A (storeName X.env x u) Q E s:=by
 obtain⟨m,hn,hl⟩:=id I.loc;have hcls:(X.env.scope.kind == .class||(X.env.scope.kind == .module&&X.env.locals != X.env.globals))=false:=by rw[I.ok.kind];rfl
 have hiσ:i < B.length:=by rw[I.len];exact (zA2.mp hi).1
 have pj:=I.pj;have tracked:∀ {a:Addr}{h':Heap},(∃ o,s.heap.get? a=some o/\H a=none)->Heap.SameBut a s.heap h'->xg X.prog X.w H h':=λ{a h'} ha hs b ob e=>by
  obtain⟨_,_,hfree⟩:=ha;refine (I.zD b ob e).sr (λ c w' hc q=>(hs.2 c ?_).trans q) (λ _ q=>q) λ _ _ q=>q;rintro rfl;rcases hc with rfl | hc
  .rw[hfree] at e;cases e
  .rw[hfree] at hc;cases hc
 rcases hx with hk | hk
 .refine wpAny_storeName_local hk hn (λ h' hn' hs=>?_) hcls;obtain⟨oL,_,_,hoL,_⟩:=id hn;refine h _ ⟨I.ok,I.os,I.bare,⟨λ b o e n hb hx=>?_,λ b o e n hb hx=>?_,I.base.free,λ b o e hx=>?_,I.base.t9,I.base.sQ,I.base.rE⟩,⟨_,hn',λ j y v' e1 e2 e3=>?_⟩,λ y c e=>?_,I.free,I.tP,λ p hp=>?_,tracked ⟨oL,hoL,I.free⟩ hs,by simpa using I.len⟩ ⟨_,hs,.inl rfl⟩
  .exact (hs.2 b (zB3 (zC3 (zA8 e) I.ok.above))).trans (I.base.keep b o e n hb hx)
  .obtain⟨sl,e1⟩:=I.base.slot b o e n hb hx;exact⟨sl,(hs.2 b (zB3 (zC3 (zA8 e) I.ok.above))).trans e1⟩
  .obtain⟨o',e1⟩:=I.base.there b o e hx;exact⟨o',(hs.2 b (zB3 (zC3 (zA8 e) I.ok.above))).trans e1⟩
  .by_cases hj:j=i
   .subst hj;rw[hi] at e1;cases e1;rw[List.getElem?_set_self hiσ] at e2;cases e2;exact⟨u,r,.inl ⟨hk,by simp⟩⟩
   .rw[List.getElem?_set_ne (Ne.symm hj)] at e2;obtain⟨u',r',q⟩:=hl j y v' e1 e2 e3;refine⟨u',r',?_⟩;rcases q with ⟨k,e⟩ | ⟨k,c,e,z⟩
    .refine .inl ⟨k,?_⟩;have:y≠x:=λ e=>hj (Zq hN e1 (e▸hi));simp[this,e]
    .exact .inr ⟨k,c,e,z.sameBut hs (pj y c e)⟩
  .obtain⟨w',z⟩:=I.cell y c e;exact⟨w',z.sameBut hs (pj y c e)⟩
  .obtain⟨e,n,ne,nf,d⟩:=I.pin p hp;exact⟨(hs.2 p.1 ne).trans e,n,ne,nf,d⟩
 .have hfn:X.fn x=true:=by
   rcases hf with z | z
   .exact z
   .rw[z] at hk;cases hk
  obtain⟨c,hc⟩:=I.ok.has x (.inl hk);obtain⟨w',z⟩:=I.cell x c hc;refine wpAny_storeName_cell I.ok.kind hk hc z (λ h' hc' hs=>?_);obtain⟨oc,hoc,hocd⟩:=id z;refine h { s with heap:=h' } ⟨I.ok,I.os,I.bare,⟨λ b o e n hb hx=>?_,λ b o e n hb hx=>?_,I.base.free,λ b o e hx=>?_,I.base.t9,I.base.sQ,I.base.rE⟩,⟨m,hn.sameBut hs (Ne.symm (pj x c hc)),λ j y v' e1 e2 e3=>?_⟩,λ y c' e=>?_,I.free,I.tP,λ p hp=>?_,tracked ⟨oc,hoc,I.tP x c hc⟩ hs,by simpa using I.len⟩ ⟨c,hs,.inr hc⟩
  .exact (hs.2 b (zB3 (zC3 (zA8 e) (I.ok.lg x c hfn hc)))).trans (I.base.keep b o e n hb hx)
  .obtain⟨sl,e1⟩:=I.base.slot b o e n hb hx;exact⟨sl,(hs.2 b (zB3 (zC3 (zA8 e) (I.ok.lg x c hfn hc)))).trans e1⟩
  .obtain⟨o',e1⟩:=I.base.there b o e hx;exact⟨o',(hs.2 b (zB3 (zC3 (zA8 e) (I.ok.lg x c hfn hc)))).trans e1⟩
  .by_cases hj:j=i
   .subst hj;rw[hi] at e1;cases e1;rw[List.getElem?_set_self hiσ] at e2;cases e2;exact⟨u,r,.inr ⟨.inl hk,c,hc,hc'⟩⟩
   .rw[List.getElem?_set_ne (Ne.symm hj)] at e2;obtain⟨u',r',q⟩:=hl j y v' e1 e2 e3;refine⟨u',r',?_⟩;rcases q with q | ⟨k,c',e,z'⟩
    .exact .inl q
    .refine .inr ⟨k,c',e,z'.sameBut hs ?_⟩;rintro rfl;exact hj (Zq hN e1 (I.ok.inj _ _ _ e hc▸hi))
  .by_cases hcc:c'=c
   .subst hcc;exact⟨_,hc'⟩
   .obtain⟨w2,z2⟩:=I.cell y c' e;exact⟨w2,z2.sameBut hs hcc⟩
  .obtain⟨e,n,ne,nf,d⟩:=I.pin p hp;refine⟨(hs.2 p.1 ?_).trans e,n,ne,nf,d⟩;intro q;rw[q,hoc] at e;have q':oc=p.2:=zD5 e;exact d w' (by rw[<- q'];exact hocd)
def iz {M:Model}{A:Around}{E:Value->Shared->Prop}{i:Nat}{x:Str}{v:V}{u:Value}{Q:Unit->Shared->Prop}(I:Inv X pins B H s) (hN:X.N.Nodup) (hi:X.N[i]?=some x) (hx:Loc X.env.scope x) (r:RelV v u)
  (h:∀ s',Inv X pins (B.set i (some v)) H s'->Q () s') (hf:X.fn x=true\/X.env.scope.names.lookup x=some .local:=by first | exact .inl rfl | exact .inr rfl | assumption):wpAny M A (storeName X.env x u) Q E s:=
 Vl I hN hi hx r (λ s' I' _=>h s' I') hf
def Inv.N4 {s':Shared}{ch:List Addr}(I:Inv X pins B H s) (ho:s'.os=s.os) (u:Un (vV X.stack) ch H H' s.heap s'.heap) (zD:xg X.prog X.w H' s'.heap) (hg:AllBare s'.gens)
  (hch:∀ b∈ch,(b∈X.ex\/X.s₀.heap.objs.size<=b)/\b≠X.env.locals/\(∀ x c,X.env.cells.lookup x=some c->c≠b)/\∀ p∈X.pn++pins,p.1≠b):Inv X pins B H' s':=by
 obtain⟨h',g',d',t',o'⟩:=s';have e:o'=s.os:=ho;subst e;exact I.call (g':=g') (t':=t') (d':=d') u zD hg hch
end
abbrev XK:=Value->Option Addr->Hp->Prop
abbrev St:=List (Option V)
abbrev VK:=V->Hp->Prop
abbrev TE:=St->Hp->VK->Prop
abbrev TT:=St->Hp->(Bool->Hp->Prop)->Prop
abbrev TA:=St->Hp->(List V->Hp->Prop)->Prop
structure Ends where
 nx:St->Hp->Prop
 rt:VK
 bk:St->Hp->Prop:=λ _ _=>False
 ct:St->Hp->Prop:=λ _ _=>False
abbrev TS:=Ends->St->Hp->Prop
def EP (X:Cx) (pins:List (Addr×Obj)) (B:St) (Q:VK) (u:Value) (s':Shared):Prop:=∃ v H',Inv X pins B H' s'/\RelV v u/\Q v H'
def TP (X:Cx) (pins:List (Addr×Obj)) (B:St) (Q:Bool->Hp->Prop) (b:Bool) (s':Shared):Prop:=∃ H',Inv X pins B H' s'/\Q b H'
def AP (X:Cx) (pins:List (Addr×Obj)) (B:St) (Q:List V->Hp->Prop) (us:List Value) (s':Shared):Prop:=∃ vs H',Inv X pins B H' s'/\Vals vs us/\Q vs H'
def SP (X:Cx) (pins:List (Addr×Obj)) (D:Ends) (f:Flow) (s':Shared):Prop:=
 match f with
 | .next=>∃ B' H',Inv X pins B' H' s'/\D.nx B' H'
 | .brk=>∃ B' H',Inv X pins B' H' s'/\D.bk B' H'
 | .cont=>∃ B' H',Inv X pins B' H' s'/\D.ct B' H'
 | .ret u=>∃ v B' H',Inv X pins B' H' s'/\RelV v u/\D.rt v H'
def PE (X:Cx) (e:Expr) (t:TE):Prop:=
 ∀ (pins:List (Addr×Obj)) (s:Shared) (B:St) (H:Hp) (Q:VK),Inv X pins B H s->t B H Q->wpAny (model X.prog X.w) X.A (eval e X.env) (EP X pins B Q) X.xe s
def PT (X:Cx) (e:Expr) (t:TT):Prop:=
 ∀ (pins:List (Addr×Obj)) (s:Shared) (B:St) (H:Hp) (Q:Bool->Hp->Prop),Inv X pins B H s->t B H Q->wpAny (model X.prog X.w) X.A (isTrue e X.env (eval e X.env)) (TP X pins B Q) X.xe s
def PW (X:Cx) (e:Expr) (t:TT):Prop:=
 ∀ (whole:Sem Value) (pins:List (Addr×Obj)) (s:Shared) (B:St) (H:Hp) (Q:Bool->Hp->Prop),Inv X pins B H s->t B H Q->wpAny (model X.prog X.w) X.A (isTrue e X.env whole) (TP X pins B Q) X.xe s
def PW.pt {X:Cx}{e:Expr}{t:TT}(h:PW X e t):PT X e t:=h _
def PA (X:Cx) (es:List Expr) (t:TA):Prop:=
 ∀ (pos:Pos) (pins:List (Addr×Obj)) (s:Shared) (B:St) (H:Hp) (Q:List V->Hp->Prop),Inv X pins B H s->t B H Q->wpAny (model X.prog X.w) X.A (spliced (backTo pos (starEach es X.env))) (AP X pins B Q) X.xe s
def PS (X:Cx) (st:Stmt) (t:TS):Prop:=
 ∀ (pins:List (Addr×Obj)) (s:Shared) (B:St) (H:Hp) (D:Ends),Inv X pins B H s->t D B H->wpAny (model X.prog X.w) X.A (exec st X.env) (SP X pins D) X.xe s
def wx (X:Cx) (st:List Stmt) (t:TS):Prop:=
 ∀ (pins:List (Addr×Obj)) (s:Shared) (B:St) (H:Hp) (D:Ends),Inv X pins B H s->t D B H->wpAny (model X.prog X.w) X.A (execs st X.env) (SP X pins D) X.xe s
def zH {α:Type}{t:Sem α}{Q Q':α->Shared->Prop}{M:Model}{A:Around}{E:Value->Shared->Prop}{s:Shared}(h:wpAny M A t Q E s) (hQ:∀ a s,Q a s->Q' a s):wpAny M A t Q' E s:=wpAny_mono h hQ λ _ _ x=>x
section
variable {X:Cx}
def iq (i:Nat):TE:=fun B H Q=>∃ v,B[i]?=some (some v)/\Q v H
def tC (v:V):TE:=λ _ H Q=>Q v H
def UQ {i:Nat}{x:Str}{pos:Pos}(hN:X.N[i]?=some x) (hv:dv X.env.scope x) (hd:(x == ("__debug__":Str))=false:=by decide) (hcd:(x == ("__classdict__":Str))=false:=by decide):PE X (.Name x pos) (iq i):=by
 intro pins s B H Q I h;obtain⟨v,e,h⟩:=h;obtain⟨m,hn,hl⟩:=I.loc;obtain⟨u,r,l⟩:=hl i x v hN e hv;have fin:EP X pins B Q u s:=⟨v,H,I,r,h⟩
 rcases l with ⟨hk,hm⟩ | ⟨hk,c,hc,hcell⟩
 .exact wpAny_Name (wpAny_loadName_local I.ok.kind hk hn hm fin) hd
 .rcases hk with hk | hk
  .exact wpAny_Name (wpAny_loadName_cell I.ok.kind hk hc hcell fin) hd
  .exact wpAny_Name (wpAny_loadName_free I.ok.kind hk hc hcell fin hcd) hd
def Td {i j pos}:PE X (.Constant (.int i) j pos) (tC (.int i)):=λ _ _ _ H _ I h=>wpAny_Constant_int ⟨.int i,H,I.tok _,⟨_,rfl⟩,h⟩
def Tr {b j pos}:PE X (.Constant (.bool b) j pos) (tC (.bl b)):=λ _ _ _ H _ I h=>Constant_bool ⟨.bl b,H,I,rfl,h⟩
def U_ {j pos}:PE X (.Constant .none j pos) (tC .zj):=λ _ _ _ H _ I h=>Constant_none ⟨.zj,H,I,rfl,h⟩
def UT {x j pos}:PE X (.Constant (.str x) j pos) (tC (.str x)):=λ _ _ _ H _ I h=>Calls.Constant_str ⟨.str x,H,I.tok _,⟨_,rfl⟩,h⟩
def Gl (X:Cx) (x:Str):Prop:=X.env.kindOf x=some .globalImplicit
def ZF {E:Value->Shared->Prop}{pins:List (Addr×Obj)}{s:Shared}{B:St}{H:Hp}{x:Str}{u:Value}{pos:Pos}{Q:Value->Shared->Prop}(I:Inv X pins B H s) (hg:Gl X x) (hm:X.mg x=some u) (h:Q u s)
  (hd:(x == ("__debug__":Str))=false:=by decide):wpAny (model X.prog X.w) X.A (eval (.Name x pos) X.env) Q E s:=
 Calls.Name_function_global I.ok.kind hg (Calls.loadGlobal_global (by rw[I.ok.glob];exact I.mod.glob.keeps I.bk) hm h) hd
def oH {E:Value->Shared->Prop}{pins:List (Addr×Obj)}{s:Shared}{B:St}{H:Hp}{x:Str}{u:Value}{pos:Pos}{Q:Value->Shared->Prop}(I:Inv X pins B H s) (hg:Gl X x) (hm:X.mg x=none) (hv:bootBuiltins x=some u) (h:Q u s)
  (hn:x≠"__name__":=by decide) (hd:(x == ("__debug__":Str))=false:=by decide):wpAny (model X.prog X.w) X.A (eval (.Name x pos) X.env) Q E s:=by
 obtain⟨mb,h1,h2⟩:=I.mod.blt;exact Calls.Name_function_global I.ok.kind hg (Calls.loadGlobal_builtin (by rw[I.ok.glob];exact I.mod.glob.keeps I.bk) hm (by rw[I.ok.blt];exact h1.keeps I.bk) ((h2 x hn).trans hv) h) hd
def Tf {x:Str}{v:V}{u:Value}{pos:Pos}(hg:Gl X x) (hm:X.mg x=some u) (r:RelV v u) (hd:(x == ("__debug__":Str))=false:=by decide):PE X (.Name x pos) (tC v):=
 λ _ _ _ H _ I h=>ZF I hg hm ⟨v,H,I,r,h⟩ hd
def Tq {x:Str}{v:V}{u:Value}{pos:Pos}(hg:Gl X x) (hm:X.mg x=none) (hv:bootBuiltins x=some u) (r:RelV v u) (hn:x≠"__name__":=by decide) (hd:(x == ("__debug__":Str))=false:=by decide):PE X (.Name x pos) (tC v):=
 λ _ _ _ H _ I h=>oH I hg hm hv ⟨v,H,I,r,h⟩ hn hd
variable {a b:Expr}{ta tb:TE}{pos:Pos}
variable {tA tB':TT}{rest:List Expr}
def Vj (t u:TT):TT:=fun B H Q=>t B H λ c H1=>if c=true then u B H1 Q else Q false H1
def WV (t u:TT):TT:=fun B H Q=>t B H λ c H1=>if c=true then Q true H1 else u B H1 Q
def WY (t:TT):TT:=fun B H Q=>t B H λ c H1=>Q (!c) H1
def Uh (ha:PT X a tA):PW X (.BoolOp .And [a] pos) tA:=by
 intro wh pins s B H Q I h;refine isTrue_and (zH (ha pins s B H Q I h) λ c s1 e=>?_);cases c with
 | true=>exact isTrue_and_nil e
 | false=>exact e
def Ue (ha:PT X a tA):PW X (.BoolOp .Or [a] pos) tA:=by
 intro wh pins s B H Q I h;refine isTrue_or (zH (ha pins s B H Q I h) λ c s1 e=>?_);cases c with
 | false=>exact isTrue_or_nil e
 | true=>exact e
def Ui (ha:PT X a tA) (hb:PW X (.BoolOp .And (b::rest) pos) tB'):PW X (.BoolOp .And (a::b::rest) pos) (Vj tA tB'):=by
 intro wh pins s B H Q I h;refine isTrue_and (zH (ha pins s B H _ I h) λ c s1 ⟨H1,I1,q1⟩=>?_);cases c with
 | true=>exact hb wh pins s1 B H1 Q I1 q1
 | false=>exact⟨H1,I1,q1⟩
def Ug (ha:PT X a tA) (hb:PW X (.BoolOp .Or (b::rest) pos) tB'):PW X (.BoolOp .Or (a::b::rest) pos) (WV tA tB'):=by
 intro wh pins s B H Q I h;refine isTrue_or (zH (ha pins s B H _ I h) λ c s1 ⟨H1,I1,q1⟩=>?_);cases c with
 | true=>exact⟨H1,I1,q1⟩
 | false=>exact hb wh pins s1 B H1 Q I1 q1
def Um (ha:PT X a tA):PT X (.UnaryOp .Not a pos) (WY tA):=by
 intro pins s B H Q I h;exact isTrue_not (ha pins s B H (λ c H1=>Q (!c) H1) I h)
def Vi (ta tb:TE):TE:=fun B H Q=>ta B H λ x H1=>∃ c,x=.bl c/\if c=true then tb B H1 Q else Q (.bl false) H1
def WU (ta tb:TE):TE:=fun B H Q=>ta B H λ x H1=>∃ c,x=.bl c/\if c=true then Q (.bl true) H1 else tb B H1 Q
def WX (ta:TE):TE:=fun B H Q=>ta B H λ x H1=>∃ c,x=.bl c/\Q (.bl (!c)) H1
def UY {op} {t:TE}(h:PE X a t):PE X (.BoolOp op [a] pos) t:=λ pins s B H Q I hw=>BoolOp_one (h pins s B H Q I hw)
def Ts (ha:PE X a ta) (hb:PE X (.BoolOp .And (b::rest) pos) tb):PE X (.BoolOp .And (a::b::rest) pos) (Vi ta tb):=by
 intro pins s B H Q I h;refine BoolOp_and (zH (ha pins s B H _ I h) λ v s1 ⟨x,H1,I1,r1,q1⟩=>?_);obtain⟨c,rfl,q1⟩:=q1;cases r1;refine wpAny_truthy_bool ?_;cases c with
 | true=>exact hb pins s1 B H1 Q I1 q1
 | false=>exact⟨.bl false,H1,I1,rfl,q1⟩
def UW (ha:PE X a ta) (hb:PE X (.BoolOp .Or (b::rest) pos) tb):PE X (.BoolOp .Or (a::b::rest) pos) (WU ta tb):=by
 intro pins s B H Q I h;refine BoolOp_or (zH (ha pins s B H _ I h) λ v s1 ⟨x,H1,I1,r1,q1⟩=>?_);obtain⟨c,rfl,q1⟩:=q1;cases r1;refine wpAny_truthy_bool ?_;cases c with
 | false=>exact hb pins s1 B H1 Q I1 q1
 | true=>exact⟨.bl true,H1,I1,rfl,q1⟩
def UZ (ha:PE X a ta):PE X (.UnaryOp .Not a pos) (WX ta):=by
 intro pins s B H Q I h;refine UnaryOp_ (zH (ha pins s B H _ I h) λ v s1 ⟨x,H1,I1,r1,q1⟩=>?_);obtain⟨c,rfl,q1⟩:=q1;cases r1;exact not_of (wpAny_truthy_bool ⟨.bl (!c),H1,I1,rfl,q1⟩)
def Vc (t:TT) (ta tb:TE):TE:=fun B H Q=>t B H λ c H1=>if c=true then ta B H1 Q else tb B H1 Q
def Te {c:Expr}(hc:PT X c tA) (ha:PE X a ta) (hb:PE X b tb):PE X (.IfExp c a b pos) (Vc tA ta tb):=by
 intro pins s B H Q I h;refine wpAny_IfExp (zH (hc pins s B H _ I h) λ d s1 ⟨H1,I1,q1⟩=>?_);cases d with
 | true=>exact ha pins s1 B H1 Q I1 q1
 | false=>exact hb pins s1 B H1 Q I1 q1
end
def zV (K:zFr) (H:Hp) (a:Addr) (xs:List V):Prop:=
 Rd H a (.lst xs)\/
  ∃ (o:Obj) (its:Array Value) (n:Nat),K.lookup a=some o/\o.cls=.type "list"/\o.dict=none/\o.data=.seq its n/\its.size<=sizeLine/\Vals xs its.toList
def ya (K:zFr) (H:Hp) (a:Addr) (xs:List V):Prop:=
 Rd H a (.tup xs)\/
  ∃ (o:Obj) (its:Array Value) (n:Nat),K.lookup a=some o/\o.cls=.type "tuple"/\o.data=.seq its n/\its.size<=sizeLine/\Vals xs its.toList
noncomputable def NU:Value->Option V
 | .none=>some .zj
 | .bool b=>some (.bl b)
 | .int i _=>some (.int i)
 | .str x _=>some (.str x)
 | .bytes b _=>some (.oZ b)
 | .float b _=>some (.jo b)
 | .ref a=>some (.ref a)
 | .type n=>some (.ty n)
 | _=>none
def RelV.abs {x:V}{u:Value}(r:RelV x u):NU u=some x:=by
 cases x with
 | zj=>cases r;rfl
 | bl _=>cases r;rfl
 | int _=>obtain⟨t,rfl⟩:=r;rfl
 | str _=>obtain⟨t,rfl⟩:=r;rfl
 | oZ _=>obtain⟨t,rfl⟩:=r;rfl
 | jo _=>obtain⟨t,rfl⟩:=r;rfl
 | ref _=>cases r;rfl
 | ty _=>cases r;rfl
theorem RelV.inj {x y:V}{u:Value}(r:RelV x u) (q:RelV y u):x=y:=zD5 (r.abs.symm.trans q.abs)
theorem Vals.inj:∀ {xs ys:List V}{us:List Value},Vals xs us->Vals ys us->xs=ys
 | _,_,_,.nil,.nil=>rfl
 | _,_,_,.cons r t,.cons r' t'=>by rw[r.inj r',Vals.inj t t']
section
variable {X:Cx}{pins:List (Addr×Obj)}{B:St}{H:Hp}{s:Shared}{a:Addr}{xs ys:List V}
def zV.of {K:zFr}(h:H a=some (.lst xs)):zV K H a xs:=.inl (.inl h)
def ya.of {K:zFr}(h:H a=some (.tup xs)):ya K H a xs:=.inl (.inl h)
def Inv.list (I:Inv X pins B H s) (h:zV X.K H a xs):∃ its:List Value,Vals xs its/\PlainL s.heap a its.toArray/\xs.length<=sizeLine:=by
 rcases h with h | ⟨o,its,n,hk,hc,hd,hs,hz,r⟩
 .obtain⟨z,its,n,r,e⟩:=h.ok I.zD;exact⟨its,r,⟨_,n,e,rfl,rfl,rfl⟩,z⟩
 .refine⟨its.toList,r,⟨o,n,I.vU a o hk,hc,hd,by simpa using hs⟩,?_⟩;have e:=r.length;simp only[zD2] at e;omega
def Inv.tuple (I:Inv X pins B H s) (h:ya X.K H a xs):∃ its:List Value,Vals xs its/\IsTup s.heap a its.toArray/\xs.length<=sizeLine:=by
 rcases h with h | ⟨o,its,n,hk,hc,hs,hz,r⟩
 .obtain⟨z,its,r,p⟩:=h.ok I.zD;exact⟨its,r,p,z⟩
 .refine⟨its.toList,r,⟨o,I.vU a o hk,hc,n,by simpa using hs⟩,?_⟩;have e:=r.length;simp only[zD2] at e;omega
def Inv.fG (I:Inv X pins B H s) (h:zV X.K H a xs) (h':zV X.K H a ys):xs=ys:=by
 obtain⟨its,r,⟨o,n,e,_,_,d⟩,_⟩:=I.list h;obtain⟨its',r',⟨o',n',e',_,_,d'⟩,_⟩:=I.list h';rw[e] at e';cases e';rw[d] at d'
 injection d' with d1 _
 have:its=its':=by simpa using congrArg Array.toList d1
 subst this;exact r.inj r'
def Inv.ij (I:Inv X pins B H s) (h:ya X.K H a xs) (h':ya X.K H a ys):xs=ys:=by
 obtain⟨its,r,⟨o,e,_,n,d⟩,_⟩:=I.tuple h;obtain⟨its',r',⟨o',e',_,n',d'⟩,_⟩:=I.tuple h';rw[e] at e';cases e';rw[d] at d'
 injection d' with d1 _
 have:its=its':=by simpa using congrArg Array.toList d1
 subst this;exact r.inj r'
end
abbrev Cx.t6 (X:Cx) (E:Value->Shared->Prop):Cx:={ X with xe:=E }
abbrev Cx.sJ (X:Cx):Cx:=X.t6 λ _ _=>False
theorem Cx.Ok.t6 {X:Cx}(ok:X.Ok) (E:Value->Shared->Prop):(X.t6 E).Ok:=
 ⟨ok.mod,ok.kind,ok.glob,ok.blt,ok.above,ok.inj,ok.has,ok.lg,ok.hd,ok.frames,ok.kr,ok.eB,ok.bs,ok.pz,ok.mv,ok.mN,ok.uW,ok.oS⟩
def Cx.Ok.rA {X:Cx}{E:Value->Shared->Prop}(ok:(X.t6 E).Ok):X.Ok:=
 ⟨ok.mod,ok.kind,ok.glob,ok.blt,ok.above,ok.inj,ok.has,ok.lg,ok.hd,ok.frames,ok.kr,ok.eB,ok.bs,ok.pz,ok.mv,ok.mN,ok.uW,ok.oS⟩
section
variable {X:Cx}{pins:List (Addr×Obj)}{B:St}{H:Hp}{s:Shared}{E:Value->Shared->Prop}
theorem Inv.t6 (I:Inv X pins B H s) (E:Value->Shared->Prop):Inv (X.t6 E) pins B H s:=⟨I.ok.t6 E,I.os,I.bare,I.base,I.loc,I.cell,I.free,I.tP,I.pin,I.zD,I.len⟩
theorem Inv.rA (I:Inv (X.t6 E) pins B H s):Inv X pins B H s:=⟨I.ok.rA,I.os,I.bare,I.base,I.loc,I.cell,I.free,I.tP,I.pin,I.zD,I.len⟩
theorem SP.rA {D:Ends}{f:Flow}{s':Shared}(h:SP (X.t6 E) pins D f s'):SP X pins D f s':=by
 cases f with
 | next=>obtain⟨B',H',I,q⟩:=h;exact⟨B',H',I.rA,q⟩
 | brk=>obtain⟨B',H',I,q⟩:=h;exact⟨B',H',I.rA,q⟩
 | cont=>obtain⟨B',H',I,q⟩:=h;exact⟨B',H',I.rA,q⟩
 | ret u=>obtain⟨v,B',H',I,r,q⟩:=h;exact⟨v,B',H',I.rA,r,q⟩
theorem wx.sJ {st:List Stmt}{t:TS}(h:wx X.sJ st t):wx X st t:=λ pins s B H D I hw=>
 wpAny_mono (h pins s B H D (I.t6 _) hw) (λ _ _ q=>q.rA) λ _ _ z=>False.elim z
end
section
variable {X:Cx}{st:Stmt}{rest:List Stmt}{t u:TS}{e:Expr}{te:TE}{pos:Pos}
def W_:TS:=λ D B H=>D.nx B H
def WQ (t u:TS):TS:=λ D B H=>t { D with nx:=u D } B H
def Ur:wx X [] W_:=λ _ _ B H _ I h=>wpAny_execs_nil ⟨B,H,I,h⟩
def Us (h1:PS X st t) (h2:wx X rest u):wx X (st::rest) (WQ t u):=by
 intro pins s B H D I h;refine wpAny_execs_cons (zH (h1 pins s B H { D with nx:=u D } I h) λ f s1 q=>?_);cases f with
 | next=>
  obtain⟨B',H',I',q⟩:=q;exact h2 pins s1 B' H' D I' q
 | ret v=>exact q
 | brk=>exact q
 | cont=>exact q
def Uq (h1:PS X st t):wx X [st] t:=by
 intro pins s B H D I h;refine wpAny_execs_cons (zH (h1 pins s B H D I h) λ f s1 q=>?_);cases f with
 | next=>exact wpAny_execs_nil q
 | ret v=>exact q
 | brk=>exact q
 | cont=>exact q
def Inv.quiet {pins:List (Addr×Obj)}{B:St}{H:Hp}{s:Shared}(I:Inv X pins B H s):interactive X.env=false:=by simp[interactive,I.ok.kind]
def Ve (te:TE):TS:=λ D B H=>te B H λ _ H1=>D.nx B H1
def Uz (he:PE X e te) (hs:swapsWith e none pos.line X.env=pure false:=by rfl):PS X (.Expr e pos) (Ve te):=by
 intro pins s B H D I h;exact wpAny_Expr_any (zH (he pins s B H _ I h) λ v s1 ⟨x,H1,I1,r1,q1⟩=>⟨B,H1,I1,q1⟩) I.quiet hs
def WR (te:TE):TS:=λ D B H=>te B H D.rt
def Uw (he:PE X e te):PS X (.Return (some e) pos) (WR te):=by
 intro pins s B H D I h;exact wpAny_Return_some (zH (he pins s B H _ I h) λ v s1 ⟨x,H1,I1,r1,q1⟩=>⟨x,B,H1,I1,r1,q1⟩)
def Vb (c:TT) (t u:TS):TS:=λ D B H=>c B H λ b H1=>if b=true then t D B H1 else u D B H1
def Ux {c:Expr}{a b:List Stmt}{tc:TT}(hc:PT X c tc) (ha:wx X a t) (hb:wx X b u):PS X (.If c a b pos) (Vb tc t u):=by
 intro pins s B H D I h;refine wpAny_If (zH (hc pins s B H _ I h) λ d s1 ⟨H1,I1,q1⟩=>?_);cases d with
 | true=>exact ha pins s1 B H1 D I1 q1
 | false=>exact hb pins s1 B H1 D I1 q1
end
abbrev TG:=V->St->Hp->(St->Hp->Prop)->Prop
abbrev sW:=List V->St->Hp->(St->Hp->Prop)->Prop
def PG (X:Cx) (target:Expr) (t:TG):Prop:=
 ∀ (pins:List (Addr×Obj)) (s:Shared) (B:St) (H:Hp) (v:V) (u:Value) (Q:St->Hp->Prop),Inv X pins B H s->RelV v u->t v B H Q->
  wpAny (model X.prog X.w) X.A (assign target X.env u) (λ _ s'=>∃ B' H',Inv X pins B' H' s'/\Q B' H') X.xe s
def se (X:Cx) (ts:List Expr) (t:sW):Prop:=
 ∀ (pins:List (Addr×Obj)) (s:Shared) (B:St) (H:Hp) (vs:List V) (us:List Value) (Q:St->Hp->Prop),Inv X pins B H s->Vals vs us->t vs B H Q->
  wpAny (model X.prog X.w) X.A (assignInOrder ((assignEach ts X.env).map (·.2)) us) (λ _ s'=>∃ B' H',Inv X pins B' H' s'/\Q B' H') X.xe s
abbrev d7:=V->V->V->Hp->(Hp->Prop)->Prop
def X5 (X:Cx) (t:d7):Prop:=
 ∀ (pins:List (Addr×Obj)) (s:Shared) (B:St) (H:Hp) (o i v:V) (ov iv u:Value) (Q:Hp->Prop),Inv X pins B H s->RelV o ov->RelV i iv->RelV v u->t o i v H Q->
  wpAny (model X.prog X.w) X.A (setItem ov iv u) (λ _ s'=>∃ H',Inv X pins B H' s'/\Q H') X.xe s
section
variable {X:Cx}{pos:Pos}
noncomputable def oQ (i:Nat):TG:=λ v B H Q=>Q (B.set i (some v)) H
def UM {i:Nat}{x:Str}(hN:X.N.Nodup) (hi:X.N[i]?=some x) (hx:Loc X.env.scope x) (hf:X.fn x=true\/X.env.scope.names.lookup x=some .local:=by first | exact .inl rfl | exact .inr rfl | assumption):PG X (.Name x pos) (oQ i):=by
 intro pins s B H v u Q I r h;exact wpAny_assign_Name (iz I hN hi hx r (λ s' I'=>⟨_,H,I',h⟩) hf)
noncomputable def PN:sW:=λ vs B H Q=>vs=[]/\Q B H
noncomputable def PQ (t:TG) (u:sW):sW:=λ vs B H Q=>∃ v r,vs=v::r/\t v B H fun B' H'=>u r B' H' Q
def UI:se X [] PN:=by
 intro pins s B H vs us Q I r h;obtain⟨e,h⟩:=h;subst e;cases r;exact assignInOrder_nil ⟨B,H,I,h⟩
def UJ {e:Expr}{es:List Expr}{t:TG}{u:sW}(h1:PG X e t) (h2:se X es u)
  (hs:(assignEach (e::es) X.env).map (·.2)=assign e X.env::(assignEach es X.env).map (·.2):=by rfl):se X (e::es) (PQ t u):=by
 intro pins s B H vs us Q I r h;obtain⟨v,vr,e1,h⟩:=h;subst e1;cases r with
 | cons r rr=>
  rw[hs];refine assignInOrder_cons (zH (h1 pins s B H _ _ _ I r h) λ _ s1 ⟨B1,H1,I1,q1⟩=>?_);exact h2 pins s1 B1 H1 _ _ Q I1 rr q1
noncomputable def Yn (K:zFr) (n:Nat) (t:sW):TG:=λ v B H Q=>∃ a xs,v=.ref a/\ya K H a xs/\xs.length=n/\t xs B H Q
def UK {es:List Expr}{k:Nat}{t:sW}{n:Nat}(hc:X.calm=true) (h:se X es t)
  (hn:(assignEach es X.env).length=n:=by rfl) (hst:(assignEach es X.env).findIdx? (·.1)=none:=by rfl):PG X (.Tuple es k pos) (Yn X.K n t):=by
 intro pins s B H v u Q I r hw;obtain⟨a,xs,e1,hq,hl,hw⟩:=hw;subst e1;cases r;obtain⟨its,rv,ht,hz⟩:=I.tuple hq;refine assign_Tuple_tuple (I.ok.hd hc) ht (by simp[hn,<- hl,rv.length]) hst λ h' hx=>?_;have I1:Inv X pins B H { s with heap:=h' }:=I.kept (t':=s.toks) λ b o e=>hx b o (zB3 (zA8 e)) e;exact h pins _ B H xs _ Q I1 (by simpa using rv) hw
noncomputable def PM (to ti:TE) (t:d7):TG:=λ v B H Q=>to B H λ o H1=>ti B H1 λ i H2=>t o i v H2 λ H3=>Q B H3
def UL {o i:Expr}{to ti:TE}{t:d7}(ho:PE X o to) (hi:PE X i ti) (hs:X5 X t)
  (ha:∀ v,assign (.Subscript o i pos) X.env v=(do
   let ov <- holding [v] (eval o X.env)
   let iv <- holding [v,ov] (eval i X.env)
   standAt pos
   holding [v,ov,iv] (setItem ov iv v)
   release [v,ov,iv] []):=by intro _;rfl):PG X (.Subscript o i pos) (PM to ti t):=by
 intro pins s B H v u Q I r h;rw[ha];refine zWb (wpAny_holding (zH (ho pins s B H _ I h) λ ov s1 ⟨x,H1,I1,r1,q1⟩=>?_));refine zWb (wpAny_holding (zH (hi pins s1 B H1 _ I1 q1) λ iv s2 ⟨y,H2,I2,r2,q2⟩=>?_));refine zWb (wpAny_standAt (zWb (wpAny_holding (zH (hs pins s2 B H2 x y v ov iv u _ I2 r1 r2 r q2) λ _ s3 ⟨H3,I3,q3⟩=>?_))));exact wpAny_release ⟨B,H3,I3,q3⟩
def kq (te:TE) (g:TG):TS:=λ D B H=>te B H λ x H1=>g x B H1 D.nx
def U1 {tg e:Expr}{te:TE}{g:TG}(he:PE X e te) (hg:PG X tg g) (hs:swapsWithSole [tg] e pos.line X.env=pure false:=by rfl) (hw:swappedStores [tg] e X.env=pure none:=by rfl)
  (h1:(assignEach [tg] X.env).map (·.2)=[assign tg X.env]:=by rfl):PS X (.Assign [tg] e pos) (kq te g):=by
 intro pins s B H D I h;refine wpAny_Assign_stores (zH (he pins s B H _ I h) λ v s1 ⟨x,H1,I1,r1,q1⟩=>?_) hs hw;rw[h1];exact zH (hg pins s1 B H1 x v _ I1 r1 q1) λ _ s2 q=>q
def Uv {i:Nat}{x:Str}{e:Expr}{te:TE}{pos':Pos}(hN:X.N.Nodup) (hi:X.N[i]?=some x) (hx:Loc X.env.scope x) (he:PE X e te) (hs:swapsWith e (some (.Name x pos')) pos.line X.env=pure false:=by rfl) (hf:X.fn x=true\/X.env.scope.names.lookup x=some .local:=by first | exact .inl rfl | exact .inr rfl | assumption):
  PS X (.Assign [.Name x pos'] e pos) (kq te (oQ i)):=by
 intro pins s B H D I h;refine wpAny_Assign_Name (zH (he pins s B H _ I h) λ v s1 ⟨y,H1,I1,r1,q1⟩=>?_) hs;exact iz I1 hN hi hx r1 (λ s2 I2=>⟨_,H1,I2,q1⟩) hf
end
section
variable {X:Cx}{pos:Pos}
def WK (c:TT) (tb:TS):TS:=λ D B H=>∃ W:Nat->St->Hp->Prop,(∃ m,W m B H)/\∀ m B H,W m B H->
 c B H λ b H1=>if b=true then ∃ N:St->Hp->Prop,(∀ B' H',N B' H'->∃ m',m'<m/\W m' B' H')/\tb { D with nx:=N,ct:=N,bk:=D.nx } B H1 else D.nx B H1
def Ut {c:Expr}{body:List Stmt}{tc:TT}{tb:TS}(hp:PassesOwn (model X.prog X.w) X.A X.env X.xe) (hc:PT X c tc) (hb:wx X body tb):PS X (.While c body [] pos) (WK tc tb):=by
 intro pins s B H D I h;obtain⟨W,⟨m0,w0⟩,turn⟩:=h;refine wpAny_While (codeAny_whileLoop (λ n s'=>∃ B' H',Inv X pins B' H' s'/\W n B' H') ?_ m0 ⟨B,H,I,w0⟩);rintro n s1 ⟨B1,H1,I1,w1⟩;refine wpAny_passesOwn hp (zH (hc pins s1 B1 H1 _ I1 (turn n B1 H1 w1)) λ b s2 ⟨H2,I2,q2⟩=>?_);cases b with
 | true=>
  obtain⟨N,hN,q2⟩:=q2;rw[if_pos rfl];refine wpAny_passesOwn hp (zH (hb pins s2 B1 H2 _ I2 q2) λ f s3 q3=>?_);cases f with
  | next=>
   obtain⟨B3,H3,I3,n3⟩:=q3;obtain⟨m',hm,w3⟩:=hN B3 H3 n3;exact⟨m',hm,B3,H3,I3,w3⟩
  | cont=>
   obtain⟨B3,H3,I3,n3⟩:=q3;obtain⟨m',hm,w3⟩:=hN B3 H3 n3;exact⟨m',hm,B3,H3,I3,w3⟩
  | brk=>exact q3
  | ret v=>exact q3
 | false=>
  rw[if_neg Bool.false_ne_true];exact wpAny_execs_nil ⟨B1,H2,I2,q2⟩
end
structure It where
 go:Nat->Hp->Prop
 pU:Nat->Hp->V->Hp->Prop
 stop:Nat->Hp->Prop
def ui (X:Cx) (pins:List (Addr×Obj)) (H:Hp) (b:Addr):Prop:=
 H b=none/\b≠X.env.locals/\b∉X.fs/\(b∈X.ex\/X.s₀.heap.objs.size<=b)/\(∀ x c,X.env.cells.lookup x=some c->c≠b)/\∀ p∈X.pn++pins,p.1≠b
def Inv.e7 {X:Cx}{pins:List (Addr×Obj)}{B:St}{H H':Hp}{s:Shared}{b:Addr}(I:Inv X pins B H s) (hb:s.heap.objs.size<=b) (hn:H' b=none):ui X pins H' b:=by
 refine⟨hn,Nat.ne_of_gt (zC3 I.lt hb),I.Zo hb,.inr (zE0 I.sz hb),λ x c e z=>?_,λ p hp z=>?_⟩
 .obtain⟨v,q⟩:=I.cell x c e;exact absurd (zC3 q.lt (by rw[z];exact hb)) (zE1 _)
 .exact absurd (zC3 (zA8 (I.pin p hp).1) (by rw[z];exact hb)) (zE1 _)
structure Turn (P:Program) (w:World) (K:zFr) (tg:Expr) (J:It) (fp:List Addr) (it:Addr) (tn:Nat->Heap->Prop):Prop where
 mem:it∈fp
 obj:∀ i h,tn i h->∀ b∈fp,∃ o,h.get? b=some o/\∀ v,o.data≠.cell v
 keep:∀ i h h',tn i h->(∀ b∈fp,∀ o,h.get? b=some o->h'.get? b=some o)->tn i h'
 item:∀ (X:Cx),X.prog=P->X.w=w->X.K=K->X.calm=true->∀ (i:Nat) (pins:List (Addr×Obj)) (s:Shared) (B:St) (H:Hp) (E:Value->Shared->Prop),Inv X pins B H s->(∀ b∈fp,ui X pins H b)->tn i s.heap->J.go i H->
  wpAny (model P w) X.A (pyNext (.ref it)) (λ r s1=>∃ u,r=some u/\
   wpAny (model P w) X.A (letOwnedTupleGo tg (.ref it) u) (λ _ s2=>∃ x H',Inv X pins B H' s2/\RelV x u/\J.pU i H x H'/\tn (i+1) s2.heap/\∀ b∈fp,H' b=none) E s1) E s
 done:∀ (X:Cx),X.prog=P->X.w=w->X.K=K->X.calm=true->∀ (i:Nat) (pins:List (Addr×Obj)) (s:Shared) (B:St) (H:Hp) (E:Value->Shared->Prop),Inv X pins B H s->(∀ b∈fp,ui X pins H b)->tn i s.heap->J.stop i H->
  wpAny (model P w) X.A (pyNext (.ref it)) (λ r s1=>r=none/\Inv X pins B H s1) E s
 self:∀ (A:Around) (i:Nat) (s:Shared) (Q:Value->Shared->Prop) (E:Value->Shared->Prop),tn i s.heap->Q (.ref it) s->wpAny (model P w) A (pyIter (.ref it)) Q E s
abbrev TI:=St->Hp->(It->Hp->Prop)->Prop
def X6 (X:Cx) (pins:List (Addr×Obj)) (B:St) (tg:Expr) (R:It->Hp->Prop) (itv:Value) (s2:Shared):Prop:=
 ∃ (it:Addr) (fp:List Addr) (tn:Nat->Heap->Prop) (J:It) (H':Hp),itv=.ref it/\Inv X pins B H' s2/\Turn X.prog X.w X.K tg J fp it tn/\tn 0 s2.heap/\(∀ b∈fp,ui X pins H' b)/\R J H'
def PI (X:Cx) (tg iter:Expr) (wi:TI):Prop:=
 ∀ (pins:List (Addr×Obj)) (s:Shared) (B:St) (H:Hp) (R:It->Hp->Prop),Inv X pins B H s->wi B H R->
  wpAny (model X.prog X.w) X.A (eval iter X.env) (λ v s1=>wpAny (model X.prog X.w) X.A (pyIter v) (X6 X pins B tg R) X.xe s1) X.xe s
def ei {M:Model}{A:Around}{E:Value->Shared->Prop}{s:Shared}{tg:Expr}{it:Addr}{u:Value}{o:Obj}{n:String}{vs:Array Value}{Q:Unit->Shared->Prop}(ho:s.heap.get? it=some o) (hc:o.cls=.type n) (hd:o.data=.fields vs)
  (hn:["enumerate","zip","dict_itemiterator","dict_reverseitemiterator","odict_iterator","itertools.zip_longest","itertools.pairwise"].contains n=false) (hQ:Q () s):wpAny M A (letOwnedTupleGo tg (.ref it) u) Q E s:=by
 unfold letOwnedTupleGo;cases tg <;> first
  | exact zD1 hQ
  | (cases u <;> first
    | exact zD1 hQ
    | (refine zWb (wpAny_load ho ?_)
       rw[hc,hd];show wpAny M A (if (["enumerate","zip","dict_itemiterator","dict_reverseitemiterator","odict_iterator","itertools.zip_longest","itertools.pairwise"].contains n&&vs[0]? == some (rawInt _))=true then _ else _) Q E s;rw[if_neg (by intro h;rw[hn,Bool.false_and] at h;cases h)];exact zD1 hQ))
def XB (K:zFr) (a:Addr):It:=
 ⟨λ i H=>∃ xs x,zV K H a xs/\xs[i]?=some x,λ i H x H'=>H'=H/\∀ xs,zV K H a xs->xs[i]?=some x,λ i H=>∃ xs,zV K H a xs/\xs.length<=i⟩
def XA (K:zFr) (a:Addr):It:=
 ⟨λ i H=>∃ xs x,ya K H a xs/\xs[i]?=some x,λ i H x H'=>H'=H/\∀ xs,ya K H a xs->xs[i]?=some x,λ i H=>∃ xs,ya K H a xs/\xs.length<=i⟩
def lK (lo:Int) (n:Nat):It:=⟨λ i _=>i<n,λ i H x H'=>H'=H/\x=.int (lo+i),λ i _=>n<=i⟩
def WC {P:Program}{w:World}{K:zFr}{tg:Expr}(a it:Addr):Turn P w K tg (XB K a) [it] it (λ i h=>h.IsListIter it a i) where
 mem:=by simp
 obj:=λ i h st b hb=>by
  have e:b=it:=by simpa using hb
  subst e;obtain⟨o,e,c,d⟩:=st;exact⟨o,e,λ v z=>by rw[d] at z;cases z⟩
 keep:=λ i h h' st k=>st.at λ o e=>k it (by simp) o e
 item:=by
  intro X hP hw hK hc i pins s B H E I hf st hg;subst hP hw hK;obtain⟨xs,x,hq,hx⟩:=hg;obtain⟨its,rv,p,hz⟩:=I.list hq;obtain⟨u,hu,ru⟩:=rv.get hx;obtain⟨f0,f1,f2,f3,f4,f5⟩:=hf it (by simp);refine wpAny_pyNext_list_item st p.isList (x:=u) (by simpa using hu) λ h' st' sb=>?_;have I1:Inv X pins B H { s with heap:=h' }:=I.turned (t':=s.toks) (λ b o hb e=>(sb.2 b hb).trans e) f0 f1 f3 f4 f5;obtain⟨o,e,c,d⟩:=id st';exact⟨u,rfl,ei (s:={ s with heap:=h' }) e c d (by decide) ⟨x,H,I1,ru,⟨rfl,λ ys hy=>by rw[I.fG hy hq];exact hx⟩,st',λ b hb=>(hf b hb).1⟩⟩
 done:=by
  intro X hP hw hK hc i pins s B H E I hf st hg;subst hP hw hK;obtain⟨xs,hq,hx⟩:=hg;obtain⟨its,rv,p,hz⟩:=I.list hq;obtain⟨f0,f1,f2,f3,f4,f5⟩:=hf it (by simp);have hl:=rv.length;exact wpAny_pyNext_list_end (I.ok.hd hc) st p.isList (by simp;omega) λ h' eb=>⟨rfl,I.turned (t':=s.toks) (λ b o hb e=>eb b o hb e) f0 f1 f3 f4 f5⟩
 self:=λ _ _ _ _ _ st h=>wpAny_pyIter_listiter st h
def WA {P:Program}{w:World}{K:zFr}{tg:Expr}(a it:Addr):Turn P w K tg (XA K a) [it] it (λ i h=>h.IsTupleIter it a i) where
 mem:=by simp
 obj:=λ i h st b hb=>by
  have e:b=it:=by simpa using hb
  subst e;obtain⟨o,e,c,d⟩:=st;exact⟨o,e,λ v z=>by rw[d] at z;cases z⟩
 keep:=λ i h h' st k=>st.at λ o e=>k it (by simp) o e
 item:=by
  intro X hP hw hK hc i pins s B H E I hf st hg;subst hP hw hK;obtain⟨xs,x,hq,hx⟩:=hg;obtain⟨its,rv,p,hz⟩:=I.tuple hq;obtain⟨u,hu,ru⟩:=rv.get hx;obtain⟨f0,f1,f2,f3,f4,f5⟩:=hf it (by simp);refine wpAny_pyNext_tuple_item st (show s.heap.IsTuple a its.toArray from p) (x:=u) (by simpa using hu) λ h' st' sb=>?_;have I1:Inv X pins B H { s with heap:=h' }:=I.turned (t':=s.toks) (λ b o hb e=>(sb.2 b hb).trans e) f0 f1 f3 f4 f5;obtain⟨o,e,c,d⟩:=id st';exact⟨u,rfl,ei (s:={ s with heap:=h' }) e c d (by decide) ⟨x,H,I1,ru,⟨rfl,λ ys hy=>by rw[I.ij hy hq];exact hx⟩,st',λ b hb=>(hf b hb).1⟩⟩
 done:=by
  intro X hP hw hK hc i pins s B H E I hf st hg;subst hP hw hK;obtain⟨xs,hq,hx⟩:=hg;obtain⟨its,rv,p,hz⟩:=I.tuple hq;obtain⟨f0,f1,f2,f3,f4,f5⟩:=hf it (by simp);have hl:=rv.length;exact wpAny_pyNext_tuple_end (I.ok.hd hc) st (show s.heap.IsTuple a its.toArray from p) (by simp;omega) λ h' eb=>⟨rfl,I.turned (t':=s.toks) (λ b o hb e=>eb b o hb e) f0 f1 f3 f4 f5⟩
 self:=λ _ _ _ _ _ st h=>wpAny_pyIter_tupleiter st h
def WB {P:Program}{w:World}{K:zFr}{tg:Expr}(it:Addr) (lo:Int) (n:Nat):Turn P w K tg (lK lo n) [it] it (λ i h=>IsRangeIter h it (lo+(i:Nat)*1) ((n:Int)-(i:Nat)) 1) where
 mem:=by simp
 obj:=λ i h st b hb=>by
  have e:b=it:=by simpa using hb
  subst e;exact⟨_,st,λ v z=>by
   have z':Data.fields _=Data.cell v:=z;cases z'⟩
 keep:=λ i h h' st k=>k it (by simp) _ st
 item:=by
  intro X hP hw hK hc i pins s B H E I hf st hg;subst hP hw hK;obtain⟨f0,f1,f2,f3,f4,f5⟩:=hf it (by simp);have W:=Walks.range (prog:=X.prog) (w:=X.w) (I.ok.hd hc) it lo 1 n;refine W.item i s _ _ hg st λ v h' tk hv st' kk=>?_;obtain⟨t,rfl⟩:=hv;have I1:Inv X pins B H { s with heap:=h',toks:=tk }:=I.turned (λ b o hb e=>kk b o (by simpa using hb) e) f0 f1 f3 f4 f5;refine⟨_,rfl,ei (s:={ s with heap:=h',toks:=tk }) (n:="range_iterator") st' rfl rfl (by decide) ⟨.int (lo+i),H,I1,⟨t,?_⟩,⟨rfl,rfl⟩,st',λ b hb=>(hf b hb).1⟩⟩;rw[Int.mul_one]
 done:=by
  intro X hP hw hK hc i pins s B H E I hf st hg;subst hP hw hK;obtain⟨f0,f1,f2,f3,f4,f5⟩:=hf it (by simp);exact wpAny_pyNext_range_end (I.ok.hd hc) st (by have:n<=i:=hg;omega) λ h' eb=>⟨rfl,I.turned (t':=s.toks) (λ b o hb e=>eb b o hb e) f0 f1 f3 f4 f5⟩
 self:=λ _ _ _ _ _ st h=>wpAny_pyIter_rangeiter st h
section
variable {X:Cx}{tg:Expr}
def ae {pins:List (Addr×Obj)}{B:St}{H:Hp}{s:Shared}{R:It->Hp->Prop}{E:Value->Shared->Prop}{lo hi:Int}{t u v:Tok}{tk:Nat}(I:Inv X pins B H s) (h1:-(2 ^ 62)<=lo) (h2:lo<2 ^ 62) (h3:-(2 ^ 62)<=hi) (h4:hi<2 ^ 62)
  (q:R (lK lo (hi-lo).toNat) H):wpAny (model X.prog X.w) X.A (pyIter (.ref s.heap.objs.size)) (X6 X pins B tg R) E { s with heap:=s.heap.push { cls:=.type "range",data:=.fields #[.int lo t,.int hi u,.int 1 v] },toks:=tk }:=by
 refine wpAny_pyIter_range (IsRange.new ..) (small_one h1 h2 h3 h4) ?_;have I1:Inv X pins B H { s with heap:=s.heap.push { cls:=.type "range",data:=.fields #[.int lo t,.int hi u,.int 1 v] },toks:=tk }:=I.kept λ b o e=>zHp _ e;refine⟨(s.heap.push { cls:=.type "range",data:=.fields #[.int lo t,.int hi u,.int 1 v] }).objs.size,[(s.heap.push { cls:=.type "range",data:=.fields #[.int lo t,.int hi u,.int 1 v] }).objs.size],_,_,H,rfl,
  I1.kept (t':=tk) λ b o e=>zHp _ e,WB _ lo (hi-lo).toNat,?_,λ b hb=>?_,q⟩
 .have e1:lo+((0:Nat):Int)*1=lo:=by simp
  have e2:(((hi-lo).toNat:Nat):Int)-((0:Nat):Int)=Builtin.Range.rangeSize lo hi 1:=by rw[rangeSize_one];split <;> omega
  show IsRangeIter _ _ (lo+((0:Nat):Int)*1) ((((hi-lo).toNat:Nat):Int)-((0:Nat):Int)) 1;rw[e1,e2];exact zA9 _ rfl
 .have e:b=(s.heap.push { cls:=.type "range",data:=.fields #[.int lo t,.int hi u,.int 1 v] }).objs.size:=by simpa using hb
  subst e;exact I1.e7 (zA4 _) (I1.zD.fresh (zA4 _))
def Yf (ta:TA):TI:=fun B H R=>ta B H λ vs H1=>∃ j:Int,vs=[.int j]/\-(2 ^ 62)<=j/\j<2 ^ 62/\R (lK 0 j.toNat) H1
def Ye (ta:TA):TI:=fun B H R=>ta B H λ vs H1=>∃ i j:Int,vs=[.int i,.int j]/\(-(2 ^ 62)<=i/\i<2 ^ 62/\-(2 ^ 62)<=j/\j<2 ^ 62)/\R (lK i (j-i).toNat) H1
def UG {a:Expr}{ta:TA}{p pos:Pos}(hg:Gl X "range") (hm:X.mg "range"=none) (ha:PA X [a] ta) (hs:starEach [a] X.env=[(false,eval a X.env)]:=by rfl):PI X tg (.Call (.Name "range" p) [a] [] pos) (Yf ta):=by
 intro pins s B H R I h;refine Call_ (oH I hg hm boot_range (PyProof.Rows.callWith_type1 (zH (ha pos pins s B H _ I h) λ us s1 ⟨vs,H1,I1,r1,q1⟩=>?_) hs rfl));obtain⟨j,e,q1,q2,q⟩:=q1;subst e;cases r1 with
 | cons r rr=>
  cases rr;obtain⟨t,rfl⟩:=r;exact call_range_1 (ae I1 (by omega) (by omega) q1 q2 (by simpa using q))
def UE {a b:Expr}{ta:TA}{p pos:Pos}(hg:Gl X "range") (hm:X.mg "range"=none) (ha:PA X [a,b] ta) (hs:starEach [a,b] X.env=[(false,eval a X.env),(false,eval b X.env)]:=by rfl) (hs2:starEach [b] X.env=[(false,eval b X.env)]:=by rfl):
  PI X tg (.Call (.Name "range" p) [a,b] [] pos) (Ye ta):=by
 intro pins s B H R I h;refine Call_ (oH I hg hm boot_range (PyProof.Rows.callWith_type1 (zH (ha pos pins s B H _ I h) λ us s1 ⟨vs,H1,I1,r1,q1⟩=>?_) (by rw[hs,hs2]) (by rw[hs2];rfl)));obtain⟨i,j,e,⟨q1,q2,q3,q4⟩,q⟩:=q1;subst e;cases r1 with
 | cons r rr=>
  cases rr with
  | cons r' rr=>
   cases rr;obtain⟨t,rfl⟩:=r;obtain⟨t',rfl⟩:=r';exact call_range_2 (ae I1 q1 q2 q3 q4 q)
def Vd (wi:TI) (g:TG) (tb:TS):TS:=λ D B H=>wi B H λ J H1=>∃ W:Nat->Nat->St->Hp->Prop,(∃ m,W 0 m B H1)/\∀ i m B H,W i m B H->
 (J.stop i H/\D.nx B H)\/(J.go i H/\∃ N:St->Hp->Prop,(∀ B' H',N B' H'->∃ m',m'<m/\W (i+1) m' B' H')/\∀ x H',J.pU i H x H'->g x B H' fun B2 H2=>tb { D with nx:=N,ct:=N,bk:=D.nx } B2 H2)
noncomputable def nS (fp:List Addr) (h:Heap):List (Addr×Obj):=fp.filterMap λ b=>(h.get? b).map λ o=>(b,o)
def jb {fp:List Addr}{h:Heap}{b:Addr}{o:Obj}(hb:b∈fp) (e:h.get? b=some o):(b,o)∈nS fp h:=List.mem_filterMap.mpr ⟨b,hb,by rw[e];rfl⟩
def Qc {fp:List Addr}{h:Heap}{p:Addr×Obj}(hp:p∈nS fp h):p.1∈fp/\h.get? p.1=some p.2:=by
 obtain⟨b,hb,e⟩:=List.mem_filterMap.mp hp;cases q:h.get? b with
 | none=>rw[q] at e;cases e
 | some o=>
  rw[q] at e;have e':(b,o)=p:=zD5 e;subst e';exact⟨hb,q⟩
def Inv.pinned {pins:List (Addr×Obj)}{B:St}{H:Hp}{s:Shared}{fp:List Addr}(I:Inv X pins B H s) (hf:∀ b∈fp,ui X pins H b) (ho:∀ b∈fp,∃ o,s.heap.get? b=some o/\∀ v,o.data≠.cell v):Inv X (pins++nS fp s.heap) B H s:=
 I.gG λ p hp=>(zB9.mp hp).elim (λ z=>I.pin p (zB4 _ z)) λ z=>by
  obtain⟨hb,e⟩:=Qc z;obtain⟨f0,f1,f2,_⟩:=hf p.1 hb;obtain⟨o,e',d⟩:=ho p.1 hb;rw[e] at e';cases e';exact⟨e,f0,f1,f2,d⟩
def Inv.nF {pins pl:List (Addr×Obj)}{B:St}{H:Hp}{s:Shared}(I:Inv X (pins++pl) B H s):Inv X pins B H s:=I.gG λ p hp=>I.pin p (zB4 _ (List.mem_append_left _ hp))
def Uy {iter:Expr}{body:List Stmt}{wi:TI}{g:TG}{tb:TS}{pos:Pos}(hp:PassesOwn (model X.prog X.w) X.A X.env X.xe) (hc:X.calm=true) (hi:PI X tg iter wi) (hg:PG X tg g) (hb:wx X body tb)
  (hs:∀ x,foldedSetIterable iter X.env x=pure x:=by intro _;rfl):PS X (.For tg iter body [] pos) (Vd wi g tb):=by
 intro pins s B H D I h;refine wpAny_For (zH (hi pins s B H _ I h) λ v s1 h1=>zH h1 λ itv s2 h2=>?_) hs;obtain⟨it,fp,tn,J,H2,e,I2,T,st2,f2,W,⟨m0,w0⟩,turn⟩:=h2;subst e;have stat:∀ {H':Hp},(∀ b∈fp,H' b=none)->∀ b∈fp,ui X pins H' b:=λ hn b hb=>⟨hn b hb,(f2 b hb).2⟩;refine codeAny_forLoop_any (λ n s'=>∃ i B' H',Inv X pins B' H' s'/\tn i s'.heap/\(∀ b∈fp,H' b=none)/\W i n B' H') ?_ m0 ⟨0,B,H2,I2,st2,λ b hb=>(f2 b hb).1,w0⟩;rintro n s3 ⟨i,B3,H3,I3,st3,fr3,w3⟩;rcases turn i n B3 H3 w3 with ⟨stop,qn⟩ | ⟨go,N,hN,step⟩
 .refine wpAny_passesOwn hp (zH (T.done X rfl rfl rfl hc i pins s3 B3 H3 X.xe I3 (stat fr3) st3 stop) λ r s4 ⟨hr,I4⟩=>?_);subst hr;exact wpAny_execs_nil ⟨B3,H3,I4,qn⟩
 .refine wpAny_passesOwn hp (zH (T.item X rfl rfl rfl hc i pins s3 B3 H3 X.xe I3 (stat fr3) st3 go) λ r s4 ⟨u,hr,h4⟩=>?_);subst hr;refine wpAny_passesOwn hp (zH h4 λ _ s5 ⟨x,H5,I5,r5,y5,st5,fr5⟩=>?_);have I5':=I5.pinned (stat fr5) (T.obj _ _ st5);refine wpAny_passesOwn hp (zH (hg _ s5 B3 H5 x u _ I5' r5 (step x H5 y5)) λ _ s6 ⟨B6,H6,I6,q6⟩=>?_);refine wpAny_passesOwn hp (zH (hb _ s6 B6 H6 _ I6 q6) λ f s7 q7=>?_);have again:∀ {B7:St}{H7:Hp},Inv X (pins++nS fp s5.heap) B7 H7 s7->N B7 H7->∃ m,m<n/\∃ i B' H',Inv X pins B' H' s7/\tn i s7.heap/\(∀ b∈fp,H' b=none)/\W i m B' H':=λ{B7 H7} I7 n7=>by
   obtain⟨m',hm,w7⟩:=hN B7 H7 n7;refine⟨m',hm,i+1,B7,H7,I7.nF,T.keep _ _ _ st5 λ b hb o e=>(I7.pin (b,o) (zB4 _ (zB4 _ (jb hb e)))).1,λ b hb=>?_,w7⟩;obtain⟨o,e,d⟩:=T.obj _ _ st5 b hb;exact (I7.pin (b,o) (zB4 _ (zB4 _ (jb hb e)))).2.1
  cases f with
  | next=>obtain⟨B7,H7,I7,n7⟩:=q7;exact again I7 n7
  | cont=>obtain⟨B7,H7,I7,n7⟩:=q7;exact again I7 n7
  | brk=>obtain⟨B7,H7,I7,q7⟩:=q7;exact⟨B7,H7,I7.nF,q7⟩
  | ret v=>obtain⟨x7,B7,H7,I7,r7,q7⟩:=q7;exact⟨x7,B7,H7,I7.nF,r7,q7⟩
end
abbrev R2:=V->V->Hp->VK->Prop
def yp (X:Cx) (f:Value->Value->Sem Value) (r:R2):Prop:=
 ∀ (pins:List (Addr×Obj)) (s:Shared) (B:St) (H:Hp) (x y:V) (v u:Value) (Q:VK),Inv X pins B H s->RelV x v->RelV y u->r x y H Q->
  wpAny (model X.prog X.w) X.A (f v u) (EP X pins B Q) X.xe s
def dw (X:Cx) (f:Value->Sem Value) (r:V->Hp->VK->Prop):Prop:=
 ∀ (pins:List (Addr×Obj)) (s:Shared) (B:St) (H:Hp) (x:V) (v:Value) (Q:VK),Inv X pins B H s->RelV x v->r x H Q->
  wpAny (model X.prog X.w) X.A (f v) (EP X pins B Q) X.xe s
def yT (X:Cx) (f:Value) (r:List V->Hp->VK->Prop):Prop:=
 ∀ (pins:List (Addr×Obj)) (s:Shared) (B:St) (H:Hp) (xs:List V) (us:List Value) (Q:VK),Inv X pins B H s->Vals xs us->r xs H Q->
  wpAny (model X.prog X.w) X.A (call f us) (EP X pins B Q) X.xe s
def NV (X:Cx) (r:V->Hp->(Bool->Hp->Prop)->Prop):Prop:=
 ∀ (pins:List (Addr×Obj)) (s:Shared) (B:St) (H:Hp) (x:V) (v:Value) (Q:Bool->Hp->Prop),Inv X pins B H s->RelV x v->r x H Q->
  wpAny (model X.prog X.w) X.A (truthy v) (TP X pins B Q) X.xe s
def nG (r:R2) (ta tb:TE):TE:=fun B H Q=>ta B H λ x H1=>tb B H1 λ y H2=>r x y H2 Q
def WL (r:V->Hp->VK->Prop) (ta:TE):TE:=fun B H Q=>ta B H λ x H1=>r x H1 Q
def rI (C:Int->Int->Prop) (g:Int->Int->V):R2:=λ x y H Q=>∃ i j,x=.int i/\y=.int j/\C i j/\Q (g i j) H
def vi (g:Int->Int->V):R2:=λ x y H Q=>∃ i j,x=.int i/\y=.int j/\Q (g i j) H
def rU (g:Int->V):V->Hp->VK->Prop:=λ x H Q=>∃ i,x=.int i/\Q (g i) H
section
variable {X:Cx}{a b c:Expr}{ta tb tc:TE}{pos:Pos}
def df (ha:PE X a ta) (hb:PE X b tb) {pins:List (Addr×Obj)}{s:Shared}{B:St}{H:Hp}{R:V->V->Hp->Prop}(I:Inv X pins B H s)
  (h:ta B H λ x H1=>tb B H1 λ y H2=>R x y H2) {Q:Value->Shared->Prop}{f:Value->Value->Sem Value}
  (hf:∀ v u s2 x y H2,Inv X pins B H2 s2->RelV x v->RelV y u->R x y H2->wpAny (model X.prog X.w) X.A (f v u) Q X.xe s2):
  wpAny (model X.prog X.w) X.A (eval a X.env) (λ v s₁=>wpAny (model X.prog X.w) X.A (eval b X.env) (λ u s₂=>wpAny (model X.prog X.w) X.A (f v u) Q X.xe s₂) X.xe s₁) X.xe s:=by
 refine zH (ha pins s B H _ I h) λ v s1 ⟨x,H1,I1,r1,q1⟩=>?_;refine zH (hb pins s1 B H1 _ I1 q1) λ u s2 ⟨y,H2,I2,r2,q2⟩=>?_;exact hf v u s2 x y H2 I2 r1 r2 q2
def UX {op:Operator}{r:R2}(ho:yp X (binaryOp op) r) (ha:PE X a ta) (hb:PE X b tb):PE X (.BinOp a op b pos) (nG r ta tb):=by
 intro pins s B H Q I h;exact wpAny_BinOp (df ha hb I h λ v u s2 x y H2 I2 rx ry q=>ho pins s2 B H2 x y v u Q I2 rx ry q)
def UR {op:UnaryOp}{r:V->Hp->VK->Prop}(ho:dw X (unaryOp op) r) (ha:PE X a ta):PE X (.UnaryOp op a pos) (WL r ta):=by
 intro pins s B H Q I h;exact UnaryOp_ (zH (ha pins s B H _ I h) λ v s1 ⟨x,H1,I1,r1,q1⟩=>ho pins s1 B H1 x v Q I1 r1 q1)
def kQ {f:Value->Value->Sem Value}{C:Int->Int->Prop}{g:Int->Int->Int}
  (rule:∀ (i j:Int) (t u:Tok) (s:Shared) (Q:Value->Shared->Prop) (E:Value->Shared->Prop),C i j->Q (.int (g i j) s.toks) { s with toks:=s.toks+1 }->wpAny (model X.prog X.w) X.A (f (.int i t) (.int j u)) Q E s):
  yp X f (rI C λ i j=>.int (g i j)):=by
 intro pins s B H x y v u Q I rx ry h;obtain⟨i,j,rfl,rfl,hc,q⟩:=h;obtain⟨t,rfl⟩:=rx;obtain⟨t',rfl⟩:=ry;exact rule i j t t' s _ _ hc ⟨.int (g i j),H,I.tok _,⟨_,rfl⟩,q⟩
def Ze {f:Value->Value->Sem Value}{g:Int->Int->Int}
  (rule:∀ (i j:Int) (t u:Tok) (s:Shared) (Q:Value->Shared->Prop) (E:Value->Shared->Prop),Q (.int (g i j) s.toks) { s with toks:=s.toks+1 }->wpAny (model X.prog X.w) X.A (f (.int i t) (.int j u)) Q E s):
  yp X f (vi λ i j=>.int (g i j)):=by
 intro pins s B H x y v u Q I rx ry h;obtain⟨i,j,rfl,rfl,q⟩:=h;obtain⟨t,rfl⟩:=rx;obtain⟨t',rfl⟩:=ry;exact rule i j t t' s _ _ ⟨.int (g i j),H,I.tok _,⟨_,rfl⟩,q⟩
def kR {f:Value->Value->Sem Value}{g:Int->Int->Bool}
  (rule:∀ (i j:Int) (t u:Tok) (s:Shared) (Q:Value->Shared->Prop) (E:Value->Shared->Prop),Q (.bool (g i j)) s->wpAny (model X.prog X.w) X.A (f (.int i t) (.int j u)) Q E s):
  yp X f (vi λ i j=>.bl (g i j)):=by
 intro pins s B H x y v u Q I rx ry h;obtain⟨i,j,rfl,rfl,q⟩:=h;obtain⟨t,rfl⟩:=rx;obtain⟨t',rfl⟩:=ry;exact rule i j t t' s _ _ ⟨.bl (g i j),H,I,rfl,q⟩
def wb (i j:Int):Prop:=0<j/\j<1073741824
def pT (i j:Int):Prop:=0<=j/\j<=1000000/\i.natAbs<2 ^ 64
def wI (i j:Int):Prop:=(-(2 ^ 64)<i/\i<2 ^ 64)\/(-(2 ^ 64)<j/\j<2 ^ 64)
def wI.ok {i j:Int}(h:wI i j):IntMulOk i j:=by
 rcases h with ⟨h1,h2⟩ | ⟨h1,h2⟩
 .exact .of_left (intBits_le_64 h1 h2)
 .exact .of_right (intBits_le_64 h1 h2)
def S8:yp X (binaryOp .Add) (vi λ i j=>.int (i+j)):=Ze λ _ _ _ _ _ _ _ q=>add_int q
def TZ:yp X (binaryOp .Sub) (vi λ i j=>.int (i-j)):=Ze λ _ _ _ _ _ _ _ q=>sub_int q
def Sh:yp X (binaryOp .Mult) (rI wI λ i j=>.int (i*j)):=kQ λ _ _ _ _ _ _ _ hc q=>mul_int q hc.ok
def Su:yp X (binaryOp .FloorDiv) (rI wb λ i j=>.int (i/j)):=kQ λ i j _ _ _ _ _ hc q=>by
 have h1:(0:Int)<j:=hc.1;have h2:j<1073741824:=hc.2;exact floordiv_int (by omega) (by rw[Int.fdiv_eq_ediv_of_nonneg i (by omega)];exact q) (.inl (PyProof.noPylong_small (by omega)))
def Si:yp X (binaryOp .Mod) (rI (λ _ j=>0<j) λ i j=>.int (i%j)):=kQ λ i j _ _ _ _ _ hc q=>by
 have h1:(0:Int)<j:=hc;exact mod_int' (by omega) (by rw[Int.fmod_eq_emod_of_nonneg i (by omega)];exact q)
def T_:yp X (binaryOp .Pow) (rI pT λ i j=>.int (i ^ j.toNat)):=kQ λ _ _ _ _ _ _ _ hc q=>pow_int_small hc.1 hc.2.1 hc.2.2 q
def W7 {f:Value->Sem Value}{g:Int->Int}
  (rule:∀ (i:Int) (t:Tok) (s:Shared) (Q:Value->Shared->Prop) (E:Value->Shared->Prop),Q (.int (g i) s.toks) { s with toks:=s.toks+1 }->wpAny (model X.prog X.w) X.A (f (.int i t)) Q E s):
  dw X f (rU λ i=>.int (g i)):=by
 intro pins s B H x v Q I rx h;obtain⟨i,rfl,q⟩:=h;obtain⟨t,rfl⟩:=rx;exact rule i t s _ _ ⟨.int (g i),H,I.tok _,⟨_,rfl⟩,q⟩
def W6:dw X (unaryOp .USub) (rU λ i=>.int (-i)):=W7 λ _ _ _ _ _ q=>neg_int q
end
section
variable {X:Cx}{a b c:Expr}{ta tb tc:TE}{pos:Pos}
def Yv {pins:List (Addr×Obj)}{B:St}{H:Hp}{s:Shared}{Q:VK}{k k':Bool}(I:Inv X pins B H s) (q:Q (.bl k) H) (e:k=k'):EP X pins B Q (.bool k') s:=by
 subst e;exact⟨.bl k,H,I,rfl,q⟩
def Sk:yp X (compareOp .Lt) (vi λ i j=>.bl (decide (i<j))):=kR λ _ _ _ _ _ _ _ q=>lt_int q
def gQ:yp X (compareOp .LtE) (vi λ i j=>.bl (decide (i<=j))):=kR λ _ _ _ _ _ _ _ q=>le_int q
def Zb:yp X (compareOp .Gt) (vi λ i j=>.bl (decide (j<i))):=kR λ _ _ _ _ _ _ _ q=>gt_int q
def Zc:yp X (compareOp .GtE) (vi λ i j=>.bl (decide (j<=i))):=kR λ _ _ _ _ _ _ _ q=>ge_int q
def So:yp X (compareOp .Is) (λ x y H Q=>y=.zj/\Q (.bl (decide (x=.zj))) H):=by
 intro pins s B H x y v u Q I rx ry h;obtain⟨rfl,q⟩:=h;cases ry;refine is_none_gen (Yv I q ?_);cases x <;> first
  | (cases rx;rfl)
  | (obtain⟨t,rfl⟩:=rx;rfl)
def Sb:yp X (compareOp .IsNot) (λ x y H Q=>y=.zj/\Q (.bl (!decide (x=.zj))) H):=by
 intro pins s B H x y v u Q I rx ry h;obtain⟨rfl,q⟩:=h;cases ry;refine isnot_none_gen (Yv I q ?_);cases x <;> first
  | (cases rx;rfl)
  | (obtain⟨t,rfl⟩:=rx;rfl)
def yp.or {f:Value->Value->Sem Value}{r r':R2}(h:yp X f r) (h':yp X f r'):yp X f (λ x y H Q=>r x y H Q\/r' x y H Q):=by
 intro pins s B H x y v u Q I rx ry q;rcases q with q | q
 .exact h pins s B H x y v u Q I rx ry q
 .exact h' pins s B H x y v u Q I rx ry q
def ux (b:Expr) {op:CmpOp}(h:op≠.In:=by decide) (h2:op≠.NotIn:=by decide):behindInMarks op b=false:=by
 have e1:(op == CmpOp.In)=false:=by cases op <;> first | rfl | exact absurd rfl h
 have e2:(op == CmpOp.NotIn)=false:=by cases op <;> first | rfl | exact absurd rfl h2
 cases b <;> simp[behindInMarks,e1,e2]
def Tj {op:CmpOp}{r:R2}(ho:yp X (compareOp op) r) (ha:PE X a ta) (hb:PE X b tb) (hm:behindInMarks op b=false):PE X (.Compare a [op] [b] pos) (nG r ta tb):=by
 intro pins s B H Q I h;exact wpAny_Compare1 (df ha hb I h λ v u s2 x y H2 I2 rx ry q=>ho pins s2 B H2 x y v u Q I2 rx ry q) hm
def WN (t:TE):TT:=fun B H Q=>t B H λ x H'=>∃ k,x=.bl k/\Q k H'
def Uo {op:CmpOp}{r:R2}(ho:yp X (compareOp op) r) (ha:PE X a ta) (hb:PE X b tb) (hm:behindInMarks op b=false):PT X (.Compare a [op] [b] pos) (WN (nG r ta tb)):=by
 intro pins s B H Q I h;refine wpAny_isTrue_Compare1 (zH (ha pins s B H _ I h) λ v s1 ⟨x,H1,I1,r1,q1⟩=>zH (hb pins s1 B H1 _ I1 q1) λ u s2 ⟨y,H2,I2,r2,q2⟩=>
  zH (ho pins s2 B H2 x y v u _ I2 r1 r2 q2) λ c s3 ⟨z,H3,I3,r3,k,e,q3⟩=>?_) hm
 subst e;cases r3;exact wpAny_truthy_bool ⟨H3,I3,q3⟩
def b8 (r r':R2) (ta tb tc:TE):TE:=fun B H Q=>ta B H λ x H1=>tb B H1 λ y H2=>r x y H2 λ z H3=>∃ k,z=.bl k/\
 (if k=true then tc B H3 λ w' H4=>r' y w' H4 Q else Q (.bl false) H3)
def Tn {op op':CmpOp}{r r':R2}(ho:yp X (compareOp op) r) (ho':yp X (compareOp op') r') (ha:PE X a ta) (hb:PE X b tb) (hc:PE X c tc)
  (hm:lastMarks [op,op'] [b,c]=false:=by with_unfolding_all rfl):PE X (.Compare a [op,op'] [b,c] pos) (b8 r r' ta tb tc):=by
 intro pins s B H Q I h;refine Compare_chain (zH (ha pins s B H _ I h) λ v s1 ⟨x,H1,I1,r1,q1⟩=>chain_link (zH (hb pins s1 B H1 _ I1 q1) λ u s2 ⟨y,H2,I2,r2,q2⟩=>
  zH (ho pins s2 B H2 x y v u _ I2 r1 r2 q2) λ d s3 ⟨z,H3,I3,r3,k,e,q3⟩=>?_)) hm
 subst e;cases r3;refine wpAny_truthy_bool ?_;cases k with
 | false=>exact ite_ff ⟨.bl false,H3,I3,rfl,q3⟩
 | true=>exact ite_tt (chain_last (zH (hc pins s3 B H3 _ I3 q3) λ w' s4 ⟨z',H4,I4,r4,q4⟩=>ho' pins s4 B H4 y z' u w' Q I4 r2 r4 q4))
def dy (K:zFr) (x:V) (H:Hp) (k:Bool):Prop:=
 match x with
 | .zj=>k=false
 | .bl b=>k=b
 | .int i=>k=(i != 0)
 | .str y=>y.length<=sizeLine/\k=((y.length:Int) != 0)
 | .oZ y=>y.size<=sizeLine/\k=((y.size:Int) != 0)
 | .ref p=>(∃ xs,zV K H p xs/\k=!xs.isEmpty)\/(∃ xs,ya K H p xs/\k=!xs.isEmpty)\/∃ kvs,H p=some (.dK kvs)/\k=!kvs.isEmpty
 | _=>False
def QZ {κ:Type}{kvs:List (κ × V)}{vs:List (κ × Value)}(r:KV kvs vs):(!vs.isEmpty)=!kvs.isEmpty:=by
 cases r <;> rfl
def ZS {xs:List V}{its:List Value}(r:Vals xs its):(!its.toArray.isEmpty)=!xs.isEmpty:=by
 cases r <;> simp
def qT:(sizeLine:Nat)<2 ^ 63:=by rw[sizeLine_eq];decide
def WH:NV X (λ x H Q=>∃ k,dy X.K x H k/\Q k H):=by
 intro pins s B H x v Q I rx h;obtain⟨k,e,q⟩:=h;have hl:=qT;have hs:sizeLine=16777216:=sizeLine_eq;cases x with
 | zj=>
  cases rx;have e':k=false:=e;subst e';exact truthy_none ⟨H,I,q⟩
 | bl b=>
  cases rx;have e':k=b:=e;subst e';exact wpAny_truthy_bool ⟨H,I,q⟩
 | int i=>
  obtain⟨t,rfl⟩:=rx;have e':k=(i != 0):=e;subst e';exact PySem.P.truthy_int ⟨H,I,q⟩
 | str y=>
  obtain⟨t,rfl⟩:=rx;obtain⟨hy,e'⟩:y.length<=sizeLine/\k=((y.length:Int) != 0):=e;subst e';exact PySem.P.truthy_str (by omega) ⟨H,I.tok _,q⟩
 | oZ y=>
  obtain⟨t,rfl⟩:=rx;obtain⟨hy,e'⟩:y.size<=sizeLine/\k=((y.size:Int) != 0):=e;subst e';exact PySem.W.truthy_bytes (by omega) ⟨H,I.tok _,q⟩
 | ref p=>
  cases rx;have e':(∃ xs,zV X.K H p xs/\k=!xs.isEmpty)\/(∃ xs,ya X.K H p xs/\k=!xs.isEmpty)\/∃ kvs,H p=some (.dK kvs)/\k=!kvs.isEmpty:=e;rcases e' with ⟨xs,hx,e'⟩ | ⟨xs,hx,e'⟩ | ⟨kvs,hx,e'⟩
  .subst e';obtain⟨its,r,pl,hz⟩:=I.list hx;have hlen:=r.length;exact wpAny_truthy_list pl.isList (by simp only[zA0];omega) ⟨H,I.tok _,by rw[ZS r];exact q⟩
  .subst e';obtain⟨its,r,pl,hz⟩:=I.tuple hx;have hlen:=r.length;exact truthy_tuple pl (by simp only[zA0];omega) ⟨H,I.tok _,by rw[ZS r];exact q⟩
  .subst e';obtain⟨hz,hS,vs,r,m⟩:kvs.length<=sizeLine/\(p == sysModules)=false/\∃ vs,KV kvs vs/\s.heap.DictOf (vb X.prog X.w) p vs:=I.zD p _ hx;have hlen:kvs.length=vs.length:=Paired.length r;exact wpAny_truthy_dict hS m (by omega) ⟨H,I.tok _,by rw[QZ r];exact q⟩
 | _=>exact (show False from e).elim
def Ul (ha:PE X a ta) (he:∀ whole,isTrue a X.env whole=(do let v <- whole;standAt a.pos;holding [v] (truthy v))):
  PT X a (fun B H Q=>ta B H λ x H'=>∃ k,dy X.K x H' k/\Q k H'):=by
 intro pins s B H Q I h;exact isTrue_plain (zH (ha pins s B H _ I h) λ v s1 ⟨x,H1,I1,r1,q1⟩=>WH pins s1 B H1 x v Q I1 r1 q1) (he _)
def S7:yp X (binaryOp .Add) (λ x y H Q=>∃ i j,x=.str i/\y=.str j/\i.length+j.length<=sizeLine/\Q (.str (i++j)) H):=by
 intro pins s B H x y v u Q I rx ry h;obtain⟨i,j,rfl,rfl,hz,q⟩:=h;obtain⟨t,rfl⟩:=rx;obtain⟨t',rfl⟩:=ry;exact add_str (λ t' tk=>⟨.str (i++j),H,I.tok _,⟨_,rfl⟩,q⟩) hz
def vals1 {x:V}{us:List Value}(r:Vals [x] us):∃ u,us=[u]/\RelV x u:=by
 cases r with
 | cons r1 r2=>cases r2;exact⟨_,rfl,r1⟩
def vals2 {x y:V}{us:List Value}(r:Vals [x,y] us):∃ u w',us=[u,w']/\RelV x u/\RelV y w':=by
 cases r with
 | cons r1 r2=>
  cases r2 with
  | cons r3 r4=>cases r4;exact⟨_,_,rfl,r1,r3⟩
def Nv (hc:X.calm=true):yT X (.builtin "max") (λ xs H Q=>∃ i j,xs=[.int i,.int j]/\Q (.int (if j>i then j else i)) H):=by
 intro pins s B H xs us Q I r h;obtain⟨i,j,rfl,q⟩:=h;obtain⟨u,w',rfl,⟨t,rfl⟩,⟨t',rfl⟩⟩:=vals2 r;refine max_two_ints (I.ok.hd hc) λ h' tk k=>⟨_,H,I.kept k,?_,q⟩;by_cases hj:j>i
 .rw[if_pos hj,if_pos hj];exact⟨_,rfl⟩
 .rw[if_neg hj,if_neg hj];exact⟨_,rfl⟩
def Nu (hc:X.calm=true):yT X (.builtin "min") (λ xs H Q=>∃ i j,xs=[.int i,.int j]/\Q (.int (if j<i then j else i)) H):=by
 intro pins s B H xs us Q I r h;obtain⟨i,j,rfl,q⟩:=h;obtain⟨u,w',rfl,⟨t,rfl⟩,⟨t',rfl⟩⟩:=vals2 r;refine min_two_ints (I.ok.hd hc) λ h' tk k=>⟨_,H,I.kept k,?_,q⟩;by_cases hj:j<i
 .rw[if_pos hj,if_pos hj];exact⟨_,rfl⟩
 .rw[if_neg hj,if_neg hj];exact⟨_,rfl⟩
def N1:yT X (.type "int") (λ xs H Q=>(∃ i,xs=[.int i]/\Q (.int i) H)\/∃ k,xs=[.bl k]/\Q (.int (if k then 1 else 0)) H):=by
 intro pins s B H xs us Q I r h;rcases h with ⟨i,rfl,q⟩ | ⟨k,rfl,q⟩
 .obtain⟨u,rfl,t,rfl⟩:=vals1 r;exact call_int_int ⟨.int i,H,I,⟨_,rfl⟩,q⟩
 .obtain⟨u,rfl,r1⟩:=vals1 r;cases r1;exact call_int_bool ⟨.int (if k then 1 else 0),H,I.tok _,⟨_,rfl⟩,q⟩
end
section
variable {prog:Program}{w:World}{A:Around}{E:Value->Shared->Prop}{s:Shared}{K:zFr}{x dx C f:Addr}{mA:Str->Option Value}{name:Str}{v:Value}
end
def uK.some_of {v:V}{o:Option Value}(r:uK (some v) o):∃ u,o=some u/\RelV v u:=by
 cases o with
 | none=>exact (show False from r).elim
 | some u=>exact⟨u,rfl,r⟩
section
variable {P:Program}{w:World}{H H':Hp}{h h':Heap}{a C dx:Addr}{fs fs':List (Str×V)}
end
section
variable {X:Cx}{pins:List (Addr×Obj)}{B:St}{H:Hp}{s:Shared}{a C dx:Addr}{fs:List (Str×V)}{f:Str}{v:V}{A:Around}{E:Value->Shared->Prop}
end
section
variable {X:Cx}{o e value:Expr}{f:Str}{pos pos' tpos:Pos}{ta tv:TE}
end
section
variable {X:Cx}{pins:List (Addr×Obj)}{B:St}{H:Hp}{s:Shared}{A:Around}{E:Value->Shared->Prop}{Q:Value->Shared->Prop}{c:Value}{b:Bool}
end
structure yC (k:Nat) (A:Around):Prop where
 hd:A.handled=none
 dp:A.depth+3*k+5<recursionLimit
 un:A.units+16*k+200<cLine
def yC.mono {j k:Nat}{A:Around}(r:yC k A) (h:j<=k):yC j A:=⟨r.hd,by have:=r.dp;omega,by have:=r.un;omega⟩
theorem yC.deeper {k:Nat}{A:Around}(r:yC (k+1) A) (env:Env):yC k (A.deeper env):=
 ⟨r.hd,by have:=r.dp;show A.depth+1+3*k+5<_;omega,by have:=r.un;show A.units+3+16*k+200<_;omega⟩
theorem yC.depth {k:Nat}{A:Around}(r:yC k A):A.depth<recursionLimit:=by have:=r.dp;omega
theorem yC.units {k:Nat}{A:Around}(r:yC k A):A.units+64<cLine:=by have:=r.un;omega
def ir:TA:=λ _ H Q=>Q [] H
def iw (ta:TE) (tr:TA):TA:=fun B H Q=>ta B H λ x H1=>tr B H1 λ xs H2=>Q (x::xs) H2
section
variable {X:Cx}{e:Expr}{es:List Expr}{te:TE}{t:TA}{pos:Pos}
def o5:PA X [] ir:=λ _ _ _ _ H Q I h=>Calls.spliced_nil ⟨[],H,I,.nil,h⟩
def qN (ha:PE X e te) (hr:PA X es t) (hs:starEach (e::es) X.env=(false,eval e X.env)::starEach es X.env:=by rfl):PA X (e::es) (iw te t):=by
 intro pos pins s B H Q I h;rw[hs];show wpAny _ _ (spliced ((false,eval e X.env)::backTo pos (starEach es X.env))) _ _ s;refine Calls.spliced_cons (zH (ha pins s B H _ I h) λ u s1 ⟨x,H1,I1,r1,q1⟩=>?_);exact zH (hr pos pins s1 B H1 _ I1 q1) λ us s2 ⟨xs,H2,I2,r2,q2⟩=>⟨x::xs,H2,I2,.cons r1 r2,q2⟩
def WM (t:TA):TE:=fun B H Q=>t B H λ xs H1=>xs.length<=sizeLine/\∀ p,H1 p=none->Q (.ref p) (upd H1 p (.tup xs))
def Va (t:TA):TE:=fun B H Q=>t B H λ xs H1=>xs.length<=sizeLine/\∀ p,H1 p=none->Q (.ref p) (upd H1 p (.lst xs))
def US {x1} (h:PA X es t):PE X (.Tuple es x1 pos) (WM t):=by
 intro pins s B H Q I hq;refine wpAny_Tuple_spliced (zH (h pos pins s B H _ I hq) λ us s1 ⟨xs,H1,I1,r,z,q⟩=>⟨by rw[<- r.length];exact z,?_⟩);have hf:H1 s1.heap.objs.size=none:=I1.zD.fresh (zA4 _);refine⟨.ref s1.heap.objs.size,upd H1 s1.heap.objs.size (.tup xs),I1.laid (t':=s1.toks) (λ b u e=>zHp _ e) (zA4 _) ?_,rfl,q _ hf⟩;exact⟨z,us,r,⟨_,zA9 _ rfl,rfl,_,rfl⟩⟩
def Ta (h:PA X es t):PE X (.List es pos) (Va t):=by
 intro pins s B H Q I hq;refine wpAny_List_spliced (zH (h pos pins s B H _ I hq) λ us s1 ⟨xs,H1,I1,r,z,q⟩=>⟨by rw[<- r.length];exact z,?_⟩);have hf:H1 s1.heap.objs.size=none:=I1.zD.fresh (zA4 _);refine⟨.ref s1.heap.objs.size,upd H1 s1.heap.objs.size (.lst xs),I1.laid (t':=s1.toks) (λ b u e=>zHp _ e) (zA4 _) ?_,rfl,q _ hf⟩;exact⟨z,us,0,r,zA9 _ rfl⟩
end
abbrev Sp:=List V->Hp->VK->XK->Prop
abbrev t5:=List Env->Hp->Shared->XK->Value->Shared->Prop
structure jR (P:Program) (w:World) (K:zFr) (mg:Str->Option Value) (base:Heap) (A:Around) (outer:List Env) (s:Shared) (H:Hp):Prop where
 frames:A.frames=some outer
 mod:Mod K mg base
 bs:∀ b o,base.get? b=some o->s.heap.get? b=some o/\H b=none
 pz:base.objs.size<=s.heap.objs.size
 uW:s.heap.FunFrames base outer
 oS:∀ b∈vV outer,H b=none
 zD:xg P w H s.heap
 bare:AllBare s.gens
def CE (outer:List Env) (P:Program) (w:World) (H:Hp) (s:Shared) (Q:VK) (u:Value) (s':Shared):Prop:=
 ∃ v H',s'.os=s.os/\AllBare s'.gens/\Un (vV outer) [] H H' s.heap s'.heap/\xg P w H' s'.heap/\RelV v u/\Q v H'
def CR (CX:t5) (outer:List Env) (P:Program) (w:World) (H:Hp) (s:Shared) (Q:VK) (E:XK) (r:Result) (s':Shared):Prop:=
 match r with
 | .ok (.ret u)=>CE outer P w H s Q u s'
 | .ok _=>False
 | .error e=>CX outer H s E e s'
structure uj (P:Program) (w:World) (K:zFr) (mg:Str->Option Value) (base:Heap) (CX:t5) (k:Nat) (f:Addr) (fd:FuncData) (ps:List Str) (sp:Sp):Prop where
 len:∀ vs H Q E,sp vs H Q E->vs.length=ps.length
 run:∀ (A:Around) (outer:List Env) (s:Shared) (H:Hp) (args:Args) (us:List Value) (vs:List V) (Q:VK) (E:XK),yC k A->jR P w K mg base A outer s H->BindsTo s fd args (ps.zip us)->Vals vs us->sp vs H Q E->
  codeAny (model P w) A (.call (.ref f) args) (CR CX outer P w H s Q E) s
section
variable {X:Cx}{pins:List (Addr×Obj)}{B:St}{H:Hp}{s s':Shared}
def Inv.Oq (I:Inv X pins B H s):jR X.prog X.w X.K X.mg X.base X.A X.stack s H:=
 ⟨I.ok.frames,I.ok.mod,I.bs,zE0 I.ok.pz I.sz,I.stack,I.bB,I.zD,I.bare⟩
def Inv.after {Q:VK}{u:Value}(I:Inv X pins B H s) (h:CE X.stack X.prog X.w H s Q u s'):EP X pins B Q u s':=by
 obtain⟨v,H',os,bare,un,zD,r,q⟩:=h;obtain⟨hh,g,d,t,os'⟩:=s';obtain rfl:os'=s.os:=os;exact⟨v,H',I.call (h':=hh) (g':=g) (d':=d) (t':=t) (ch:=[]) un zD bare (λ b z=>absurd z (by simp)),r,q⟩
end
def b9 (sp:Sp) (dvs:List V) (E:XK) (t:TA):TE:=fun B H Q=>t B H λ vs H1=>sp (vs++dvs) H1 Q E
def Binds (K:zFr) (fd:FuncData) (ps:List Str) (ds:List Value):Prop:=
 ∀ (s:Shared) (us:List Value),K.In s.heap->(us++ds).length=ps.length->BindsTo s fd ⟨us,[]⟩ (ps.zip (us++ds))
def Binds.all {K:zFr}{fd:FuncData}{ps:List Str}(h:∀ us:List Value,us.length=ps.length->bindArgs fd ⟨us,[]⟩=pure (ps.zip us)):Binds K fd ps []:=λ s us _ hl=>by
 rw[List.append_nil] at hl ⊢;exact .of_eq (h us hl)
def Passes (CX:t5) (X:Cx) (E:XK):Prop:=∀ (pins:List (Addr×Obj)) (B:St) (H:Hp) (s:Shared) (e:Value) (s':Shared),Inv X pins B H s->CX X.stack H s E e s'->X.xe e s'
section
variable {X:Cx}{CX:t5}{k:Nat}{f C:Addr}{fd:FuncData}{ps:List Str}{sp:Sp}{dvs:List V}{ds:List Value}{E:XK}{x m:Str}{p pos apos:Pos}{e o:Expr}{es:List Expr}{ta:TE}{t:TA}
def VM {pins:List (Addr×Obj)}{B:St}{H:Hp}{s:Shared}{Q:VK}{us:List Value}{vs:List V}(F:uj X.prog X.w X.K X.mg X.base CX k f fd ps sp) (hr:yC k X.A) (hb:Binds X.K fd ps ds) (hd:Vals dvs ds) (hx:Passes CX X E)
  (I:Inv X pins B H s) (r:Vals vs us) (h:sp (vs++dvs) H Q E):wpAny (model X.prog X.w) X.A (call (.ref f) us) (EP X pins B Q) X.xe s:=by
 have r2:Vals (vs++dvs) (us++ds):=r.append hd;have hl:(us++ds).length=ps.length:=by rw[<- r2.length];exact F.len _ _ _ _ h
 refine wpAny_call (codeAny_mono (F.run X.A X.stack s H ⟨us,[]⟩ (us++ds) (vs++dvs) Q E hr I.Oq (hb s us I.vU hl) r2 h) λ r s' hq=>?_);cases r with
 | error e=>exact hx pins B H s e s' I hq
 | ok fl=>
  cases fl with
  | ret u=>exact I.after hq
  | next=>exact False.elim hq
  | brk=>exact False.elim hq
  | cont=>exact False.elim hq
def Tp (F:uj X.prog X.w X.K X.mg X.base CX k f fd ps sp) (hr:yC k X.A) (hg:Gl X x) (hm:X.mg x=some (.ref f)) (hk:PySem.W.keepIn X.K (.ref f)=true) (hb:Binds X.K fd ps ds) (hd:Vals dvs ds) (hx:Passes CX X E)
  (ha:PA X (e::es) t) (hdb:(x == ("__debug__":Str))=false:=by decide) (he:starEach (e::es) X.env=(false,eval e X.env)::starEach es X.env:=by rfl) (hpl:(backTo pos (starEach es X.env)).any (·.1)=false:=by rfl):
  PE X (.Call (.Name x p) (e::es) [] pos) (b9 sp dvs E t):=by
 intro pins s B H Q I h;refine wpAny_Call_Name_kw (ZF I hg hm ?_ hdb);refine PySem.W.callWith_K (h₀:=X.base) I.ok.mod.fL hk (zH (ha pos pins s B H _ I h) λ us s1 ⟨vs,H1,I1,r,q⟩=>⟨I1.vU,?_⟩) he hpl;exact VM F hr hb hd hx I1 r q
end
section
variable {X:Cx}{CX:t5}{k:Nat}{f C:Addr}{fd:FuncData}{ps ks:List Str}{sp:Sp}{E:XK}{x m:Str}{p pos apos kpos:Pos}{e o:Expr}{es:List Expr}{kws:List Keyword}{te ta:TE}{t tk:TA}{nm:Option Str}
variable {g:List Value->List Value->List Value}{gV:List V->List V->List V}
end
structure yo (N P:List Str) (sc:Scope):Prop where
 kind:sc.kind=.function
 co:sc.isCoroutine=false
 gen:sc.isGenerator=false
 nd:N.Nodup
 pre:N.take P.length=P
 par:∀ x∈P,sc.names.lookup x=some .local\/sc.names.lookup x=some .cell
 Qg:∀ y∈sc.names,y.2≠.free
theorem Xp {kindOf:Str->Option NameKind}{x:Str}:∀ {binds:List (Str×Value)}{m:Str->Option Value},(∀ v,(x,v)∉binds)->bindL kindOf binds m x=m x
 | [],_,_=>rfl
 | (n,v)::r,m,h=>by
  unfold bindL;rw[Xp λ w hw=>h w (zMo _ hw)];split
  .have:x≠n:=by rintro rfl;exact h v zMc
   simp[this]
  .rfl
theorem Xr {kindOf:Str->Option NameKind}{x:Str}:∀ {binds:List (Str×Value)}{m:Str->Option Value},(∀ v,(x,v)∉binds)->bindC kindOf binds m x=m x
 | [],_,_=>rfl
 | (n,v)::r,m,h=>by
  unfold bindC;rw[Xr λ w hw=>h w (zMo _ hw)];split
  .rfl
  .have:x≠n:=by rintro rfl;exact h v zMc
   simp[this]
theorem Xq {kindOf:Str->Option NameKind}{x:Str}{v:Value}:∀ {P:List Str}{vs:List Value}{i:Nat}{m:Str->Option Value},P.Nodup->P[i]?=some x->vs[i]?=some v->kindOf x=some .local->
  bindL kindOf (P.zip vs) m x=some v
 | [],_,_,_,_,h,_,_=>by simp at h
 | _::_,[],_,_,_,_,h,_=>by simp at h
 | p::P,w::vs,0,m,nd,h1,h2,hk=>by
  simp at h1 h2;subst h1;subst h2;show bindL kindOf ((p,w)::P.zip vs) m p=_;unfold bindL;rw[Xp λ v hv=>(List.nodup_cons.mp nd).1 (List.of_mem_zip hv).1,if_pos hk];simp
 | p::P,w::vs,i+1,m,nd,h1,h2,hk=>by
  show bindL kindOf ((p,w)::P.zip vs) m x=_;unfold bindL;exact Xq (i:=i) (List.nodup_cons.mp nd).2 (by simpa using h1) (by simpa using h2) hk
theorem Xs {kindOf:Str->Option NameKind}{x:Str}{v:Value}:∀ {P:List Str}{vs:List Value}{i:Nat}{m:Str->Option Value},P.Nodup->P[i]?=some x->vs[i]?=some v->kindOf x≠some .local->
  bindC kindOf (P.zip vs) m x=some v
 | [],_,_,_,_,h,_,_=>by simp at h
 | _::_,[],_,_,_,_,h,_=>by simp at h
 | p::P,w::vs,0,m,nd,h1,h2,hk=>by
  simp at h1 h2;subst h1;subst h2;show bindC kindOf ((p,w)::P.zip vs) m p=_;unfold bindC;rw[Xr λ v hv=>(List.nodup_cons.mp nd).1 (List.of_mem_zip hv).1,if_neg hk];simp
 | p::P,w::vs,i+1,m,nd,h1,h2,hk=>by
  show bindC kindOf ((p,w)::P.zip vs) m x=_;unfold bindC;exact Xs (i:=i) (List.nodup_cons.mp nd).2 (by simpa using h1) (by simpa using h2) hk
noncomputable def start (N:List Str) (vs:List V):St:=vs.map some++List.replicate (N.length-vs.length) none
noncomputable def u_ (CX:t5) (P:Program) (w:World) (K:zFr) (mg:Str->Option Value) (base:Heap) (N:List Str) (qual:Str) (scope:Scope) (f:Addr) (cd:Value) (A:Around) (outer:List Env) (s:Shared) (H:Hp) (E:XK):Cx where
 prog:=P
 w:=w
 K:=K
 mg:=mg
 base:=base
 A:=A.deeper (envOfC qual scope s.heap.objs.size f cd)
 N:=N
 s₀:=s
 H₀:=H
 env:=envOfC qual scope s.heap.objs.size f cd
 outer:=outer
 stack:=envOfC qual scope s.heap.objs.size f cd::outer
 ex:=[]
 calm:=true
 fn:=λ _=>true
 pn:=[]
 xe:=λ e s'=>wpAny (model P w) (A.deeper (envOfC qual scope s.heap.objs.size f cd)) (leaving (envOfC qual scope s.heap.objs.size f cd) e) (λ _ s''=>CX outer H s E e s'') (λ e' s''=>CX outer H s E e' s'') s'
def Xl {sc:Scope}{n:Nat}{x:Str}(h:sc.names.lookup x=some .cell):∃ c,(cellsFrom n sc.names []).lookup x=some c:=by
 have q:=PySem.W.cellsFrom_some sc.names n [] (.inl h);exact Option.isSome_iff_exists.mp q
def Pb {CX:t5}{P:Program}{w:World}{K:zFr}{mg:Str->Option Value}{base:Heap}{N ps:List Str}{qual:Str}{scope:Scope}{f:Addr}{cd:Value}{A:Around}{outer:List Env}{s s1:Shared}{H:Hp}{E:XK}{us:List Value}{vs:List V}
  (S:yo N ps scope) (hd:A.handled=none) (e0:jR P w K mg base A outer s H) (hl:vs.length=ps.length) (r:Vals vs us)
  (x:InCallC s s.heap.objs.size (bindL (envOfC qual scope s.heap.objs.size f cd).kindOf (ps.zip us) λ _=>none) (cellsFrom (s.heap.objs.size+1) scope.names []) (bindC (envOfC qual scope s.heap.objs.size f cd).kindOf (ps.zip us) λ _=>none) s1):
  Inv (u_ CX P w K mg base N qual scope f cd A outer s H E) [] (start N vs) H s1:=by
 have hpl:ps.length<=N.length:=by have:=congrArg List.length S.pre;rw[List.length_take] at this;omega
 obtain⟨h1,tk,rfl,hk⟩:=x.done;have noA:∀ b:Addr,b∉(u_ CX P w K mg base N qual scope f cd A outer s H E).ex:=λ b z=>absurd (show b∈([]:List Addr) from z) (by simp);refine⟨⟨e0.mod,S.kind,rfl,rfl,zA4 _,λ y z c h1 h2=>?_,λ y hy=>?_,λ y c _ h=>?_,λ _=>hd,Around.frames_deeper e0.frames,.inr ⟨rfl,rfl⟩,λ b z=>absurd z (noA b),e0.bs,e0.pz,λ b _ _=>noA b,λ b z=>absurd z (noA b),e0.uW,e0.oS⟩,
  rfl,e0.bare,Un.kept hk,⟨_,x.toInCall.ns,λ i y v h1 h2 h3=>?_⟩,λ y c h=>⟨_,x.cell y c h⟩,e0.zD.fresh (zA4 _),λ y c h=>?_,λ p hp=>absurd (show p∈([]:List (Addr×Obj)) from hp) (by simp),e0.zD.kept hk,?_⟩
 .exact name_of_addr x.apart (PySem.mem_of_lookup h1) (PySem.mem_of_lookup h2)
 .have hy:scope.names.lookup y=some .cell\/scope.names.lookup y=some .free:=hy;rcases hy with hy | hy
  .exact Xl hy
  .exact absurd rfl (S.Qg _ (PySem.mem_of_lookup hy))
 .exact zE3 (x.above y c (PySem.mem_of_lookup h))
 .have hi:i<vs.length:=by
   unfold start at h2;by_cases hi:i<vs.length
   .exact hi
   .rw[List.getElem?_append_right (by simpa using hi)] at h2;rw[List.getElem?_replicate] at h2;split at h2 <;> cases h2
  have ha:vs[i]?=some v:=by
   unfold start at h2;rw[List.getElem?_append_left (by simpa using hi),zA3] at h2;cases e:vs[i]? with
   | none=>rw[e] at h2;cases h2
   | some a=>rw[e] at h2;cases h2;rfl
  obtain⟨u,hu,rv⟩:=r.get ha;have hp:ps[i]?=some y:=by
   rw[<- S.pre,List.getElem?_take_of_lt (by omega)];exact h1
  have ndP:ps.Nodup:=by rw[<- S.pre];exact S.nd.sublist (List.take_sublist _ _)
  refine⟨u,rv,?_⟩;rcases S.par y (zB7 hp) with k | k
  .exact .inl ⟨k,Xq ndP hp hu k⟩
  .obtain⟨c,e⟩:=Xl (n:=s.heap.objs.size+1) k;refine .inr ⟨.inl k,c,e,?_⟩;have q:=x.cell y c e;rw[Xs ndP hp hu (by show scope.names.lookup y≠_;rw[k];decide)] at q;exact q
 .exact e0.zD.fresh (zE3 (x.above y c (PySem.mem_of_lookup h)))
 .unfold start;show _=N.length;rw[zD7,zA7,List.length_replicate];omega
def PX {CX:t5}{P:Program}{w:World}{K:zFr}{mg:Str->Option Value}{base:Heap}{k:Nat}{f:Addr}{name qual:Str}{params:Arguments}{body:List Stmt}{scope:Scope}{dV kV doc pm cdv ct oc:Value}{an od:Option Addr}
  {osl:Array (Option Value)}{N ps:List Str}{sp:Sp}(lk:K.lookup f=some ⟨oc,od,.func (PySem.W.fnOf name qual params body scope dV kV doc pm an cdv ct),osl⟩) (hcd:PySem.W.codeIn K cdv qual=true) (S:yo N ps scope)
  (len:∀ vs H Q E,sp vs H Q E->vs.length=ps.length)
  (hbody:∀ (A:Around) (outer:List Env) (s:Shared) (H:Hp) (vs:List V) (Q:VK) (E:XK),yC k (A.deeper (envOfC qual scope s.heap.objs.size f cdv))->sp vs H Q E->
   ∃ t,wx (u_ CX P w K mg base N qual scope f cdv A outer s H E) body t/\t { nx:=λ _ H'=>Q .zj H',rt:=Q } (start N vs) H):
  uj P w K mg base CX (k+1) f (PySem.W.fnOf name qual params body scope dV kV doc pm an cdv ct) ps sp:=by
 refine⟨len,λ A outer s H args us vs Q E hr e0 hb r hsp=>?_⟩;have hl:=len _ _ _ _ hsp;have KX:K.In s.heap:=e0.mod.fL.keeps λ b o e=>(e0.bs b o e).1;have lim:s.heap.NoLimit:=e0.mod.nolimit.keeps λ b o e=>(e0.bs b o e).1;have hkind:∀ y∈ps.zip us,scope.names.lookup y.1=some .local\/(scope.names.lookup y.1=some .cell/\((cellsFrom (s.heap.objs.size+1) scope.names []).lookup y.1).isSome=true):=λ⟨n,v⟩ hy=>by
  rcases S.par n (List.of_mem_zip hy).1 with q | q
  .exact .inl q
  .exact .inr ⟨q,PySem.W.cellsFrom_some _ _ _ (.inl q)⟩
 refine codeAny_call_function hr.depth (KX _ _ lk) rfl S.co S.gen rfl (PySem.W.codeRec_of KX hcd) (hb _ _ _ _ ?_);refine wpAny_newFunctionEnv_cells S.kind hkind λ env he s1 x=>?_;subst he;refine⟨lim.keeps x.toInCall.keep,codeAny_func ?_⟩;obtain⟨t,ht,hq⟩:=hbody A outer s H vs Q E (hr.deeper _) hsp;have I:Inv (u_ CX P w K mg base N qual scope f cdv A outer s H E) [] (start N vs) H s1:=Pb S hr.hd e0 hl r x;refine wpAny_mono (ht [] s1 (start N vs) H _ I hq) (λ fl s' hs=>?_) λ e s' hs=>hs;have fin:∀ {B':St}{H':Hp}{v:V}{u:Value},Inv (u_ CX P w K mg base N qual scope f cdv A outer s H E) [] B' H' s'->RelV v u->Q v H'->CE outer P w H s Q u s':=
  λ{B' H' v u} J rv q=>⟨v,H',J.os,J.bare,J.base,J.zD,rv,q⟩
 cases fl with
 | ret u=>
  obtain⟨v,B',H',J,rv,q⟩:=hs;exact fin J rv q
 | next=>
  obtain⟨B',H',J,q⟩:=hs;exact fin (v:=V.zj) (u:=Value.none) J rfl q
 | brk=>
  obtain⟨_,_,_,q⟩:=hs;exact False.elim q
 | cont=>
  obtain⟨_,_,_,q⟩:=hs;exact False.elim q
section
variable {X:Cx}{x:Str}{p pos:Pos}{e:Expr}{es:List Expr}{t:TA}{id T:String}{r:List V->Hp->VK->Prop}
def km (r:List V->Hp->VK->Prop) (t:TA):TE:=fun B H Q=>t B H λ vs H1=>r vs H1 Q
def rO (hc:yT X (.builtin id) r) (hg:Gl X x) (hm:X.mg x=none) (hv:bootBuiltins x=some (.builtin id)) (ha:PA X (e::es) t) (hn:x≠"__name__":=by decide) (hdb:(x == ("__debug__":Str))=false:=by decide)
  (he:starEach (e::es) X.env=(false,eval e X.env)::starEach es X.env:=by rfl) (hpl:(backTo pos (starEach es X.env)).any (·.1)=false:=by rfl):PE X (.Call (.Name x p) (e::es) [] pos) (km r t):=by
 intro pins s B H Q I h;refine wpAny_Call_Name_kw (oH I hg hm hv ?_ hn hdb);exact PyProof.Rows.callWith_builtin1 (zH (ha pos pins s B H _ I h) λ us s1 ⟨vs,H1,I1,r1,q1⟩=>hc pins s1 B H1 vs us Q I1 r1 q1) he hpl
def oq (hc:yT X (.type T) r) (hg:Gl X x) (hm:X.mg x=none) (hv:bootBuiltins x=some (.type T)) (ha:PA X (e::es) t) (hn:x≠"__name__":=by decide) (hdb:(x == ("__debug__":Str))=false:=by decide)
  (he:starEach (e::es) X.env=(false,eval e X.env)::starEach es X.env:=by rfl) (hpl:(backTo pos (starEach es X.env)).any (·.1)=false:=by rfl):PE X (.Call (.Name x p) (e::es) [] pos) (km r t):=by
 intro pins s B H Q I h;refine wpAny_Call_Name_kw (oH I hg hm hv ?_ hn hdb);exact PyProof.Rows.callWith_type1 (zH (ha pos pins s B H _ I h) λ us s1 ⟨vs,H1,I1,r1,q1⟩=>hc pins s1 B H1 vs us Q I1 r1 q1) he hpl
end
end L2
namespace HT
open PySem PyProof.Rows
noncomputable def lexLt:List Int->List Int->Bool
 | [],[]=>false
 | [],_::_=>true
 | _::_,[]=>false
 | x::xs,y::ys=>if x=y then lexLt xs ys else decide (x<y)
def rZ (x y:Int) (xs ys:List Int):lexLt (x::xs) (y::ys)=if x=y then lexLt xs ys else decide (x<y):=rfl
def Q5:lexLt [] []=false:=rfl
def Q6 (y:Int) (ys:List Int):lexLt [] (y::ys)=true:=rfl
def Q7 (x:Int) (xs:List Int):lexLt (x::xs) []=false:=rfl
def Oo (A:Around) (s:Shared) (a:Int) (t:Tok) (c:Int) (u:Tok):∃ e,SeqAt.EqAt A s (.int a t) (.int c u) e/\(e=true↔a=c):=
 ⟨(a == c),SeqAt.EqAt.int_int a t c u,by simp⟩
def VY (A:Around) (s:Shared) (a:Int) (t:Tok) (c:Int) (u:Tok) (prog:Program) (w:World) (E:Value->Shared->Prop) (Q:Value->Shared->Prop) (h:Q (.bool (decide (a<c))) s):
  wpAny (model prog w) A (richCompare .Lt (.int a t) (.int c u)) Q E s:=
 (PyProof.Rows.lt_int h:wpAny (model prog w) A (compareOp .Lt (.int a t) (.int c u)) Q E s)
section
open PySem.SeqAt
open PySem.AutoSeq1 (wpAny_loadPart')
open PySem.MeetsSeq PySem.MeetsSeq2 PySem.MeetsSeq3
def WE (l b:Addr) (items items2:Array Value) (n n2:Nat) (dd dd2:Option Addr) (sl sl2:Array (Option Value)) (ns ms:List Int) (hi:IntsAre items.toList ns) (hj:IntsAre items2.toList ms):
  Meets (Builtin.«tuple.__lt__» ⟨[.ref l,.ref b],[]⟩)
   (λ _ R s=>s.heap.get? l=some { cls:=.type "tuple",dict:=dd,data:=.seq items n,slots:=sl }/\s.heap.get? b=some { cls:=.type "tuple",dict:=dd2,data:=.seq items2 n2,slots:=sl2 }/\
    R (.ok (.ret (.bool (lexLt ns ms)))) s):=
 .of_wp λ prog w A R s h=>by
  obtain⟨hp,g,d,tk,os⟩:=s;obtain⟨hl,hb,h⟩:=h;have f2:=AutoSeq1.sub_tuple_tuple;have z1:items.size=ns.length:=by rw[<- hi.length];simp
  have z2:items2.size=ms.length:=by rw[<- hj.length];simp
  wp_walk using wpAny_loadPart' hl,wpAny_loadPart' hb,wpAny_forIn_list _ (λ rest b s'=>b.1=none/\s'=⟨hp,g,d,tk,os⟩/\∃ (vs ws:List Value) (ns' ms':List Int),rest=vs.zip ws/\
   IntsAre vs ns'/\IntsAre ws ms'/\ns'.length+items2.size=ms'.length+items.size/\R (.ok (.ret (.bool (lexLt ns' ms')))) ⟨hp,g,d,tk,os⟩) _
  case turn=>
   rintro⟨y,x⟩ rest b s' ⟨hb',rfl,vs,ws,ns',ms',hz,hvi,hwi,hlen,hR⟩;cases hvi with
   | nil=>rw[List.zip_nil_left] at hz;cases hz
   | cons a t hvi'=>
    cases hwi with
    | nil=>rw[List.zip_nil_right] at hz;cases hz
    | cons c u hwi'=>
     rw[List.zip_cons_cons] at hz
     injection hz with hyx hrest
     injection hyx with hy hx
     subst hy hx;rw[rZ] at hR;simp only[zC0] at hlen;obtain⟨e,he,hiff⟩:=Oo A.in1 ⟨hp,g,d,tk,os⟩ a t c u;refine zWb (he prog w _ _ ?_);cases e with
     | true=>
      rw[if_pos (hiff.mp rfl)] at hR
      wp_walk
      exact⟨rfl,rfl,_,_,_,_,hrest,hvi',hwi',by omega,hR⟩
     | false=>
      rw[if_neg (λ q=>absurd (hiff.mpr q) Bool.false_ne_true)] at hR;have hri:=VY A.in1 ⟨hp,g,d,tk,os⟩ a t c u prog w
      wp_walk using hri
      exact⟨_,rfl,by simpa using hR⟩
  case fin=>
   rintro⟨b1,b2⟩ s' ⟨hb',rfl,vs,ws,ns',ms',hz,hvi,hwi,hlen,hR⟩;simp only at hb';subst hb';have hv:lexLt ns' ms'=decide (items.size<items2.size):=by
    cases hvi with
    | nil=>
     cases hwi with
     | nil=>
      simp only[List.length_nil] at hlen;rw[Q5];exact (decide_eq_false (by omega)).symm
     | cons c u hw=>
      simp only[List.length_nil,zC0] at hlen;rw[Q6];exact (decide_eq_true (by omega)).symm
    | cons a t hv=>
     cases hwi with
     | nil=>
      simp only[List.length_nil,zC0] at hlen;rw[Q7];exact (decide_eq_false (by omega)).symm
     | cons c u hw=>
      rw[List.zip_cons_cons] at hz;cases hz
   rw[hv] at hR
   wp_walk
   exact⟨_,rfl,by simpa [Builtin.Tuple.tupleCompareSizes] using hR⟩
  case h=>
   exact⟨rfl,rfl,items.toList,items2.toList,ns,ms,rfl,hi,hj,by omega,h⟩
end
section
variable {prog:Program}{w:World}{A:Around}{E:Value->Shared->Prop}{s:Shared}
def Qy {l b:Addr}{items items2:Array Value}{ns ms:List Int}{Q:Value->Shared->Prop}(hl:IsTup s.heap l items) (hb:IsTup s.heap b items2) (hi:IntsAre items.toList ns) (hj:IntsAre items2.toList ms)
  (hu:A.units<cLine) (h:Q (.bool (lexLt ns ms)) s):wpAny (model prog w) A (compareOp .Lt (.ref l) (.ref b)) Q E s:=by
 obtain⟨⟨cls,dd,data,sl⟩,ho,hc,n,hd⟩:=id hl;obtain⟨⟨cls2,dd2,data2,sl2⟩,ho2,hc2,n2,hd2⟩:=id hb;simp only at hc hd hc2 hd2;subst hc hd hc2 hd2;exact richCompare_meets_room (op:=.Lt) ⟨_,ho,rfl⟩ ⟨_,ho2,rfl⟩ PySem.F.slot_tuple_lt PySem.F.entry_tuple_lt (PySem.F.args_tuple_lt_2 _ _) (WE l b items items2 n n2 dd dd2 sl sl2 ns ms hi hj)
  ⟨ho,ho2,show Value.bool (lexLt ns ms)≠Value.notImplemented/\Q (.bool (lexLt ns ms)) s from ⟨(λ x=>nomatch x),h⟩⟩ hu
def Nh {t b:Addr}{vs ws:List Value}{Q:Value->Shared->Prop}(ht:IsTup s.heap t vs.toArray) (hb:IsTup s.heap b ws.toArray) (hv:vs≠[])
  (h1:ws=[]->Q (.ref t) s) (h2:ws≠[]->Q (.ref s.heap.objs.size) { s with heap:=s.heap.push { cls:=.type "tuple",data:=.seq (vs++ws).toArray } })
  (hsz:vs.length+ws.length<=sizeLine):wpAny (model prog w) A (binaryOp .Add (.ref t) (.ref b)) Q E s:=by
 obtain⟨⟨cls,dd,data,sl⟩,ho,hc,n,hd⟩:=id ht;obtain⟨⟨cls2,dd2,data2,sl2⟩,ho2,hc2,n2,hd2⟩:=id hb;simp only at hc hd hc2 hd2;subst hc hd hc2 hd2;have e:vs.toArray++ws.toArray=(vs++ws).toArray:=by simp
 by_cases hw:ws=[]
 .exact concat_meets ⟨_,ho,rfl⟩ ⟨_,ho2,rfl⟩ noFill_tuple_add seq_tuple_add PySem.F.slot_tuple_add PySem.F.entry_tuple_add (PySem.F.args_tuple_add_2 _ _)
   (tuple_addW1 t b vs.toArray ws.toArray n n2 dd dd2 sl sl2 (by simpa using hv) (by simp[hw])) ⟨ho,ho2,h1 hw⟩
 .refine concat_meets ⟨_,ho,rfl⟩ ⟨_,ho2,rfl⟩ noFill_tuple_add seq_tuple_add PySem.F.slot_tuple_add PySem.F.entry_tuple_add (PySem.F.args_tuple_add_2 _ _)
   (tuple_addW2 t b vs.toArray ws.toArray n n2 dd dd2 sl sl2 (by simpa using hv) (by simpa using hw) (by rw[zA0,zA0];exact hsz)) ⟨ho,ho2,?_⟩
  rw[e];exact h2 hw
noncomputable def zI (n d:Nat):Option Int->Nat
 | none=>d
 | some v=>if v<0 then (v+(n:Int)).toNat else min v.toNat n
def VJ (n d:Nat) (hd:d<=n) (o:Option Int):zI n d o<=n:=by
 cases o with
 | none=>exact hd
 | some v=>
  show (if v<0 then (v+(n:Int)).toNat else min v.toNat n)<=n;by_cases hv:v<0
  .rw[if_pos hv];omega
  .rw[if_neg hv];exact Nat.min_le_right _ _
def Xc (v:Int) (n d:Nat):(if v<0 then max (v+(n:Int)) 0 else min v (n:Int))=((zI n d (some v):Nat):Int):=by
 show (if v<0 then max (v+(n:Int)) 0 else min v (n:Int))=(((if v<0 then (v+(n:Int)).toNat else min v.toNat n):Nat):Int)
 by_cases hv:v<0
 .simp only[if_pos hv];omega
 .simp only[if_neg hv];omega
def NS (lo hi:Option Int) (n:Nat):Builtin.Slice.sliceAdjust lo hi 1 (n:Int)=(((zI n 0 lo:Nat):Int),((zI n n hi:Nat):Int)):=by
 have h1:¬ ((1:Int)<0):=by omega
 unfold Builtin.Slice.sliceAdjust;simp only[h1,if_false];refine Prod.ext ?_ ?_
 .cases lo with
  | none=>rfl
  | some v=>exact Xc v n 0
 .cases hi with
  | none=>rfl
  | some v=>exact Xc v n n
def UA (i j:Nat):Builtin.Slice.slicePlaces (i:Int) (j:Int) 1=j-i:=by
 unfold Builtin.Slice.slicePlaces;have h1:(1:Int)>0:=by omega
 simp only[h1,if_true,Int.ediv_one];split <;> omega
def bL {v:Value}{o:Option Int}{Q:Option Int->Shared->Prop}(p:IsPart v o) (h:Q o s):wpAny (model prog w) A (Builtin.Slice.slicePartIndex v) Q E s:=by
 cases p with
 | none=>exact slicePart_none h
 | int i t=>exact slicePart_int h
def bM {sl:Addr}{vl vu:Value}{lo hi:Option Int}{n:Nat}{Q:Int×Int×Nat->Shared->Prop}(hs:s.heap.IsSliceOf sl vl vu .none) (pl:IsPart vl lo) (pu:IsPart vu hi)
  (h:Q (((zI n 0 lo:Nat):Int),1,zI n n hi-zI n 0 lo) s):wpAny (model prog w) A (Builtin.Slice.sliceApplied (.ref sl) (pure (n:Int))) Q E s:=by
 obtain⟨os,hos,hcs,hds⟩:=id hs;unfold Builtin.Slice.sliceApplied Builtin.Slice.sliceFields;refine zWb (zWb (wpAny_field hos hds (x:=vl) rfl (zWb (wpAny_field hos hds (x:=vu) rfl (zWb (wpAny_field hos hds (x:=.none) rfl (zD1 ?_)))))));refine zWb (slicePart_none ?_);show wpAny _ _ (if ((1:Int) == 0)=true then _ else _) _ _ s;rw[if_neg (by decide)];refine zWb (bL pl (zWb (bL pu (zWb (zD1 ?_)))));show wpAny _ _ (match Builtin.Slice.sliceAdjust lo hi 1 (n:Int) with | (lo,hi)=>pure (lo,(1:Int),Builtin.Slice.slicePlaces lo hi 1)) _ _ s;rw[NS lo hi n];show wpAny _ _ (pure (((zI n 0 lo:Nat):Int),(1:Int),Builtin.Slice.slicePlaces ((zI n 0 lo:Nat):Int) ((zI n n hi:Nat):Int) 1)) _ _ s;rw[UA];exact zD1 h
def UC (xs:Array Value) (i k:Nat):((List.range k).filterMap λ(m:Nat)=>xs[((i:Int)+(m:Int)*1).toNat]?).toArray=((xs.toList.drop i).take k).toArray:=by
 have e:(λ(m:Nat)=>xs[((i:Int)+(m:Int)*1).toNat]?)=λ m=>xs[i+m]?:=by
  funext m;have:((i:Int)+(m:Int)*1).toNat=i+m:=by omega
  rw[this]
 rw[e];have:=pick_run xs i k;rw[List.filterMap_map] at this;have e2:((λ x=>xs[x]?) ∘ λ x=>i+x)=λ m=>xs[i+m]?:=rfl;rw[e2] at this;rw[this]
def PL {t sl:Addr}{items:Array Value}{vl vu:Value}{lo hi:Option Int}{Q:Value->Shared->Prop}(ht:IsTup s.heap t items) (hs:s.heap.IsSliceOf sl vl vu .none) (pl:IsPart vl lo) (pu:IsPart vu hi)
  (hw:¬ (zI items.size 0 lo=0/\zI items.size items.size hi=items.size))
  (h:Q (.ref s.heap.objs.size) { s with heap:=s.heap.push { cls:=.type "tuple",data:=.seq ((items.toList.drop (zI items.size 0 lo)).take (zI items.size items.size hi-zI items.size 0 lo)).toArray } })
  (hsz:items.size<=sizeLine):wpAny (model prog w) A (getItem (.ref t) (.ref sl)) Q E s:=by
 have htake:sizeOk (.seq ((items.toList.drop (zI items.size 0 lo)).take (zI items.size items.size hi-zI items.size 0 lo)).toArray):=by
  show ((items.toList.drop (zI items.size 0 lo)).take (zI items.size items.size hi-zI items.size 0 lo)).toArray.size<=sizeLine;rw[zA0,List.length_take,List.length_drop,zD2];omega
 have hj:zI items.size items.size hi<=items.size:=VJ _ _ (zA4 _) hi;obtain⟨os,hos,hcs,hds⟩:=id hs;have hTs:s.TypeIs (.ref sl) "slice":=⟨os,hos,hcs⟩
 unfold getItem
 try with_reducible refine wpAny_holding ?_
 first | refine zWb (zD1 ?_) | skip
 refine zWb (wpAny_sequenceKey ht.typeIs (by decide) ?_);refine zWb (wpAny_callSpecial?_slot (name:=Str.ofString "__getitem__") ht.typeIs PyProof.Rows.slot_tuple_getitem
  (wpAny_call_entry PyProof.Rows.slot_tuple_getitem ht.typeIs entry_tuple_getitem ?_ (args_tuple_getitem _ _)))
 show wpAny _ _ (Builtin.Tuple.tupleItemsOf (.ref t) >>= _) _ _ s;refine zWb (tupleItemsOf_ ht ?_);refine zWb (wpAny_typeOf hTs ?_);rw[if_pos (by decide)];refine zWb (bM hs pl pu ?_);have hno:¬ ((((zI items.size 0 lo:Nat):Int) == 0&&(1:Int) == 1&&(zI items.size items.size hi-zI items.size 0 lo) == items.size)=true):=by
  intro q;rw[zE5,zE5] at q;have q1:((zI items.size 0 lo:Nat):Int)=0:=eq_of_beq q.1.1;have q2:zI items.size items.size hi-zI items.size 0 lo=items.size:=eq_of_beq q.2;exact hw ⟨by omega,by omega⟩
 show wpAny _ _ (if (((zI items.size 0 lo:Nat):Int) == 0&&(1:Int) == 1&&(zI items.size items.size hi-zI items.size 0 lo) == items.size)=true then _ else _) _ _ s;rw[if_neg hno,UC]
 first
  | exact zWb (m:=Builtin.Tuple.tupleExact _) (wpAny_newObj_type (zD1 ⟨_,rfl,zD1 h⟩) htake)
  | exact zWb (m:=Builtin.Tuple.tupleExact _) (wpAny_newObj_type (zWb (zD1 (zD1 ⟨_,rfl,zD1 h⟩))) htake)
  | exact zWb (zWb (m:=Builtin.Tuple.tupleExact _) (wpAny_newObj_type (zD1 (zD1 ⟨_,rfl,zD1 h⟩)) htake))
  | exact zWb (zWb (m:=Builtin.Tuple.tupleExact _) (wpAny_newObj_type (zD1 ⟨_,rfl,zD1 h⟩) htake))
end
end HT
namespace L2
open PySem PySem.Spec PyProof.Rows
abbrev TO:=St->Hp->(Option Int->Hp->Prop)->Prop
def PO (X:Cx) (e:Option Expr) (t:TO):Prop:=
 ∀ (pins:List (Addr×Obj)) (s:Shared) (B:St) (H:Hp) (Q:Option Int->Hp->Prop),Inv X pins B H s->t B H Q->
  wpAny (model X.prog X.w) X.A (evalPart e X.env) (λ u s'=>∃ o H',Inv X pins B H' s'/\IsPart u o/\Q o H') X.xe s
noncomputable def WZ:TO:=λ _ H Q=>Q none H
noncomputable def WT (t:TE):TO:=fun B H Q=>t B H λ x H1=>∃ i,x=.int i/\Q (some i) H1
def intsAre_of {ns:List Int}:∀ {us:List Value},Vals (ns.map V.int) us->IntsAre us ns:=by
 induction ns with
 | nil=>intro us r;rw[List.map_nil] at r;cases r;exact .nil
 | cons n ns ih=>
  intro us r;rw[zA6] at r;cases r with
  | cons r1 r2=>
   obtain⟨t,e⟩:=r1;subst e;exact .cons n t (ih r2)
section
variable {X:Cx}{e:Expr}{te:TE}{lo hi:Option Expr}{tl th:TO}{pos p2:Pos}
def U6:PO X none WZ:=by
 intro pins s B H Q I h;rw[evalPart_none];exact zD1 ⟨none,H,I,.none,h⟩
def U5 (h:PE X e te):PO X (some e) (WT te):=by
 intro pins s B H Q I hw;rw[evalPart_some];refine zH (h pins s B H _ I hw) λ u s1 ⟨x,H1,I1,r1,q1⟩=>?_;obtain⟨i,rfl,q⟩:=q1;obtain⟨t,rfl⟩:=r1;exact⟨some i,H1,I1,.int i t,q⟩
def qu (X:Cx) (r:V->Option Int->Option Int->Hp->VK->Prop):Prop:=
 ∀ (pins:List (Addr×Obj)) (s:Shared) (B:St) (H:Hp) (x:V) (v vl vu:Value) (lo hi:Option Int) (sl:Addr) (Q:VK),Inv X pins B H s->RelV x v->s.heap.IsSliceOf sl vl vu .none->IsPart vl lo->IsPart vu hi->r x lo hi H Q->
  ∃ T id,typeLookup (.type T) "__getitem__"=pure (some (.builtin id))/\s.TypeIs v T/\wpAny (model X.prog X.w) X.A (getItem v (.ref sl)) (EP X pins B Q) X.xe s
def qu.or {r r':V->Option Int->Option Int->Hp->VK->Prop}(h:qu X r) (h':qu X r'):qu X (λ x lo hi H Q=>r x lo hi H Q\/r' x lo hi H Q):=by
 intro pins s B H x v vl vu lo hi sl Q I rx hs pl pu q;rcases q with q | q
 .exact h pins s B H x v vl vu lo hi sl Q I rx hs pl pu q
 .exact h' pins s B H x v vl vu lo hi sl Q I rx hs pl pu q
def WO (r:V->Option Int->Option Int->Hp->VK->Prop) (te:TE) (tl th:TO):TE:=fun B H Q=>te B H λ x H1=>tl B H1 λ l H2=>th B H2 λ u H3=>r x l u H3 Q
def UU {r:V->Option Int->Option Int->Hp->VK->Prop}(hr:qu X r) (he:PE X e te) (hl:PO X lo tl) (hu:PO X hi th):PE X (.Subscript e (.Slice lo hi none p2) pos) (WO r te tl th):=by
 intro pins s B H Q I h;refine Subscript_ (zH (he pins s B H _ I h) λ v s1 ⟨x,H1,I1,r1,q1⟩=>?_);refine wpAny_Slice (zH (hl pins s1 B H1 _ I1 q1) λ vl s2 ⟨l,H2,I2,pl,q2⟩=>zH (hu pins s2 B H2 _ I2 q2) λ vu s3 ⟨u,H3,I3,pu,q3⟩=>?_);rw[evalPart_none];refine zD1 ?_;have I4:Inv X pins B H3 { s3 with heap:=s3.heap.push { cls:=.type "slice",data:=.fields #[vl,vu,.none] } }:=I3.kept (t':=s3.toks) λ b ob q=>zHp _ q;obtain⟨T,id,hT,ht,hg⟩:=hr pins { s3 with heap:=s3.heap.push { cls:=.type "slice",data:=.fields #[vl,vu,.none] } } B H3 x v vl vu l u s3.heap.objs.size Q I4 r1 (Heap.IsSliceOf.new ..) pl pu q3;show wpAny (model X.prog X.w) X.A (subscriptTail e (.Slice lo hi none p2) v (.ref s3.heap.objs.size)) (EP X pins B Q) X.xe { s3 with heap:=s3.heap.push { cls:=.type "slice",data:=.fields #[vl,vu,.none] } };exact tail_any (ops:=[.ref s3.heap.objs.size,v]) ht hT hg (by with_unfolding_all rfl)
noncomputable def tZ (xs:List V) (lo hi:Option Int):List V:=(xs.drop (HT.zI xs.length 0 lo)).take (HT.zI xs.length xs.length hi-HT.zI xs.length 0 lo)
def YX (xs:List V) (lo hi:Option Int):(tZ xs lo hi).length<=xs.length:=by
 unfold tZ;rw[List.length_take,List.length_drop];omega
def ah (K:zFr):V->Option Int->Option Int->Hp->VK->Prop:=λ x lo hi H Q=>∃ a xs,x=.ref a/\ya K H a xs/\
 ¬ (HT.zI xs.length 0 lo=0/\HT.zI xs.length xs.length hi=xs.length)/\∀ p,H p=none->Q (.ref p) (upd H p (.tup (tZ xs lo hi)))
def Vz:qu X (ah X.K):=by
 intro pins s B H x v vl vu lo hi sl Q I rx hs pl pu h;obtain⟨a,xs,rfl,hx,hw,q⟩:=h;cases rx;obtain⟨its,r,ht,hz⟩:=I.tuple hx;have hlen:its.toArray.size=xs.length:=by rw[zA0];exact r.length.symm
 refine⟨"tuple",_,PyProof.Rows.slot_tuple_getitem.lookup,ht.typeIs,?_⟩;refine HT.PL ht hs pl pu (by rw[hlen];exact hw) ?_ (by rw[hlen];exact hz);rw[hlen];refine⟨.ref s.heap.objs.size,_,I.laid (t':=s.toks) (o:=.tup (tZ xs lo hi)) (λ b ob q=>zHp _ q) (zA4 _) ?_,rfl,q _ (I.zD.fresh (zA4 _))⟩;exact⟨zE0 (YX xs lo hi) hz,_,(r.drop (HT.zI xs.length 0 lo)).take (HT.zI xs.length xs.length hi-HT.zI xs.length 0 lo),IsTup.new _ _⟩
def g9 (K:zFr):R2:=λ x y H Q=>∃ a b ns ms,x=.ref a/\y=.ref b/\ya K H a (ns.map V.int)/\ya K H b (ms.map V.int)/\Q (.bl (HT.lexLt ns ms)) H
def Sj (hu:X.A.units<cLine):yp X (compareOp .Lt) (g9 X.K):=by
 intro pins s B H x y v u Q I rx ry h;obtain⟨a,b,ns,ms,rfl,rfl,ha,hb,q⟩:=h;cases rx;cases ry;obtain⟨its,r1,p1,_⟩:=I.tuple ha;obtain⟨its2,r2,p2,_⟩:=I.tuple hb;have i1:IntsAre its.toArray.toList ns:=intsAre_of r1;have i2:IntsAre its2.toArray.toList ms:=intsAre_of r2;exact HT.Qy p1 p2 i1 i2 hu ⟨.bl (HT.lexLt ns ms),H,I,rfl,q⟩
def aw (K:zFr):R2:=λ x y H Q=>∃ a b xs ys,x=.ref a/\y=.ref b/\ya K H a xs/\ya K H b ys/\xs≠[]/\xs.length+ys.length<=sizeLine/\
 (ys=[]->Q (.ref a) H)/\(ys≠[]->∀ p,H p=none->Q (.ref p) (upd H p (.tup (xs++ys))))
def Vals.mx {xs:List V}{us:List Value}(r:Vals xs us):us=[]↔xs=[]:=by
 cases r with
 | nil=>simp
 | cons _ _=>simp
def Sy:yp X (binaryOp .Add) (aw X.K):=by
 intro pins s B H x y v u Q I rx ry h;obtain⟨a,b,xs,ys,rfl,rfl,ha,hb,hx,hz,q1,q2⟩:=h;cases rx;cases ry;obtain⟨its,r1,p1,_⟩:=I.tuple ha;obtain⟨its2,r2,p2,_⟩:=I.tuple hb;refine HT.Nh p1 p2 (λ z=>hx (r1.mx.mp z)) (λ z=>⟨.ref a,H,I,rfl,q1 (r2.mx.mp z)⟩) (λ z=>?_) (by rw[<- r1.length,<- r2.length];exact hz);refine⟨.ref s.heap.objs.size,_,I.laid (t':=s.toks) (o:=.tup (xs++ys)) (λ b ob q=>zHp _ q) (zA4 _) ?_,rfl,q2 (λ w=>z (r2.mx.mpr w)) _ (I.zD.fresh (zA4 _))⟩;exact⟨by rw[zD7];exact hz,_,r1.append r2,IsTup.new _ _⟩
end
noncomputable def wR (n:Nat) (i:Int):Option Nat:=if 0<=i then (if i<n then some i.toNat else none) else if -(n:Int)<=i then some (i+n).toNat else none
noncomputable def z_ {α:Type}(xs:List α) (i:Int):Option α:=(wR xs.length i).bind λ j=>xs[j]?
def ZL {n:Nat}{i:Int}{j:Nat}(h:wR n i=some j):seqIndex? i n=some j/\j<n/\-(n:Int)<=i/\i<n:=by
 unfold wR at h;by_cases h0:0<=i
 .rw[if_pos h0] at h;by_cases h1:i<n
  .rw[if_pos h1] at h;have e:i.toNat=j:=zD5 h;exact⟨by rw[seqIndex_of h0 h1,e],by omega,by omega,h1⟩
  .rw[if_neg h1] at h;cases h
 .rw[if_neg h0] at h;by_cases h1:-(n:Int)<=i
  .rw[if_pos h1] at h;have e:(i+n).toNat=j:=zD5 h;exact⟨by rw[seqIndex_neg (by omega) h1,e],by omega,h1,by omega⟩
  .rw[if_neg h1] at h;cases h
def dh {α:Type}{xs:List α}{i:Int}{v:α}(h:z_ xs i=some v):∃ j,seqIndex? i xs.length=some j/\xs[j]?=some v/\j<xs.length/\-(xs.length:Int)<=i/\i<xs.length:=by
 unfold z_ at h;cases e:wR xs.length i with
 | none=>rw[e] at h;cases h
 | some j=>
  rw[e] at h;obtain⟨h1,h2,h3,h4⟩:=ZL e;exact⟨j,h1,h,h2,h3,h4⟩
def nj {α:Type}(xs:List α) (v:α):z_ (xs++[v]) (-1)=some v:=by
 have hl:(xs++[v]).length=xs.length+1:=by simp
 have e:wR (xs++[v]).length (-1)=some xs.length:=by
  unfold wR;rw[hl,if_neg (by decide),if_pos (by omega)];congr 1;omega
 unfold z_;rw[e];show (xs++[v])[xs.length]?=some v;simp
def X4 (b:Expr):Prop:=∀ o i,subscripted b false o i=operate [o,i] (getItem o i)
def s_ (X:Cx) (r:R2):Prop:=
 ∀ (value slice:Expr) (pins:List (Addr×Obj)) (s:Shared) (B:St) (H:Hp) (x y:V) (v u:Value) (Q:VK),Inv X pins B H s->RelV x v->RelV y u->r x y H Q->
  subscripted slice false v u=operate [v,u] (getItem v u)->wpAny (model X.prog X.w) X.A (subscriptTail value slice v u) (EP X pins B Q) X.xe s
def NZ (X:Cx) (id:String) (r:V->List V->Hp->VK->Prop):Prop:=
 ∀ (pins:List (Addr×Obj)) (s:Shared) (B:St) (H:Hp) (x:V) (xs:List V) (v:Value) (us:List Value) (Q:VK),Inv X pins B H s->RelV x v->Vals xs us->r x xs H Q->
  wpAny (model X.prog X.w) X.A (call (.builtin id) (v::us)) (EP X pins B Q) X.xe s
section
variable {X:Cx}{a b:Expr}{ta tb:TE}{pos:Pos}
def s_.or {r r':R2}(h:s_ X r) (h':s_ X r'):s_ X (λ x y H Q=>r x y H Q\/r' x y H Q):=by
 intro value slice pins s B H x y v u Q I rx ry q hs;rcases q with q | q
 .exact h value slice pins s B H x y v u Q I rx ry q hs
 .exact h' value slice pins s B H x y v u Q I rx ry q hs
def Tc {r:R2}(hr:s_ X r) (ha:PE X a ta) (hb:PE X b tb) (hs:X4 b):PE X (.Subscript a b pos) (nG r ta tb):=by
 intro pins s B H Q I h;exact Subscript_ (df ha hb I h λ v u s2 x y H2 I2 rx ry q=>hr a b pins s2 B H2 x y v u Q I2 rx ry q (hs _ _))
def ao (K:zFr):R2:=λ x y H Q=>∃ p xs i v,x=.ref p/\y=.int i/\zV K H p xs/\z_ xs i=some v/\Q v H
def aj (K:zFr):R2:=λ x y H Q=>∃ p xs i v,x=.ref p/\y=.int i/\ya K H p xs/\z_ xs i=some v/\Q v H
def ak:R2:=λ x y H Q=>∃ z i c,x=.str z/\y=.int i/\z.length<=sizeLine/\z_ z.cps.toList i=some c/\Q (.str ⟨#[c]⟩) H
def QV:s_ X (ao X.K):=by
 intro value slice pins s B H x y v u Q I rx ry h hs;obtain⟨p,xs,i,z,rfl,rfl,hq,he,q⟩:=h;cases rx;obtain⟨t,rfl⟩:=ry;obtain⟨its,r,pl,hz⟩:=I.list hq;obtain⟨j,h1,h2,h3,h4,h5⟩:=dh he;obtain⟨w,ew,rw'⟩:=r.get h2;have hl:=r.length;have hn:=qT;have fin:EP X pins B Q w s:=⟨z,H,I,rw',q⟩
 by_cases h0:0<=i
 .have hj:i.toNat=j:=by
   rw[seqIndex_of h0 h5] at h1;exact zD5 h1
  exact item_listR pl.isList h0 (by omega) (by rw[hj];simpa using ew) fin hs
 .have hj:(i+(its.toArray.size:Int)).toNat=j:=by
   rw[seqIndex_neg (by omega) h4] at h1;rw[zA0,<- hl];exact zD5 h1
  exact subscriptTail_builtinR (x:=w) pl.isList.typeIs slot_list_getitem.lookup
   (wpAny_getItem_list_neg (Q:=λ r s'=>r=w/\EP X pins B Q r s') pl.isList (by omega) (by rw[zA0] <;> omega) (by omega) (by rw[hj];simpa using ew) ⟨rfl,fin⟩) hs
def QS:s_ X (aj X.K):=by
 intro value slice pins s B H x y v u Q I rx ry h hs;obtain⟨p,xs,i,z,rfl,rfl,hq,he,q⟩:=h;cases rx;obtain⟨t,rfl⟩:=ry;obtain⟨its,r,pl,hz⟩:=I.tuple hq;obtain⟨j,h1,h2,h3,h4,h5⟩:=dh he;obtain⟨w,ew,rw'⟩:=r.get h2;have hl:=r.length;have hn:=qT;have fin:EP X pins B Q w s:=⟨z,H,I,rw',q⟩
 exact subscriptTail_builtinR (x:=w) pl.typeIs slot_tuple_getitem.lookup
  (getItem_tuple (j:=j) (Q:=λ r s'=>r=w/\EP X pins B Q r s') pl (by omega) (by omega) (by rw[zA0,<- hl];exact h1) (by simpa using ew) ⟨rfl,fin⟩) hs
def QT:s_ X ak:=by
 intro value slice pins s B H x y v u Q I rx ry h hs;obtain⟨z,i,c,rfl,rfl,hz,he,q⟩:=h;obtain⟨t,rfl⟩:=rx;obtain⟨t',rfl⟩:=ry;obtain⟨j,h1,h2,h3,h4,h5⟩:=dh he;have hl:z.cps.toList.length=z.length:=by simp[Str.length]
 rw[hl] at h1 h4 h5;have hn:=qT;exact tail_any (typeIs_str s z t) slot_str_getitem.lookup (getItem_str (c:=c) (by
  have e1:decide (i < -(2 ^ 63:Int))=false:=decide_eq_false (by omega);have e2:decide (i≥2 ^ 63)=false:=decide_eq_false (by omega);rw[e1,e2,Bool.or_false]) (by rw[h1];simpa using h2) ⟨.str ⟨#[c]⟩,H,I.tok _,⟨_,rfl⟩,q⟩) hs
def aq (K:zFr):R2:=λ x y H Q=>ao K x y H Q\/aj K x y H Q\/ak x y H Q
def QU:s_ X (aq X.K):=QV.or (QS.or QT)
def Qx (its:List Value) (n j:Nat) (u:Value):Obj.mapSeq (·.setIfInBounds j u) { cls:=.type "list",data:=.seq its.toArray n }={ cls:=.type "list",data:=.seq (its.set j u).toArray n }:=by
 simp[Obj.mapSeq]
theorem Inv.lst {pins:List (Addr×Obj)}{B:St}{H:Hp}{s:Shared}{p:Addr}{xs:List V}(I:Inv X pins B H s) (h:H p=some (.lst xs)):
  ∃ (its:List Value) (n:Nat),Vals xs its/\s.heap.get? p=some { cls:=.type "list",data:=.seq its.toArray n }/\xs.length<=sizeLine:=by
 obtain⟨z,its,n,r,e⟩:=I.zD p _ h;exact⟨its,n,r,e,z⟩
def Inv.Qz {pins:List (Addr×Obj)}{B:St}{H:Hp}{s:Shared}{p:Addr}{xs ys:List V}{its its':List Value}{n n':Nat}{f:Obj->Obj}(I:Inv X pins B H s) (h:H p=some (.lst xs))
  (ho:s.heap.get? p=some { cls:=.type "list",data:=.seq its.toArray n }) (hf:f { cls:=.type "list",data:=.seq its.toArray n }={ cls:=.type "list",data:=.seq its'.toArray n' }) (r:Vals ys its') (hz:ys.length<=sizeLine) (t:Nat):
  Inv X pins B (upd H p (.lst ys)) { s with heap:=s.heap.update p f,toks:=t }:=by
 have e:(s.heap.update p f).get? p=some { cls:=.type "list",data:=.seq its'.toArray n' }:=by
  rw[Heap.get?_update_self f ho (by rw[hf] <;> rfl),hf]
 refine I.write (x:=p) (e:=p) (by rw[h];trivial) (.inl rfl) (λ b u hb q=>(Heap.get?_update_other _ _ (Ne.symm hb)).trans q) ⟨_,e⟩ ?_;exact⟨hz,its',n',r,e⟩
def Uc:V->V->V->Hp->(Hp->Prop)->Prop:=λ o i v H Q=>∃ p xs k j,o=.ref p/\i=.int k/\H p=some (.lst xs)/\wR xs.length k=some j/\Q (upd H p (.lst (xs.set j v)))
def set_list:X5 X Uc:=by
 intro pins s B H o i v ov iv u Q I ro ri rv h;obtain⟨p,xs,k,j,rfl,rfl,hp,hj,q⟩:=h;cases ro;obtain⟨t,rfl⟩:=ri;obtain⟨its,n,r,ho,hz⟩:=I.lst hp;obtain⟨h1,h2,h3,h4⟩:=ZL hj;have hl:=r.length;have hn:=qT;have I':Inv X pins B (upd H p (.lst (xs.set j v))) { s with heap:=s.heap.update p (Obj.mapSeq (·.setIfInBounds j u)) }:=
  I.Qz hp ho (Qx its n j u) (r.set rv j) (by rw[List.length_set];exact hz) s.toks
 by_cases h0:0<=k
 .have hk:k.toNat=j:=by
   rw[seqIndex_of h0 h4] at h1;exact zD5 h1
  exact PySem.W.ki_setAt ho h0 (by omega) (by rw[zA0,<- hl];exact h4) (by rw[hk];exact⟨_,I',q⟩)
 .have hk:(k+(its.toArray.size:Int)).toNat=j:=by
   rw[seqIndex_neg (by omega) h3] at h1;rw[zA0,<- hl];exact zD5 h1
  exact PySem.W.ki_setBack ho (by omega) (by rw[zA0,<- hl];exact h3) (by omega) (by rw[hk];exact⟨_,I',q⟩)
def Vv (lo hi:Option Int) (n:Nat):(sliceBounds lo hi none n).1=((HT.zI n 0 lo:Nat):Int)/\(sliceBounds lo hi none n).2.1=((HT.zI n n hi:Nat):Int)/\(sliceBounds lo hi none n).2.2=1:=by
 refine⟨?_,?_,rfl⟩
 .cases lo with
  | none=>simp[sliceBounds,HT.zI]
  | some i=>
   simp only[sliceBounds,HT.zI,Option.getD_none,show (1:Int)>0 by decide,if_true];by_cases h:i<0
   .simp only[h,if_true] <;> omega
   .simp only[h,if_false] <;> omega
 .cases hi with
  | none=>simp[sliceBounds,HT.zI]
  | some i=>
   simp only[sliceBounds,HT.zI,Option.getD_none,show (1:Int)>0 by decide,if_true];by_cases h:i<0
   .simp only[h,if_true] <;> omega
   .simp only[h,if_false] <;> omega
def Vx (its:List Value) (lo hi:Option Int):slicePick its.toArray lo hi none=((its.drop (HT.zI its.length 0 lo)).take (HT.zI its.length its.length hi-HT.zI its.length 0 lo)).toArray:=by
 obtain⟨h1,h2,h3⟩:=Vv lo hi its.toArray.size;unfold slicePick;rw[h1,h2,h3];simp only[sliceRange_one,pick_run,zA0] <;> rfl
def ai (K:zFr):V->Option Int->Option Int->Hp->VK->Prop:=λ x lo hi H Q=>∃ a xs,x=.ref a/\zV K H a xs/\∀ p,H p=none->Q (.ref p) (upd H p (.lst (tZ xs lo hi)))
def V0:qu X (ai X.K):=by
 intro pins s B H x v vl vu lo hi sl Q I rx hs pl pu h;obtain⟨a,xs,rfl,hx,q⟩:=h;cases rx;obtain⟨its,r,ht,hz⟩:=I.list hx;have hlen:=r.length;refine⟨"list",_,slot_list_getitem.lookup,ht.isList.typeIs,?_⟩;refine wpAny_getItem_list_slice ht.isList hs pl pu .none (by simp) ?_ (by rw[zA0] <;> omega);rw[Vx,<- hlen];refine⟨.ref s.heap.objs.size,_,I.laid (t':=s.toks) (o:=.lst (tZ xs lo hi)) (λ b ob q=>zHp _ q) (zA4 _) ?_,rfl,q _ (I.zD.fresh (zA4 _))⟩;exact⟨zE0 (YX xs lo hi) hz,_,0,(r.drop (HT.zI xs.length 0 lo)).take (HT.zI xs.length xs.length hi-HT.zI xs.length 0 lo),zA9 _ rfl⟩
def Nz:yT X (.builtin "len") (λ xs H Q=>∃ p ys,xs=[.ref p]/\(zV X.K H p ys\/ya X.K H p ys)/\Q (.int ys.length) H):=by
 intro pins s B H xs us Q I r h;obtain⟨p,ys,rfl,hq,q⟩:=h;obtain⟨u,rfl,rx⟩:=vals1 r;cases rx;have hn:=qT;rcases hq with hq | hq
 .obtain⟨its,r',pl,hz⟩:=I.list hq;have hlen:=r'.length;exact Calls.call_len_list pl.isList (by simp only[zA0] <;> omega) ⟨.int ys.length,H,I.tok _,⟨s.toks+1,by rw[zA0,hlen]⟩,q⟩
 .obtain⟨its,r',pl,hz⟩:=I.tuple hq;have hlen:=r'.length;exact len_tuple pl (by simp only[zA0] <;> omega) ⟨.int ys.length,H,I.tok _,⟨s.toks+1,by rw[zA0,hlen]⟩,q⟩
def Ny:yT X (.builtin "len") (λ xs H Q=>∃ z,xs=[.str z]/\z.length<=sizeLine/\Q (.int z.length) H):=by
 intro pins s B H xs us Q I r h;obtain⟨z,rfl,hz,q⟩:=h;obtain⟨u,rfl,t,rfl⟩:=vals1 r;have hn:=qT;exact len_str (by omega) ⟨.int z.length,H,I.tok _,⟨_,rfl⟩,q⟩
def yT.or {f:Value}{r r':List V->Hp->VK->Prop}(h:yT X f r) (h':yT X f r'):yT X f (λ xs H Q=>r xs H Q\/r' xs H Q):=by
 intro pins s B H xs us Q I rs q;rcases q with q | q
 .exact h pins s B H xs us Q I rs q
 .exact h' pins s B H xs us Q I rs q
def Nw:yT X (.type "list") (λ xs H Q=>∃ p ys,xs=[.ref p]/\(zV X.K H p ys\/ya X.K H p ys)/\∀ l,H l=none->Q (.ref l) (upd H l (.lst ys))):=by
 intro pins s B H xs us Q I r h;obtain⟨p,ys,rfl,hq,q⟩:=h;obtain⟨u,rfl,rx⟩:=vals1 r;cases rx;have fin:∀ (its:List Value),Vals ys its->ys.length<=sizeLine->∀ (h':Heap) (c':Nat),(∀ b o',s.heap.get? b=some o'->h'.get? b=some o')->
   h'.get? s.heap.objs.size=some { cls:=.type "list",dict:=none,data:=.seq its.toArray c',slots:=#[] }->EP X pins B Q (.ref s.heap.objs.size) { s with heap:=h' }:=λ its r' hz h' c' kp e=>
  ⟨.ref s.heap.objs.size,_,I.laid (t':=s.toks) kp (zA4 _) (show x8 X.prog X.w _ h' _ (.lst ys) from ⟨hz,its,c',r',e⟩),rfl,q _ (I.zD.fresh (zA4 _))⟩
 rcases hq with hq | hq
 .obtain⟨its,r',pl,hz⟩:=I.list hq;have hlen:=r'.length;obtain⟨o,ho,hc,n,hd⟩:=pl.isList;exact call_list_seq p (.inl rfl) ho hc hd (λ h' c' kp e=>fin its r' hz h' c' kp e) (by simp only[zA0] <;> omega)
 .obtain⟨its,r',pl,hz⟩:=I.tuple hq;have hlen:=r'.length;obtain⟨o,ho,hc,n,hd⟩:=pl;exact call_list_seq p (.inr rfl) ho hc hd (λ h' c' kp e=>fin its r' hz h' c' kp e) (by simp only[zA0] <;> omega)
def Ni:yT X (.type "tuple") (λ xs H Q=>∃ p ys,xs=[.ref p]/\((zV X.K H p ys/\∀ l,H l=none->Q (.ref l) (upd H l (.tup ys)))\/(ya X.K H p ys/\Q (.ref p) H))):=by
 intro pins s B H xs us Q I r h;obtain⟨p,ys,rfl,h⟩:=h;obtain⟨u,rfl,rx⟩:=vals1 r;cases rx;rcases h with ⟨hq,q⟩ | ⟨hq,q⟩
 .obtain⟨its,r',pl,hz⟩:=I.list hq;have hlen:=r'.length;refine call_tuple_list pl.isList (λ h' kp=>?_) (by simp only[zA0] <;> omega);have I1:Inv X pins B H { s with heap:=h' }:=I.kept (t':=s.toks) kp;have I2:Inv X pins B (upd H h'.objs.size (.tup ys)) { s with heap:=h'.push { cls:=.type "tuple",data:=.seq its.toArray } }:=
   I1.laid (t':=s.toks) (λ b o e=>zHp _ e) (zA4 _) (show x8 X.prog X.w _ _ _ (.tup ys) from ⟨hz,its,r',IsTup.new _ _⟩)
  exact⟨.ref h'.objs.size,_,I2,rfl,q _ (I1.zD.fresh (zA4 _))⟩
 .obtain⟨its,r',pl,hz⟩:=I.tuple hq;exact call_tuple_same pl ⟨.ref p,H,I,rfl,q⟩
def bw (K:zFr) (T:String) (x:V) (H:Hp):Prop:=match x with
 | .str _=>T="str"
 | .int _=>T="int"
 | .ref p=>(T="list"/\∃ xs,zV K H p xs)\/(T="tuple"/\∃ o,K.lookup p=some o/\o.cls=.type "tuple"/\o.dict=none)\/
   (T="dict"/\((∃ kvs,H p=some (.dK kvs))\/∃ kvs,H p=some (.dT kvs)))\/(T="set"/\∃ S n,H p=some (.set S n))
 | _=>False
def W8 {pins:List (Addr×Obj)}{B:St}{H:Hp}{s:Shared}{T:String}{x:V}{v:Value}(I:Inv X pins B H s) (r:RelV x v) (ty:bw X.K T x H):
  s.TypeIs v T/\∀ a,v=.ref a->∃ ob,s.heap.get? a=some ob/\ob.dict=none:=by
 cases x with
 | str z=>
  obtain⟨t,rfl⟩:=r;cases (show T="str" from ty);exact⟨typeIs_str s z t,λ _ e=>nomatch e⟩
 | int i=>
  obtain⟨t,rfl⟩:=r;cases (show T="int" from ty);exact⟨typeIs_int s i t,λ _ e=>nomatch e⟩
 | ref p=>
  cases r;rcases ty with ⟨rfl,xs,hq⟩ | ⟨rfl,o,hk,hc,hd⟩ | ⟨rfl,hk⟩ | ⟨rfl,S,n,hk⟩
  .obtain⟨its,_,pl,_⟩:=I.list hq;refine⟨pl.isList.typeIs,λ a e=>?_⟩;cases e;obtain⟨o,n,e,c,hd,_⟩:=pl;exact⟨o,e,hd⟩
  .refine⟨⟨o,I.vU p o hk,hc⟩,λ a e=>?_⟩;cases e;exact⟨o,I.vU _ o hk,hd⟩
  .have z:∃ o,s.heap.get? p=some o/\o.ExactDict:=by
    rcases hk with ⟨kvs,hk⟩ | ⟨kvs,hk⟩
    .obtain⟨_,_,_,_,o,_,_,e,ex,_⟩:=I.zD p _ hk;exact⟨o,e,ex⟩
    .obtain⟨_,_,_,_,o,_,_,e,ex,_⟩:=I.zD p _ hk;exact⟨o,e,ex⟩
   obtain⟨o,e,ex⟩:=z;refine⟨⟨o,e,ex.1⟩,λ a e2=>?_⟩;cases e2;exact⟨o,e,ex.2.1⟩
  .obtain⟨o,_,_,_,e,ex,_⟩:=I.zD p _ hk;refine⟨⟨o,e,ex.1⟩,λ a e2=>?_⟩;cases e2;exact⟨o,e,ex.2.1⟩
 | _=>exact False.elim ty
def iy (K:zFr) (T:String) (r:V->List V->Hp->VK->Prop) (to:TE) (t:TA):TE:=fun B H Q=>to B H λ x H1=>bw K T x H1/\t B H1 λ xs H2=>r x xs H2 Q
variable {o e:Expr}{es:List Expr}{to:TE}{t:TA}{name:Str}{apos cpos:Pos}{T id:String}{r:V->List V->Hp->VK->Prop}
def aF (pa:PlainAttrs T) (slot:Slot T name id) (hty:typeOf (.builtin id)=pure (.type "method_descriptor")) (hm:NZ X id r) (ho:PE X o to) (ha:PA X (e::es) t)
  (hbase:attributeBase o name X.env (eval o X.env)=eval o X.env:=by rfl)
  (hfew:((backTo cpos (starEach (e::es) X.env)).all (λ x=>!x.1)&&(backToKw cpos (keywordEach [] X.env)).all (λ x=>x.1.isSome)
   && decide ((e::es).length+([]:List Keyword).length+(if ([]:List Keyword).isEmpty then 0 else 1)<30))=true:=by rfl)
  (hline:(apos.endLine == cpos.line)=true:=by rfl) (hs:starEach (e::es) X.env=(false,eval e X.env)::starEach es X.env:=by rfl) (hplain:(backTo cpos (starEach es X.env)).any (·.1)=false:=by rfl):
  PE X (.Call (.Attribute o name apos) (e::es) [] cpos) (iy X.K T r to t):=by
 intro pins s B H Q I h;refine wpAny_Call_method_late hbase hfew hline rfl (zH (ho pins s B H _ I h) λ v s1 ⟨x,H1,I1,r1,ty,q1⟩=>?_);obtain⟨h1,h2⟩:=W8 I1 r1 ty;refine⟨T,id,pa,slot,hty,h1,h2,?_⟩;have hA:=ha cpos pins s1 B H1 _ I1 q1;rw[hs] at hA ⊢;refine Calls.callWith_builtin (by show (false||(backTo cpos (starEach es X.env)).any (·.1))=false;rw[hplain] <;> rfl) (Calls.evalArgs_plain ?_);exact zH hA λ us s2 ⟨vs,H2,I2,r2,q2⟩=>hm pins s2 B H2 x vs v us Q I2 r1 r2 q2
end
def X7 (X:Cx) (id:String) (r:V->List V->Hp->VK->Prop):Prop:=
 ∀ (pins:List (Addr×Obj)) (s:Shared) (B:St) (H:Hp) (x:V) (xs:List V) (v:Value) (us:List Value) (Q:VK),Inv X pins B H s->RelV x v->Vals xs us->r x xs H Q->
  wpAny (model X.prog X.w) X.A (call (.builtin id) (v::us)) (EP X pins B Q) X.xe s
theorem Vals.one:∀ {x:V}{us:List Value},Vals [x] us->∃ u,us=[u]/\RelV x u
 | _,_,.cons r .nil=>⟨_,rfl,r⟩
theorem Vals.rep {xs:List V}{us:List Value}(h:Vals xs us):∀ k:Nat,Vals (List.replicate k xs).flatten (List.replicate k us).flatten
 | 0=>.nil
 | k+1=>by
  rw[List.replicate_succ,List.replicate_succ,List.flatten_cons,List.flatten_cons];exact Vals.append h (Vals.rep h k)
section
variable {X:Cx}{pins:List (Addr×Obj)}{B:St}{H:Hp}{s:Shared}{l b:Addr}{xs ys zs:List V}
def Inv.Zz {its its':List Value}{n:Nat}{f:Array Value->Array Value}{t':Nat}(I:Inv X pins B H s) (hH:H l=some (.lst xs))
  (e:s.heap.get? l=some { cls:=.type "list",data:=.seq its.toArray n }) (hf:f its.toArray=its'.toArray) (hv:Vals ys its') (hz:ys.length<=sizeLine):
  Inv X pins B (upd H l (.lst ys)) { s with heap:=s.heap.update l (Obj.mapSeq f),toks:=t' }:=by
 have q:=PySem.IsL.update e f;rw[hf] at q;refine I.write (x:=l) (e:=l) (by rw[hH];exact trivial) (.inl rfl) (λ b' u hb hu=>(Heap.get?_update_other s.heap (Obj.mapSeq f) (Ne.symm hb)).trans hu) ⟨_,q⟩ ?_;exact⟨hz,its',_,hv,q⟩
def Inv.Q2 {its:List Value}{t':Nat}(I:Inv X pins B H s) (hv:Vals ys its) (hz:ys.length<=sizeLine):
  Inv X pins B (upd H s.heap.objs.size (.lst ys)) { s with heap:=s.heap.push { cls:=.type "list",data:=.seq its.toArray },toks:=t' }:=
 I.laid (λ _ _ q=>zHp _ q) (zA4 _) ⟨hz,its,0,hv,zA9 _ rfl⟩
theorem Inv.fresh (I:Inv X pins B H s):H s.heap.objs.size=none:=I.zD.fresh (zA4 _)
def Inv.fB (I:Inv X pins B H s) (hH:H l=some (.lst xs)):xs.length<=sizeLine/\∃ (its:List Value) (n:Nat),Vals xs its/\xs.length=its.length/\s.heap.get? l=some { cls:=.type "list",data:=.seq its.toArray n }:=by
 obtain⟨z,its,n,r,e⟩:=I.zD l _ hH;exact⟨z,its,n,r,r.length,e⟩
def Qe {n:Nat}(h:n<=sizeLine):Builtin.List.listTooLong n=false:=by
 unfold Builtin.List.listTooLong;exact decide_eq_false (by omega)
end
section
variable {X:Cx}
def ay:V->List V->Hp->VK->Prop:=λ x vs H Q=>∃ l xs y,x=.ref l/\vs=[y]/\H l=some (.lst xs)/\xs.length<sizeLine/\Q .zj (upd H l (.lst (xs++[y])))
def Zx:X7 X "list.append" ay:=by
 intro pins s B H x vs v us Q I rx rv h;obtain⟨l,xs,y,rfl,rfl,hH,hz,q⟩:=h;cases rx;obtain⟨u,rfl,ru⟩:=rv.one;obtain⟨z,its,n,r,hl,e⟩:=I.fB hH;refine call_meets F.slot_list_append ⟨_,e,rfl⟩ F.entry_list_append (F.args_list_append_2 _ _) (PySem.list_append l its.toArray n u (by rw[zA0];omega)) ⟨e,?_⟩;refine⟨.zj,_,I.Zz (its':=its++[u]) hH e (by simp) (r.append (.cons ru .nil)) ?_,rfl,q⟩;rw[zD7,List.length_singleton];omega
def au:V->List V->Hp->VK->Prop:=λ x vs H Q=>∃ l b xs zs,x=.ref l/\vs=[.ref b]/\H l=some (.lst xs)/\H b=some (.lst zs)/\xs.length+zs.length<=sizeLine/\Q .zj (upd H l (.lst (xs++zs)))
def Qt:X7 X "list.extend" au:=by
 intro pins s B H x vs v us Q I rx rv h;obtain⟨l,b,xs,zs,rfl,rfl,hH,hB,hz,q⟩:=h;cases rx;obtain⟨u,rfl,ru⟩:=rv.one;cases ru;obtain⟨z,its,n,r,hl,e⟩:=I.fB hH;obtain⟨z2,its2,n2,r2,hl2,e2⟩:=I.fB hB;have hsz:its.toArray.size+its2.toArray.size<=sizeLine:=by rw[zA0,zA0];omega
 have hlong:¬ (!its.toArray.isEmpty&&Builtin.List.listTooLong (its.toArray.size+its2.toArray.size))=true:=by
  rw[Qe hsz,Bool.and_false];exact Bool.false_ne_true
 refine call_meets F.slot_list_extend ⟨_,e,rfl⟩ F.entry_list_extend (F.args_list_extend_2 _ _)
  (AutoSeq1.list_extend_list_list_0 l its.toArray n b its2.toArray n2 hlong (by rw[zA0];omega) (by omega)) ⟨e,e2,?_⟩
 refine⟨.zj,_,I.Zz (its':=its++its2) hH e (by simp) (r.append r2) ?_,rfl,q⟩;rw[zD7];omega
end
section
variable {prog:Program}{w:World}{A:Around}{E:Value->Shared->Prop}{s:Shared}
end
section
variable {X:Cx}
end
end L2
namespace Wt
open PySem PySem.W PySem.Calls PyProof.Rows
def Pd {P:Params}{h:Heap}:∀ (ns:List Int) (vs:List Value),WellAll P h vs (ns.map WData.int)->IntsAre vs ns:=by
 intro ns
 induction ns with
 | nil=>
  intro vs w;rw[List.map_nil] at w;cases w;exact .nil
 | cons n ns ih=>
  intro vs w;rw[zA6] at w;cases w with
  | cons a b=>
   cases a;exact .cons _ _ (ih _ b)
def V8 {l:OpenLaw}{n:Nat}(hn:l.most=some n) {P:Params}{h:Heap}{args:List WData}{vals:List Value}
  (hpre:l.row.toRowW.claim.pre args=true) (hwl:WellAll P h vals args):
  ∃ a vs ns,vals=[Value.ref a]/\args=[WData.list (ns.map WData.int)]/\h.get? a=some { cls:=.type "list",data:=.seq vs.toArray }/\IntsAre vs ns/\ns.length<=n:=by
 have hsh:WShape.hasAll [] args [.list .int]=true:=(pre_splitW hpre).1;have hc:l.pre.holds [] { args:=args }=true:=(pre_splitW hpre).2;obtain⟨d,r,rfl,h1,h2⟩:=hasAllW_cons hsh;obtain rfl:=hasAllW_nil h2;obtain⟨xs,rfl,h3⟩:=hasW_list h1;obtain⟨ns,rfl⟩:=items_int h3;have hlen:ns.length<=n:=by
  unfold OpenLaw.pre at hc;have h4:(WTm.not (.lt (.lit (.int (n:Int))) (.len (.arg 0)))).holds [] { args:=[.list (ns.map .int)] }=true:=by
   have h4:=(holds_andW hc).1;rw[hn] at h4;exact h4
  have h5:=condW_of h4 (w_not (w_lt w_lit (w_len_list (w_arg rfl))));rw[zA7] at h5;refine Nat.le_of_not_lt λ q=>?_;have q':(n:Int)<((ns.length:Nat):Int):=by omega
  first
   | (rw[decide_eq_true q'] at h5;exact absurd h5 (by decide))
   | (simp at h5;omega)
 cases hwl with
 | cons w1 w2=>
  cases w2;cases w1 with
  | list ho hall=>exact⟨_,_,ns,rfl,rfl,ho,Pd ns _ hall,hlen⟩
def U4 (l:OpenLaw) (args:List WData):l.row.toRowW.claim.post args (.bool true) args=true:=
 postW_of (r:=l.row.toRowW) (X:=(true == true))
  (show WShape.has [] (.bool true) .bool=true by first | rfl | decide | simp[WShape.has,WShape.arms,WShape.armsAll])
  (show (WTm.eq .res (.lit (.bool true))).value [] { args:=args,res:=some (.bool true),after:=args }=some (.bool (true == true)) from w_eq_bool (w_res rfl) w_lit) rfl
def NK {l:OpenLaw}{n:Nat}{q:Program}{loose:List Str}{XP:(Str->Option Value)->Heap->Prop}{YP:World->Heap->Prop}{d:DefRec}
  (hn:l.most=some n) (hdf:d.params.defaults=[])
  (call:∀ (w:World) (s₀ s₁:Shared) (mg mb:Str->Option Value) (fa:Addr) (o:Obj) (pm cd doc:Value) (a:Addr) (vs:List Value) (ns:List Int),
   Ground q loose [] XP w s₀ mg mb s₁.heap->YP w s₁.heap->
   s₁.heap.get? fa=some o->o.data=.func (docDef d.name d.params d.body d.scope pm cd doc)->s₁.heap.CodeRec cd d.name->mg d.name=some (.ref fa)->
   s₁.heap.get? a=some { cls:=.type "list",data:=.seq vs.toArray }->IntsAre vs ns->ns.length<=n->s₁.gens=#[]->
   codeAny (model l.prog w) callerA (.call (.ref fa) ⟨[.ref a],[]⟩) (λ r s'=>r=.ok (.ret (.bool true))/\OldK s₁.heap s'.heap/\s'.os=s₁.os/\AllBare s'.gens) s₁):
  WalkO q loose XP YP l.row.toRowW d [] (λ f vs=>PySem.call f vs):=by
 intro w s₀ s₁ mg mb G Y fa o pm cd doc dV kV ho hd hcd hD hmg hg args vals as hpre hlay hrd hwl hlo;obtain rfl:dV=.none:=Dflts.none hD hdf;obtain rfl:kV=.none:=Dflts.noKw hD;obtain⟨a,vs,ns,rfl,rfl,hobj,hints,hlen⟩:=V8 hn hpre hwl;refine enter_call (codeAny_mono (call w s₀ s₁ mg mb fa o pm cd doc a vs ns G Y ho (fd_plain hd) hcd hmg hobj hints hlen hg) λ r s' hq=>?_);obtain⟨rfl,h2,h3,h4⟩:=hq;exact⟨.inl ⟨.bool true,.bool true,[],rfl,λ _=>rfl,.bool true,U4 l _,λ _=>⟨List.Pairwise.nil,λ _ hm=>(nomatch hm)⟩⟩,h2,h3,h4⟩
section
variable {prog:Program}{w:World}{A:Around}{E:Value->Shared->Prop}{s:Shared}{K:Frag}
end
end Wt
namespace L2
open PySem PySem.Spec PyProof.Rows
theorem bf:∀ {vs:List Value}{ns:List Int},IntsAre vs ns->Vals (ns.map V.int) vs
 | _,_,.nil=>.nil
 | _,_,.cons n t h=>.cons ⟨t,rfl⟩ (bf h)
def jD (H:Hp):Prop:=∀ b,H b=none\/∃ o xs,H b=some (.wG o (.lst xs))
def QH {P:Program}{w:World}{K:zFr}{mg mb:Str->Option Value}{CX:t5}{k:Nat}{fa a:Addr}{fd:FuncData}{x:Str}{sp:Sp}{s₁:Shared}{vs:List Value}{ns:List Int}
  (KX:K.In s₁.heap) (hns:s₁.heap.Ns mainGlobals mg) (hb:s₁.heap.Ns builtinsNs mb) (hbb:∀ x:Str,x≠"__name__"->mb x=bootBuiltins x) (hlim:s₁.heap.NoLimit) (hg:s₁.gens=#[])
  (ha:s₁.heap.get? a=some { cls:=.type "list",data:=.seq vs.toArray }) (hi:IntsAre vs ns) (hl:ns.length<=sizeLine) (hr:yC k callerA)
  (F:∀ base:Heap,K.In base->base.Ns mainGlobals mg->uj P w K mg base CX k fa fd [x] sp) (hbind:∀ (s:Shared) (u:Value),BindsTo s fd ⟨[u],[]⟩ [(x,u)])
  (hsp:∀ H:Hp,jD H->zV K H a (ns.map V.int)->sp [.ref a] H (λ v _=>v=.bl true) λ _ _ _=>False)
  (hCX:∀ H e s',CX [] H s₁ (λ _ _ _=>False) e s'->False):
  codeAny (model P w) callerA (.call (.ref fa) ⟨[.ref a],[]⟩) (λ r s'=>r=.ok (.ret (.bool true))/\OldK s₁.heap s'.heap/\s'.os=s₁.os/\AllBare s'.gens) s₁:=by
 have rv:=bf hi;have lenV:=hi.length;have core:∀ H:Hp,jD H->zV K H a (ns.map V.int)->xg P w H s₁.heap->(∀ b,H b≠none->b=a)->(H a≠none->K.lookup a=none)->
   codeAny (model P w) callerA (.call (.ref fa) ⟨[.ref a],[]⟩) (λ r s'=>r=.ok (.ret (.bool true))/\OldK s₁.heap s'.heap/\s'.os=s₁.os/\AllBare s'.gens) s₁:=by
  intro H hO hS zD hA hK;have base_of:∀ {b:Addr}{o:Obj},s₁.heap.get? b=some o->H b=none->(sN s₁.heap H).get? b=some o:=λ e n=>Pn e n;have noA:∀ {b:Addr}{o:Obj}{es:Array DictEntry}{ep:Nat},s₁.heap.get? b=some o->o.data=.dict es ep->H b=none:=λ{b o es ep} e d=>by
   cases q:H b with
   | none=>rfl
   | some u=>
    have e':b=a:=hA b (by rw[q];simp);subst e';rw[ha] at e;cases e;have d':Data.seq vs.toArray _=Data.dict es ep:=d;cases d'
  have nsK:∀ {b:Addr}{m:Str->Option Value},s₁.heap.Ns b m->(sN s₁.heap H).Ns b m:=λ{b m} ⟨o,es,ep,e,d,r⟩=>⟨o,es,ep,base_of e (noA e d),d,r⟩;have hKb:K.In (sN s₁.heap H):=λ b o e=>base_of (KX b o e) (by
   cases q:H b with
   | none=>rfl
   | some u=>
    have e':b=a:=hA b (by rw[q];simp);subst e';rw[hK (by rw[q];simp)] at e;cases e)
  have hM:Mod K mg (sN s₁.heap H):=⟨hKb,nsK hns,⟨mb,nsK hb,hbb⟩,let ⟨mc,h1,h2⟩:=hlim;⟨mc,nsK h1,h2⟩⟩
  have e0:jR P w K mg (sN s₁.heap H) callerA [] s₁ H:=⟨rfl,hM,λ b o e=>Qd e,Nat.le_of_eq (Pm _ _),trivial,λ b hb=>absurd (show b∈([]:List Addr) from hb) (by simp),zD,.of_eq hg⟩
  refine codeAny_mono ((F _ hKb (nsK hns)).run callerA [] s₁ H ⟨[.ref a],[]⟩ [.ref a] [.ref a] _ _ hr e0 (hbind s₁ (.ref a)) (.cons rfl .nil) (hsp H hO hS)) λ r s' h=>?_;cases r with
  | error e=>exact (hCX H e s' h).elim
  | ok fl=>
   cases fl with
   | next=>exact False.elim h
   | brk=>exact False.elim h
   | cont=>exact False.elim h
   | ret u=>
    obtain⟨v,H',os,bare,un,hok',r',q⟩:=h;have q':v=.bl true:=q;subst q';obtain rfl:u=Value.bool true:=r';refine⟨rfl,OldK.of_keep λ b o e=>?_,os,bare⟩;cases q:H b with
    | none=>exact un.keep b o e q (by intro z;exact absurd (show b∈([]:List Addr) from z) (by simp)) (by simp)
    | some u=>
     rcases hO b with z | ⟨ob,xs,z⟩
     .rw[q] at z;cases z
     .have z2:=un.sQ b ob _ z;obtain⟨e1,_⟩:=zD b _ z;obtain⟨e2,_⟩:=hok' b _ z2;rw[e] at e1;cases e1;exact e2
 cases hk:K.lookup a with
 | some o=>
  have e:=KX a o hk;rw[ha] at e;cases e;refine core (λ _=>none) (λ _=>.inl rfl) (.inr ⟨_,vs.toArray,_,hk,rfl,rfl,rfl,by rw[zA0,lenV];exact hl,by simpa using rv⟩) (λ b u z=>by have z':(none:Option HO)=some u:=z;cases z') (λ b z=>absurd rfl z) λ z=>absurd rfl z
 | none=>
  refine core (λ b=>if b=a then some (.wG { cls:=.type "list",data:=.seq vs.toArray } (.lst (ns.map V.int))) else none) (λ b=>?_) (.inl (.inr ⟨{ cls:=.type "list",data:=.seq vs.toArray },if_pos rfl⟩)) (λ b u z=>?_) (λ b z=>?_) λ _=>hk
  .by_cases hb:b=a
   .exact .inr ⟨_,_,if_pos hb⟩
   .exact .inl (if_neg hb)
  .by_cases hb:b=a
   .have z':=(if_pos hb).symm.trans z;cases z';subst hb;exact⟨ha,by rw[zA7];exact hl,vs,_,rv,ha⟩
   .have z':=(if_neg hb).symm.trans z;cases z'
  .by_cases hb:b=a
   .exact hb
   .exact absurd (if_neg hb) z
def Wz {l:PySem.W.OpenLaw}{n k:Nat}{q:Program}{loose:List Str}{XP:(Str->Option Value)->Heap->Prop}{YP:World->Heap->Prop}{d:DefRec}{K:Params->zFr}{CX:World->t5}{sp:World->Sp}{x:Str}
  (hn:l.most=some n) (hn2:n<=sizeLine) (hdf:d.params.defaults=[]) (hr:yC k callerA)
  (hY:∀ (w:World) (h:Heap),YP w h->(K w.params).In h)
  (F:∀ (w:World) (mg:Str->Option Value) (fa:Addr) (h:Heap),(K w.params).In h->h.Ns mainGlobals mg->mg d.name=some (.ref fa)->
   ∃ fd:FuncData,(∀ (s:Shared) (u:Value),BindsTo s fd ⟨[u],[]⟩ [(x,u)])/\
    ∀ base:Heap,(K w.params).In base->base.Ns mainGlobals mg->uj l.prog w (K w.params) mg base (CX w) k fa fd [x] (sp w))
  (hsp:∀ (w:World) (H:Hp) (a:Addr) (ns:List Int),ns.length<=n->jD H->zV (K w.params) H a (ns.map V.int)->sp w [.ref a] H (λ v _=>v=.bl true) λ _ _ _=>False)
  (hCX:∀ (w:World) (H:Hp) (s:Shared) (e:Value) (s':Shared),CX w [] H s (λ _ _ _=>False) e s'->False):
  PySem.W.WalkO q loose XP YP l.row.toRowW d [] (λ f vs=>PySem.call f vs):=by
 refine Wt.NK hn hdf λ w s₀ s₁ mg mb fa o pm cd doc a vs ns G Y ho hd hcd hmg hobj hints hlen hg=>?_;have KX:=hY w _ Y;obtain⟨fd,hb,hF⟩:=F w mg fa _ KX G.T.g hmg;exact QH KX G.T.g G.T.b G.T.builtins G.T.nolimit hg hobj hints (zE0 hlen hn2) hr hF hb (λ H hO hS=>hsp w H a ns hlen hO hS) λ H e s'=>hCX w H s₁ e s'
noncomputable def sS (s:Stmt):Arguments:=match s with
 | .FunctionDef _ a _ _ _ _ _ _ _ _=>a
 | _=>{ posonlyargs:=[],args:=[],vararg:=none,kwonlyargs:=[],kw_defaults:=[],kwarg:=none,defaults:=[] }
noncomputable def vt (s:Stmt):List Stmt:=match s with
 | .FunctionDef _ _ b _ _ _ _ _ _ _=>b
 | _=>[]
noncomputable def zE (s:Stmt):Scope:=match s with
 | .FunctionDef _ _ _ _ _ _ sc _ _ _=>sc
 | _=>{ kind:=.function,names:=[],isGenerator:=false,isCoroutine:=false }
abbrev vh:t5:=λ _ _ _ _ _ _=>False
abbrev E0:XK:=λ _ _ _=>False
def TU {X:Cx}:Passes vh X E0:=λ _ _ _ _ _ _ _ h=>h.elim
structure uN (K:zFr) (x qual:Str) (st:Stmt) (f:Addr) (fd:FuncData):Prop where
 ex:∃ (oc:Value) (od:Option Addr) (kV doc pm:Value) (an:Option Addr) (cdv ct:Value) (osl:Array (Option Value)),
  fd=PySem.W.fnOf x qual (sS st) (vt st) (zE st) .none kV doc pm an cdv ct/\K.lookup f=some ⟨oc,od,.func fd,osl⟩/\PySem.W.codeIn K cdv qual=true
 kp:PySem.W.keepIn K (.ref f)=true
section
variable {P:Program}{w:World}{K:zFr}{mg:Str->Option Value}{base:Heap}
def uN.ok {x qual:Str}{st:Stmt}{f:Addr}{fd:FuncData}{N ps:List Str}{k:Nat}{sp:Sp}(F:uN K x qual st f fd) (S:yo N ps (zE st)) (len:∀ vs H Q E,sp vs H Q E->vs.length=ps.length)
  (hbody:∀ (cdv:Value) (A:Around) (outer:List Env) (s:Shared) (H:Hp) (vs:List V) (Q:VK) (E:XK),yC k (A.deeper (envOfC qual (zE st) s.heap.objs.size f cdv))->sp vs H Q E->
   ∃ t,wx (u_ vh P w K mg base N qual (zE st) f cdv A outer s H E).sJ (vt st) t/\t { nx:=λ _ H'=>Q .zj H',rt:=Q } (start N vs) H):uj P w K mg base vh (k+1) f fd ps sp:=by
 obtain⟨oc,od,kV,doc,pm,an,cdv,ct,osl,rfl,lk,hcd⟩:=F.ex;refine PX lk hcd S len λ A outer s H vs Q E hr hsp=>?_;obtain⟨t,h,q⟩:=hbody cdv A outer s H vs Q E hr hsp;exact⟨t,h.sJ,q⟩
def uN.binds {x qual:Str}{st:Stmt}{f:Addr}{fd:FuncData}{ps:List Str}(F:uN K x qual st f fd)
  (h:∀ (kV doc pm:Value) (an:Option Addr) (cdv ct:Value) (us:List Value),us.length=ps.length->bindArgs (PySem.W.fnOf x qual (sS st) (vt st) (zE st) .none kV doc pm an cdv ct) ⟨us,[]⟩=pure (ps.zip us)):Binds K fd ps []:=by
 obtain⟨oc,od,kV,doc,pm,an,cdv,ct,osl,rfl,lk,hcd⟩:=F.ex;exact .all (h kV doc pm an cdv ct)
def Yp {x qual:Str}{st:Stmt}{f:Addr}{oc:Value}{od an:Option Addr}{osl:Array (Option Value)}{kV doc pm cdv ct:Value}(l:K.lookup f=some ⟨oc,od,.func (PySem.W.fnOf x qual (sS st) (vt st) (zE st) .none kV doc pm an cdv ct),osl⟩)
  (c:PySem.W.codeIn K cdv qual=true) (k:PySem.W.keepIn K (.ref f)=true):uN K x qual st f (PySem.W.fnOf x qual (sS st) (vt st) (zE st) .none kV doc pm an cdv ct):=⟨⟨oc,od,kV,doc,pm,an,cdv,ct,osl,rfl,l,c⟩,k⟩
end
def fV {A:Around}{k:Nat}(hr:yC k A):A.units+1<cLine:=Nat.lt_of_le_of_lt (Nat.add_le_add_left (by decide:1<=64) _) hr.units
section
variable {X:Cx}
def pv (i:Nat) {x:Str}{pos:Pos}(hN:X.N[i]?=some x:=by rfl) (hv:dv X.env.scope x:=by first | exact Or.inl rfl | exact Or.inr (Or.inl rfl) | exact Or.inr (Or.inr rfl)) (hd:(x == ("__debug__":Str))=false:=by decide)
  (hcd:(x == ("__classdict__":Str))=false:=by decide):PE X (.Name x pos) (iq i):=UQ hN hv hd hcd
end
end L2
namespace PySem
theorem eS {env:Env}:∀ (l:List (Str×NameKind)) (acc:List (Str×Addr)),(∀ y∈l,y.2=.free->∃ c,env.cells.lookup y.1=some c)->
  ∃ cl,(forIn l acc (λ(x:Str×NameKind) r=>if (x.2 == NameKind.free)=true then do let a <- cellOf env x.1;pure (ForInStep.yield ((x.1,a)::r)) else pure (ForInStep.yield r)):Sem (List (Str×Addr)))=pure cl/\
   (∀ x c,cl.lookup x=some c->acc.lookup x=some c\/((x,NameKind.free)∈l/\env.cells.lookup x=some c))/\(∀ x,(x,NameKind.free)∈l\/(acc.lookup x).isSome->(cl.lookup x).isSome)
 | [],acc,_=>⟨acc,rfl,λ x c h=>.inl h,λ x h=>by simpa using h⟩
 | (n,k)::l,acc,h=>by
  by_cases hk:k=.free
  .subst hk;obtain⟨c,hc⟩:=h (n,.free) zMc rfl;obtain⟨cl,e1,e2,e3⟩:=eS l ((n,c)::acc) λ y hy=>h y (zMo _ hy);refine⟨cl,?_,λ x d hx=>?_,λ x hx=>?_⟩
   .rw[List.forIn_cons];simp only[beq_self_eq_true,if_true,cellOf,hc];exact e1
   .rcases e2 x d hx with q | ⟨q1,q2⟩
    .rw[List.lookup_cons] at q;cases hxn:x == n with
     | true=>
      rw[hxn] at q;have:x=n:=by simpa using hxn
      subst this;refine .inr ⟨zMc,?_⟩;rw[hc];exact q
     | false=>rw[hxn] at q;exact .inl q
    .exact .inr ⟨zMo _ q1,q2⟩
   .refine e3 x ?_;rcases hx with hx | hx
    .rcases zA5.mp hx with q | q
     .have:x=n:=congrArg Prod.fst q;subst this;exact .inr (by simp[List.lookup_cons])
     .exact .inl q
    .refine .inr ?_;rw[List.lookup_cons];cases x == n <;> simp[hx]
  .have hb:(k == NameKind.free)=false:=by simpa using hk
   obtain⟨cl,e1,e2,e3⟩:=eS l acc λ y hy=>h y (zMo _ hy);refine⟨cl,?_,λ x d hx=>?_,λ x hx=>?_⟩
   .rw[List.forIn_cons];simp only[hb,zC4,if_false];exact e1
   .rcases e2 x d hx with q | ⟨q1,q2⟩
    .exact .inl q
    .exact .inr ⟨zMo _ q1,q2⟩
   .refine e3 x ?_;rcases hx with hx | hx
    .rcases zA5.mp hx with q | q
     .exact absurd (congrArg Prod.snd q).symm hk
     .exact .inl q
    .exact .inr hx
def Xb {scope:Scope}{env:Env}(h:∀ y∈scope.names,y.2=.free->∃ c,env.cells.lookup y.1=some c):
  ∃ cl,closureFor scope env=pure cl/\(∀ x c,cl.lookup x=some c->(x,NameKind.free)∈scope.names/\env.cells.lookup x=some c)/\∀ x,(x,NameKind.free)∈scope.names->(cl.lookup x).isSome:=by
 obtain⟨cl,e1,e2,e3⟩:=eS (env:=env) scope.names [] h;refine⟨cl,?_,λ x c hx=>?_,λ x hx=>e3 x (.inl hx)⟩
 .simp only[closureFor];rw[e1];rfl
 .rcases e2 x c hx with q | q
  .simp at q
  .exact q
theorem Z5 {env:Env}:∀ {names:List (Str×NameKind)}{x:Str},names.lookup x=some .free->
  (names.map λ(n,k)=>if (k == NameKind.free&&env.scope.kind == .function&&env.kindOf n == some .cell) then (n,NameKind.cell) else (n,k)).lookup x=some .cell\/
  (names.map λ(n,k)=>if (k == NameKind.free&&env.scope.kind == .function&&env.kindOf n == some .cell) then (n,NameKind.cell) else (n,k)).lookup x=some .free
 | [],_,h=>by simp at h
 | (n,k)::r,x,h=>by
  have ih:=@Z5 env r x;show List.lookup x ((if (k == NameKind.free&&env.scope.kind == .function&&env.kindOf n == some .cell)=true then (n,NameKind.cell) else (n,k))::_)=_\/List.lookup x ((if (k == NameKind.free&&env.scope.kind == .function&&env.kindOf n == some .cell)=true then (n,NameKind.cell) else (n,k))::_)=_;cases hx:x == n with
  | true=>
   simp only[List.lookup_cons,hx] at h;cases h;by_cases hc:(NameKind.free == NameKind.free&&env.scope.kind == .function&&env.kindOf n == some .cell)=true
   .rw[if_pos hc];simp[List.lookup_cons,hx]
   .rw[if_neg hc];simp[List.lookup_cons,hx]
  | false=>
   simp only[List.lookup_cons,hx] at h;by_cases hc:(k == NameKind.free&&env.scope.kind == .function&&env.kindOf n == some .cell)=true
   .rw[if_pos hc];simp only[List.lookup_cons,hx];exact ih h
   .rw[if_neg hc];simp only[List.lookup_cons,hx];exact ih h
theorem b_ {env:Env}:∀ {names:List (Str×NameKind)}{x:Str},(∀ y∈names,y.2≠.cell)->
  ((names.map λ(n,k)=>if (k == NameKind.free&&env.scope.kind == .function&&env.kindOf n == some .cell) then (n,NameKind.cell) else (n,k)).lookup x=some .cell\/
  (names.map λ(n,k)=>if (k == NameKind.free&&env.scope.kind == .function&&env.kindOf n == some .cell) then (n,NameKind.cell) else (n,k)).lookup x=some .free)->(x,NameKind.free)∈names
 | [],_,_,h=>by simp at h
 | (n,k)::r,x,hn,h=>by
  have ih:=@b_ env r x λ y hy=>hn y (zMo _ hy);have h':List.lookup x ((if (k == NameKind.free&&env.scope.kind == .function&&env.kindOf n == some .cell)=true then (n,NameKind.cell) else (n,k))::_)=some .cell\/List.lookup x ((if (k == NameKind.free&&env.scope.kind == .function&&env.kindOf n == some .cell)=true then (n,NameKind.cell) else (n,k))::_)=some .free:=h;have hf:∀ k',((if (k == NameKind.free&&env.scope.kind == .function&&env.kindOf n == some .cell)=true then (n,NameKind.cell) else (n,k)):Str×NameKind)=(n,k')->(k'=.cell\/k'=.free)->k=.free:=by
   intro k' e hk';by_cases hc:(k == NameKind.free&&env.scope.kind == .function&&env.kindOf n == some .cell)=true
   .simp only[zE5] at hc;simpa using hc.1.1
   .rw[if_neg hc] at e;have:k=k':=congrArg Prod.snd e;subst this;rcases hk' with q | q
    .exact absurd q (hn (n,k) zMc)
    .exact q
  cases hx:x == n with
  | true=>
   have hxn:x=n:=by simpa using hx
   subst hxn;by_cases hc:(k == NameKind.free&&env.scope.kind == .function&&env.kindOf x == some .cell)=true
   .simp only[zE5] at hc;have:k=.free:=by simpa using hc.1.1
    subst this;exact zMc
   .rw[if_neg hc] at h';simp only[List.lookup_cons,beq_self_eq_true] at h';rcases h' with q | q
    .exact absurd (zD5 q) (hn (x,k) zMc)
    .have:=zD5 q;subst this;exact zMc
  | false=>
   refine zMo _ (ih ?_);by_cases hc:(k == NameKind.free&&env.scope.kind == .function&&env.kindOf n == some .cell)=true
   .rw[if_pos hc] at h';simp only[List.lookup_cons,hx] at h';exact h'
   .rw[if_neg hc] at h';simp only[List.lookup_cons,hx] at h';exact h'
end PySem
namespace L2
open PySem PySem.Spec PyProof.Rows
noncomputable def uv (pick:List (Option Nat)) (B:St):St:=pick.map λ o=>o.bind λ i=>(B[i]?).join
noncomputable def xf (X:Cx) (N':List Str) (scope:Scope) (cl:List (Str×Addr)) (C:Addr) (s:Shared) (H:Hp) (ex:List Addr):Cx:=
 { X with N:=N',s₀:=s,H₀:=H,env:=compEnvC scope cl C X.env,outer:=X.stack,stack:=X.stack,ex:=ex,fn:=λ _=>false,pn:=[],xe:=λ _ _=>False }
noncomputable def om (N N':List Str) (pick:List (Option Nat)) (scope:Scope):Bool:=(N'.zip pick).all λ p=>match p.2 with
 | none=>true
 | some j=>decide (N[j]?=some p.1)&&decide (scope.names.lookup p.1=some .free)
structure pS (X:Cx) (N':List Str) (pick:List (Option Nat)) (scope:Scope):Prop where
 kind:scope.kind=.function
 Zr:∀ y∈scope.names,y.2≠.cell
 names:∀ y∈scope.names,y.2=.local->scope.names.lookup y.1=some .local
 free:∀ y∈scope.names,y.2=.free->X.env.scope.names.lookup y.1=some .cell\/X.env.scope.names.lookup y.1=some .free
 len:pick.length=N'.length
 ok:om X.N N' pick scope=true
def om.get {N N':List Str}{pick:List (Option Nat)}{scope:Scope}(h:om N N' pick scope=true) {i j:Nat}{x:Str}(h1:N'[i]?=some x) (h2:pick[i]?=some (some j)):N[j]?=some x/\scope.names.lookup x=some .free:=by
 unfold om at h;have hm:(x,some j)∈N'.zip pick:=by
  refine zB7 (i:=i) ?_;rw[List.getElem?_zip_eq_some];exact⟨h1,h2⟩
 have q:=zE4.mp h _ hm;simp only[zE5,decide_eq_true_eq] at q;exact q
def uv.get {pick:List (Option Nat)}{B:St}{i:Nat}{v:V}(h:(uv pick B)[i]?=some (some v)):∃ j,pick[i]?=some (some j)/\B[j]?=some (some v):=by
 unfold uv at h;rw[zA3] at h;cases e:pick[i]? with
 | none=>rw[e] at h;cases h
 | some o=>
  rw[e] at h;cases o with
  | none=>simp at h
  | some j=>
   refine⟨j,rfl,?_⟩;simp only[Option.map_some,Option.some.injEq,zC9] at h;cases q:B[j]? with
   | none=>rw[q] at h;simp at h
   | some w=>rw[q] at h;simp at h;rw[h]
def PF (X:Cx) (ifs:List Expr) (t:TT):Prop:=∀ (pins:List (Addr×Obj)) (s:Shared) (B:St) (H:Hp) (Q:Bool->Hp->Prop),Inv X pins B H s->t B H Q->
 wpAny (model X.prog X.w) X.A (forIn ifs true λ c r=>if r=true then do let ok <- isTrue c X.env (eval c X.env);pure (ForInStep.yield ok) else pure (ForInStep.yield r)) (TP X pins B Q) X.xe s
def UO {X:Cx}:PF X [] (λ _ H Q=>Q true H):=λ _ _ _ H _ I h=>wpAny_tests_nil ⟨H,I,h⟩
def UN {X:Cx}{c:Expr}{t:TT}(h:PT X c t):PF X [c] t:=λ pins s B H Q I q=>wpAny_tests_one (h pins s B H Q I q)
def iu (pick:List (Option Nat)) (wi:TI) (g:TG) (tc:TT) (te:TE):TE:=fun B H Q=>wi B H λ J H1=>∀ D,H1 D=none->∃ W:Nat->Nat->St->Hp->Prop,(∃ m,W 0 m (uv pick B) (upd H1 D (.lst [])))/\
 ∀ i m B H,W i m B H->(J.stop i H/\Q (.ref D) H)\/(J.go i H/\∀ x H',J.pU i H x H'->g x B H' fun B2 H2=>tc B2 H2 λ b H3=>
  if b=true then te B2 H3 λ y H4=>∃ ys m',H4 D=some (.lst ys)/\ys.length<sizeLine/\m'<m/\W (i+1) m' B2 (upd H4 D (.lst (ys++[y]))) else ∃ m',m'<m/\W (i+1) m' B2 H3)
section
variable {X:Cx}{pins:List (Addr×Obj)}{B:St}{H:Hp}{s:Shared}{N':List Str}{pick:List (Option Nat)}{scope:Scope}{cl:List (Str×Addr)}{C:Addr}{fp:List Addr}
def Pc (S:pS X N' pick scope) (I:Inv X pins B H s) (hfp:∀ b∈fp,ui X pins H b) (hlt:∀ b∈fp,b<s.heap.objs.size)
  (c1:∀ x c,cl.lookup x=some c->(x,NameKind.free)∈scope.names/\X.env.cells.lookup x=some c) (c2:∀ x,(x,NameKind.free)∈scope.names->(cl.lookup x).isSome)
  {h1:Heap}{m1:Str->Option Value}{t':Nat}(hC:s.heap.objs.size<C) (old:∀ b o,s.heap.get? b=some o->h1.get? b=some o) (hns:h1.Ns C m1)
  (hD:h1.get? s.heap.objs.size=some { cls:=.type "list",data:=.seq #[] 0 }):
  Inv (xf X N' scope cl C s H fp) [] (uv pick B) (upd H s.heap.objs.size (.lst [])) { s with heap:=h1,toks:=t' }:=by
 have hDn:H s.heap.objs.size=none:=I.zD.fresh (zA4 _);have hCn:H C=none:=I.zD.fresh (zE3 hC);have clt:∀ x c,cl.lookup x=some c->c<s.heap.objs.size:=λ x c e=>by
  obtain⟨v,q⟩:=I.cell x c (c1 x c e).2;exact q.lt
 refine⟨⟨I.ok.mod,S.kind,I.ok.glob,I.ok.blt,zE3 hC,λ x y c e1 e2=>I.ok.inj x y c (c1 x c e1).2 (c1 y c e2).2,λ x hx=>?_,λ x c hf _=>absurd (show false=true from hf) Bool.false_ne_true,I.ok.hd,I.ok.frames,.inl rfl,
  λ b hb=>⟨zB3 (Nat.lt_trans (hlt b hb) hC),λ x c e=>(hfp b hb).2.2.2.2.1 x c (c1 x c e).2⟩,I.bs,zE0 I.ok.pz I.sz,λ b o e hb=>?_,λ b hb z=>?_,I.stack,I.bB⟩,
  rfl,I.bare,Un.laid old (zA4 _) hDn,⟨m1,hns,λ i x v e1 e2 e3=>?_⟩,λ x c e=>?_,?_,λ x c e=>?_,λ p hp=>absurd (show p∈([]:List (Addr×Obj)) from hp) (by simp),I.zD.laid old (zA4 _) ?_,?_⟩
 .exact Option.isSome_iff_exists.mp (c2 x (b_ S.Zr hx))
 .rcases (hfp b hb).2.2.2.1 with z | z
  .exact I.ok.mv b o e z
  .exact absurd (zC3 (zA8 (I.ok.bs b o e).1) z) (zE1 _)
 .rcases zA5.mp (I.i0 b z) with q | q
  .exact (hfp b hb).2.1 q
  .exact (hfp b hb).2.2.1 q
 .obtain⟨j,p1,p2⟩:=uv.get e2;obtain⟨q1,q2⟩:=om.get S.ok e1 p1;obtain⟨m0,n0,l0⟩:=I.loc;have hm:(x,NameKind.free)∈scope.names:=PySem.mem_of_lookup q2;have hk:X.env.scope.names.lookup x=some .cell\/X.env.scope.names.lookup x=some .free:=S.free _ hm rfl;obtain⟨u,r,l⟩:=l0 j x v q1 p2 (.inr hk);refine⟨u,r,.inr ⟨Z5 q2,?_⟩⟩;rcases l with ⟨k,_⟩ | ⟨_,c,e,z⟩
  .have k':X.env.scope.names.lookup x=some .local:=k;rcases hk with hk | hk <;> (rw[k'] at hk;cases hk)
  .obtain⟨c',e'⟩:=Option.isSome_iff_exists.mp (c2 x hm);have e'':=(c1 x c' e').2;rw[e] at e'';cases e'';obtain⟨o,z1,z2⟩:=z;exact⟨c,e',o,old _ _ z1,z2⟩
 .obtain⟨v,o,z1,z2⟩:=I.cell x c (c1 x c e).2;exact⟨v,o,old _ _ z1,z2⟩
 .show upd H s.heap.objs.size (.lst []) C=none;rw[yU (Nat.ne_of_gt hC)];exact hCn
 .show upd H s.heap.objs.size (.lst []) c=none;rw[yU (zB3 (clt x c e))];exact I.tP x c (c1 x c e).2
 .exact⟨zD4 _,[],0,.nil,hD⟩
 .show (uv pick B).length=N'.length;unfold uv;rw[zA7];exact S.len
def Pa {B':St}{H':Hp}{s':Shared}{oC:Obj}(I:Inv X pins B H s) (hfp:∀ b∈fp,ui X pins H b) (hC:s.heap.objs.size<C)
  (I':Inv (xf X N' scope cl C s H fp) [] B' H' s') (hoC:s'.heap.get? C=some oC):Inv X (pins++[(C,oC)]) B H' s':=by
 have J:Inv X pins B H' s':=I.N4 (ch:=fp) I'.os I'.base I'.zD I'.bare λ b hb=>⟨(hfp b hb).2.2.2.1,(hfp b hb).2.1,(hfp b hb).2.2.2.2.1,(hfp b hb).2.2.2.2.2⟩;refine J.gG λ p hp=>(zB9.mp hp).elim (λ z=>J.pin p (zB4 _ z)) λ z=>?_;obtain rfl:p=(C,oC):=zB6.mp z;refine⟨hoC,I'.free,Nat.ne_of_gt (Nat.lt_trans I.lt hC),I.Zo (zE3 hC),λ v hv=>?_⟩;obtain⟨m,⟨o,es,ep,ho,hd,_⟩,_⟩:=I'.loc;have ho':s'.heap.get? C=some o:=ho;rw[hoC] at ho';cases ho';rw[hd] at hv;cases hv
def ZX {B':St}{H':Hp}{s':Shared}{oC:Obj}{h':Heap}(I:Inv X pins B H s) (hC:s.heap.objs.size<C) (J:Inv X (pins++[(C,oC)]) B' H' s') (hs:Heap.SameBut C s'.heap h'):Inv X pins B' H' { s' with heap:=h' }:=by
 have J':=J.nF;have hp:=J.pin (C,oC) (zB4 _ (zB4 _ (zB6.mpr rfl)));have lt:∀ c,c<s.heap.objs.size->c≠C:=λ c h=>zB3 (Nat.lt_trans h hC);refine J'.turned (t':=s'.toks) (it:=C) (λ b o hb e=>hs.extBut b o hb e) hp.2.1 hp.2.2.1 (.inr (zE0 I.sz (zE3 hC))) (λ x c e z=>?_) (λ p hq z=>?_)
 .obtain⟨v,q⟩:=I.cell x c e;exact lt c q.lt z
 .exact lt p.1 (zA8 (I.pin p hq).1) z
end
section
variable {X:Cx}{N':List Str}{pick:List (Option Nat)}{scope:Scope}{elt iter tg:Expr}{ifs:List Expr}{pos:Pos}{wi:TI}{g:TG}{tc:TT}{te:TE}
def QC {pins:List (Addr×Obj)}{B:St}{H:Hp}{s:Shared}{it C:Addr}{fp:List Addr}{tn:Nat->Heap->Prop}{J:It}{cl:List (Str×Addr)}{W:Nat->Nat->St->Hp->Prop}{Q:V->Hp->Prop}{R:Result->Shared->Prop}{D:Addr}
  (hc:X.calm=true) (hg:PG (xf X N' scope cl C s H fp) tg g) (hf:PF (xf X N' scope cl C s H fp) ifs tc) (he:PE (xf X N' scope cl C s H fp) elt te)
  (T:Turn X.prog X.w X.K tg J fp it tn) (hfp:∀ b∈fp,ui X pins H b) (hstat:∀ b∈fp,b≠C/\b∉vV X.stack/\∀ x c,cl.lookup x=some c->c≠b)
  (turn:∀ i m B H,W i m B H->(J.stop i H/\Q (.ref D) H)\/(J.go i H/\∀ x H',J.pU i H x H'->g x B H' fun B2 H2=>tc B2 H2 λ b H3=>
   if b=true then te B2 H3 λ y H4=>∃ ys m',H4 D=some (.lst ys)/\ys.length<sizeLine/\m'<m/\W (i+1) m' B2 (upd H4 D (.lst (ys++[y]))) else ∃ m',m'<m/\W (i+1) m' B2 H3))
  (fin:∀ B' H' s',Inv (xf X N' scope cl C s H fp) [] B' H' s'->Q (.ref D) H'->R (.ok .next) s')
  {m0:Nat}{B0:St}{H0:Hp}{s0:Shared}(I0:Inv (xf X N' scope cl C s H fp) [] B0 H0 s0) (t0:tn 0 s0.heap) (f0:∀ b∈fp,H0 b=none) (w0:W 0 m0 B0 H0):
  codeAny (model X.prog X.w) X.A (.compLoop (.ListComp elt [⟨tg,iter,ifs,0⟩] scope pos) 0 (.ref it) (.ref D) (compEnvC scope cl C X.env)) R s0:=by
 have stat:∀ {H':Hp},(∀ b∈fp,H' b=none)->∀ b∈fp,ui (xf X N' scope cl C s H fp) [] H' b:=λ hn b hb=>⟨hn b hb,(hstat b hb).1,(hstat b hb).2.1,.inl hb,(hstat b hb).2.2,λ p hp=>absurd (show p∈([]:List (Addr×Obj)) from hp) (by simp)⟩;refine codeAny_loop rfl (λ n s'=>∃ i B' H',Inv (xf X N' scope cl C s H fp) [] B' H' s'/\tn i s'.heap/\(∀ b∈fp,H' b=none)/\W i n B' H') (λ n s3 hI=>?_) m0 ⟨0,B0,H0,I0,t0,f0,w0⟩;obtain⟨i,B3,H3,I3,st3,fr3,w3⟩:=hI;show wpAny _ X.A ((compTurn (.ListComp elt [⟨tg,iter,ifs,0⟩] scope pos) 0 (.ref it) (.ref D) (compEnvC scope cl C X.env)).onRaise (λ x=>do noteFrame x (compEnvC scope cl C X.env);theTreesLotGoes x)) _ _ s3;refine wpAny_noted ?_;rw[compTurn_list];refine zWb (wpAny_standAt (zWb ?_));rcases turn i n B3 H3 w3 with ⟨stop,qn⟩ | ⟨go,step⟩
 .refine zH (T.done (xf X N' scope cl C s H fp) rfl rfl rfl hc i [] s3 B3 H3 _ I3 (stat fr3) st3 stop) λ r s4 ⟨hr,I4⟩=>?_;subst hr;exact zD1 (fin B3 H3 s4 I4 qn)
 .refine zH (T.item (xf X N' scope cl C s H fp) rfl rfl rfl hc i [] s3 B3 H3 _ I3 (stat fr3) st3 go) λ r s4 ⟨u,hr,h4⟩=>?_;subst hr;refine zWb (zH h4 λ _ s5 ⟨x,H5,I5,r5,y5,st5,fr5⟩=>?_);have I5':=I5.pinned (stat fr5) (T.obj _ _ st5);refine zWb (wpAny_mono (hg _ s5 B3 H5 x u _ I5' r5 (step x H5 y5)) (λ _ s6 ⟨B6,H6,I6,q6⟩=>?_) λ _ _ z=>False.elim z);refine zWb (wpAny_mono (hf _ s6 B6 H6 _ I6 q6) (λ ok s7 ⟨H7,I7,q7⟩=>?_) λ _ _ z=>False.elim z);have back:∀ {H8:Hp}{s8:Shared},Inv (xf X N' scope cl C s H fp) ([]++nS fp s5.heap) B6 H8 s8->(∃ m',m'<n/\W (i+1) m' B6 H8)->∃ m,m<n/\∃ i B' H',Inv (xf X N' scope cl C s H fp) [] B' H' s8/\tn i s8.heap/\(∀ b∈fp,H' b=none)/\W i m B' H':=λ{H8 s8} I8 ⟨m',hm,w8⟩=>by
   refine⟨m',hm,i+1,B6,H8,I8.nF,T.keep _ _ _ st5 λ b hb o e=>(I8.pin (b,o) (zB4 _ (zB4 _ (jb hb e)))).1,λ b hb=>?_,w8⟩;obtain⟨o,e,d⟩:=T.obj _ _ st5 b hb;exact (I8.pin (b,o) (zB4 _ (zB4 _ (jb hb e)))).2.1
  cases ok with
  | false=>
   rw[if_neg Bool.false_ne_true] at q7;exact zD1 ⟨rfl,back I7 q7⟩
  | true=>
   rw[if_pos rfl] at q7;refine zWb (zWb (wpAny_mono (he _ s7 B6 H7 _ I7 q7) (λ uy s8 ⟨y,H8,I8,r8,ys,m',e8,z8,hm,w8⟩=>?_) λ _ _ z=>False.elim z));refine zWb (wpAny_mono (Zx (X:=xf X N' scope cl C s H fp) _ s8 B6 H8 (.ref D) [y] (.ref D) [uy] (λ _ H9=>W (i+1) m' B6 H9) I8 rfl (.cons r8 .nil) ⟨D,ys,y,rfl,rfl,e8,z8,w8⟩) (λ _ s9 ⟨_,H9,I9,_,q9⟩=>?_) λ _ _ z=>False.elim z);exact zD1 (zD1 ⟨rfl,back I9 ⟨m',hm,q9⟩⟩)
def ZG {pins:List (Addr×Obj)}{B:St}{H:Hp}{s:Shared}{it:Addr}{fp:List Addr}{tn:Nat->Heap->Prop}{J:It}{cl:List (Str×Addr)}{Q:V->Hp->Prop}{E:Value->Shared->Prop}{RR:Value->Addr->Result->Shared->Prop}
  (S:pS X N' pick scope) (hc:X.calm=true) (hg:∀ cl C s H fp,PG (xf X N' scope cl C s H fp) tg g) (hf:∀ cl C s H fp,PF (xf X N' scope cl C s H fp) ifs tc) (he:∀ cl C s H fp,PE (xf X N' scope cl C s H fp) elt te)
  (c1:∀ x c,cl.lookup x=some c->(x,NameKind.free)∈scope.names/\X.env.cells.lookup x=some c) (c2:∀ x,(x,NameKind.free)∈scope.names->(cl.lookup x).isSome)
  (I:Inv X pins B H s) (T:Turn X.prog X.w X.K tg J fp it tn) (t0:tn 0 s.heap) (hfp:∀ b∈fp,ui X pins H b)
  (rd:∀ D,H D=none->∃ W:Nat->Nat->St->Hp->Prop,(∃ m,W 0 m (uv pick B) (upd H D (.lst [])))/\
   ∀ i m B H,W i m B H->(J.stop i H/\Q (.ref D) H)\/(J.go i H/\∀ x H',J.pU i H x H'->g x B H' fun B2 H2=>tc B2 H2 λ b H3=>
    if b=true then te B2 H3 λ y H4=>∃ ys m',H4 D=some (.lst ys)/\ys.length<sizeLine/\m'<m/\W (i+1) m' B2 (upd H4 D (.lst (ys++[y]))) else ∃ m',m'<m/\W (i+1) m' B2 H3))
  (fin:∀ C D oC H' s',s.heap.objs.size<C->Inv X (pins++[(C,oC)]) B H' s'->s'.heap.get? C=some oC->(∃ m,s'.heap.Ns C m)->Q (.ref D) H'->RR (.ref D) C (.ok .next) s'):
  wpAny (model X.prog X.w) X.A (newList []) (λ acc s₃=>wpAny (model X.prog X.w) X.A (newFunctionEnv scope X.env.globals cl [] X.env.qual none .none (some X.env)) (λ cenv s₄=>
   codeAny (model X.prog X.w) X.A (.compStart (.ListComp elt [⟨tg,iter,ifs,0⟩] scope pos) 0 (.ref it) acc { cenv with scope:=relabel scope X.env }) (RR acc cenv.locals) s₄) E s₃) E s:=by
 refine wpAny_newObj_type (wpAny_newFunctionEnv S.Zr (by intro y hy;simp at hy) (λ h₁ hns₁ hsb₁=>?_) S.kind);dsimp only at hns₁ hsb₁ ⊢;generalize hH2:s.heap.push { cls:=.type "list",dict:=none,data:=.seq ([]:List Value).toArray }=H2 at hns₁ hsb₁ ⊢;have hC:H2.objs.size=s.heap.objs.size+1:=by rw[<- hH2,Heap.size_push]
 have hlt:s.heap.objs.size<H2.objs.size:=by rw[hC];exact zE2 _
 have old:∀ b o,s.heap.get? b=some o->h₁.get? b=some o:=λ b o e=>hsb₁.extBut b o (zB3 (Nat.lt_trans (zA8 e) hlt)) (zHp _ (hH2▸zHp _ e));have hacc:h₁.get? s.heap.objs.size=some { cls:=.type "list",data:=.seq #[] 0 }:=hsb₁.extBut _ _ (zB3 hlt) (zHp _ (hH2▸zA9 _ rfl));have hflt:∀ b∈fp,b<s.heap.objs.size:=λ b hb=>by
  obtain⟨o,e,_⟩:=T.obj _ _ t0 b hb;exact zA8 e
 have hDn:H s.heap.objs.size=none:=I.zD.fresh (zA4 _);obtain⟨W,⟨m0,w0⟩,turn⟩:=rd s.heap.objs.size hDn;have I0:=Pc (t':=s.toks+([]:List (Str×Value)).length) S I hfp hflt c1 c2 hlt old hns₁ hacc;have t1:tn 0 h₁:=T.keep _ _ _ t0 λ b _ o e=>old b o e;have hst:∀ b∈fp,b≠H2.objs.size/\b∉vV X.stack/\∀ x c,cl.lookup x=some c->c≠b:=λ b hb=>I0.ok.eB b hb |> λ q=>⟨q.1,I0.ok.mN b hb,q.2⟩
 have loop:codeAny (model X.prog X.w) X.A (.compLoop (.ListComp elt [⟨tg,iter,ifs,0⟩] scope pos) 0 (.ref it) (.ref s.heap.objs.size) (compEnvC scope cl H2.objs.size X.env)) (RR (.ref s.heap.objs.size) H2.objs.size) { s with heap:=h₁,toks:=s.toks+([]:List (Str×Value)).length }:=by
  refine QC (B:=B) hc (hg _ _ _ _ _) (hf _ _ _ _ _) (he _ _ _ _ _) T hfp hst turn (fun B' H' s' I' q=>?_) I0 t1 (λ b hb=>?_) w0
  .obtain⟨m,hn,_⟩:=I'.loc;have hn':s'.heap.Ns H2.objs.size m:=hn;obtain⟨oC,es,ep,ho,hr⟩:=id hn';exact fin _ _ oC H' s' hlt (Pa I hfp hlt I' ho) ho ⟨m,hn'⟩ q
  .show upd H s.heap.objs.size (.lst []) b=none;rw[yU (zB3 (hflt b hb))];exact (hfp b hb).1
 exact codeAny_compStart_list loop (T.self _ 0 _ _ _ t1 loop)
def Tb (S:pS X N' pick scope) (hc:X.calm=true) (hi:PI X tg iter wi) (hg:∀ cl C s H fp,PG (xf X N' scope cl C s H fp) tg g) (hf:∀ cl C s H fp,PF (xf X N' scope cl C s H fp) ifs tc) (he:∀ cl C s H fp,PE (xf X N' scope cl C s H fp) elt te)
  (hs:∀ x,foldedSetIterable iter X.env x=pure x:=by intro _;rfl):PE X (.ListComp elt [⟨tg,iter,ifs,0⟩] scope pos) (iu pick wi g tc te):=by
 intro pins s B H Q I h;obtain⟨cl,hclos,c1,c2⟩:=Xb (scope:=scope) (env:=X.env) λ y hy hk=>I.ok.has y.1 (S.free y hy hk);rw[eval_ListComp];refine wpAny_comprehension_free (use:=none) rfl hs hclos S.kind S.names (zH (hi pins s B H _ I h) λ v s1 h1=>zH h1 λ itv s2 h2=>?_);obtain⟨it,fp,tn,J,H2,e,I2,T,st2,f2,rd⟩:=h2;subst e;refine ZG (RR:=λ acc C=>compPost (model X.prog X.w) X.A X.xe none (EP X pins B Q) acc C) S hc hg hf he c1 c2 I2 T st2 f2 rd λ C D oC H' s' hC J' ho hn q=>?_;obtain⟨m,hn⟩:=hn;exact⟨m,hn,λ h' hs'=>⟨.ref D,H',ZX I2 hC J' hs',rfl,q⟩⟩
def Uu {i:Nat}{y:Str}{py spos:Pos}(S:pS X N' pick scope) (hc:X.calm=true) (hi:PI X tg iter wi) (hg:∀ cl C s H fp,PG (xf X N' scope cl C s H fp) tg g) (hf:∀ cl C s H fp,PF (xf X N' scope cl C s H fp) ifs tc) (he:∀ cl C s H fp,PE (xf X N' scope cl C s H fp) elt te)
  (hN:X.N.Nodup) (hy:X.N[i]?=some y) (hx:Loc X.env.scope y)
  (hsw:swapsWith (.ListComp elt [⟨tg,iter,ifs,0⟩] scope pos) (some (.Name y py)) spos.line X.env=pure true:=by rfl)
  (hfn:X.fn y=true\/X.env.scope.names.lookup y=some .local:=by first | exact .inl rfl | exact .inr rfl | assumption)
  (hs:∀ x,foldedSetIterable iter X.env x=pure x:=by intro _;rfl):PS X (.Assign [.Name y py] (.ListComp elt [⟨tg,iter,ifs,0⟩] scope pos) spos) (kq (iu pick wi g tc te) (oQ i)):=by
 intro pins s B H Q I h;obtain⟨cl,hclos,c1,c2⟩:=Xb (scope:=scope) (env:=X.env) λ y hy hk=>I.ok.has y.1 (S.free y hy hk);rw[exec_Assign_Name_used _ _ _ _ hsw];refine zWb (wpAny_standAt (zWb ?_));show wpAny _ X.A (do let _ <- comprehension (.ListComp elt [⟨tg,iter,ifs,0⟩] scope pos) scope X.env _ (newList []) false (eval iter X.env) (some (assign (.Name y py) X.env))) _ _ s;refine zWb (wpAny_mono (wpAny_comprehension_free (use:=some (assign (.Name y py) X.env)) (Q:=λ _ s'=>SP X pins Q .next s') rfl hs hclos S.kind S.names
  (zH (hi pins s B H _ I h) λ v s1 h1=>zH h1 λ itv s2 h2=>?_)) (λ _ s' hq=>zD1 (zD1 hq)) λ _ _ e=>e)
 obtain⟨it,fp,tn,J,H2,e,I2,T,st2,f2,rd⟩:=h2;subst e;refine ZG (Q:=λ x H1=>oQ i x B H1 Q.nx) (RR:=λ acc C=>compPost (model X.prog X.w) X.A X.xe (some (assign (.Name y py) X.env)) (λ _ s'=>SP X pins Q .next s') acc C) S hc hg hf he c1 c2 I2 T st2 f2 rd λ C D oC H' s' hC J' ho hn q=>?_;show wpAny _ X.A (assign (.Name y py) X.env (.ref D)) _ _ _;refine wpAny_assign_Name (iz J' hN hy hx (v:=.ref D) rfl (λ s3 J3=>?_) hfn);have hp:=(J3.pin (C,oC) (zB4 _ (zB4 _ (zB6.mpr rfl)))).1;obtain⟨m,o,es,ep,ho',hr⟩:=hn;have:o=oC:=zD5 (ho'.symm.trans ho);subst this;exact⟨m,⟨o,es,ep,hp,hr⟩,λ h' hs'=>⟨_,H',ZX I2 hC J3 hs',q⟩⟩
end
end L2
namespace L3
open PySem PySem.Spec L2
open PyProof.Rows hiding St
inductive D where
 | zj | bl (b:Bool) | int (i:Int) | str (x:Str) | tup (ds:List D) | yO (ds:List D) | ref (a:Addr)
def nr (K:zFr) (H:Hp) (a:Addr) (xs:List V):Prop:=
 (∃ o,H a=some (.wG o (.lst xs)))\/
  ∃ (o:Obj) (its:Array Value) (n:Nat),K.lookup a=some o/\o.cls=.type "list"/\o.dict=none/\o.data=.seq its n/\its.size<=sizeLine/\Vals xs its.toList
def nr.sq {K:zFr}{H:Hp}{a:Addr}{xs:List V}(h:nr K H a xs):zV K H a xs:=by
 rcases h with h | h
 .exact .inl (.inr h)
 .exact .inr h
mutual
noncomputable def zi (K:zFr) (H:Hp):D->V->Prop
 | .zj,v=>v=.zj
 | .bl b,v=>v=.bl b
 | .int i,v=>v=.int i
 | .str x,v=>v=.str x
 | .tup ds,v=>∃ a xs,v=.ref a/\ya K H a xs/\zo K H ds xs
 | .yO ds,v=>∃ a xs,v=.ref a/\nr K H a xs/\zo K H ds xs
 | .ref a,v=>v=.ref a
noncomputable def zo (K:zFr) (H:Hp):List D->List V->Prop
 | [],xs=>xs=[]
 | d::ds,xs=>∃ x r,xs=x::r/\zi K H d x/\zo K H ds r
end
structure Ext (H H':Hp):Prop where
 tup:∀ b xs,H b=some (.tup xs)->H' b=some (.tup xs)
 wG:∀ b o u,H b=some (.wG o u)->H' b=some (.wG o u)
def Ext.refl (H:Hp):Ext H H:=⟨λ _ _ h=>h,λ _ _ _ h=>h⟩
def Ext.trans {H H1 H2:Hp}(a:Ext H H1) (b:Ext H1 H2):Ext H H2:=⟨λ c xs h=>b.tup c xs (a.tup c xs h),λ c o u h=>b.wG c o u (a.wG c o u h)⟩
def Ext.new {H:Hp}{p:Addr}(h:H p=none) (o:HO):Ext H (upd H p o):=
 ⟨λ b xs q=>by rw[yU (rY q h)];exact q,λ b ob u q=>by rw[yU (rY q h)];exact q⟩
theorem Ext.lst {H:Hp}{p:Addr}{xs:List V}(h:H p=some (.lst xs)) (o:HO):Ext H (upd H p o):=
 ⟨λ b ys q=>by rw[yU (my q h (by intro z;cases z))];exact q,λ b ob u q=>by rw[yU (my q h (by intro z;cases z))];exact q⟩
def Ext.ku {K:zFr}{H H':Hp}{a:Addr}{xs:List V}(e:Ext H H') (h:ya K H a xs):ya K H' a xs:=by
 rcases h with (h | ⟨o,h⟩) | h
 .exact .inl (.inl (e.tup _ _ h))
 .exact .inl (.inr ⟨o,e.wG _ _ _ h⟩)
 .exact .inr h
def Ext.kx {K:zFr}{H H':Hp}{a:Addr}{xs:List V}(e:Ext H H') (h:nr K H a xs):nr K H' a xs:=by
 rcases h with ⟨o,h⟩ | h
 .exact .inl ⟨o,e.wG _ _ _ h⟩
 .exact .inr h
section
variable {K:zFr}{H H':Hp}
mutual
theorem zi.ext (e:Ext H H'):∀ (d:D) {v:V},zi K H d v->zi K H' d v
 | .zj,v,h=>by simpa only [zi] using h
 | .bl b,v,h=>by simpa only [zi] using h
 | .int i,v,h=>by simpa only [zi] using h
 | .str x,v,h=>by simpa only [zi] using h
 | .ref a,v,h=>by simpa only [zi] using h
 | .tup ds,v,h=>by
  simp only[zi] at h ⊢;obtain⟨a,xs,h1,h2,h3⟩:=h;exact⟨a,xs,h1,e.ku h2,zo.ext e ds h3⟩
 | .yO ds,v,h=>by
  simp only[zi] at h ⊢;obtain⟨a,xs,h1,h2,h3⟩:=h;exact⟨a,xs,h1,e.kx h2,zo.ext e ds h3⟩
theorem zo.ext (e:Ext H H'):∀ (ds:List D) {xs:List V},zo K H ds xs->zo K H' ds xs
 | [],xs,h=>by simpa only [zo] using h
 | d::ds,xs,h=>by
  simp only[zo] at h ⊢;obtain⟨x,r,h1,h2,h3⟩:=h;exact⟨x,r,h1,zi.ext e d h2,zo.ext e ds h3⟩
end
theorem zo.length:∀ {ds:List D}{xs:List V},zo K H ds xs->ds.length=xs.length
 | [],xs,h=>by simp only[zo] at h;subst h;rfl
 | d::ds,xs,h=>by
  simp only[zo] at h;obtain⟨x,r,h1,_,h3⟩:=h;subst h1;simp[zo.length h3]
theorem zo.get:∀ {ds:List D}{xs:List V}{i:Nat}{d:D},zo K H ds xs->ds[i]?=some d->∃ x,xs[i]?=some x/\zi K H d x
 | [],_,i,d,_,e=>by simp at e
 | c::ds,xs,i,d,h,e=>by
  simp only[zo] at h;obtain⟨x,r,h1,h2,h3⟩:=h;subst h1;cases i with
  | zero=>simp at e;subst e;exact⟨x,rfl,h2⟩
  | succ i=>
   obtain⟨y,e1,e2⟩:=zo.get (i:=i) h3 (by simpa using e);exact⟨y,by simpa using e1,e2⟩
theorem zo.append:∀ {ds es:List D}{xs ys:List V},zo K H ds xs->zo K H es ys->zo K H (ds++es) (xs++ys)
 | [],es,xs,ys,h,h'=>by simp only[zo] at h;subst h;simpa using h'
 | d::ds,es,xs,ys,h,h'=>by
  simp only[zo] at h;obtain⟨x,r,h1,h2,h3⟩:=h;subst h1;show zo K H (d::(ds++es)) (x::(r++ys));simp only[zo];exact⟨x,r++ys,rfl,h2,zo.append h3 h'⟩
def zo.nil:zo K H [] []:=by simp only[zo]
def zo.cons {d:D}{ds:List D}{x:V}{xs:List V}(h:zi K H d x) (h':zo K H ds xs):zo K H (d::ds) (x::xs):=by
 simp only[zo];exact⟨x,xs,rfl,h,h'⟩
def zo.snoc {d:D}{ds:List D}{x:V}{xs:List V}(h':zo K H ds xs) (h:zi K H d x):zo K H (ds++[d]) (xs++[x]):=h'.append (.cons h .nil)
theorem zo.ints:∀ {ns:List Int}{xs:List V},zo K H (ns.map D.int) xs->xs=ns.map V.int
 | [],xs,h=>by simpa only [List.map_nil,zo] using h
 | n::ns,xs,h=>by
  rw[zA6] at h;simp only[zo,zi] at h;obtain⟨x,r,h1,h2,h3⟩:=h;subst h1 h2;rw[zA6,zo.ints h3]
theorem zo.fk:∀ (ns:List Int),zo K H (ns.map D.int) (ns.map V.int)
 | []=>.nil
 | n::ns=>.cons (by simp only[zi]) (zo.fk ns)
theorem zo.bools:∀ {ns:List Bool}{xs:List V},zo K H (ns.map D.bl) xs->xs=ns.map V.bl
 | [],xs,h=>by simpa only [List.map_nil,zo] using h
 | n::ns,xs,h=>by
  rw[zA6] at h;simp only[zo,zi] at h;obtain⟨x,r,h1,h2,h3⟩:=h;subst h1 h2;rw[zA6,zo.bools h3]
end
inductive O where
 | lst (ds:List D)
 | ye (kvs:List (Key×D))
abbrev SS:=Addr->Option O
def xp (K:zFr) (H:Hp):List (Key×D)->List (Key×V)->Prop:=Paired λ p q=>p.1=q.1/\zi K H p.2 q.2
noncomputable def pH (K:zFr) (H:Hp) (a:Addr):O->Prop
 | .lst ds=>∃ xs,H a=some (.lst xs)/\zo K H ds xs
 | .ye kvs=>∃ vs,H a=some (.dK vs)/\xp K H kvs vs
def zO (K:zFr) (H:Hp) (S:SS):Prop:=∀ a o,S a=some o->pH K H a o
noncomputable def ups (S:SS) (a:Addr) (o:O):SS:=λ b=>if b=a then some o else S b
def t7 {S:SS}{a:Addr}{o:O}:ups S a o a=some o:=by unfold ups;rw[if_pos rfl]
def um {S:SS}{a b:Addr}{o:O}(h:b≠a):ups S a o b=S b:=by unfold ups;rw[if_neg h]
def Sx (S S':SS):Prop:=∀ b o,S b=some o->S' b=some o
def Sx.refl (S:SS):Sx S S:=λ _ _ h=>h
def Sx.trans {S S1 S2:SS}(a:Sx S S1) (b:Sx S1 S2):Sx S S2:=λ c o h=>b c o (a c o h)
def Sx.new {S:SS}{p:Addr}(h:S p=none) (o:O):Sx S (ups S p o):=λ b u q=>by
 rw[um (by intro z;subst z;rw[h] at q;cases q)];exact q
theorem Sx.none {S S':SS}(e:Sx S S') {p:Addr}(h:S' p=Option.none):S p=Option.none:=by
 cases q:S p with
 | none=>rfl
 | some o=>rw[e p o q] at h;cases h
section
variable {K:zFr}{H H':Hp}{S:SS}
def pH.has {a:Addr}{o:O}(h:pH K H a o):H a≠none:=by
 cases o with
 | lst ds=>obtain⟨xs,h,_⟩:=h;rw[h];simp
 | ye kvs=>obtain⟨xs,h,_⟩:=h;rw[h];simp
theorem zO.none (r:zO K H S) {p:Addr}(h:H p=Option.none):S p=Option.none:=by
 cases q:S p with
 | none=>rfl
 | some o=>exact absurd h (r p o q).has
theorem xp.ext (e:Ext H H') {kvs:List (Key×D)}{vs:List (Key×V)}(h:xp K H kvs vs):xp K H' kvs vs:=
 Paired.jd h λ p q z=>⟨z.1,zi.ext e p.2 z.2⟩
def pH.keep {a:Addr}{o:O}(e:Ext H H') (k:∀ u,H a=some u->H' a=some u) (h:pH K H a o):pH K H' a o:=by
 cases o with
 | lst ds=>obtain⟨xs,h1,h2⟩:=h;exact⟨xs,k _ h1,zo.ext e ds h2⟩
 | ye kvs=>obtain⟨xs,h1,h2⟩:=h;exact⟨xs,k _ h1,h2.ext e⟩
theorem zO.keep (e:Ext H H') (k:∀ a u o,S a=some o->H a=some u->H' a=some u) (r:zO K H S):zO K H' S:=λ a o h=>(r a o h).keep e λ u q=>k a u o h q
theorem zO.new {p:Addr}{u:HO}(hp:H p=Option.none) (r:zO K H S):zO K (upd H p u) S:=
 r.keep (Ext.new hp u) λ a v o _ q=>by rw[yU (rY q hp)];exact q
theorem zO.ups {p:Addr}{u:HO}{o:O}(e:Ext H (upd H p u)) (hn:pH K (upd H p u) p o) (r:zO K H S):zO K (upd H p u) (ups S p o):=λ a o' h=>by
 by_cases ha:a=p
 .subst ha;rw[t7] at h;cases h;exact hn
 .rw[um ha] at h;exact (r a o' h).keep e λ v q=>by rw[yU ha];exact q
end
abbrev yn:=List (Option D)
def yY (K:zFr) (H:Hp) (Y:yn) (B:St):Prop:=Y.length=B.length/\∀ (i:Nat) (d:D),Y[i]?=some (some d)->∃ v,B[i]?=some (some v)/\zi K H d v
theorem yY.ext {K:zFr}{H H':Hp}{Y:yn}{B:St}(e:Ext H H') (r:yY K H Y B):yY K H' Y B:=⟨r.1,λ i d h=>by
 obtain⟨v,h1,h2⟩:=r.2 i d h;exact⟨v,h1,zi.ext e d h2⟩⟩
theorem yY.set {K:zFr}{H:Hp}{Y:yn}{B:St}(i:Nat) {d:D}{v:V}(r:yY K H Y B) (h:zi K H d v):yY K H (Y.set i (some d)) (B.set i (some v)):=by
 refine⟨by rw[List.length_set,List.length_set];exact r.1,λ j c hc=>?_⟩;rw[List.getElem?_set] at hc ⊢;by_cases hj:i=j
 .subst hj;rw[if_pos rfl] at hc ⊢;by_cases hl:i < Y.length
  .rw[if_pos hl] at hc;rw[if_pos (by rw[<- r.1];exact hl)];cases hc;exact⟨v,rfl,h⟩
  .rw[if_neg hl] at hc;cases hc
 .rw[if_neg hj] at hc ⊢;exact r.2 j c hc
abbrev DK:=D->SS->Prop
abbrev zu:=yn->SS->DK->Prop
abbrev yN:=yn->SS->(Bool->SS->Prop)->Prop
abbrev yv:=yn->SS->(List D->SS->Prop)->Prop
def ym (t:zu):Prop:=∀ Y S (Q Q':DK),(∀ d S',Q d S'->Q' d S')->t Y S Q->t Y S Q'
def vg (t:yN):Prop:=∀ Y S (Q Q':Bool->SS->Prop),(∀ d S',Q d S'->Q' d S')->t Y S Q->t Y S Q'
def sj (t:yv):Prop:=∀ Y S (Q Q':List D->SS->Prop),(∀ d S',Q d S'->Q' d S')->t Y S Q->t Y S Q'
noncomputable def wX (K:zFr) (H:Hp) (Q:VK):DK:=λ d S'=>∀ v H',zi K H' d v->Ext H H'->zO K H' S'->Q v H'
def mU (K:zFr) (H:Hp) (Q:Bool->Hp->Prop):Bool->SS->Prop:=λ b S'=>∀ H',Ext H H'->zO K H' S'->Q b H'
def O3 (K:zFr) (H:Hp) (Q:List V->Hp->Prop):List D->SS->Prop:=λ ds S'=>∀ vs H',zo K H' ds vs->Ext H H'->zO K H' S'->Q vs H'
def vE (K:zFr) (H:Hp) (Q:St->Hp->Prop):yn->SS->Prop:=fun Y S'=>∀ B H',yY K H' Y B->Ext H H'->zO K H' S'->Q B H'
def wX.ext {K:zFr}{H H':Hp}{Q:VK}(e:Ext H H') {d:D}{S:SS}(h:wX K H Q d S):wX K H' Q d S:=λ v H2 r x q=>h v H2 r (e.trans x) q
def mU.ext {K:zFr}{H H':Hp}{Q:Bool->Hp->Prop}(e:Ext H H') {d:Bool}{S:SS}(h:mU K H Q d S):mU K H' Q d S:=λ H2 x q=>h H2 (e.trans x) q
def vE.ext {K:zFr}{H H':Hp}{Q:St->Hp->Prop}(e:Ext H H') {d:yn}{S:SS}(h:vE K H Q d S):vE K H' Q d S:=λ v H2 r x q=>h v H2 r (e.trans x) q
def zS (K:zFr) (t:zu):TE:=fun B H Q=>∃ Y S,yY K H Y B/\zO K H S/\t Y S (wX K H Q)
def wK (K:zFr) (t:yN):TT:=fun B H Q=>∃ Y S,yY K H Y B/\zO K H S/\t Y S (mU K H Q)
def wL (K:zFr) (t:yv):TA:=fun B H Q=>∃ Y S,yY K H Y B/\zO K H S/\t Y S (O3 K H Q)
structure PD (X:Cx) (e:Expr) (t:zu):Prop where
 mo:ym t
 pe:PE X e (zS X.K t)
structure xP (X:Cx) (e:Expr) (t:yN):Prop where
 mo:vg t
 pt:PT X e (wK X.K t)
structure wa (X:Cx) (es:List Expr) (t:yv):Prop where
 mo:sj t
 pa:PA X es (wL X.K t)
def PE.imp {X:Cx}{e:Expr}{t t':TE}(h:PE X e t) (hi:∀ B H Q,t' B H Q->t B H Q):PE X e t':=λ pins s B H Q I q=>h pins s B H Q I (hi B H Q q)
def PT.imp {X:Cx}{e:Expr}{t t':TT}(h:PT X e t) (hi:∀ B H Q,t' B H Q->t B H Q):PT X e t':=λ pins s B H Q I q=>h pins s B H Q I (hi B H Q q)
def PA.imp {X:Cx}{e:List Expr}{t t':TA}(h:PA X e t) (hi:∀ B H Q,t' B H Q->t B H Q):PA X e t':=λ pos pins s B H Q I q=>h pos pins s B H Q I (hi B H Q q)
def PS.imp {X:Cx}{e:Stmt}{t t':TS}(h:PS X e t) (hi:∀ D B H,t' D B H->t D B H):PS X e t':=λ pins s B H Q I q=>h pins s B H Q I (hi Q B H q)
def wx.imp {X:Cx}{e:List Stmt}{t t':TS}(h:wx X e t) (hi:∀ D B H,t' D B H->t D B H):wx X e t':=λ pins s B H Q I q=>h pins s B H Q I (hi Q B H q)
section
variable {X:Cx}{K:zFr}
def zS.go {t:zu}{B:St}{H:Hp}{Q:VK}{Y:yn}{S:SS}{R:DK}(mo:ym t) (r1:yY K H Y B) (r2:zO K H S) (h:t Y S R) (k:∀ d S' v H',R d S'->zi K H' d v->Ext H H'->zO K H' S'->Q v H'):zS K t B H Q:=
 ⟨Y,S,r1,r2,mo Y S _ _ (λ d S' q v H' a b c=>k d S' v H' q a b c) h⟩
def wK.go {t:yN}{B:St}{H:Hp}{Q:Bool->Hp->Prop}{Y:yn}{S:SS}{R:Bool->SS->Prop}(mo:vg t) (r1:yY K H Y B) (r2:zO K H S) (h:t Y S R) (k:∀ d S' H',R d S'->Ext H H'->zO K H' S'->Q d H'):wK K t B H Q:=
 ⟨Y,S,r1,r2,mo Y S _ _ (λ d S' q H' b c=>k d S' H' q b c) h⟩
def wL.go {t:yv}{B:St}{H:Hp}{Q:List V->Hp->Prop}{Y:yn}{S:SS}{R:List D->SS->Prop}(mo:sj t) (r1:yY K H Y B) (r2:zO K H S) (h:t Y S R) (k:∀ d S' v H',R d S'->zo K H' d v->Ext H H'->zO K H' S'->Q v H'):wL K t B H Q:=
 ⟨Y,S,r1,r2,mo Y S _ _ (λ d S' q v H' a b c=>k d S' v H' q a b c) h⟩
def yr (i:Nat):zu:=fun Y S Q=>match Y[i]? with
 | some (some d)=>Q d S
 | _=>False
def dC (d:D):zu:=λ _ S Q=>Q d S
def za (i:Nat) {x:Str}{pos:Pos}(h:PE X (.Name x pos) (iq i)):PD X (.Name x pos) (yr i):=by
 refine⟨fun Y S Q Q' hq h=>?_,PE.imp h fun B H Q hu=>?_⟩
 .unfold yr at h ⊢;split at h
  .exact hq _ _ h
  .exact h
 .obtain⟨Y,S,r1,r2,h⟩:=hu;unfold yr at h;split at h
  .rename_i d e;obtain⟨v,h1,h2⟩:=r1.2 i d e;exact⟨v,h1,h v H h2 (Ext.refl H) r2⟩
  .exact h.elim
def dC.mo (d:D):ym (dC d):=λ _ _ _ _ hq h=>hq _ _ h
def n_ {e:Expr}{d:D}{v:V}(h:PE X e (tC v)) (r:∀ H,zi X.K H d v):PD X e (dC d):=
 ⟨dC.mo d,PE.imp h λ _ H _ ⟨_,_,_,r2,h⟩=>h v H (r H) (Ext.refl H) r2⟩
def zg {i j pos}:PD X (.Constant (.int i) j pos) (dC (.int i)):=n_ Td λ _=>by simp only[zi]
def xQ {i j pos}:PD X (.Constant (.bool i) j pos) (dC (.bl i)):=n_ Tr λ _=>by simp only[zi]
def nY {j pos}:PD X (.Constant .none j pos) (dC .zj):=n_ U_ λ _=>by simp only[zi]
def kL {x j pos}:PD X (.Constant (.str x) j pos) (dC (.str x)):=n_ UT λ _=>by simp only[zi]
abbrev yZ:=D->D->SS->DK->Prop
def xU (f:yZ):Prop:=∀ x y S (Q Q':DK),(∀ d S',Q d S'->Q' d S')->f x y S Q->f x y S Q'
def xI (K:zFr) (f:yZ) (r:R2):Prop:=∀ x y d e H S Q,zi K H d x->zi K H e y->zO K H S->f d e S (wX K H Q)->r x y H Q
def yg (f:yZ) (ta tb:zu):zu:=fun Y S Q=>ta Y S λ x S1=>tb Y S1 λ y S2=>f x y S2 Q
def yg.mo {f:yZ}{ta tb:zu}(hf:xU f) (ha:ym ta) (hb:ym tb):ym (yg f ta tb):=fun Y S Q Q' hq h=>
 ha Y S _ _ (λ x S1 h=>hb Y S1 _ _ (λ y S2 h=>hf x y S2 _ _ hq h) h) h
def kf {f:yZ}{r:R2}{ta tb:zu}(hr:xI K f r) (hf:xU f) (ha:ym ta) (hb:ym tb) {B:St}{H:Hp}{Q:VK}(h:zS K (yg f ta tb) B H Q):nG r (zS K ta) (zS K tb) B H Q:=by
 obtain⟨Y,S,r1,r2,h⟩:=h;refine zS.go ha r1 r2 h λ x S1 v H1 h1 q1 e1 p1=>?_;refine zS.go hb (r1.ext e1) p1 h1 λ y S2 w H2 h2 q2 e2 p2=>?_;exact hr v w x y H2 S2 Q (zi.ext e2 x q1) q2 p2 (hf x y S2 _ _ (λ d S' z=>z.ext (e1.trans e2)) h2)
def oz {a b:Expr}{op:Operator}{pos:Pos}{f:yZ}{r:R2}{ta tb:zu}(ho:yp X (binaryOp op) r) (hr:xI X.K f r) (hf:xU f) (ha:PD X a ta) (hb:PD X b tb):PD X (.BinOp a op b pos) (yg f ta tb):=
 ⟨yg.mo hf ha.mo hb.mo,PE.imp (UX ho ha.pe hb.pe) λ _ _ _ h=>kf hr hf ha.mo hb.mo h⟩
def kO {a b:Expr}{op:CmpOp}{pos:Pos}{f:yZ}{r:R2}{ta tb:zu}(ho:yp X (compareOp op) r) (hr:xI X.K f r) (hf:xU f) (ha:PD X a ta) (hb:PD X b tb) (hm:behindInMarks op b=false):PD X (.Compare a [op] [b] pos) (yg f ta tb):=
 ⟨yg.mo hf ha.mo hb.mo,PE.imp (Tj ho ha.pe hb.pe hm) λ _ _ _ h=>kf hr hf ha.mo hb.mo h⟩
def vF (t:zu):yN:=fun Y S Q=>t Y S λ x S1=>match x with
 | .bl b=>Q b S1
 | _=>False
def vF.mo {t:zu}(h:ym t):vg (vF t):=fun Y S Q Q' hq q=>h Y S _ _ (λ d S' z=>by
 cases d <;> first
  | exact hq _ _ z
  | exact z) q
def sD {a b:Expr}{op:CmpOp}{pos:Pos}{f:yZ}{r:R2}{ta tb:zu}(ho:yp X (compareOp op) r) (hr:xI X.K f r) (hf:xU f) (ha:PD X a ta) (hb:PD X b tb) (hm:behindInMarks op b=false):xP X (.Compare a [op] [b] pos) (vF (yg f ta tb)):=by
 refine⟨vF.mo (yg.mo hf ha.mo hb.mo),PT.imp (Uo ho ha.pe hb.pe hm) fun B H Q h=>?_⟩;obtain⟨Y,S,r1,r2,h⟩:=h;refine kf hr hf ha.mo hb.mo ⟨Y,S,r1,r2,yg.mo hf ha.mo hb.mo Y S _ _ (λ d S' z v H' a b c=>?_) h⟩;cases d with
 | bl k=>simp only[zi] at a;exact⟨k,a,z H' b c⟩
 | zj=>exact z.elim
 | int _=>exact z.elim
 | str _=>exact z.elim
 | tup _=>exact z.elim
 | yO _=>exact z.elim
 | ref _=>exact z.elim
def fI (C:Int->Int->Prop) (g:Int->Int->D):yZ:=λ x y S Q=>match x,y with
 | .int i,.int j=>C i j/\Q (g i j) S
 | _,_=>False
def fI.mo {C:Int->Int->Prop}{g:Int->Int->D}:xU (fI C g):=λ x y S Q Q' hq h=>by
 unfold fI at h ⊢;split at h
 .exact⟨h.1,hq _ _ h.2⟩
 .exact h.elim
def xA (g:Int->Int->D):yZ:=λ x y S Q=>match x,y with
 | .int i,.int j=>Q (g i j) S
 | _,_=>False
def xA.mo {g:Int->Int->D}:xU (xA g):=λ x y S Q Q' hq h=>by
 unfold xA at h ⊢;split at h
 .exact hq _ _ h
 .exact h.elim
def fI.fits {C:Int->Int->Prop}{g:Int->Int->D}{g':Int->Int->V}(hg:∀ i j H,zi K H (g i j) (g' i j)):xI K (fI C g) (rI C g'):=λ x y d e H S Q h1 h2 h3 h=>by
 unfold fI at h;split at h
 .simp only[zi] at h1 h2;exact⟨_,_,h1,h2,h.1,h.2 _ H (hg _ _ H) (Ext.refl H) h3⟩
 .exact h.elim
def xA.fits {g:Int->Int->D}{g':Int->Int->V}(hg:∀ i j H,zi K H (g i j) (g' i j)):xI K (xA g) (vi g'):=λ x y d e H S Q h1 h2 h3 h=>by
 unfold xA at h;split at h
 .simp only[zi] at h1 h2;exact⟨_,_,h1,h2,h _ H (hg _ _ H) (Ext.refl H) h3⟩
 .exact h.elim
variable {a b c:Expr}{ta tb tc:zu}{pos:Pos}
def vm (ha:PD X a ta) (hb:PD X b tb):PD X (.BinOp a .Sub b pos) (yg (xA λ i j=>.int (i-j)) ta tb):=oz TZ (xA.fits λ _ _ _=>by simp only[zi]) xA.mo ha hb
def yK (ha:PD X a ta) (hb:PD X b tb):PD X (.BinOp a .Mod b pos) (yg (fI (λ _ j=>0<j) λ i j=>.int (i%j)) ta tb):=oz Si (fI.fits λ _ _ _=>by simp only[zi]) fI.mo ha hb
def wj (ha:PD X a ta) (hb:PD X b tb):PD X (.BinOp a .FloorDiv b pos) (yg (fI wb λ i j=>.int (i/j)) ta tb):=oz Su (fI.fits λ _ _ _=>by simp only[zi]) fI.mo ha hb
def T7 (ha:PD X a ta) (hb:PD X b tb):PD X (.BinOp a .Pow b pos) (yg (fI pT λ i j=>.int (i ^ j.toNat)) ta tb):=oz T_ (fI.fits λ _ _ _=>by simp only[zi]) fI.mo ha hb
abbrev ju:yZ:=xA λ i j=>.bl (decide (i<=j))
abbrev mL:yZ:=xA λ i j=>.bl (decide (j<i))
abbrev mM:yZ:=xA λ i j=>.bl (decide (j<=i))
def fit_le:xI K ju (vi λ i j=>.bl (decide (i<=j))):=xA.fits λ _ _ _=>by simp only[zi]
def Ys:xI K mL (vi λ i j=>.bl (decide (j<i))):=xA.fits λ _ _ _=>by simp only[zi]
def Yt:xI K mM (vi λ i j=>.bl (decide (j<=i))):=xA.fits λ _ _ _=>by simp only[zi]
def aX (ha:PD X a ta) (hb:PD X b tb):PD X (.Compare a [.Gt] [b] pos) (yg mL ta tb):=kO Zb Ys xA.mo ha hb (ux _)
def aY (ha:PD X a ta) (hb:PD X b tb):PD X (.Compare a [.GtE] [b] pos) (yg mM ta tb):=kO Zc Yt xA.mo ha hb (ux _)
def aG (ha:PD X a ta) (hb:PD X b tb):xP X (.Compare a [.LtE] [b] pos) (vF (yg ju ta tb)):=sD gQ fit_le xA.mo ha hb (ux _)
def nW (ha:PD X a ta) (hb:PD X b tb):xP X (.Compare a [.Gt] [b] pos) (vF (yg mL ta tb)):=sD Zb Ys xA.mo ha hb (ux _)
def kK (ha:PD X a ta) (hb:PD X b tb):xP X (.Compare a [.GtE] [b] pos) (vF (yg mM ta tb)):=sD Zc Yt xA.mo ha hb (ux _)
end
section
variable {X:Cx}{K:zFr}{a b c:Expr}{ta tb tc:zu}{pos:Pos}
def lb (ta tb:zu):zu:=fun Y S Q=>ta Y S λ x S1=>match x with
 | .bl k=>if k=true then tb Y S1 Q else Q (.bl false) S1
 | _=>False
def mX (ta tb:zu):zu:=fun Y S Q=>ta Y S λ x S1=>match x with
 | .bl k=>if k=true then Q (.bl true) S1 else tb Y S1 Q
 | _=>False
def mY (ta:zu):zu:=fun Y S Q=>ta Y S λ x S1=>match x with
 | .bl k=>Q (.bl (!k)) S1
 | _=>False
def wU {c:Prop} [Decidable c] {A B A' B':Prop}(h1:A->A') (h2:B->B') (h:if c then A else B):if c then A' else B':=by
 by_cases q:c
 .rw[if_pos q] at h ⊢;exact h1 h
 .rw[if_neg q] at h ⊢;exact h2 h
def lb.mo (ha:ym ta) (hb:ym tb):ym (lb ta tb):=fun Y S Q Q' hq h=>ha Y S _ _ (λ x S1 z=>by
 cases x <;> first
  | exact wU (hb Y S1 _ _ hq) (hq _ _) z
  | exact z) h
def mX.mo (ha:ym ta) (hb:ym tb):ym (mX ta tb):=fun Y S Q Q' hq h=>ha Y S _ _ (λ x S1 z=>by
 cases x <;> first
  | exact wU (hq _ _) (hb Y S1 _ _ hq) z
  | exact z) h
def mY.mo (ha:ym ta):ym (mY ta):=fun Y S Q Q' hq h=>ha Y S _ _ (λ x S1 z=>by
 cases x <;> first
  | exact hq _ _ z
  | exact z) h
def qM {op} {t:zu}(h:PD X a t):PD X (.BoolOp op [a] pos) t:=⟨h.mo,UY h.pe⟩
variable {rest:List Expr}
def ma (ha:PD X a ta) (hb:PD X (.BoolOp .And (b::rest) pos) tb):PD X (.BoolOp .And (a::b::rest) pos) (lb ta tb):=by
 refine⟨lb.mo ha.mo hb.mo,PE.imp (Ts ha.pe hb.pe) fun B H Q hu=>?_⟩;obtain⟨Y,S,r1,r2,h⟩:=hu;refine zS.go ha.mo r1 r2 h λ x S1 v H1 h1 q1 e1 p1=>?_;cases x with
 | bl k=>
  simp only[zi] at q1;refine⟨k,q1,wU (λ z=>?_) (λ z=>?_) h1⟩
  .exact zS.go hb.mo (r1.ext e1) p1 z λ y S2 w H2 h2 q2 e2 p2=>h2 w H2 q2 (e1.trans e2) p2
  .exact z _ H1 (by simp only[zi]) e1 p1
 | zj=>exact h1.elim
 | int _=>exact h1.elim
 | str _=>exact h1.elim
 | tup _=>exact h1.elim
 | yO _=>exact h1.elim
 | ref _=>exact h1.elim
def gM (ha:PD X a ta) (hb:PD X (.BoolOp .Or (b::rest) pos) tb):PD X (.BoolOp .Or (a::b::rest) pos) (mX ta tb):=by
 refine⟨mX.mo ha.mo hb.mo,PE.imp (UW ha.pe hb.pe) fun B H Q hu=>?_⟩;obtain⟨Y,S,r1,r2,h⟩:=hu;refine zS.go ha.mo r1 r2 h λ x S1 v H1 h1 q1 e1 p1=>?_;cases x with
 | bl k=>
  simp only[zi] at q1;refine⟨k,q1,wU (λ z=>?_) (λ z=>?_) h1⟩
  .exact z _ H1 (by simp only[zi]) e1 p1
  .exact zS.go hb.mo (r1.ext e1) p1 z λ y S2 w H2 h2 q2 e2 p2=>h2 w H2 q2 (e1.trans e2) p2
 | zj=>exact h1.elim
 | int _=>exact h1.elim
 | str _=>exact h1.elim
 | tup _=>exact h1.elim
 | yO _=>exact h1.elim
 | ref _=>exact h1.elim
def aO (ha:PD X a ta):PD X (.UnaryOp .Not a pos) (mY ta):=by
 refine⟨mY.mo ha.mo,PE.imp (UZ ha.pe) fun B H Q hu=>?_⟩;obtain⟨Y,S,r1,r2,h⟩:=hu;refine zS.go ha.mo r1 r2 h λ x S1 v H1 h1 q1 e1 p1=>?_;cases x with
 | bl k=>
  simp only[zi] at q1;exact⟨k,q1,h1 _ H1 (by simp only[zi]) e1 p1⟩
 | zj=>exact h1.elim
 | int _=>exact h1.elim
 | str _=>exact h1.elim
 | tup _=>exact h1.elim
 | yO _=>exact h1.elim
 | ref _=>exact h1.elim
def mS (t u:yN):yN:=fun Y S Q=>t Y S λ k S1=>if k=true then u Y S1 Q else Q false S1
def mQ (t u:yN):yN:=fun Y S Q=>t Y S λ k S1=>if k=true then Q true S1 else u Y S1 Q
def mR (t:yN):yN:=fun Y S Q=>t Y S λ k S1=>Q (!k) S1
variable {t u:yN}
def mS.mo (h:vg t) (h':vg u):vg (mS t u):=fun Y S _ _ hq z=>h Y S _ _ (λ k S1 z=>wU (h' Y S1 _ _ hq) (hq _ _) z) z
def mQ.mo (h:vg t) (h':vg u):vg (mQ t u):=fun Y S _ _ hq z=>h Y S _ _ (λ k S1 z=>wU (hq _ _) (h' Y S1 _ _ hq) z) z
def mR.mo (h:vg t):vg (mR t):=fun Y S _ _ hq z=>h Y S _ _ (λ k S1 z=>hq _ _ z) z
structure xx (X:Cx) (e:Expr) (t:yN):Prop where
 mo:vg t
 pw:PW X e (wK X.K t)
def PW.imp {e:Expr}{t t':TT}(h:PW X e t) (hi:∀ B H Q,t' B H Q->t B H Q):PW X e t':=λ whole pins s B H Q I q=>h whole pins s B H Q I (hi B H Q q)
theorem xx.pt {e:Expr}{t:yN}(h:xx X e t):xP X e t:=⟨h.mo,PW.pt h.pw⟩
def rP (h:xP X a t):xx X (.BoolOp .And [a] pos) t:=⟨h.mo,Uh h.pt⟩
def tH (h:xP X a t):xx X (.BoolOp .Or [a] pos) t:=⟨h.mo,Ue h.pt⟩
def rQ (ha:xP X a t) (hb:xx X (.BoolOp .And (b::rest) pos) u):xx X (.BoolOp .And (a::b::rest) pos) (mS t u):=by
 refine⟨mS.mo ha.mo hb.mo,PW.imp (Ui ha.pt hb.pw) fun B H Q hu=>?_⟩;obtain⟨Y,S,r1,r2,h⟩:=hu;refine wK.go ha.mo r1 r2 h λ k S1 H1 h1 e1 p1=>wU (λ z=>?_) (λ z=>z H1 e1 p1) h1;exact wK.go hb.mo (r1.ext e1) p1 z λ y S2 H2 h2 e2 p2=>h2 H2 (e1.trans e2) p2
def vz (ha:xP X a t) (hb:xx X (.BoolOp .Or (b::rest) pos) u):xx X (.BoolOp .Or (a::b::rest) pos) (mQ t u):=by
 refine⟨mQ.mo ha.mo hb.mo,PW.imp (Ug ha.pt hb.pw) fun B H Q hu=>?_⟩;obtain⟨Y,S,r1,r2,h⟩:=hu;refine wK.go ha.mo r1 r2 h λ k S1 H1 h1 e1 p1=>wU (λ z=>z H1 e1 p1) (λ z=>?_) h1;exact wK.go hb.mo (r1.ext e1) p1 z λ y S2 H2 h2 e2 p2=>h2 H2 (e1.trans e2) p2
def vP (ha:xP X a t):xP X (.UnaryOp .Not a pos) (mR t):=by
 refine⟨mR.mo ha.mo,PT.imp (Um ha.pt) fun B H Q hu=>?_⟩;obtain⟨Y,S,r1,r2,h⟩:=hu;exact wK.go ha.mo r1 r2 h λ k S1 H1 h1 e1 p1=>h1 H1 e1 p1
def mZ (t:yN) (ta tb:zu):zu:=fun Y S Q=>t Y S λ k S1=>if k=true then ta Y S1 Q else tb Y S1 Q
def mZ.mo (h:vg t) (ha:ym ta) (hb:ym tb):ym (mZ t ta tb):=fun Y S _ _ hq z=>h Y S _ _ (λ k S1 z=>wU (ha Y S1 _ _ hq) (hb Y S1 _ _ hq) z) z
def TB (hc:xP X c t) (ha:PD X a ta) (hb:PD X b tb):PD X (.IfExp c a b pos) (mZ t ta tb):=by
 refine⟨mZ.mo hc.mo ha.mo hb.mo,PE.imp (Te hc.pt ha.pe hb.pe) fun B H Q hu=>?_⟩;obtain⟨Y,S,r1,r2,h⟩:=hu;refine wK.go hc.mo r1 r2 h λ k S1 H1 h1 e1 p1=>wU (λ z=>?_) (λ z=>?_) h1
 .exact zS.go ha.mo (r1.ext e1) p1 z λ y S2 w H2 h2 q2 e2 p2=>h2 w H2 q2 (e1.trans e2) p2
 .exact zS.go hb.mo (r1.ext e1) p1 z λ y S2 w H2 h2 q2 e2 p2=>h2 w H2 q2 (e1.trans e2) p2
def vN (d:D) (S:SS) (Q:Bool->SS->Prop):Prop:=match d with
 | .zj=>Q false S
 | .bl k=>Q k S
 | .int i=>Q (i != 0) S
 | .str x=>x.length<=sizeLine/\Q ((x.length:Int) != 0) S
 | .tup ds=>Q (!ds.isEmpty) S
 | .yO ds=>Q (!ds.isEmpty) S
 | .ref p=>match S p with
  | some (.lst ds)=>Q (!ds.isEmpty) S
  | some (.ye kvs)=>Q (!kvs.isEmpty) S
  | none=>False
def YA (ta:zu):yN:=fun Y S Q=>ta Y S λ x S1=>vN x S1 Q
def vN.mo {d:D}{S:SS}{Q Q':Bool->SS->Prop}(hq:∀ k S',Q k S'->Q' k S') (h:vN d S Q):vN d S Q':=by
 cases d with
 | str x=>exact⟨h.1,hq _ _ h.2⟩
 | ref p=>
  unfold vN at h ⊢;dsimp only at h ⊢;split at h
  .exact hq _ _ h
  .exact hq _ _ h
  .exact h
 | _=>exact hq _ _ h
theorem zo.isEmpty {H:Hp}{ds:List D}{xs:List V}(h:zo K H ds xs):ds.isEmpty=xs.isEmpty:=by
 have:=h.length;cases ds <;> cases xs <;> simp_all
def NY {α β:Type}{F:α->β->Prop}{xs:List α}{ys:List β}(h:Paired F xs ys):xs.isEmpty=ys.isEmpty:=by cases h <;> rfl
def vN.fits {H:Hp}{d:D}{v:V}{S:SS}{Q:Bool->Hp->Prop}(r:zi K H d v) (p:zO K H S) (h:vN d S (mU K H Q)):∃ k,dy K v H k/\Q k H:=by
 cases d with
 | zj=>simp only[zi] at r;subst r;exact⟨false,rfl,h H (.refl H) p⟩
 | bl k=>simp only[zi] at r;subst r;exact⟨k,rfl,h H (.refl H) p⟩
 | int i=>simp only[zi] at r;subst r;exact⟨_,rfl,h H (.refl H) p⟩
 | str x=>simp only[zi] at r;subst r;exact⟨_,⟨h.1,rfl⟩,h.2 H (.refl H) p⟩
 | tup ds=>
  simp only[zi] at r;obtain⟨a,xs,rfl,r1,r2⟩:=r;exact⟨_,.inr (.inl ⟨xs,r1,by rw[r2.isEmpty]⟩),h H (.refl H) p⟩
 | yO ds=>
  simp only[zi] at r;obtain⟨a,xs,rfl,r1,r2⟩:=r;exact⟨_,.inl ⟨xs,r1.sq,by rw[r2.isEmpty]⟩,h H (.refl H) p⟩
 | ref a=>
  simp only[zi] at r;subst r;unfold vN at h;dsimp only at h;split at h
  .rename_i ds e;obtain⟨xs,e1,r2⟩:=p a _ e;exact⟨_,.inl ⟨xs,zV.of e1,by rw[r2.isEmpty]⟩,h H (.refl H) p⟩
  .rename_i kvs e;obtain⟨xs,e1,r2⟩:=p a _ e;exact⟨_,.inr (.inr ⟨xs,e1,by rw[NY r2]⟩),h H (.refl H) p⟩
  .exact h.elim
def w9 (ha:PD X a ta) (he:∀ whole,isTrue a X.env whole=(do let v <- whole;standAt a.pos;holding [v] (truthy v)):=by intro _;rfl):xP X a (YA ta):=by
 refine⟨fun Y S Q Q' hq h=>ha.mo Y S _ _ (λ x S1 z=>vN.mo hq z) h,PT.imp (Ul ha.pe he) fun B H Q hu=>?_⟩;obtain⟨Y,S,r1,r2,h⟩:=hu;refine zS.go ha.mo r1 r2 h λ x S1 v H1 h1 q1 e1 p1=>?_;exact vN.fits q1 p1 (vN.mo (λ k S' z=>z.ext e1) h1)
def jy:yv:=λ _ S Q=>Q [] S
def ph (te:zu) (tr:yv):yv:=fun Y S Q=>te Y S λ x S1=>tr Y S1 λ xs S2=>Q (x::xs) S2
variable {e:Expr}{es:List Expr}{te:zu}{tA:yv}
def ph.mo (h:ym te) (h':sj tA):sj (ph te tA):=fun Y S _ _ hq z=>h Y S _ _ (λ x S1 z=>h' Y S1 _ _ (λ xs S2 z=>hq _ _ z) z) z
def zp:wa X [] jy:=⟨λ _ _ _ _ hq h=>hq _ _ h,PA.imp o5 fun B H Q ⟨_,_,_,r2,h⟩=>h [] H .nil (.refl H) r2⟩
def zf (ha:PD X e te) (hr:wa X es tA) (hs:starEach (e::es) X.env=(false,eval e X.env)::starEach es X.env:=by rfl):wa X (e::es) (ph te tA):=by
 refine⟨ph.mo ha.mo hr.mo,PA.imp (qN ha.pe hr.pa hs) fun B H Q hu=>?_⟩;obtain⟨Y,S,r1,r2,h⟩:=hu;refine zS.go ha.mo r1 r2 h λ x S1 v H1 h1 q1 e1 p1=>?_;refine wL.go hr.mo (r1.ext e1) p1 h1 λ xs S2 w H2 h2 q2 e2 p2=>?_;exact h2 (v::w) H2 (.cons (zi.ext e2 x q1) q2) (e1.trans e2) p2
def YK (t:yv):zu:=fun Y S Q=>t Y S λ ds S1=>ds.length<=sizeLine/\Q (.tup ds) S1
def YQ (t:yv):zu:=fun Y S Q=>t Y S λ ds S1=>ds.length<=sizeLine/\∀ p,S1 p=none->Q (.ref p) (ups S1 p (.lst ds))
def x9 {k} (h:wa X es tA):PD X (.Tuple es k pos) (YK tA):=by
 refine⟨fun Y S _ _ hq z=>h.mo Y S _ _ (λ ds S1 z=>⟨z.1,hq _ _ z.2⟩) z,PE.imp (US h.pa) fun B H Q hu=>?_⟩;obtain⟨Y,S,r1,r2,h'⟩:=hu;refine wL.go h.mo r1 r2 h' λ ds S1 xs H1 h1 q1 e1 p1=>⟨by rw[<- q1.length];exact h1.1,λ p hp=>?_⟩;refine h1.2 _ _ ?_ (e1.trans (.new hp _)) (p1.new hp);simp only[zi];exact⟨p,xs,rfl,ya.of yS,zo.ext (.new hp _) ds q1⟩
def wg (h:wa X es tA):PD X (.List es pos) (YQ tA):=by
 refine⟨fun Y S _ _ hq z=>h.mo Y S _ _ (λ ds S1 z=>⟨z.1,λ p hp=>hq _ _ (z.2 p hp)⟩) z,PE.imp (Ta h.pa) fun B H Q hu=>?_⟩;obtain⟨Y,S,r1,r2,h'⟩:=hu;refine wL.go h.mo r1 r2 h' λ ds S1 xs H1 h1 q1 e1 p1=>⟨by rw[<- q1.length];exact h1.1,λ p hp=>?_⟩;refine h1.2 p (p1.none hp) _ _ (by simp only[zi]) (e1.trans (.new hp _)) ?_;exact p1.ups (.new hp _) ⟨xs,yS,zo.ext (.new hp _) ds q1⟩
def xX:yZ:=λ x y S Q=>match x,y with
 | .tup ds,.int i=>match z_ ds i with
  | some d=>Q d S
  | none=>False
 | .yO ds,.int i=>match z_ ds i with
  | some d=>Q d S
  | none=>False
 | .ref p,.int i=>match S p with
  | some (.lst ds)=>match z_ ds i with
   | some d=>Q d S
   | none=>False
  | _=>False
 | _,_=>False
def xX.mo:xU xX:=λ x y S Q Q' hq h=>by
 unfold xX at h ⊢;split at h
 .skip
  split at h
  .exact hq _ _ h
  .exact h
 .skip
  split at h
  .exact hq _ _ h
  .exact h
 .skip
  split at h
  .skip
   split at h
   .exact hq _ _ h
   .exact h
  .exact h.elim
 .exact h.elim
theorem zo.z_ {H:Hp}{ds:List D}{xs:List V}{i:Int}{d:D}(h:zo K H ds xs) (e:L2.z_ ds i=some d):∃ x,L2.z_ xs i=some x/\zi K H d x:=by
 unfold L2.z_ at e ⊢;rw[h.length] at e;cases q:wR xs.length i with
 | none=>rw[q] at e;cases e
 | some j=>
  rw[q] at e;exact h.get e
def xX.fits:xI K xX (aq K):=λ x y d e H S Q h1 h2 h3 h=>by
 unfold xX at h;split at h
 .split at h
  .rename_i q;simp only[zi] at h1 h2;obtain⟨a,xs,rfl,r1,r2⟩:=h1;obtain⟨x',e1,e2⟩:=r2.z_ q;exact .inr (.inl ⟨a,xs,_,x',rfl,h2,r1,e1,h x' H e2 (.refl H) h3⟩)
  .exact h.elim
 .split at h
  .rename_i q;simp only[zi] at h1 h2;obtain⟨a,xs,rfl,r1,r2⟩:=h1;obtain⟨x',e1,e2⟩:=r2.z_ q;exact .inl ⟨a,xs,_,x',rfl,h2,r1.sq,e1,h x' H e2 (.refl H) h3⟩
  .exact h.elim
 .split at h
  .rename_i q0;split at h
   .rename_i q;simp only[zi] at h1 h2;subst h1;obtain⟨xs,r1,r2⟩:=h3 _ _ q0;obtain⟨x',e1,e2⟩:=r2.z_ q;exact .inl ⟨_,xs,_,x',rfl,h2,zV.of r1,e1,h x' H e2 (.refl H) h3⟩
   .exact h.elim
  .exact h.elim
 .exact h.elim
def zw (ha:PD X a ta) (hb:PD X b tb) (hs:X4 b:=by exact λ _ _=>rfl):PD X (.Subscript a b pos) (yg xX ta tb):=
 ⟨yg.mo xX.mo ha.mo hb.mo,PE.imp (Tc QU ha.pe hb.pe hs) λ _ _ _ h=>kf xX.fits xX.mo ha.mo hb.mo h⟩
abbrev xT:=List D->SS->DK->Prop
def ug (f:xT):Prop:=∀ ds S (Q Q':DK),(∀ d S',Q d S'->Q' d S')->f ds S Q->f ds S Q'
def tw (K:zFr) (f:xT) (r:List V->Hp->VK->Prop):Prop:=∀ xs ds H S Q,zo K H ds xs->zO K H S->f ds S (wX K H Q)->r xs H Q
def xY (f:xT) (t:yv):zu:=fun Y S Q=>t Y S λ ds S1=>f ds S1 Q
def xY.mo {f:xT}(hf:ug f) (h:sj tA):ym (xY f tA):=fun Y S _ _ hq z=>h Y S _ _ (λ ds S1 z=>hf ds S1 _ _ hq z) z
def bu {f:xT}{r:List V->Hp->VK->Prop}(hf:ug f) (hr:tw K f r) (h:sj tA) {B:St}{H:Hp}{Q:VK}(hu:zS K (xY f tA) B H Q):km r (wL K tA) B H Q:=by
 obtain⟨Y,S,r1,r2,h'⟩:=hu;refine wL.go h r1 r2 h' λ ds S1 xs H1 h1 q1 e1 p1=>?_;exact hr xs ds H1 S1 Q q1 p1 (hf ds S1 _ _ (λ d S' z=>z.ext e1) h1)
def sF {f:xT}{r:List V->Hp->VK->Prop}{e:Expr}(h:PE X e (km r (wL X.K tA))) (hf:ug f) (hr:tw X.K f r) (ha:sj tA):PD X e (xY f tA):=
 ⟨xY.mo hf ha,PE.imp h λ _ _ _ hu=>bu hf hr ha hu⟩
noncomputable def zM (d:D) (S:SS):Option (List D):=match d with
 | .tup ds=>some ds
 | .yO ds=>some ds
 | .ref p=>match S p with
  | some (.lst ds)=>some ds
  | _=>none
 | _=>none
theorem zM.sq {H:Hp}{S:SS}{d:D}{v:V}{ds:List D}(r:zi K H d v) (p:zO K H S) (e:zM d S=some ds):∃ a xs,v=.ref a/\(zV K H a xs\/ya K H a xs)/\zo K H ds xs:=by
 unfold zM at e;split at e
 .cases e;simp only[zi] at r;obtain⟨a,xs,h1,h2,h3⟩:=r;exact⟨a,xs,h1,.inr h2,h3⟩
 .cases e;simp only[zi] at r;obtain⟨a,xs,h1,h2,h3⟩:=r;exact⟨a,xs,h1,.inl h2.sq,h3⟩
 .split at e
  .rename_i q;cases e;simp only[zi] at r;subst r;obtain⟨xs,h1,h2⟩:=p _ _ q;exact⟨_,xs,rfl,.inl (zV.of h1),h2⟩
  .cases e
 .cases e
def zo.one {H:Hp}{d:D}{xs:List V}(h:zo K H [d] xs):∃ x,xs=[x]/\zi K H d x:=by
 simp only[zo] at h;obtain⟨x,r,rfl,h2,rfl⟩:=h;exact⟨x,rfl,h2⟩
def zo.two {H:Hp}{d d':D}{xs:List V}(h:zo K H [d,d'] xs):∃ x y,xs=[x,y]/\zi K H d x/\zi K H d' y:=by
 simp only[zo] at h;obtain⟨x,r,rfl,h2,y,r',rfl,h3,rfl⟩:=h;exact⟨x,y,rfl,h2,h3⟩
def uC:xT:=λ ds S Q=>match ds with
 | [d]=>match zM d S with
  | some ds=>Q (.int ds.length) S
  | none=>match d with
   | .str z=>z.length<=sizeLine/\Q (.int z.length) S
   | _=>False
 | _=>False
def uC.mo:ug uC:=λ ds S Q Q' hq h=>by
 unfold uC at h ⊢;split at h
 .skip
  split at h
  .exact hq _ _ h
  .split at h
   .exact⟨h.1,hq _ _ h.2⟩
   .exact h.elim
 .exact h.elim
abbrev Ud (K:zFr):List V->Hp->VK->Prop:=λ xs H Q=>(∃ p ys,xs=[.ref p]/\(zV K H p ys\/ya K H p ys)/\Q (.int ys.length) H)\/(∃ z,xs=[.str z]/\z.length<=sizeLine/\Q (.int z.length) H)
def uC.fits:tw K uC (Ud K):=λ xs ds H S Q h0 h2 h=>by
 unfold uC at h;split at h
 .obtain⟨x,hx,h1⟩:=h0.one;subst hx;split at h
  .rename_i e;obtain⟨a,ys,rfl,q,r⟩:=zM.sq h1 h2 e;refine .inl ⟨a,ys,rfl,q,?_⟩;rw[<- r.length];exact h _ H (by simp only[zi]) (.refl H) h2
  .split at h
   .simp only[zi] at h1;subst h1;exact .inr ⟨_,rfl,h.1,h.2 _ H (by simp only[zi]) (.refl H) h2⟩
   .exact h.elim
 .exact h.elim
def uB:xT:=λ ds S Q=>match ds with
 | [d]=>match zM d S with
  | some ds=>∀ p,S p=none->Q (.ref p) (ups S p (.lst ds))
  | none=>False
 | _=>False
def uB.mo:ug uB:=λ ds S Q Q' hq h=>by
 unfold uB at h ⊢;split at h
 .skip
  split at h
  .exact λ p hp=>hq _ _ (h p hp)
  .exact h.elim
 .exact h.elim
def uB.fits:tw K uB (λ xs H Q=>∃ p ys,xs=[.ref p]/\(zV K H p ys\/ya K H p ys)/\∀ l,H l=none->Q (.ref l) (upd H l (.lst ys))):=λ xs ds H S Q h0 h2 h=>by
 unfold uB at h;split at h
 .obtain⟨x,hx,h1⟩:=h0.one;subst hx;split at h
  .rename_i e;obtain⟨a,ys,rfl,q,r⟩:=zM.sq h1 h2 e;refine⟨a,ys,rfl,q,λ l hl=>?_⟩;exact h l (h2.none hl) _ _ (by simp only[zi]) (.new hl _) (h2.ups (.new hl _) ⟨ys,yS,zo.ext (.new hl _) _ r⟩)
  .exact h.elim
 .exact h.elim
def uA:xT:=λ ds S Q=>match ds with
 | [.tup ds]=>Q (.tup ds) S
 | [.yO ds]=>Q (.tup ds) S
 | [.ref p]=>match S p with
  | some (.lst ds)=>Q (.tup ds) S
  | _=>False
 | _=>False
def uA.mo:ug uA:=λ ds S Q Q' hq h=>by
 unfold uA at h ⊢;split at h
 .exact hq _ _ h
 .exact hq _ _ h
 .skip
  split at h
  .exact hq _ _ h
  .exact h.elim
 .exact h.elim
def uA.fits:tw K uA (λ xs H Q=>∃ p ys,xs=[.ref p]/\((zV K H p ys/\∀ l,H l=none->Q (.ref l) (upd H l (.tup ys)))\/(ya K H p ys/\Q (.ref p) H))):=λ xs ds H S Q h0 h2 h=>by
 unfold uA at h;split at h
 .obtain⟨x,hx,h1⟩:=h0.one;subst hx;have h1':=h1;simp only[zi] at h1;obtain⟨a,xs,rfl,r1,r2⟩:=h1;exact⟨a,xs,rfl,.inr ⟨r1,h _ H h1' (.refl H) h2⟩⟩
 .obtain⟨x,hx,h1⟩:=h0.one;subst hx;simp only[zi] at h1;obtain⟨a,xs,rfl,r1,r2⟩:=h1;refine⟨a,xs,rfl,.inl ⟨r1.sq,λ l hl=>h _ _ ?_ (.new hl _) (h2.new hl)⟩⟩;simp only[zi];exact⟨l,xs,rfl,ya.of yS,zo.ext (.new hl _) _ r2⟩
 .obtain⟨x,hx,h1⟩:=h0.one;subst hx;split at h
  .rename_i e;simp only[zi] at h1;subst h1;obtain⟨xs,r1,r2⟩:=h2 _ _ e;refine⟨_,xs,rfl,.inl ⟨zV.of r1,λ l hl=>h _ _ ?_ (.new hl _) (h2.new hl)⟩⟩;simp only[zi];exact⟨l,xs,rfl,ya.of yS,zo.ext (.new hl _) _ r2⟩
  .exact h.elim
 .exact h.elim
def vX (g:Int->Int->D):xT:=λ ds S Q=>match ds with
 | [.int i,.int j]=>Q (g i j) S
 | _=>False
def vX.mo {g:Int->Int->D}:ug (vX g):=λ ds S Q Q' hq h=>by
 unfold vX at h ⊢;split at h
 .exact hq _ _ h
 .exact h.elim
def vX.fits {g:Int->Int->D}{g':Int->Int->V}(hg:∀ i j H,zi K H (g i j) (g' i j)):tw K (vX g) (λ xs H Q=>∃ i j,xs=[.int i,.int j]/\Q (g' i j) H):=λ xs ds H S Q h0 h2 h=>by
 unfold vX at h;split at h
 .obtain⟨x,y,hx,h1,h3⟩:=h0.two;subst hx;simp only[zi] at h1 h3;subst h1 h3;exact⟨_,_,rfl,h _ H (hg _ _ H) (.refl H) h2⟩
 .exact h.elim
def zae:yZ:=λ x y S Q=>match x,y with
 | .ref p,.ref q=>match S p,S q with
  | some (.lst ds),some (.lst es)=>ds.length+es.length<=sizeLine/\∀ r,S r=none->Q (.ref r) (ups S r (.lst (ds++es)))
  | _,_=>False
 | _,_=>False
def tY (to te:zu):zu:=fun Y S Q=>to Y S λ x S1=>match x with
 | .ref p=>(∃ ds,S1 p=some (.lst ds))/\te Y S1 λ y S2=>match S2 p with
  | some (.lst ds)=>ds.length<sizeLine/\Q .zj (ups S2 p (.lst (ds++[y])))
  | _=>False
 | _=>False
def tY.mo {to te:zu}(h:ym to) (h':ym te):ym (tY to te):=fun Y S Q Q' hq z=>h Y S _ _ (λ x S1 z=>by
 cases x with
 | ref p=>
  refine⟨z.1,h' Y S1 _ _ (λ y S2 w=>?_) z.2⟩;split at w
  .exact⟨w.1,hq _ _ w.2⟩
  .exact w.elim
 | _=>exact z) z
def TQ {o e:Expr}{to te:zu}{e0:Expr}(hpe:PE X e0 (iy X.K "list" ay (zS X.K to) (iw (zS X.K te) ir))) (h:ym to) (h':ym te):PD X e0 (tY to te):=by
 refine⟨tY.mo h h',PE.imp hpe fun B H Q hu=>?_⟩;obtain⟨Y,S,r1,r2,z⟩:=hu;refine zS.go h r1 r2 z λ x S1 v H1 h1 q1 e1 p1=>?_;cases x with
 | ref p=>
  obtain⟨⟨ds,hd⟩,h1⟩:=h1;simp only[zi] at q1;subst q1;obtain⟨xs,g1,g2⟩:=p1 _ _ hd;refine⟨.inl ⟨rfl,xs,zV.of g1⟩,?_⟩;refine zS.go h' (r1.ext e1) p1 h1 λ y S2 w H2 h2 q2 e2 p2=>?_;split at h2
  .rename_i ds' e3;obtain⟨xs',g3,g4⟩:=p2 _ _ e3;refine⟨p,xs',w,rfl,rfl,g3,by rw[<- g4.length];exact h2.1,?_⟩;have e4:Ext H2 (upd H2 p (.lst (xs'++[w]))):=.lst g3 _;exact h2.2 _ _ (by simp only[zi]) ((e1.trans e2).trans e4) (p2.ups e4 ⟨_,yS,zo.ext e4 _ (g4.snoc q2)⟩)
  .exact h2.elim
 | zj=>exact h1.elim
 | bl _=>exact h1.elim
 | int _=>exact h1.elim
 | str _=>exact h1.elim
 | tup _=>exact h1.elim
 | yO _=>exact h1.elim
end
structure rq where
 nx:yn->SS->Prop
 rt:DK
 bk:yn->SS->Prop:=λ _ _=>False
 ct:yn->SS->Prop:=λ _ _=>False
abbrev yz:=rq->yn->SS->Prop
structure rq.Le (E E':rq):Prop where
 nx:∀ Y S,E.nx Y S->E'.nx Y S
 rt:∀ d S,E.rt d S->E'.rt d S
 bk:∀ Y S,E.bk Y S->E'.bk Y S
 ct:∀ Y S,E.ct Y S->E'.ct Y S
def sg (t:yz):Prop:=∀ E E' Y S,rq.Le E E'->t E Y S->t E' Y S
noncomputable def tW (K:zFr) (H:Hp) (D:Ends):rq:=⟨vE K H D.nx,wX K H D.rt,vE K H D.bk,vE K H D.ct⟩
theorem tW.ext {K:zFr}{H H':Hp}{D:Ends}(e:Ext H H'):(tW K H D).Le (tW K H' D):=⟨λ _ _ h=>vE.ext e h,λ _ _ h=>wX.ext e h,λ _ _ h=>vE.ext e h,λ _ _ h=>vE.ext e h⟩
def bo (K:zFr) (t:yz):TS:=λ D B H=>∃ Y S,yY K H Y B/\zO K H S/\t (tW K H D) Y S
structure uf (X:Cx) (st:Stmt) (t:yz):Prop where
 mo:sg t
 ps:PS X st (bo X.K t)
structure ue (X:Cx) (st:List Stmt) (t:yz):Prop where
 mo:sg t
 ps:wx X st (bo X.K t)
section
variable {X:Cx}{K:zFr}{st:Stmt}{rest:List Stmt}{t u:yz}{pos:Pos}{e:Expr}{te:zu}
def YM:yz:=λ E Y S=>E.nx Y S
def ql (t u:yz):yz:=λ E Y S=>t { E with nx:=u E } Y S
def ql.mo (h:sg t) (h':sg u):sg (ql t u):=λ E E' Y S hE z=>h { E with nx:=u E } { E' with nx:=u E' } Y S ⟨fun Y S q=>h' E E' Y S hE q,hE.rt,hE.bk,hE.ct⟩ z
def yI:ue X [] YM:=⟨λ _ _ _ _ hE h=>hE.nx _ _ h,wx.imp Ur λ D B H ⟨Y,S,r1,r2,h⟩=>h B H r1 (.refl H) r2⟩
def zB (h:uf X st t):ue X [st] t:=⟨h.mo,Uq h.ps⟩
def zx (h:uf X st t) (h':ue X rest u):ue X (st::rest) (ql t u):=by
 refine⟨ql.mo h.mo h'.mo,wx.imp (Us h.ps h'.ps) λ D B H hu=>?_⟩;obtain⟨Y,S,r1,r2,z⟩:=hu;refine⟨Y,S,r1,r2,h.mo { tW X.K H D with nx:=u (tW X.K H D) } _ Y S ⟨fun Y' S' q B' H' q1 q2 q3=>?_,λ _ _ q=>q,λ _ _ q=>q,λ _ _ q=>q⟩ z⟩;exact⟨Y',S',q1,q3,h'.mo _ _ Y' S' (tW.ext q2) q⟩
def OK:yz:=λ E Y S=>E.bk Y S
def OJ:yz:=λ E Y S=>E.ct Y S
def pd (te:zu):yz:=λ E Y S=>te Y S λ _ S1=>E.nx Y S1
def vQ (he:PD X e te) (hs:swapsWith e none pos.line X.env=pure false:=by rfl):uf X (.Expr e pos) (pd te):=by
 refine⟨λ E E' Y S hE z=>he.mo Y S _ _ (λ _ _ q=>hE.nx _ _ q) z,PS.imp (Uz he.pe hs) λ D B H hu=>?_⟩;obtain⟨Y,S,r1,r2,z⟩:=hu;exact zS.go he.mo r1 r2 z λ x S1 v H1 h1 q1 e1 p1=>h1 B H1 (r1.ext e1) e1 p1
def eM (te:zu):yz:=λ E Y S=>te Y S E.rt
def zQ (he:PD X e te):uf X (.Return (some e) pos) (eM te):=by
 refine⟨λ E E' Y S hE z=>he.mo Y S _ _ (λ _ _ q=>hE.rt _ _ q) z,PS.imp (Uw he.pe) λ D B H hu=>?_⟩;obtain⟨Y,S,r1,r2,z⟩:=hu;exact zS.go he.mo r1 r2 z λ x S1 v H1 h1 q1 e1 p1=>h1 v H1 q1 e1 p1
def OI:yz:=λ E _ S=>E.rt .zj S
def YS (c:yN) (t u:yz):yz:=λ E Y S=>c Y S λ k S1=>if k=true then t E Y S1 else u E Y S1
def yJ {c:Expr}{p q:List Stmt}{tc:yN}(hc:xP X c tc) (h:ue X p t) (h':ue X q u):uf X (.If c p q pos) (YS tc t u):=by
 refine⟨λ E E' Y S hE z=>hc.mo Y S _ _ (λ k S1 z=>wU (h.mo _ _ Y S1 hE) (h'.mo _ _ Y S1 hE) z) z,PS.imp (Ux hc.pt h.ps h'.ps) λ D B H hu=>?_⟩;obtain⟨Y,S,r1,r2,z⟩:=hu;refine wK.go hc.mo r1 r2 z λ k S1 H1 h1 e1 p1=>wU (λ z=>?_) (λ z=>?_) h1
 .exact⟨Y,S1,r1.ext e1,p1,h.mo _ _ Y S1 (tW.ext e1) z⟩
 .exact⟨Y,S1,r1.ext e1,p1,h'.mo _ _ Y S1 (tW.ext e1) z⟩
abbrev xG:=D->yn->SS->(yn->SS->Prop)->Prop
abbrev vc:=List D->yn->SS->(yn->SS->Prop)->Prop
def jI (t:xG):Prop:=∀ d Y S (Q Q':yn->SS->Prop),(∀ Y S,Q Y S->Q' Y S)->t d Y S Q->t d Y S Q'
def X9 (t:vc):Prop:=∀ d Y S (Q Q':yn->SS->Prop),(∀ Y S,Q Y S->Q' Y S)->t d Y S Q->t d Y S Q'
noncomputable def kg (K:zFr) (t:xG):TG:=λ v B H Q=>∃ d Y S,zi K H d v/\yY K H Y B/\zO K H S/\t d Y S (vE K H Q)
noncomputable def br (K:zFr) (t:vc):sW:=λ v B H Q=>∃ d Y S,zo K H d v/\yY K H Y B/\zO K H S/\t d Y S (vE K H Q)
structure qv (X:Cx) (e:Expr) (t:xG):Prop where
 mo:jI t
 pg:PG X e (kg X.K t)
structure jB (X:Cx) (es:List Expr) (t:vc):Prop where
 mo:X9 t
 pg:se X es (br X.K t)
def PG.imp {e:Expr}{t t':TG}(h:PG X e t) (hi:∀ v B H Q,t' v B H Q->t v B H Q):PG X e t':=λ pins s B H v w Q I r q=>h pins s B H v w Q I r (hi v B H Q q)
def se.imp {e:List Expr}{t t':sW}(h:se X e t) (hi:∀ v B H Q,t' v B H Q->t v B H Q):se X e t':=λ pins s B H v w Q I r q=>h pins s B H v w Q I r (hi v B H Q q)
def hName (i:Nat):xG:=λ d Y S Q=>Q (Y.set i (some d)) S
def T6 {e:Expr}{i:Nat}(h:PG X e (oQ i)):qv X e (hName i):=
 ⟨λ _ _ _ _ _ hq z=>hq _ _ z,PG.imp h λ v B H Q ⟨d,Y,S,r1,r2,r3,z⟩=>z _ H (r2.set i r1) (.refl H) r3⟩
def fW:vc:=λ ds Y S Q=>ds=[]/\Q Y S
def fX (t:xG) (u:vc):vc:=λ ds Y S Q=>match ds with
 | d::r=>t d Y S fun Y' S'=>u r Y' S' Q
 | []=>False
def ou:jB X [] fW:=by
 refine⟨λ _ _ _ _ _ hq z=>⟨z.1,hq _ _ z.2⟩,se.imp UI λ v B H Q hu=>?_⟩;obtain⟨d,Y,S,r1,r2,r3,z1,z2⟩:=hu;subst z1;simp only[zo] at r1;exact⟨r1,z2 B H r2 (.refl H) r3⟩
def vk {e:Expr}{es:List Expr}{t:xG}{u:vc}(h:qv X e t) (h':jB X es u) (hs:(assignEach (e::es) X.env).map (·.2)=assign e X.env::(assignEach es X.env).map (·.2):=by rfl):jB X (e::es) (fX t u):=by
 refine⟨λ ds Y S Q Q' hq z=>?_,se.imp (UJ h.pg h'.pg hs) λ v B H Q hu=>?_⟩
 .cases ds with
  | nil=>exact z
  | cons d r=>exact h.mo d Y S _ _ (fun Y' S' z=>h'.mo r Y' S' _ _ hq z) z
 .obtain⟨ds,Y,S,r1,r2,r3,z⟩:=hu;cases ds with
  | nil=>exact z.elim
  | cons d r=>
   simp only[zo] at r1;obtain⟨x,xs,rfl,q1,q2⟩:=r1;refine⟨x,xs,rfl,d,Y,S,q1,r2,r3,h.mo d Y S _ _ (fun Y' S' z B' H' g1 g2 g3=>?_) z⟩;exact⟨r,Y',S',zo.ext g2 r q2,g1,g3,h'.mo r Y' S' _ _ (fun Y2 S2 z2=>vE.ext g2 z2) z⟩
def jk (n:Nat) (t:vc):xG:=λ d Y S Q=>match d with
 | .tup ds=>ds.length=n/\t ds Y S Q
 | _=>False
def T5 {e:Expr}{n:Nat}{t:vc}(h:PG X e (Yn X.K n (br X.K t))) (hm:X9 t):qv X e (jk n t):=by
 refine⟨λ d Y S Q Q' hq z=>?_,PG.imp h λ v B H Q hu=>?_⟩
 .cases d with
  | tup ds=>exact⟨z.1,hm ds Y S _ _ hq z.2⟩
  | _=>exact z
 .obtain⟨d,Y,S,r1,r2,r3,z⟩:=hu;cases d with
  | tup ds=>
   simp only[zi] at r1;obtain⟨a,xs,rfl,q1,q2⟩:=r1;exact⟨a,xs,rfl,q1,by rw[<- q2.length];exact z.1,ds,Y,S,q2,r2,r3,z.2⟩
  | zj=>exact z.elim
  | bl _=>exact z.elim
  | int _=>exact z.elim
  | str _=>exact z.elim
  | yO _=>exact z.elim
  | ref _=>exact z.elim
def uG (te:zu) (g:xG):yz:=λ E Y S=>te Y S λ x S1=>g x Y S1 E.nx
def uG.mo {g:xG}(h:ym te) (h':jI g):sg (uG te g):=λ E E' Y S hE z=>h Y S _ _ (λ x S1 q=>h' x Y S1 _ _ (fun Y S q=>hE.nx _ _ q) q) z
def Tv {e0:Stmt}{i:Nat}(h:PS X e0 (kq (zS X.K te) (oQ i))) (hm:ym te):uf X e0 (uG te (hName i)):=by
 refine⟨uG.mo hm λ _ _ _ _ _ hq z=>hq _ _ z,PS.imp h λ D B H hu=>?_⟩;obtain⟨Y,S,r1,r2,z⟩:=hu;refine zS.go hm r1 r2 z λ x S1 v H1 h1 q1 e1 p1=>?_;exact h1 _ H1 ((r1.ext e1).set i q1) e1 p1
end
structure ka where
 items:List D
 keep:SS->Prop
abbrev wH:=yn->SS->(ka->SS->Prop)->Prop
def jH (t:wH):Prop:=∀ Y S (Q Q':ka->SS->Prop),(∀ I S',Q I S'->Q' I S')->t Y S Q->t Y S Q'
def dB (K:zFr) (H1:Hp) (J:It) (I:ka):Prop:=∀ (i:Nat) (H:Hp) (S:SS),Ext H1 H->zO K H S->I.keep S->
 (∀ d,I.items[i]?=some d->J.go i H/\∀ x H',J.pU i H x H'->Ext H H'/\zO K H' S/\zi K H' d x)/\(I.items.length<=i->J.stop i H)
def O4 (K:zFr) (H:Hp) (R:It->Hp->Prop):ka->SS->Prop:=λ I S1=>∀ J H1,Ext H H1->zO K H1 S1->dB K H1 J I->R J H1
def wY (K:zFr) (t:wH):TI:=fun B H R=>∃ Y S,yY K H Y B/\zO K H S/\t Y S (O4 K H R)
structure sZ (X:Cx) (tg iter:Expr) (t:wH):Prop where
 mo:jH t
 pi:PI X tg iter (wY X.K t)
def PI.imp {X:Cx}{tg e:Expr}{t t':TI}(h:PI X tg e t) (hi:∀ B H Q,t' B H Q->t B H Q):PI X tg e t':=λ pins s B H Q I q=>h pins s B H Q I (hi B H Q q)
section
variable {X:Cx}{K:zFr}{tg e:Expr}{te:zu}{pos:Pos}
theorem zo.at {H:Hp}{ds:List D}{xs:List V}{i:Nat}{d:D}{x:V}(r:zo K H ds xs) (h1:ds[i]?=some d) (h2:xs[i]?=some x):zi K H d x:=by
 obtain⟨y,e1,e2⟩:=r.get h1;rw[h2] at e1;cases e1;exact e2
noncomputable def vy (lo:Int) (n:Nat):List D:=(List.range n).map λ(k:Nat)=>D.int (lo+(k:Int))
def Ua {lo:Int}{n i:Nat}{d:D}(h:(vy lo n)[i]?=some d):i<n/\d=.int (lo+(i:Int)):=by
 unfold vy at h;rw[zA3] at h;cases q:(List.range n)[i]? with
 | none=>rw[q] at h;cases h
 | some j=>
  rw[q] at h;obtain⟨h1,h2⟩:=zA2.mp q;rw[zC5] at h1;rw[List.getElem_range] at h2;subst h2;cases h;exact⟨h1,rfl⟩
def V_ (lo:Int) (n:Nat):(vy lo n).length=n:=by unfold vy;rw[zA7,zC5]
def dB.range {H1:Hp}{lo:Int}{n:Nat}:dB K H1 (lK lo n) ⟨vy lo n,λ _=>True⟩:=λ i H S _ x2 _=>by
 refine⟨λ d hd=>?_,λ hl=>by rw[show (ka.mk (vy lo n) λ _=>True).items=vy lo n from rfl,V_] at hl;exact hl⟩;obtain⟨h1,rfl⟩:=Ua hd;refine⟨h1,λ x H' q=>?_⟩;obtain⟨rfl,rfl⟩:=q;exact⟨.refl _,x2,by simp only[zi]⟩
def fP (t:yv):wH:=fun Y S R=>t Y S λ ds S1=>match ds with
 | [.int j]=>(-(2 ^ 62)<=j/\j<2 ^ 62)/\R ⟨vy 0 j.toNat,λ _=>True⟩ S1
 | _=>False
def fO (t:yv):wH:=fun Y S R=>t Y S λ ds S1=>match ds with
 | [.int i,.int j]=>(-(2 ^ 62)<=i/\i<2 ^ 62/\-(2 ^ 62)<=j/\j<2 ^ 62)/\R ⟨vy i (j-i).toNat,λ _=>True⟩ S1
 | _=>False
variable {tA:yv}
def T4 (h:PI X tg e (Yf (wL X.K tA))) (hm:sj tA):sZ X tg e (fP tA):=by
 refine⟨fun Y S Q Q' hq z=>hm Y S _ _ (λ ds S1 z=>?_) z,PI.imp h fun B H R hu=>?_⟩
 .split at z
  .exact⟨z.1,hq _ _ z.2⟩
  .exact z.elim
 .obtain⟨Y,S,r1,r2,z⟩:=hu;refine wL.go hm r1 r2 z λ ds S1 xs H1 h1 q1 e1 p1=>?_;split at h1
  .obtain⟨x,rfl,q⟩:=q1.one;simp only[zi] at q;subst q;exact⟨_,rfl,h1.1.1,h1.1.2,h1.2 _ H1 e1 p1 .range⟩
  .exact h1.elim
def T3 (h:PI X tg e (Ye (wL X.K tA))) (hm:sj tA):sZ X tg e (fO tA):=by
 refine⟨fun Y S Q Q' hq z=>hm Y S _ _ (λ ds S1 z=>?_) z,PI.imp h fun B H R hu=>?_⟩
 .split at z
  .exact⟨z.1,hq _ _ z.2⟩
  .exact z.elim
 .obtain⟨Y,S,r1,r2,z⟩:=hu;refine wL.go hm r1 r2 z λ ds S1 xs H1 h1 q1 e1 p1=>?_;split at h1
  .obtain⟨x,y,rfl,q,q'⟩:=q1.two;simp only[zi] at q q';subst q q';exact⟨_,_,rfl,h1.1,h1.2 _ H1 e1 p1 .range⟩
  .exact h1.elim
def m_ (ti:wH) (g:xG) (tb:yz):yz:=λ E Y S=>ti Y S λ I S1=>∃ W:Nat->yn->SS->Prop,W 0 Y S1/\(∀ i Y S,W i Y S->I.keep S)/\
 (∀ i d Y S,I.items[i]?=some d->W i Y S->g d Y S fun Y2 S2=>tb { E with nx:=W (i+1),ct:=W (i+1),bk:=E.nx } Y2 S2)/\∀ Y S,W I.items.length Y S->E.nx Y S
def m_.mo {ti:wH}{g:xG}{tb:yz}(hi:jH ti) (hg:jI g) (hb:sg tb):sg (m_ ti g tb):=λ E E' Y S hE z=>hi Y S _ _ (λ I S1 ⟨W,w0,wk,ws,wd⟩=>by
 refine⟨W,w0,wk,λ i d Y S hd hw=>hg d Y S _ _ (fun Y2 S2 z=>hb { E with nx:=W (i+1),ct:=W (i+1),bk:=E.nx } { E' with nx:=W (i+1),ct:=W (i+1),bk:=E'.nx } Y2 S2 ⟨λ _ _ q=>q,hE.rt,hE.nx,λ _ _ q=>q⟩ z) (ws i d Y S hd hw),fun Y S q=>hE.nx _ _ (wd Y S q)⟩) z
def xB {iter:Expr}{body:List Stmt}{ti:wH}{g:xG}{tb:yz}(hp:PassesOwn (model X.prog X.w) X.A X.env X.xe) (hc:X.calm=true) (hi:sZ X tg iter ti) (hg:qv X tg g) (hb:ue X body tb)
  (hs:∀ x,foldedSetIterable iter X.env x=pure x:=by intro _;rfl):uf X (.For tg iter body [] pos) (m_ ti g tb):=by
 refine⟨m_.mo hi.mo hg.mo hb.mo,PS.imp (Uy hp hc hi.pi hg.pg hb.ps hs) λ D B H hu=>?_⟩;obtain⟨Y,S,r1,r2,z⟩:=hu;refine⟨Y,S,r1,r2,hi.mo Y S _ _ (λ I S1 hW J H1 e1 p1 rep=>?_) z⟩;obtain⟨W,w0,wk,ws,wd⟩:=hW;refine⟨λ i m B H2=>m=I.items.length-i/\i<=I.items.length/\Ext H1 H2/\∃ Y S,yY X.K H2 Y B/\zO X.K H2 S/\W i Y S,⟨_,rfl,zD4 _,.refl _,Y,S1,r1.ext e1,p1,w0⟩,?_⟩;rintro i m B2 H2 ⟨rfl,hi',x2,Y2,S2,q1,q2,w2⟩;obtain⟨g1,g2⟩:=rep i H2 S2 x2 q2 (wk i Y2 S2 w2);by_cases hl:i<I.items.length
 .have hd:I.items[i]?=some I.items[i]:=by simp[hl]
  obtain⟨go,yl⟩:=g1 _ hd;refine .inr ⟨go,fun B' H'=>Ext H1 H'/\∃ Y S,yY X.K H' Y B'/\zO X.K H' S/\W (i+1) Y S,fun B' H' q=>⟨_,by omega,rfl,hl,q⟩,λ x H3 hy=>?_⟩;obtain⟨x3,p3,d3⟩:=yl x H3 hy;refine⟨_,Y2,S2,d3,q1.ext x3,p3,hg.mo _ Y2 S2 _ _ (fun Y4 S4 z4 B4 H4 a1 a2 a3=>?_) (ws i _ Y2 S2 hd w2)⟩;refine⟨Y4,S4,a1,a3,hb.mo _ _ Y4 S4 ⟨fun Y5 S5 w5 B5 H5 b1 b2 b3=>⟨((x2.trans x3).trans a2).trans b2,Y5,S5,b1,b3,w5⟩,λ _ _ q=>wX.ext (((e1.trans x2).trans x3).trans a2) q,λ _ _ q=>vE.ext (((e1.trans x2).trans x3).trans a2) q,fun Y5 S5 w5 B5 H5 b1 b2 b3=>⟨((x2.trans x3).trans a2).trans b2,Y5,S5,b1,b3,w5⟩⟩ z4⟩
 .have e:i=I.items.length:=by omega
  subst e;exact .inl ⟨g2 (zA4 _),wd Y2 S2 w2 B2 H2 q1 (e1.trans x2) q2⟩
abbrev sX:=List D->SS->DK->Prop
def dA (sp:sX):Prop:=∀ ds S (Q Q':DK),(∀ d S',Q d S'->Q' d S')->sp ds S Q->sp ds S Q'
noncomputable def t8 (K:zFr) (sp:sX):Sp:=λ vs H Q _=>∃ ds S,zo K H ds vs/\zO K H S/\sp ds S (wX K H Q)
def eP (sp:sX) (t:yv):zu:=fun Y S Q=>t Y S λ ds S1=>sp ds S1 Q
def TN {sp:sX}{E:XK}{e:Expr}(h:PE X e (b9 (t8 X.K sp) [] E (wL X.K tA))) (hs:dA sp) (hm:sj tA):PD X e (eP sp tA):=by
 refine⟨fun Y S Q Q' hq z=>hm Y S _ _ (λ ds S1 z=>hs ds S1 _ _ hq z) z,PE.imp h fun B H Q hu=>?_⟩;obtain⟨Y,S,r1,r2,z⟩:=hu;refine wL.go hm r1 r2 z λ ds S1 xs H1 h1 q1 e1 p1=>?_;rw[List.append_nil];exact⟨ds,S1,q1,p1,hs ds S1 _ _ (λ d S' q=>wX.ext e1 q) h1⟩
noncomputable def uO (N:List Str) (ds:List D):yn:=ds.map some++List.replicate (N.length-ds.length) none
def yY.init {H:Hp}{N:List Str}{ds:List D}{vs:List V}(r:zo K H ds vs):yY K H (uO N ds) (start N vs):=by
 have hl:=r.length;refine⟨by unfold uO L2.start;simp[hl],λ i d h=>?_⟩;unfold uO at h;have hi:i<ds.length:=by
  rcases Nat.lt_or_ge i ds.length with q | q
  .exact q
  .rw[List.getElem?_append_right (by simpa using q),List.getElem?_replicate] at h;split at h <;> cases h
 rw[List.getElem?_append_left (by simpa using hi),zA3] at h;cases q:ds[i]? with
 | none=>rw[q] at h;cases h
 | some d'=>
  rw[q] at h;cases h;obtain⟨x,e1,e2⟩:=r.get q;refine⟨x,?_,e2⟩;unfold L2.start;rw[List.getElem?_append_left (by simpa using by omega),zA3,e1];rfl
def Yo {P:Program}{w:World}{K:zFr}{mg:Str->Option Value}{base:Heap}{x qual:Str}{st:Stmt}{f:Addr}{fd:FuncData}{N ps:List Str}{k:Nat}{sp:sX}(F:uN K x qual st f fd) (Sc:yo N ps (zE st))
  (len:∀ ds S Q,sp ds S Q->ds.length=ps.length)
  (hbody:∀ (cdv:Value) (A:Around) (outer:List Env) (s:Shared) (H:Hp) (E:XK),yC k (A.deeper (envOfC qual (zE st) s.heap.objs.size f cdv))->
   ∃ t,ue (u_ vh P w K mg base N qual (zE st) f cdv A outer s H E).sJ (vt st) t/\∀ ds S Q,sp ds S Q->t { nx:=λ _ S'=>Q .zj S',rt:=Q } (uO N ds) S):uj P w K mg base vh (k+1) f fd ps (t8 K sp):=by
 refine F.ok Sc (λ vs H Q E h=>?_) λ cdv A outer s H vs Q E hr h=>?_
 .obtain⟨ds,S,r1,_,z⟩:=h;rw[<- r1.length];exact len _ _ _ z
 .obtain⟨ds,S,r1,r2,z⟩:=h;obtain⟨t,ht,hq⟩:=hbody cdv A outer s H E hr;refine⟨_,ht.ps,uO N ds,S,.init r1,r2,ht.mo { nx:=λ _ S'=>wX K H Q .zj S',rt:=wX K H Q } _ _ _ ⟨fun Y S' q B' H' _ b c=>q .zj H' (by simp only[zi]) b c,λ _ _ q=>q,λ _ _ q=>False.elim q,λ _ _ q=>False.elim q⟩ (hq ds S _ z)⟩
noncomputable def vj (pick:List (Option Nat)) (Y:yn):yn:=pick.map λ o=>o.bind λ i=>(Y[i]?).join
theorem yY.pick {H:Hp}{Y:yn}{B:St}(r:yY K H Y B) (pick:List (Option Nat)):yY K H (vj pick Y) (uv pick B):=by
 refine⟨by unfold vj uv;simp,λ i d h=>?_⟩;unfold vj at h;rw[zA3] at h;cases q:pick[i]? with
 | none=>rw[q] at h;cases h
 | some o=>
  rw[q] at h;cases o with
  | none=>simp at h
  | some j=>
   simp only[Option.map_some,zC9,Option.some.injEq] at h;have hj:Y[j]?=some (some d):=by
    cases q2:Y[j]? with
    | none=>rw[q2] at h;cases h
    | some o2=>rw[q2] at h;simp only[Option.join_some] at h;rw[h]
   obtain⟨v,e1,e2⟩:=r.2 j d hj;refine⟨v,?_,e2⟩;unfold uv;rw[zA3,q];simp[e1]
def pG (Y Y':yn):Prop:=Y.length=Y'.length/\∀ (i:Nat) d,Y[i]?=some (some d)->Y'[i]?=some (some d)
def pG.rep {H:Hp}{Y Y':yn}{B:St}(h:pG Y Y') (r:yY K H Y' B):yY K H Y B:=⟨h.1.trans r.1,λ i d q=>r.2 i d (h.2 i d q)⟩
structure jC (X:Cx) (ifs:List Expr) (t:yN):Prop where
 mo:vg t
 pf:PF X ifs (wK X.K t)
def PF.imp {ifs:List Expr}{t t':TT}(h:PF X ifs t) (hi:∀ B H Q,t' B H Q->t B H Q):PF X ifs t':=λ pins s B H Q I q=>h pins s B H Q I (hi B H Q q)
def Y9:yN:=λ _ S Q=>Q true S
def sE:jC X [] Y9:=⟨λ _ _ _ _ hq z=>hq _ _ z,PF.imp UO λ _ H _ ⟨_,_,_,r2,z⟩=>z H (.refl H) r2⟩
def nX {c:Expr}{t:yN}(h:xP X c t):jC X [c] t:=⟨h.mo,UN h.pt⟩
section
variable {N':List Str}{pick:List (Option Nat)}{scope:Scope}{elt iter:Expr}{ifs:List Expr}{ti:wH}{g:xG}{tc:yN}
end
end
end L3
namespace L2
open PySem PySem.Spec PyProof.Rows
def Ph (K:zFr) (tl:TE):TI:=fun B H R=>tl B H λ x H1=>∃ a,x=.ref a/\(((∃ xs,zV K H1 a xs)/\R (XB K a) H1)\/((∃ xs,ya K H1 a xs)/\R (XA K a) H1))
def UD {X:Cx}{tg l:Expr}{tl:TE}(hl:PE X l tl):PI X tg l (Ph X.K tl):=by
 intro pins s B H R I h;refine zH (hl pins s B H _ I h) λ v s1 ⟨x,H1,I1,r1,a,hx,q1⟩=>?_;subst hx;cases r1;have new:∀ b∈[s1.heap.objs.size],ui X pins H1 b:=λ b hb=>by
  obtain rfl:b=s1.heap.objs.size:=zB6.mp hb;exact I1.e7 (zA4 _) (I1.zD.fresh (zA4 _))
 rcases q1 with ⟨⟨xs,hq⟩,q⟩ | ⟨⟨xs,hq⟩,q⟩
 .obtain⟨its,_,pl,_⟩:=I1.list hq;exact wpAny_pyIter_list pl.isList ⟨_,_,_,_,H1,rfl,I1.kept (t':=s1.toks) λ b o eo=>zHp _ eo,WC a _,⟨_,zA9 _ rfl,rfl,rfl⟩,new,q⟩
 .obtain⟨its,_,pt,_⟩:=I1.tuple hq;exact wpAny_pyIter_tuple (show s1.heap.IsTuple a its.toArray from pt) ⟨_,_,_,_,H1,rfl,I1.kept (t':=s1.toks) λ b o eo=>zHp _ eo,WA a _,⟨_,zA9 _ rfl,rfl,rfl⟩,new,q⟩
def range_all (bs:List Bool):(List.range bs.length).all (λ i=>bs.getD i true)=bs.all id:=by
 rw[zC7,zE4,zE4];constructor
 .intro h b hb;obtain⟨i,hi,rfl⟩:=List.mem_iff_getElem.mp hb;have:=h i (zC1.mpr hi);simpa [hi] using this
 .intro h i hi;have hi':=zC1.mp hi;have:=h bs[i] (zD8 hi');simpa [hi'] using this
def NA {bs:List Bool}{its:List Value}(r:Vals (bs.map V.bl) its) {i:Nat}{v:Value}(h:its.toArray[i]?=some v):v=.bool (bs.getD i true):=by
 have hl:=r.length;rw[zA7] at hl;have h':its[i]?=some v:=by simpa using h
 have hi:i<bs.length:=by
  rw[hl];rcases Nat.lt_or_ge i its.length with q | q
  .exact q
  .rw[List.getElem?_eq_none q] at h';cases h'
 obtain⟨u,e1,e2⟩:=r.get (i:=i) (x:=.bl bs[i]) (by simp[hi]);rw[h'] at e1;cases e1;have:v=.bool bs[i]:=e2;rw[this];simp[hi]
section
variable {X:Cx}
def N3 (hc:X.calm=true):yT X (.builtin "all") (λ xs H Q=>∃ p,∃ bs:List Bool,xs=[.ref p]/\zV X.K H p (bs.map V.bl)/\Q (.bl (bs.all id)) H):=by
 intro pins s B H xs us Q I r h;obtain⟨p,bs,rfl,hq,q⟩:=h;obtain⟨u,rfl,ru⟩:=vals1 r;cases ru;obtain⟨its,rv,pl,hz⟩:=I.list hq;have hl:=rv.length;rw[zA7] at hl;have hlt:p<s.heap.objs.size:=by obtain⟨o,n,e,_⟩:=pl;exact zA8 e
 refine call_all_walk (wpAny_pyIter_list pl.isList ?_);refine⟨s.heap.objs.size,_,_,_,_,_,λ i=>bs.getD i true,rfl,Walks.list (A:=X.A.in1) (I.ok.hd hc) s.heap.objs.size p (zB3 hlt) its.toArray,⟨⟨_,zA9 _ rfl,rfl,rfl⟩,pl.isList.push _⟩,λ i v s' Q' E' hv hq'=>?_,λ h' tk hk=>?_⟩
 .rw[NA rv hv];exact wpAny_truthy_bool hq'
 .have e:(List.range its.toArray.size).all (λ i=>bs.getD i true)=bs.all id:=by rw[zA0,<- hl,range_all]
  rw[e];exact⟨.bl _,H,I.kept (t':=tk) λ b o eo=>hk b o (by simpa using zB3 (zA8 eo)) (zHp _ eo),rfl,q⟩
end
end L2
namespace L3
open PySem PySem.Spec L2
open PyProof.Rows hiding St
structure Bt (mg:Str->Option Value):Prop where
 len:mg "len"=none
 range:mg "range"=none
 any:mg "any"=none
 all:mg "all"=none
 sorted:mg "sorted"=none
 isinstance:mg "isinstance"=none
 bool:mg "bool"=none
 int:mg "int"=none
 str:mg "str"=none
 list:mg "list"=none
 tuple:mg "tuple"=none
 max:mg "max"=none
 min:mg "min"=none
section
variable {X:Cx}{K:zFr}{a b c e:Expr}{es:List Expr}{ta tb tc te:zu}{tA:yv}{pos p:Pos}
def vH {N':List Str}{pick:List (Option Nat)}{scope esc:Scope}{N:List Str}(hE:X.env.scope=esc:=by rfl) (hN:X.N=N:=by rfl) (h1:scope.kind=.function:=by rfl) (h2:scope.names.all (λ y=>decide (y.2≠.cell))=true:=by decide +kernel)
  (h3:scope.names.all (λ y=>!decide (y.2=.local)||decide (scope.names.lookup y.1=some .local))=true:=by decide +kernel)
  (h4:scope.names.all (λ y=>!decide (y.2=.free)||(decide (esc.names.lookup y.1=some .cell)||decide (esc.names.lookup y.1=some .free)))=true:=by decide +kernel)
  (h5:pick.length=N'.length:=by rfl) (h6:om N N' pick scope=true:=by decide +kernel):pS X N' pick scope:=by
 refine⟨h1,λ y hy=>?_,λ y hy hl=>?_,λ y hy hf=>?_,h5,by rw[hN];exact h6⟩
 .exact of_decide_eq_true (zE4.mp h2 y hy)
 .have:=zE4.mp h3 y hy;rw[decide_eq_true hl] at this;simpa using this
 .have:=zE4.mp h4 y hy;rw[decide_eq_true hf] at this;rw[hE];simpa using this
def yd (i:Nat) {x:Str}(hN:X.N.Nodup) (hi:X.N[i]?=some x:=by rfl) (hx:Loc X.env.scope x:=by first | exact Or.inl rfl | exact Or.inr rfl) (hf:X.fn x=true\/X.env.scope.names.lookup x=some .local:=by first | exact .inl rfl | exact .inr rfl):qv X (.Name x pos) (hName i):=
 T6 (UM hN hi hx hf)
def ox {k:Nat}{t:vc}{n:Nat}(h:jB X es t) (hc:X.calm=true:=by rfl) (hn:(assignEach es X.env).length=n:=by rfl) (hst:(assignEach es X.env).findIdx? (·.1)=none:=by rfl):qv X (.Tuple es k pos) (jk n t):=
 T5 (UK hc h.pg hn hst) h.mo
def zT (i:Nat) {x:Str}{pos':Pos}(hN:X.N.Nodup) (he:PD X e te) (hi:X.N[i]?=some x:=by rfl) (hx:Loc X.env.scope x:=by first | exact Or.inl rfl | exact Or.inr rfl) (hs:swapsWith e (some (.Name x pos')) pos.line X.env=pure false:=by rfl)
  (hf:X.fn x=true\/X.env.scope.names.lookup x=some .local:=by first | exact .inl rfl | exact .inr rfl):uf X (.Assign [.Name x pos'] e pos) (uG te (hName i)):=
 Tv (Uv hN hi hx he.pe hs hf) he.mo
def fN (te:zu):wH:=fun Y S R=>te Y S λ x S1=>match x with
 | .tup ds=>R ⟨ds,λ _=>True⟩ S1
 | .yO ds=>R ⟨ds,λ _=>True⟩ S1
 | .ref p=>match S1 p with
  | some (.lst ds)=>R ⟨ds,λ S=>S p=some (.lst ds)⟩ S1
  | _=>False
 | _=>False
def xm {tg:Expr}(h:PD X e te):sZ X tg e (fN te):=by
 refine⟨fun Y S Q Q' hq z=>h.mo Y S _ _ (λ x S1 z=>?_) z,?_⟩
 .cases x with
  | ref p=>
   dsimp only at z ⊢;split at z
   .exact hq _ _ z
   .exact z.elim
  | yO ds=>exact hq _ _ z
  | tup ds=>exact hq _ _ z
  | _=>exact z
 .refine PI.imp (UD h.pe) fun B H R hu=>?_
  obtain⟨Y,S,r1,r2,z⟩:=hu;refine zS.go h.mo r1 r2 z λ x S1 v H1 h1 q1 e1 p1=>?_;cases x with
  | tup ds=>
   simp only[zi] at q1;obtain⟨a,xs,rfl,g1,g2⟩:=q1;refine⟨a,rfl,.inr ⟨⟨xs,g1⟩,h1 _ H1 e1 p1 λ i H2 S2 x1 x2 _=>⟨λ d hd=>?_,λ hl=>⟨xs,x1.ku g1,by rw[<- g2.length];exact hl⟩⟩⟩⟩;obtain⟨y,hy,_⟩:=g2.get hd;refine⟨⟨xs,y,x1.ku g1,hy⟩,λ x H' q=>?_⟩;obtain⟨rfl,q⟩:=q;exact⟨.refl _,x2,(zo.ext x1 ds g2).at hd (q xs (x1.ku g1))⟩
  | ref p=>
   dsimp only at h1;split at h1
   .rename_i ds e2;simp only[zi] at q1;subst q1;obtain⟨xs0,g1,_⟩:=p1 _ _ e2;refine⟨p,rfl,.inl ⟨⟨xs0,zV.of g1⟩,h1 _ H1 e1 p1 λ i H2 S2 x1 x2 hk=>?_⟩⟩;obtain⟨xs,g3,g4⟩:=x2 _ _ hk;refine⟨λ d hd=>?_,λ hl=>⟨xs,zV.of g3,by rw[<- g4.length];exact hl⟩⟩;obtain⟨y,hy,_⟩:=g4.get hd;refine⟨⟨xs,y,zV.of g3,hy⟩,λ x H' q=>?_⟩;obtain⟨rfl,q⟩:=q;exact⟨.refl _,x2,g4.at hd (q xs (zV.of g3))⟩
   .exact h1.elim
  | yO ds=>
   simp only[zi] at q1;obtain⟨a,xs,rfl,g1,g2⟩:=q1;refine⟨a,rfl,.inl ⟨⟨xs,g1.sq⟩,h1 _ H1 e1 p1 λ i H2 S2 x1 x2 _=>⟨λ d hd=>?_,λ hl=>⟨xs,(x1.kx g1).sq,by rw[<- g2.length];exact hl⟩⟩⟩⟩;obtain⟨y,hy,_⟩:=g2.get hd;refine⟨⟨xs,y,(x1.kx g1).sq,hy⟩,λ x H' q=>?_⟩;obtain⟨rfl,q⟩:=q;exact⟨.refl _,x2,(zo.ext x1 ds g2).at hd (q xs (x1.kx g1).sq)⟩
  | zj=>exact h1.elim
  | bl _=>exact h1.elim
  | int _=>exact h1.elim
  | str _=>exact h1.elim
end
end L3
namespace L4
open PySem PySem.W PyProof.Rows
noncomputable def yF {α:Type}(n:Nat) (lt:Nat->Nat->Bool):KasT α->(α->Prop)->Prop
 | .ret a,Q=>Q a
 | .ask i j k,Q=>i<n/\j<n/\yF n lt (k (lt i j)) Q
theorem yF.mono {α:Type}{n:Nat}{lt:Nat->Nat->Bool}{Q Q':α->Prop}(hq:∀ a,Q a->Q' a):∀ {t:KasT α},yF n lt t Q->yF n lt t Q'
 | .ret _,h=>hq _ h
 | .ask _ _ _,h=>⟨h.1,h.2.1,yF.mono hq h.2.2⟩
theorem yF.bind {α β:Type}{n:Nat}{lt:Nat->Nat->Bool}{f:α->KasT β}{Q:β->Prop}:∀ {t:KasT α},yF n lt t (λ a=>yF n lt (f a) Q)->yF n lt (t.bind f) Q
 | .ret _,h=>h
 | .ask _ _ _,h=>⟨h.1,h.2.1,yF.bind h.2.2⟩
section
variable {n:Nat}{lt:Nat->Nat->Bool}
def Le (lt:Nat->Nat->Bool) (a b:Nat):Prop:=lt b a=false
structure Ord (lt:Nat->Nat->Bool):Prop where
 tr:∀ a b c,Le lt a b->Le lt b c->Le lt a c
 as:∀ a b,lt a b=true->Le lt a b
def Ord.refl (o:Ord lt) (a:Nat):Le lt a a:=by
 cases h:lt a a with
 | false=>exact h
 | true=>exact o.as a a h
def xH (n:Nat) (p:Array Nat):Prop:=p.Perm (List.range n).toArray
theorem xH.size {p:Array Nat}(h:xH n p):p.size=n:=by rw[Array.Perm.size_eq h];simp
def xH.below {p:Array Nat}(h:xH n p) {i:Nat}(hi:i<n):p.getD i 0<n:=by
 have hs:=h.size;have hm:p.getD i 0∈p:=by
  rw[Array.getD_eq_getD_getElem?,zB8 (by omega)];exact Array.getElem_mem (by omega)
 have:p.getD i 0∈(List.range n).toArray:=(Array.Perm.mem_iff h).mp hm;simpa using this
def mG {p q:Array Nat}{i j:Nat}(h:p[i]?=q[j]?):p.getD i 0=q.getD j 0:=by rw[Array.getD_eq_getD_getElem?,Array.getD_eq_getD_getElem?,h]
def vK (lt:Nat->Nat->Bool) (p:Array Nat) (k:Nat):Prop:=∀ i j,i<=j->j<k->Le lt (p.getD i 0) (p.getD j 0)
def sk (lt:Nat->Nat->Bool) (p:Array Nat) (k:Nat):Prop:=∀ i j,i<=j->j<k->Le lt (p.getD j 0) (p.getD i 0)
def vK.next (o:Ord lt) {p:Array Nat}{k:Nat}(h:vK lt p k) (hk:1<=k) (hl:Le lt (p.getD (k-1) 0) (p.getD k 0)):vK lt p (k+1):=λ i j hij hj=>by
 by_cases hjk:j<k
 .exact h i j hij hjk
 .have e:j=k:=by omega
  subst e;by_cases hi:i=j
  .subst hi;exact o.refl _
  .exact o.tr _ _ _ (h i (j-1) (by omega) (by omega)) hl
def sk.next (o:Ord lt) {p:Array Nat}{k:Nat}(h:sk lt p k) (hk:1<=k) (hl:Le lt (p.getD k 0) (p.getD (k-1) 0)):sk lt p (k+1):=λ i j hij hj=>by
 by_cases hjk:j<k
 .exact h i j hij hjk
 .have e:j=k:=by omega
  subst e;by_cases hi:i=j
  .subst hi;exact o.refl _
  .exact o.tr _ _ _ hl (h i (j-1) (by omega) (by omega))
theorem dm (o:Ord lt) {p:Array Nat}(hp:xH n p):∀ (f a:Nat),1<=a->a+f<=n->vK lt p a->
  yF n lt (kas_asc p f a) λ m=>a<=m/\m<=a+f/\vK lt p m/\(m=a+f\/lt (p.getD m 0) (p.getD (m-1) 0)=true)
 | 0,a,_,_,hs=>⟨zA4 _,zA4 _,hs,.inl rfl⟩
 | f+1,a,h1,h2,hs=>by
  refine⟨hp.below (by omega),hp.below (by omega),?_⟩;cases c:lt (p.getD a 0) (p.getD (a-1) 0) with
  | true=>exact⟨zA4 _,by omega,hs,.inr c⟩
  | false=>
   refine yF.mono ?_ (dm o hp f (a+1) (by omega) (by omega) (hs.next o h1 c));rintro m ⟨g1,g2,g3,g4⟩;exact⟨by omega,by omega,g3,g4.imp (λ e=>by omega) id⟩
def nP {p:Array Nat}(hp:xH n p) (i j:Nat):xH n (kas_rev p i j):=Array.Perm.trans (mirror_perm _ _ _ _) hp
def nQ {p:Array Nat}(hp:xH n p) {i j:Nat}(hj:j<=n) (k:Nat):(kas_rev p i j).getD k 0=if i<=k/\k<j then p.getD (i+j-1-k) 0 else p.getD k 0:=by
 have e:=getElem?_mirror_all (xs:=p) (i:=i) (j:=j) (by rw[hp.size];exact hj) k;split
 .rename_i h;rw[if_pos h] at e;exact mG e
 .rename_i h;rw[if_neg h] at e;exact mG e
def rev_eq (o:Ord lt) {p:Array Nat}(hp:xH n p) {i j:Nat}(hj:j<=n) (he:∀ a b,i<=a->a<j->i<=b->b<j->Le lt (p.getD a 0) (p.getD b 0)) (k:Nat):
  Le lt ((kas_rev p i j).getD k 0) (p.getD k 0)/\Le lt (p.getD k 0) ((kas_rev p i j).getD k 0):=by
 rw[nQ hp hj];split
 .rename_i h;exact⟨he _ _ (by omega) (by omega) h.1 h.2,he _ _ h.1 h.2 (by omega) (by omega)⟩
 .exact⟨o.refl _,o.refl _⟩
def sk.of_eq (o:Ord lt) {p q:Array Nat}{k:Nat}(h:sk lt p k) (e:∀ k,Le lt (q.getD k 0) (p.getD k 0)/\Le lt (p.getD k 0) (q.getD k 0)):sk lt q k:=λ i j hij hj=>
 o.tr _ _ _ (e j).1 (o.tr _ _ _ (h i j hij hj) (e i).2)
def cw (lt:Nat->Nat->Bool) (p:Array Nat) (m q:Nat):Prop:=∀ a b,m-(q+1)<=a->a<m->m-(q+1)<=b->b<m->Le lt (p.getD a 0) (p.getD b 0)
theorem jw (o:Ord lt):∀ (f:Nat) (p:Array Nat) (m q:Nat),xH n p->1<=m->m+f<=n->sk lt p m->q+1<=m->cw lt p m q->
  yF n lt (kas_desc f p m q) λ r=>xH n r.1/\m<=r.2.1/\r.2.1<=m+f/\sk lt r.1 r.2.1/\r.2.2+1<=r.2.1/\cw lt r.1 r.2.1 r.2.2
 | 0,p,m,q,hp,_,_,hd,hq,hb=>⟨hp,zA4 _,zA4 _,hd,hq,hb⟩
 | f+1,p,m,q,hp,h1,h2,hd,hq,hb=>by
  have one:∀ p':Array Nat,cw lt p' (m+1) 0:=λ p' a b a1 a2 b1 b2=>by
   have:a=b:=by omega
   subst this;exact o.refl _
  refine⟨hp.below (by omega),hp.below (by omega),?_⟩;cases c:lt (p.getD m 0) (p.getD (m-1) 0) with
  | true=>
   dsimp only;rw[if_pos rfl];have hl:=o.as _ _ c;by_cases h0:q>0
   .rw[if_pos h0];have e:=rev_eq o hp (i:=m-(q+1)) (j:=m) (by omega) hb;have hp':=nP hp (m-(q+1)) m;refine yF.mono ?_ (jw o f _ (m+1) 0 hp' (by omega) (by omega) ((hd.of_eq o e).next o h1 (o.tr _ _ _ (e m).1 (o.tr _ _ _ hl (e (m-1)).2))) (by omega) (one _));rintro r ⟨a1,a2,a3,a4⟩;exact⟨a1,by omega,by omega,a4⟩
   .rw[if_neg h0];refine yF.mono ?_ (jw o f _ (m+1) 0 hp (by omega) (by omega) (hd.next o h1 hl) (by omega) (one _));rintro r ⟨a1,a2,a3,a4⟩;exact⟨a1,by omega,by omega,a4⟩
  | false=>
   dsimp only;rw[if_neg Bool.false_ne_true];refine⟨hp.below (by omega),hp.below (by omega),?_⟩;cases d:lt (p.getD (m-1) 0) (p.getD m 0) with
   | true=>exact⟨hp,zA4 _,(by show m<=m+(f+1);omega),hd,hq,hb⟩
   | false=>
    dsimp only;rw[if_neg Bool.false_ne_true];refine yF.mono ?_ (jw o f _ (m+1) (q+1) hp (by omega) (by omega) (hd.next o h1 d) (by omega) λ a b a1 a2 b1 b2=>?_)
    .rintro r ⟨a1,a2,a3,a4⟩;exact⟨a1,by omega,by omega,a4⟩
    .by_cases ha:a=m
     .by_cases hb':b=m
      .subst ha;subst hb';exact o.refl _
      .subst ha;exact o.tr _ _ _ d (hb (a-1) b (by omega) (by omega) (by omega) (by omega))
     .by_cases hb':b=m
      .subst hb';exact o.tr _ _ _ (hb a (b-1) (by omega) (by omega) (by omega) (by omega)) c
      .exact hb a b (by omega) (by omega) (by omega) (by omega)
def b7 (o:Ord lt) {p:Array Nat}{m:Nat}(hp:xH n p) (h1:1<=m) (h2:m<=n) (hd:sk lt p m):yF n lt (kas_tail3 m n p) λ r=>xH n r.2/\r.1<=n/\vK lt r.2 r.1:=by
 refine yF.bind (yF.mono ?_ (dm o (nP hp 0 m) (n-m) m h1 (by omega) λ i j hij hj=>?_))
 .rintro k ⟨a1,a2,a3,_⟩;exact⟨nP hp 0 m,by omega,a3⟩
 .rw[nQ hp h2,nQ hp h2,if_pos ⟨zD4 _,by omega⟩,if_pos ⟨zD4 _,hj⟩];exact hd _ _ (by omega) (by omega)
def YF (o:Ord lt) {p:Array Nat}{m:Nat}(hp:xH n p) (h1:1<=m) (h2:m<n) (hd:sk lt p m) (hl:lt (p.getD m 0) (p.getD (m-1) 0)=true):yF n lt (kas_descPart m n p) λ r=>xH n r.2/\r.1<=n/\vK lt r.2 r.1:=by
 refine yF.bind (yF.mono ?_ (jw o (n-(m+1)) p (m+1) 0 hp (by omega) (by omega) (hd.next o h1 (o.as _ _ hl)) (by omega) λ a b a1 a2 b1 b2=>?_))
 .rintro⟨p',m',q'⟩ ⟨a1,a2,a3,a4,a5,a6⟩;dsimp only at a1 a2 a3 a4 a5 a6 ⊢;by_cases h0:q'>0
  .rw[if_pos h0];exact b7 o (nP a1 _ _) (by omega) (by omega) (a4.of_eq o (rev_eq o a1 (i:=m'-(q' + 1)) (j:=m') (by omega) a6))
  .rw[if_neg h0];exact b7 o a1 (by omega) (by omega) a4
 .have:a=b:=by omega
  subst this;exact o.refl _
def OU (o:Ord lt) {p:Array Nat}(hp:xH n p) (h1:1<=n):yF n lt (kas_count n p) λ r=>xH n r.2/\r.1<=n/\vK lt r.2 r.1:=by
 refine yF.bind (yF.mono ?_ (dm o hp (n-1) 1 (zA4 _) (by omega) λ i j hij hj=>?_))
 .rintro m ⟨a1,a2,a3,a4⟩;by_cases hm:m=n
  .rw[if_pos (by simp[hm])];exact⟨hp,by omega,a3⟩
  .rw[if_neg (by simp[hm])];have hl:lt (p.getD m 0) (p.getD (m-1) 0)=true:=a4.resolve_left (by omega);by_cases h2:m>1
   .rw[if_pos h2];refine⟨hp.below (by omega),hp.below (by omega),?_⟩;cases c:lt (p.getD 0 0) (p.getD (m-1) 0) with
    | true=>exact⟨hp,by omega,a3⟩
    | false=>
     dsimp only;rw[if_neg Bool.false_ne_true];have all:∀ a b,0<=a->a<m->0<=b->b<m->Le lt (p.getD a 0) (p.getD b 0):=λ a b _ ha _ hb=>
      o.tr _ _ _ (a3 a (m-1) (by omega) (by omega)) (o.tr _ _ _ c (a3 0 b (by omega) hb))
     have e:=rev_eq o hp (i:=0) (j:=m) (by omega) all;refine YF o (nP hp 0 m) (by omega) (by omega) (λ i j hij hj=>o.tr _ _ _ (e j).1 (o.tr _ _ _ (all _ _ (zD4 _) hj (zD4 _) (by omega)) (e i).2)) ?_;rw[nQ hp (by omega),nQ hp (by omega),if_neg (by omega),if_pos (by omega)];cases q:lt (p.getD m 0) (p.getD (0+m-1-(m-1)) 0) with
     | true=>rfl
     | false=>
      have:=o.tr _ _ _ (all (m-1) (0+m-1-(m-1)) (zD4 _) (by omega) (zD4 _) (by omega)) q;unfold Le at this;rw[this] at hl;cases hl
   .rw[if_neg h2];have e:m=1:=by omega
    subst e;refine YF o hp (zA4 _) (by omega) (λ i j hij hj=>?_) hl;have:i=j:=by omega
    subst this;exact o.refl _
 .have:i=j:=by omega
  subst this;exact o.refl _
theorem gF {p:Array Nat}{k:Nat}(hp:xH n p) (hk:k<n) (hs:vK lt p k) (o:Ord lt):∀ (f l r:Nat),r-l<=f->l<=r->r<=k->(∀ i,i<l->Le lt (p.getD i 0) (p.getD k 0))->(∀ i,r<=i->i<k->lt (p.getD k 0) (p.getD i 0)=true)->
  yF n lt (kas_place p k f l r) λ m=>m<=k/\(∀ i,i<m->Le lt (p.getD i 0) (p.getD k 0))/\(∀ i,m<=i->i<k->lt (p.getD k 0) (p.getD i 0)=true)
 | 0,l,r,h0,h1,h2,ha,hb=>by
  have:l=r:=by omega
  subst this;exact⟨h2,ha,hb⟩
 | f+1,l,r,h0,h1,h2,ha,hb=>by
  unfold kas_place;by_cases hlr:l≥r
  .rw[if_pos hlr];have:l=r:=by omega
   subst this;exact⟨h2,ha,hb⟩
  .rw[if_neg hlr];refine⟨hp.below hk,hp.below (by omega),?_⟩;cases c:lt (p.getD k 0) (p.getD ((l+r)/2) 0) with
   | true=>
    dsimp only;rw[if_pos rfl];refine gF hp hk hs o f l ((l+r)/2) (by omega) (by omega) (by omega) ha λ i hi hik=>?_;cases q:lt (p.getD k 0) (p.getD i 0) with
    | true=>rfl
    | false=>
     have:=o.tr _ _ _ (hs ((l+r)/2) i hi hik) q;unfold Le at this;rw[this] at c;cases c
   | false=>
    dsimp only;rw[if_neg Bool.false_ne_true];refine gF hp hk hs o f ((l+r)/2+1) r (by omega) (by omega) h2 (λ i hi=>?_) hb;exact o.tr _ _ _ (hs i ((l+r)/2) (by omega) (by omega)) c
theorem Xt (o:Ord lt):∀ (f:Nat) (p:Array Nat) (k:Nat),xH n p->k+f=n->vK lt p k->yF n lt (kas_bin f p k) λ r=>xH n r/\vK lt r n
 | 0,p,k,hp,h1,hs=>by
  have:k=n:=by omega
  subst this;exact⟨hp,hs⟩
 | f+1,p,k,hp,h1,hs=>by
  refine yF.bind (yF.mono ?_ (gF hp (by omega) hs o k 0 k (by omega) (zD4 _) (zA4 _) (λ i hi=>absurd hi (Nat.not_lt_zero _)) λ i hi hik=>absurd hik (by omega)));rintro l ⟨a1,a2,a3⟩;refine Xt o f _ (k+1) (Array.Perm.trans (bubble_perm _ _ _) hp) (by omega) λ i j hij hj=>?_;have ev:∀ x,(bubble p k (k-l)).getD x 0=if x=l then p.getD k 0 else if l<x/\x<=k then p.getD (x-1) 0 else p.getD x 0:=λ x=>by
   have e:=getElem?_bubble (xs:=p) (src:=k) (by rw[hp.size];omega) (k-l) (by omega) x;rw[show k-(k-l)=l by omega] at e;split
   .rename_i h;rw[if_pos h] at e;exact mG e
   .rename_i h;rw[if_neg h] at e;split
    .rename_i h';rw[if_pos h'] at e;exact mG e
    .rename_i h';rw[if_neg h'] at e;exact mG e
  rw[ev i,ev j];by_cases hi:i=l
  .rw[if_pos hi];by_cases hj':j=l
   .rw[if_pos hj'];exact o.refl _
   .rw[if_neg hj',if_pos ⟨by omega,by omega⟩];exact o.as _ _ (a3 (j-1) (by omega) (by omega))
  .rw[if_neg hi];by_cases hj':j=l
   .rw[if_pos hj',if_neg (by omega)];exact a2 i (by omega)
   .rw[if_neg hj'];by_cases hi2:l<i/\i<=k
    .rw[if_pos hi2,if_pos ⟨by omega,by omega⟩];exact hs _ _ (by omega) (by omega)
    .rw[if_neg hi2];by_cases hj2:l<j/\j<=k
     .rw[if_pos hj2];exact hs _ _ (by omega) (by omega)
     .rw[if_neg hj2];exact hs _ _ hij (by omega)
def Vt (o:Ord lt) (h1:1<=n):yF n lt (kas_sort n) λ r=>xH n r/\vK lt r n:=by
 have hp:xH n (List.range n).toArray:=Array.Perm.refl _;refine yF.bind (yF.mono ?_ (OU o hp h1));rintro⟨m,p⟩ ⟨a1,a2,a3⟩;dsimp only at a1 a2 a3 ⊢;by_cases hm:m<n
 .rw[if_pos hm];refine Xt o _ p (max m 1) a1 (by omega) ?_;by_cases h0:m=0
  .subst h0;intro i j hij hj;have:i=j:=by omega
   subst this;exact o.refl _
  .rw[show max m 1=m by omega];exact a3
 .rw[if_neg hm];have:m=n:=by omega
  subst this;exact⟨a1,a3⟩
end
end L4
namespace L4
open PySem PySem.W PySem.Calls PyProof.Rows
section
variable {prog:Program}{w:World}{A:Around}{E:Value->Shared->Prop}{s:Shared}
def Core (prog:Program) (w:World) (A:Around) (E:Value->Shared->Prop) (vs:List Value) (Out:Array Value->Prop) (s6:Shared):Prop:=
 wpAny (model prog w) A (keyKind' vs.toArray) (fun κ s'=>s'=s6/\wpAny (model prog w) A ((sortRuns').run (SortSt.mk' κ (vs.toArray.zip vs.toArray) #[] 7 none))
  (λ r s''=>s''=s6/\failedOf r.2=none/\Out ((arrOf r.2).map (·.2))/\(arrOf r.2).size=vs.length) E s') E s6
def fF {a:Addr}{vs:List Value}{n:Nat}{P:PySem.Fin->Shared->Prop}{Out:Array Value->Prop}(ho:s.heap.get? a=some (seqObj "list" vs.toArray n)) (hz:vs.length<=sizeLine)
  (core:2<=vs.length->∀ s6:Shared,(∀ b o,b≠a->s.heap.get? b=some o->s6.heap.get? b=some o)->Core prog w A E vs Out s6) (short:vs.length<2->Out vs.toArray)
  (fin:∀ out:Array Value,Out out->out.size=vs.length->P (.done (.ret .none)) { s with heap:=sortedHeap s.heap a vs out }):
  wpAny (model prog w) A (Builtin.«list.sort» ⟨[.ref a],[]⟩) P E s:=by
 have ha:a<s.heap.objs.size:=zA8 ho;obtain⟨e1,g1⟩:∃ e1,(s.heap.update a (Obj.mapSeq λ _=>#[])).get? a=some (seqObj "list" #[] e1):=⟨_,get?_update_seq ho (λ _=>#[])⟩
 have hz':vs.toArray.size<=sizeLine:=by rw[zA0];exact hz
 have g6:(((s.heap.update a (Obj.mapSeq λ _=>#[])).push (seqObj "tuple" vs.toArray 0)).push (seqObj "list" #[] 0)).get? a=some (seqObj "list" #[] e1):=zHp _ (zHp _ g1);have keep:∀ b o,b≠a->s.heap.get? b=some o->(((s.heap.update a (Obj.mapSeq λ _=>#[])).push (seqObj "tuple" vs.toArray 0)).push (seqObj "list" #[] 0)).get? b=some o:=
  λ b o hb e=>zHp _ (zHp _ (by rw[Heap.get?_update_ne _ _ _ _ hb];exact e))
 rw[list_sort_plain];refine zWb (listItems_at ho rfl (zWb (listUpdate_at ho rfl (zWb (seqEpoch_at g1 rfl (zWb (wpAny_newTuple (zWb (wpAny_newList (wpAny_holding ?_))) (by simpa using hz))))) hz' (zD4 _))));by_cases h2:vs.toArray.size<2
 .rw[if_pos h2,if_pos h2];have e2:(arrOf (SortSt.mk' general' (vs.toArray.zip vs.toArray) #[] 7 none)).map (·.2)=vs.toArray:=by
   show (vs.toArray.zip vs.toArray).map (·.2)=vs.toArray;apply Array.ext (by simp);intro i h1 h2;simp
  refine zWb (zD1 ?_);dsimp only;rw[StateT.run_pure];refine zWb (zD1 ?_);dsimp only;refine zWb (seqEpoch_at g6 rfl (zWb (listUpdate_at g6 rfl ?_ (zD4 _) ?_)))
  .simp only[bne_self_eq_false,zC4,if_false];have q:=fin _ (e2▸short (by simpa using h2)) (by rw[e2];simp);exact zD1 q
  .show (((arrOf (SortSt.mk' general' (vs.toArray.zip vs.toArray) #[] 7 none)).map (·.2))).size<=sizeLine+1;rw[e2];omega
 .rw[if_neg h2,if_neg h2];have h2':2<=vs.length:=by simpa using h2
  refine zWb (wpAny_mono (core h2' _ keep) (fun κ s7 ⟨hs,h7⟩=>?_) λ _ _ z=>z);subst hs;refine zWb (wpAny_mono h7 (λ r s8 ⟨hs,hf,hout,hsz⟩=>?_) λ _ _ z=>z);subst hs;obtain⟨⟨⟩,st⟩:=r;refine zWb (seqEpoch_at g6 rfl (zWb (listUpdate_at g6 rfl ?_ (zD4 _) ?_)))
  .have hf':failedOf st=none:=hf;rw[hf'];simp only[bne_self_eq_false,zC4,if_false];exact zD1 (fin _ hout (by rw[Array.size_map];exact hsz))
  .show ((arrOf st).map (·.2)).size<=sizeLine+1;rw[Array.size_map];have:(arrOf st).size=vs.length:=hsz;omega
def Vs {l:Addr}{vs:List Value}{Q:Value->Shared->Prop}{Out:Array Value->Prop}(hl:s.heap.IsList l vs.toArray) (hz:vs.length<=sizeLine)
  (core:2<=vs.length->∀ s6:Shared,(∀ b o,s.heap.get? b=some o->s6.heap.get? b=some o)->Core prog w A.in1.in1 E vs Out s6) (short:vs.length<2->Out vs.toArray)
  (fin:∀ out:Array Value,Out out->out.size=vs.length->Q (.ref (s.heap.objs.size+1)) { s with heap:=sortedAll s.heap vs out }):
  wpAny (model prog w) A (call (.builtin "sorted") [.ref l]) Q E s:=by
 have hsz:((s.heap.push (seqObj "list" #[] 0)).update s.heap.objs.size (Obj.mapSeq (·++vs.toArray))).objs.size=s.heap.objs.size+1:=by
  rw[Heap.size_update,size_push']
 have hoL:(((s.heap.push (seqObj "list" #[] 0)).update s.heap.objs.size (Obj.mapSeq (·++vs.toArray))).push (seqObj "list" vs.toArray 0)).get? (s.heap.objs.size+1)=some (seqObj "list" vs.toArray 0):=hsz▸zA9 _ rfl;have keep:∀ b o,s.heap.get? b=some o->(((s.heap.push (seqObj "list" #[] 0)).update s.heap.objs.size (Obj.mapSeq (·++vs.toArray))).push (seqObj "list" vs.toArray 0)).get? b=some o:=λ b o q=>
  zHp _ (by rw[Heap.get?_update_ne _ _ _ _ (zB3 (zA8 q))];exact zHp _ q)
 refine Calls.call_function_entry kind_sorted plain_sorted entry_sorted (args_sorted1 _) ?_;unfold Builtin.«sorted»;refine zWb (m:=checkCount "sorted" 1 1 _) (zD1 (zWb (collect_list hl (zWb (wpAny_newList ?_ hz)) hz)));show wpAny _ _ _ _ _ { s with heap:=((s.heap.push (seqObj "list" #[] 0)).update s.heap.objs.size (Obj.mapSeq (·++vs.toArray))).push (seqObj "list" vs.toArray 0) };rw[hsz];refine zWb (wpAny_holding (wpAny_call_entry slot_list_sort ⟨_,hoL,rfl⟩ entry_list_sort (fF hoL hz (λ h2 s6 k=>core h2 s6 λ b o q=>k b o ?_ (keep b o q)) short λ out h1 h2=>⟨_,rfl,?_⟩) (args_list_sort _)))
 .exact zB3 (Nat.lt_succ_of_lt (zA8 q))
 .exact zD1 ⟨_,rfl,fin out h1 h2⟩
end
end L4
namespace L4
open PySem PySem.W PySem.Calls PyProof.Rows L2
theorem fJ:∀ a b:List Int,HT.lexLt a b=true->HT.lexLt b a=false
 | [],[],h=>by cases h
 | [],_::_,_=>rfl
 | _::_,[],h=>by cases h
 | x::a,y::b,h=>by
  rw[HT.rZ] at h ⊢;by_cases e:x=y
  .subst e;rw[if_pos rfl] at h ⊢;exact fJ a b h
  .rw[if_neg e] at h;rw[if_neg (Ne.symm e)];have:=of_decide_eq_true h;exact decide_eq_false (by omega)
theorem Z7:∀ a b:List Int,HT.lexLt a b=false->HT.lexLt b a=false->a=b
 | [],[],_,_=>rfl
 | [],_::_,h,_=>by cases h
 | _::_,[],_,h=>by cases h
 | x::a,y::b,h,h'=>by
  rw[HT.rZ] at h h';by_cases e:x=y
  .subst e;rw[if_pos rfl] at h h';rw[Z7 a b h h']
  .rw[if_neg e] at h;rw[if_neg (Ne.symm e)] at h';have h1:=of_decide_eq_false h;have h2:=of_decide_eq_false h';omega
theorem fH:∀ a b c:List Int,HT.lexLt b a=false->HT.lexLt c b=false->HT.lexLt c a=false
 | [],[],[],_,_=>rfl
 | [],[],_::_,_,h=>h
 | [],_::_,[],_,h=>by cases h
 | [],_::_,_::_,_,_=>rfl
 | _::_,[],_,h,_=>by cases h
 | _::_,_::_,[],_,h=>by cases h
 | x::a,y::b,z::c,h,h'=>by
  rw[HT.rZ] at h h' ⊢;by_cases e1:y=x
  .subst e1;rw[if_pos rfl] at h;by_cases e2:z=y
   .subst e2;rw[if_pos rfl] at h' ⊢;exact fH a b c h h'
   .rw[if_neg e2] at h' ⊢;exact h'
  .rw[if_neg e1] at h;have h1:=of_decide_eq_false h;by_cases e2:z=y
   .subst e2;rw[if_neg e1];exact h
   .rw[if_neg e2] at h';have h2:=of_decide_eq_false h';rw[if_neg (by omega)];exact decide_eq_false (by omega)
theorem gJ {α:Type}{r:α->α->Prop}(an:∀ a b,r a b->r b a->a=b):∀ {l₁ l₂:List α},l₁.Perm l₂->l₁.Pairwise r->l₂.Pairwise r->l₁=l₂
 | [],l₂,h,_,_=>(List.nil_perm.mp h).symm
 | a::l₁,[],h,_,_=>absurd (List.perm_nil.mp h) (by simp)
 | a::l₁,b::l₂,h,h1,h2=>by
  have hab:a=b:=by
   have ha:a∈b::l₂:=h.mem_iff.mp zMc;have hb:b∈a::l₁:=h.mem_iff.mpr zMc;rcases zA5.mp ha with e | ha
   .exact e
   .rcases zA5.mp hb with e | hb
    .exact e.symm
    .exact an _ _ (List.rel_of_pairwise_cons h1 hb) (List.rel_of_pairwise_cons h2 ha)
  subst hab;rw[gJ an (List.Perm.cons_inv h) (List.pairwise_cons.mp h1).2 (List.pairwise_cons.mp h2).2]
noncomputable def xW (rows:List (List Int)):List (List Int):=rows.mergeSort λ a b=>!HT.lexLt b a
def uP (rows:List (List Int)):(xW rows).Perm rows:=List.mergeSort_perm _ _
def i3 (rows:List (List Int)):(xW rows).Pairwise λ a b=>HT.lexLt b a=false:=by
 have:=List.pairwise_mergeSort (le:=λ a b:List Int=>!HT.lexLt b a) (λ a b c h1 h2=>by simp at h1 h2 ⊢;exact fH a b c h1 h2)
  (λ a b=>by
   cases h:HT.lexLt b a with
   | false=>simp
   | true=>simp[fJ b a h]) rows
 exact this.imp λ h=>by simpa using h
def bE {rows out:List (List Int)}(hp:out.Perm rows) (hs:out.Pairwise λ a b=>HT.lexLt b a=false):out=xW rows:=
 gJ (λ a b h1 h2=>Z7 a b h2 h1) (hp.trans (uP rows).symm) hs (i3 rows)
noncomputable def nM (rows:List (List Int)) (i j:Nat):Bool:=HT.lexLt (rows.getD i []) (rows.getD j [])
def VQ (rows:List (List Int)):Ord (nM rows):=⟨λ _ _ _ h1 h2=>fH _ _ _ h1 h2,λ _ _ h=>fJ _ _ h⟩
section
variable {prog:Program}{w:World}{A:Around}{E:Value->Shared->Prop}{s:Shared}{Q:Bool->Shared->Prop}
theorem ZJ {b:Bool}:∀ (ns ms:List Int) (us ws:List Value) (i:Nat),IntsAre us ns->IntsAre ws ms->Q (HT.lexLt ns ms) s->KatLex prog w A b (decide (ns.length<ms.length)) Q (us.zip ws) i s
 | [],[],_,_,_,.nil,.nil,h=>kat_nil (by simpa [HT.lexLt] using h)
 | [],_::_,_,_,_,.nil,.cons _ _ _,h=>kat_nil (by simpa [HT.lexLt] using h)
 | _::_,[],_,_,_,.cons _ _ _,.nil,h=>kat_nil (by simpa [HT.lexLt] using h)
 | n::ns,m::ms,_,_,i,.cons _ t hu,.cons _ u hw,h=>by
  rw[HT.rZ] at h;refine kat_cons (SeqAt.EqAt.int_int n t m u prog w _ _ (kat_go (λ e=>kat_yes ?_) λ e=>kat_no ?_))
  .have e':n=m:=by simpa using e
   rw[if_pos e'] at h;rw[show decide ((n::ns).length<(m::ms).length)=decide (ns.length<ms.length) by simp];exact ZJ ns ms _ _ (i+1) hu hw h
  .have e':¬ n=m:=by simpa using e
   rw[if_neg e'] at h;cases b&&i == 0 with
   | true=>exact kat_lt_int h
   | false=>exact kat_one _ _ (lt_int h)
def sY (h:Heap):List Value->List (List Int)->Prop:=Paired λ v r=>r≠[]/\∃ b o its n,v=.ref b/\h.get? b=some o/\o.cls=.type "tuple"/\o.data=.seq its n/\IntsAre its.toList r
theorem sY.Yu {h:Heap}:∀ {vs:List Value}{rows:List (List Int)},sY h vs rows->∃ fs,KatTups h vs fs/\fs.length=vs.length/\∀ v∈fs,∃ n t,v=Value.int n t
 | _,_,.nil=>⟨[],KatTups.nil,rfl,λ _ hv=>absurd hv (by simp)⟩
 | _,_,.cons ⟨hne,b,o,its,n,hv,ho,hc,hd,hi⟩ r=>by
  obtain⟨fs,h1,h2,h3⟩:=sY.Yu r;subst hv;obtain⟨its⟩:=its;cases hi with
  | nil=>exact absurd rfl hne
  | cons k t _=>exact⟨.int k t::fs,KatTups.cons ho hc hd rfl h1,by simp[h2],λ v hv=>(zA5.mp hv).elim (λ e=>⟨k,t,e⟩) (h3 v)⟩
theorem Paired.at' {α β:Type}{F:α->β->Prop}:∀ {l₁:List α}{l₂:List β}{i:Nat},Paired F l₁ l₂->i<l₁.length->∀ (d:α) (e:β),F (l₁.getD i d) (l₂.getD i e)
 | _,_,_,.nil,h,_,_=>absurd h (by simp)
 | _,_,0,.cons r _,_,_,_=>r
 | _,_,i+1,.cons _ t,h,d,e=>by simpa using Paired.at' (i:=i) t (by simpa using h) d e
def sY.ask {vs:List Value}{rows:List (List Int)}{b:Bool}(r:sY s.heap vs rows) {i j:Nat}(hi:i<vs.length) (hj:j<vs.length) {C:Bool->Shared->Prop}(h:C (nM rows i j) s):kas_ask prog w A (tuples' b) vs i j C s:=by
 obtain⟨_,b1,o1,its1,n1,e1,g1,_,d1,q1⟩:=Paired.at' r hi Value.none [];obtain⟨_,b2,o2,its2,n2,e2,g2,_,d2,q2⟩:=Paired.at' r hj Value.none [];unfold kas_ask;rw[e1,e2];refine kat_lt g1 d1 g2 d2 ?_;have l1:=q1.length;have l2:=q2.length;rw[zD2] at l1 l2;rw[l1,l2];exact ZJ _ _ _ _ 0 q1 q2 h
theorem c_ {α:Type}{n:Nat}{lt:Nat->Nat->Bool}{cmp:Nat->Nat->(Bool->Shared->Prop)->Shared->Prop}{Q:α->Shared->Prop}(hc:∀ i j C,i<n->j<n->C (lt i j) s->cmp i j C s):∀ {t:KasT α},yF n lt t (λ a=>Q a s)->t.kasWp cmp Q s
 | .ret _,h=>h
 | .ask i j _,h=>hc i j _ h.1 h.2.1 (c_ hc h.2.2)
def lG (vs:List Value) (rows:List (List Int)) (out:Array Value):Prop:=
 ∃ idx:List Nat,idx.Perm (List.range vs.length)/\out.toList=idx.map (λ i=>vs.getD i Value.none)/\(idx.map λ i=>rows.getD i []).Pairwise λ a b=>HT.lexLt b a=false
def Vp {rows:List (List Int)}{p:Array Nat}{n:Nat}(hn:p.size=n) (h:vK (nM rows) p n):(p.toList.map λ i=>rows.getD i []).Pairwise λ a b=>HT.lexLt b a=false:=by
 rw[List.pairwise_map,List.pairwise_iff_getElem];intro i j hi hj hij;have:=h i j (zE3 hij) (by rw[<- hn];simpa using hj);simp only[zD2] at hi hj;unfold Le nM at this;simpa [Array.getD_eq_getD_getElem?,hi,hj] using this
def eQ {vs:List Value}{rows:List (List Int)}(r:sY s.heap vs rows) (h2:2<=vs.length) (h64:vs.length<64):Core prog w A E vs (lG vs rows) s:=by
 obtain⟨fs,t,hl,hf⟩:=r.Yu;unfold Core;refine kat_kind (T:=.type "int") t (by omega) (λ v hv=>?_) rfl ⟨rfl,?_⟩
 .obtain⟨n,t,rfl⟩:=hf v hv;exact Looks.of_pure rfl
 .refine kat_run (ks:=vs) (Q:=λ st s''=>s''=s/\failedOf st=none/\lG vs rows ((arrOf st).map (·.2))/\(arrOf st).size=vs.length) (G:=λ p s''=>s''=s/\xH vs.length p/\vK (nM rows) p vs.length) rfl h2 h64 (λ p st s' hs ha hfl hg=>?_) ?_
  .obtain⟨h1,h3,h4⟩:=hg;refine⟨h1,hfl,⟨p.toList,?_,?_,Vp hs h4⟩,by rw[ha,Array.size_map];exact hs⟩
   .have:=Array.Perm.toList h3;simpa using this
   .rw[kat_snds rfl ha]
  .exact c_ (λ i j C hi hj hC=>r.ask hi hj hC) (yF.mono (λ p hp=>⟨rfl,hp⟩) (Vt (VQ rows) (by omega)))
end
section
variable {X:Cx}
def Nm:yT X (.builtin "sorted") (λ xs H Q=>∃ p ys,∃ rows:List (List Int),xs=[.ref p]/\zV X.K H p ys/\Paired (λ v r=>r≠[]/\∃ b,v=V.ref b/\ya X.K H b (r.map V.int)) ys rows/\rows.length<64/\
  ∀ (l:Addr) (idx:List Nat),H l=none->idx.Perm (List.range ys.length)->(idx.map λ i=>rows.getD i []).Pairwise (λ a b=>HT.lexLt b a=false)->Q (.ref l) (upd H l (.lst (idx.map λ i=>ys.getD i .zj)))):=by
 intro pins s B H xs us Q I r h;obtain⟨p,ys,rows,rfl,hq,hr,h64,q⟩:=h;obtain⟨u,rfl,ru⟩:=vals1 r;cases ru;obtain⟨its,rv,pl,hz⟩:=I.list hq;have hl:=rv.length;have hlr:ys.length=rows.length:=Paired.length hr;have rows_at:∀ h6:Heap,(∀ b o,s.heap.get? b=some o->h6.get? b=some o)->sY h6 its rows:=λ h6 k=>by
  clear q hz hl hlr h64 hq pl r
  induction hr generalizing its with
  | nil=>cases rv;exact .nil
  | cons g t ih=>
   cases rv with
   | cons r1 r2=>
    refine .cons ?_ (ih _ r2);obtain⟨hne,b,rfl,hb⟩:=g;cases r1;obtain⟨its2,rv2,⟨o,e,hc,n,hd⟩,_⟩:=I.tuple hb;exact⟨hne,b,o,_,n,rfl,k _ _ e,hc,hd,by simpa using intsAre_of rv2⟩
 refine Vs (Out:=lG its rows) pl.isList (by rw[<- hl];exact hz) (λ h2 s6 k=>eQ (rows_at _ k) h2 (by omega)) (λ h1=>?_) λ out ho hs=>?_
 .refine⟨List.range its.length,.refl _,?_,?_⟩
  .refine List.ext_getElem (by simp) λ i h1 h2=>?_;simp at h1;simp[h1]
  .rw[List.pairwise_map,List.pairwise_iff_getElem];intro i j hi hj hij;simp at hi hj;omega
 .obtain⟨idx,g1,g2,g3⟩:=ho;obtain⟨e,ho⟩:=sortedAll_at s.heap its out;have hfr:H (s.heap.objs.size+1)=none:=I.zD.fresh (Nat.le_succ _);have g1':idx.Perm (List.range ys.length):=by rw[hl];exact g1
  refine⟨.ref (s.heap.objs.size+1),_,I.laid (t':=s.toks) (o:=.lst (idx.map λ i=>ys.getD i .zj)) (λ b o q=>sortedAll_old q) (Nat.le_succ _) ?_,rfl,q _ idx hfr g1' g3⟩;refine⟨by rw[zA7,g1'.length_eq,zC5];exact hz,out.toList,e,?_,by simpa using ho⟩;rw[g2];have hlt:∀ i∈idx,i<ys.length:=λ i hi=>by simpa using g1'.mem_iff.mp hi
  clear g1 g1' g2 g3 q
  induction idx with
  | nil=>exact .nil
  | cons i idx ih=>
   refine .cons ?_ (ih λ j hj=>hlt j (zMo _ hj));have hi:=hlt i zMc;obtain⟨u,e1,e2⟩:=rv.get (i:=i) (x:=ys[i]) (by simp[hi]);have e3:its.getD i Value.none=u:=by simp[e1]
   have e4:ys.getD i .zj=ys[i]:=by simp[hi]
   show RelV (ys.getD i .zj) (its.getD i Value.none);rw[e3,e4];exact e2
end
end L4
namespace L2
open PySem PySem.Spec PyProof.Rows
noncomputable def v9 (ty T:String):Bool:=ty == T||(ty == "bool"&&T == "int")
noncomputable def ki (ty T:String):Bool:=PySem.W.kitMeta T&&decide ((fastBuiltinMro ty).map (λ l=>l.contains (Value.type T))=some (v9 ty T))
def W9:(["NoneType","bool","int","str","tuple","list","dict"].all λ ty=>["int","bool","tuple","list","str"].all λ T=>ki ty T)=true:=by decide +kernel
def QK {K:zFr}{ty T:String}(h:ki ty T=true):PySem.W.kitOne K (.type ty) (.type T)=some (v9 ty T):=by
 unfold ki at h;rw[zE5] at h;unfold PySem.W.kitOne;split
 .rename_i e;have e':ty=T:=by have:=eq_of_beq e;injection this
  subst e';simp[v9]
 .show (if PySem.W.kitMeta T=true then PySem.W.subIn K (.type ty) (.type T) else none)=_;rw[if_pos h.1];exact of_decide_eq_true h.2
noncomputable def X0 (K:zFr) (H:Hp):V->String->Prop
 | .zj,t=>t="NoneType"
 | .bl _,t=>t="bool"
 | .int _,t=>t="int"
 | .str _,t=>t="str"
 | .ref a,t=>(t="tuple"/\∃ xs,ya K H a xs)\/(t="list"/\∃ xs,zV K H a xs)\/(t="dict"/\∃ kvs,H a=some (.dK kvs))
 | _,_=>False
def N2 {X:Cx}:yT X (.builtin "isinstance") (λ xs H Q=>∃ x T ty,xs=[x,.ty T]/\X0 X.K H x ty/\ki ty T=true/\Q (.bl (v9 ty T)) H):=by
 intro pins s B H xs us Q I r h;obtain⟨x,T,ty,rfl,hx,hT,q⟩:=h;obtain⟨u,c,rfl,ru,rc⟩:=vals2 r;cases (show c=Value.type T from rc);have e:PySem.W.kitOne X.K (.type ty) (.type T)=some (v9 ty T):=QK hT;have fin:∀ tk,EP X pins B Q (.bool (v9 ty T)) { s with toks:=tk }:=λ tk=>⟨.bl _,H,I.tok tk,rfl,q⟩;cases x with
 | zj=>cases (show u=Value.none from ru);cases (show ty=_ from hx);exact PySem.W.kia_one PySem.W.kitx_none I.vU True.intro e (λ z=>nomatch z) fin
 | bl y=>cases (show u=Value.bool y from ru);cases (show ty=_ from hx);exact PySem.W.kia_one PySem.W.kitx_bool I.vU True.intro e (λ z=>nomatch z) fin
 | int i=>obtain⟨t,rfl⟩:=(show ∃ t,u=Value.int i t from ru);cases (show ty=_ from hx);exact PySem.W.kia_one PySem.W.kitx_int I.vU True.intro e (λ z=>nomatch z) fin
 | str y=>obtain⟨t,rfl⟩:=(show ∃ t,u=Value.str y t from ru);cases (show ty=_ from hx);exact PySem.W.kia_one PySem.W.kitx_str I.vU True.intro e (λ z=>nomatch z) fin
 | ref a=>
  cases (show u=Value.ref a from ru);rcases hx with ⟨rfl,ys,hq⟩ | ⟨rfl,ys,hq⟩ | ⟨rfl,kvs,hq⟩
  .obtain⟨its,_,⟨o,h1,h2,_⟩,_⟩:=I.tuple hq;exact PySem.W.kia_one PySem.W.kitx_tuple I.vU ⟨o,h1,h2⟩ e (λ z=>nomatch z) fin
  .obtain⟨its,_,⟨o,n,h1,h2,_⟩,_⟩:=I.list hq;exact PySem.W.kia_one PySem.W.kitx_list I.vU ⟨o,h1,h2⟩ e (λ z=>nomatch z) fin
  .obtain⟨_,_,vs,_,p⟩:=(show x8 X.prog X.w H s.heap a (.dK kvs) from I.zD a _ hq)
   obtain⟨o,es,ep,h1,h2,_⟩:=p;exact PySem.W.kia_one PySem.W.kitx_dict I.vU ⟨o,h1,h2.1⟩ e (λ z=>nomatch z) fin
 | oZ _=>exact hx.elim
 | jo _=>exact hx.elim
 | ty _=>exact hx.elim
end L2
namespace L3
open PySem PySem.Spec L2
open PyProof.Rows hiding St
section
variable {X:Cx}{K:zFr}{a b c e:Expr}{es:List Expr}{ta tb tc te:zu}{tA:yv}{pos p q:Pos}
def v8 (hm:X.mg "len"=none) (ha:wa X (e::es) tA) (hg:Gl X "len":=by rfl) (he:starEach (e::es) X.env=(false,eval e X.env)::starEach es X.env:=by rfl) (hpl:(backTo pos (starEach es X.env)).any (·.1)=false:=by rfl):PD X (.Call (.Name "len" p) (e::es) [] pos) (xY uC tA):=
 sF (rO (Nz.or Ny) hg hm PySem.boot_len ha.pa (by decide) (by decide) he hpl) uC.mo uC.fits ha.mo
def nZ (hm:X.mg "list"=none) (ha:wa X (e::es) tA) (hg:Gl X "list":=by rfl) (he:starEach (e::es) X.env=(false,eval e X.env)::starEach es X.env:=by rfl) (hpl:(backTo pos (starEach es X.env)).any (·.1)=false:=by rfl):PD X (.Call (.Name "list" p) (e::es) [] pos) (xY uB tA):=
 sF (oq Nw hg hm PyProof.Rows.boot_list ha.pa (by decide) (by decide) he hpl) uB.mo uB.fits ha.mo
def oy (hm:X.mg "tuple"=none) (ha:wa X (e::es) tA) (hg:Gl X "tuple":=by rfl) (he:starEach (e::es) X.env=(false,eval e X.env)::starEach es X.env:=by rfl) (hpl:(backTo pos (starEach es X.env)).any (·.1)=false:=by rfl):PD X (.Call (.Name "tuple" p) (e::es) [] pos) (xY uA tA):=
 sF (oq Ni hg hm PyProof.Rows.boot_tuple ha.pa (by decide) (by decide) he hpl) uA.mo uA.fits ha.mo
abbrev Yx:xT:=vX λ i j=>.int (if j>i then j else i)
abbrev Yw:xT:=vX λ i j=>.int (if j<i then j else i)
def kM (hm:X.mg "max"=none) (ha:wa X (e::es) tA) (hc:X.calm=true:=by rfl) (hg:Gl X "max":=by rfl) (he:starEach (e::es) X.env=(false,eval e X.env)::starEach es X.env:=by rfl) (hpl:(backTo pos (starEach es X.env)).any (·.1)=false:=by rfl):PD X (.Call (.Name "max" p) (e::es) [] pos) (xY Yx tA):=
 sF (rO (Nv hc) hg hm boot_max ha.pa (by decide) (by decide) he hpl) vX.mo (vX.fits λ _ _ _=>by simp only[zi]) ha.mo
def o4 (hm:X.mg "min"=none) (ha:wa X (e::es) tA) (hc:X.calm=true:=by rfl) (hg:Gl X "min":=by rfl) (he:starEach (e::es) X.env=(false,eval e X.env)::starEach es X.env:=by rfl) (hpl:(backTo pos (starEach es X.env)).any (·.1)=false:=by rfl):PD X (.Call (.Name "min" p) (e::es) [] pos) (xY Yw tA):=
 sF (rO (Nu hc) hg hm boot_min ha.pa (by decide) (by decide) he hpl) vX.mo (vX.fits λ _ _ _=>by simp only[zi]) ha.mo
noncomputable def w6 (r:List Int):D:=.tup (r.map D.int)
theorem nL {H:Hp}:∀ {rows:List (List Int)}{ys:List V},zo K H (rows.map w6) ys->(∀ r∈rows,r≠[])->Paired (λ v r=>r≠[]/\∃ b,v=V.ref b/\ya K H b (r.map V.int)) ys rows
 | [],ys,h,_=>by simp only[List.map_nil,zo] at h;subst h;exact .nil
 | r::rows,ys,h,hn=>by
  rw[zA6] at h;simp only[zo,w6,zi] at h;obtain⟨x,ys',rfl,⟨a,xs,rfl,g1,g2⟩,h3⟩:=h;rw[g2.ints] at g1;exact .cons ⟨hn r zMc,a,rfl,g1⟩ (nL h3 λ r' hr=>hn r' (zMo _ hr))
def Zy {α:Type}{rows:List α}{d:α}{idx:List Nat}(h:idx.Perm (List.range rows.length)):(idx.map λ i=>rows.getD i d).Perm rows:=by
 refine (h.map _).trans ?_;have:(List.range rows.length).map (λ i=>rows.getD i d)=rows:=by
  refine List.ext_getElem (by simp) λ i h1 h2=>?_;simp[h2]
 rw[this]
theorem zo.perm {H:Hp}{rows:List (List Int)}{ys:List V}(h:zo K H (rows.map w6) ys):∀ {idx:List Nat},(∀ i∈idx,i<rows.length)->zo K H ((idx.map λ i=>rows.getD i []).map w6) (idx.map λ i=>ys.getD i .zj)
 | [],_=>.nil
 | i::idx,hi=>by
  have h1:=hi i zMc;obtain⟨x,e1,e2⟩:=h.get (i:=i) (d:=w6 rows[i]) (by simp[h1]);refine .cons ?_ (zo.perm h λ j hj=>hi j (zMo _ hj));have e3:ys.getD i .zj=x:=by simp[e1]
  have e4:rows.getD i []=rows[i]:=by simp[h1]
  show zi K H (w6 (rows.getD i [])) (ys.getD i .zj);rw[e3,e4];exact e2
def rS {tg:Expr}(hm:X.mg "range"=none) (ha:wa X [a] tA) (hg:Gl X "range":=by rfl) (hs:starEach [a] X.env=[(false,eval a X.env)]:=by rfl):sZ X tg (.Call (.Name "range" p) [a] [] pos) (fP tA):=T4 (UG hg hm ha.pa hs) ha.mo
def Tz {tg:Expr}(hm:X.mg "range"=none) (ha:wa X [a,b] tA) (hg:Gl X "range":=by rfl) (hs:starEach [a,b] X.env=[(false,eval a X.env),(false,eval b X.env)]:=by rfl) (hs2:starEach [b] X.env=[(false,eval b X.env)]:=by rfl):sZ X tg (.Call (.Name "range" p) [a,b] [] pos) (fO tA):=T3 (UE hg hm ha.pa hs hs2) ha.mo
noncomputable def rB (d:D) (S:SS):Option String:=match d with
 | .zj=>some "NoneType"
 | .bl _=>some "bool"
 | .int _=>some "int"
 | .str _=>some "str"
 | .tup _=>some "tuple"
 | .yO _=>some "list"
 | .ref p=>match S p with
  | some (.lst _)=>some "list"
  | some (.ye _)=>some "dict"
  | none=>none
def oU (T:String) (te:zu):zu:=fun Y S Q=>te Y S λ x S1=>match rB x S1 with
 | some ty=>Q (.bl (v9 ty T)) S1
 | none=>False
def rB.ok {H:Hp}{d:D}{v:V}{S:SS}{ty:String}(r:zi K H d v) (p:zO K H S) (h:rB d S=some ty):X0 K H v ty/\ty∈["NoneType","bool","int","str","tuple","list","dict"]:=by
 cases d with
 | zj=>simp only[zi] at r;subst r;cases h;exact⟨rfl,by simp⟩
 | bl _=>simp only[zi] at r;subst r;cases h;exact⟨rfl,by simp⟩
 | int _=>simp only[zi] at r;subst r;cases h;exact⟨rfl,by simp⟩
 | str _=>simp only[zi] at r;subst r;cases h;exact⟨rfl,by simp⟩
 | tup ds=>
  simp only[zi] at r;obtain⟨a,xs,rfl,g1,_⟩:=r;cases h;exact⟨.inl ⟨rfl,xs,g1⟩,by simp⟩
 | yO ds=>
  simp only[zi] at r;obtain⟨a,xs,rfl,g1,_⟩:=r;cases h;exact⟨.inr (.inl ⟨rfl,xs,g1.sq⟩),by simp⟩
 | ref a=>
  simp only[zi] at r;subst r;unfold rB at h;dsimp only at h;split at h
  .rename_i e;cases h;obtain⟨xs,g1,_⟩:=p _ _ e;exact⟨.inr (.inl ⟨rfl,xs,zV.of g1⟩),by simp⟩
  .rename_i e;cases h;obtain⟨xs,g1,_⟩:=p _ _ e;exact⟨.inr (.inr ⟨rfl,xs,g1⟩),by simp⟩
  .cases h
def kN {T:String}{x:Str}(hT:T∈["int","bool","tuple","list","str"]) (hm:X.mg "isinstance"=none) (hm2:X.mg x=none) (hv:bootBuiltins x=some (.type T)) (hg2:Gl X x) (hn:x≠"__name__") (hd:(x == ("__debug__":Str))=false) (he:PD X e te) (hg:Gl X "isinstance":=by rfl)
  (h1:starEach (e::[.Name x q]) X.env=(false,eval e X.env)::starEach [.Name x q] X.env:=by rfl) (h2:(backTo pos (starEach [.Name x q] X.env)).any (·.1)=false:=by rfl) (h3:starEach [.Name x q] X.env=(false,eval (.Name x q) X.env)::starEach [] X.env:=by rfl):
  PD X (.Call (.Name "isinstance" p) [e,.Name x q] [] pos) (oU T te):=by
 refine⟨fun Y S Q Q' hq z=>he.mo Y S _ _ (λ y S1 z=>?_) z,PE.imp (rO N2 hg hm boot_isinstance (qN he.pe (qN (Tq (v:=.ty T) hg2 hm2 hv rfl hn hd) o5 h3) h1) (by decide) (by decide) h1 h2) fun B H Q hu=>?_⟩
 .split at z
  .exact hq _ _ z
  .exact z
 .obtain⟨Y,S,r1,r2,z⟩:=hu;refine zS.go he.mo r1 r2 z λ y S1 v H1 z1 q1 e1 p1=>?_;split at z1
  .rename_i ty ht;obtain⟨g1,g2⟩:=rB.ok q1 p1 ht;refine⟨v,T,ty,rfl,g1,?_,z1 _ H1 (by simp only[zi]) e1 p1⟩;exact zE4.mp (zE4.mp W9 ty g2) T hT
  .exact z1.elim
def aW (T:Bt X.mg) (he:PD X e te) (hg:Gl X "isinstance":=by rfl) (hg2:Gl X "bool":=by rfl) (h1:starEach (e::[.Name "bool" q]) X.env=(false,eval e X.env)::starEach [.Name "bool" q] X.env:=by rfl) (h2:(backTo pos (starEach [.Name "bool" q] X.env)).any (·.1)=false:=by rfl) (h3:starEach [.Name "bool" q] X.env=(false,eval (.Name "bool" q) X.env)::starEach [] X.env:=by rfl):
  PD X (.Call (.Name "isinstance" p) [e,.Name "bool" q] [] pos) (oU "bool" te):=kN (by simp) T.isinstance T.bool PyProof.Rows.boot_bool hg2 (by decide) (by decide) he hg h1 h2 h3
def aV (T:Bt X.mg) (he:PD X e te) (hg:Gl X "isinstance":=by rfl) (hg2:Gl X "int":=by rfl) (h1:starEach (e::[.Name "int" q]) X.env=(false,eval e X.env)::starEach [.Name "int" q] X.env:=by rfl) (h2:(backTo pos (starEach [.Name "int" q] X.env)).any (·.1)=false:=by rfl) (h3:starEach [.Name "int" q] X.env=(false,eval (.Name "int" q) X.env)::starEach [] X.env:=by rfl):
  PD X (.Call (.Name "isinstance" p) [e,.Name "int" q] [] pos) (oU "int" te):=kN (by simp) T.isinstance T.int PyProof.Rows.boot_int hg2 (by decide) (by decide) he hg h1 h2 h3
def aR (T:Bt X.mg) (he:PD X e te) (hg:Gl X "isinstance":=by rfl) (hg2:Gl X "tuple":=by rfl) (h1:starEach (e::[.Name "tuple" q]) X.env=(false,eval e X.env)::starEach [.Name "tuple" q] X.env:=by rfl) (h2:(backTo pos (starEach [.Name "tuple" q] X.env)).any (·.1)=false:=by rfl) (h3:starEach [.Name "tuple" q] X.env=(false,eval (.Name "tuple" q) X.env)::starEach [] X.env:=by rfl):
  PD X (.Call (.Name "isinstance" p) [e,.Name "tuple" q] [] pos) (oU "tuple" te):=kN (by simp) T.isinstance T.tuple PyProof.Rows.boot_tuple hg2 (by decide) (by decide) he hg h1 h2 h3
def sH {o:Expr}{to:zu}{apos cpos:Pos}(ho:PD X o to) (he:PD X e te)
  (hbase:attributeBase o "append" X.env (eval o X.env)=eval o X.env:=by rfl)
  (hfew:((backTo cpos (starEach [e] X.env)).all (λ x=>!x.1)&&(backToKw cpos (keywordEach [] X.env)).all (λ x=>x.1.isSome)
   && decide ([e].length+([]:List Keyword).length+(if ([]:List Keyword).isEmpty then 0 else 1)<30))=true:=by rfl)
  (hline:(apos.endLine == cpos.line)=true:=by rfl) (hs:starEach [e] X.env=(false,eval e X.env)::starEach [] X.env:=by rfl) (hplain:(backTo cpos (starEach [] X.env)).any (·.1)=false:=by rfl):
  PD X (.Call (.Attribute o "append" apos) [e] [] cpos) (tY to te):=
 TQ (o:=o) (e:=e) (aF PySem.F.plainAttrs_list PySem.F.slot_list_append PySem.F.type_list_append Zx ho.pe (qN he.pe o5 hs) hbase hfew hline hs hplain) ho.mo he.mo
structure FD (P:Program) (w:World) (K:zFr) (mg:Str->Option Value) (base:Heap) (x:Str) (k:Nat) (ps:List Str) (sp:sX):Prop where
 ex:∃ (f:Addr) (fd:FuncData),uj P w K mg base vh k f fd ps (t8 K sp)/\mg x=some (.ref f)/\PySem.W.keepIn K (.ref f)=true/\Binds K fd ps []
 mo:dA sp
def zW {x:Str}{k:Nat}{ps:List Str}{sp:sX}(F:FD X.prog X.w X.K X.mg X.base x k ps sp) (hr:yC k X.A) (ha:wa X (e::es) tA) (hg:Gl X x:=by rfl) (hdb:(x == ("__debug__":Str))=false:=by decide)
  (he:starEach (e::es) X.env=(false,eval e X.env)::starEach es X.env:=by rfl) (hpl:(backTo pos (starEach es X.env)).any (·.1)=false:=by rfl):PD X (.Call (.Name x p) (e::es) [] pos) (eP sp tA):=by
 obtain⟨⟨f,fd,h1,h2,h3,h4⟩,hm⟩:=F;exact TN (E:=E0) (Tp h1 hr hg h2 h3 h4 .nil TU ha.pa hdb he hpl) hm ha.mo
end
section
variable {P:Program}{w:World}{K:zFr}{mg:Str->Option Value}{base:Heap}{f:Addr}{fd:FuncData}
end
def Og {S:SS}{p:Addr}{ds:List D}{Q:DK}(e:S p=some (.lst ds)) (h:Q (.tup ds) S):uA [.ref p] S Q:=by
 unfold uA;dsimp only;rw[e];exact h
def Oh {S:SS}{d:D}{ds:List D}{Q:DK}(e:zM d S=some ds) (h:∀ p,S p=none->Q (.ref p) (ups S p (.lst ds))):uB [d] S Q:=by
 unfold uB;dsimp only;rw[e];exact h
def Oi {S:SS}{d:D}{ds:List D}{Q:DK}(e:zM d S=some ds) (h:Q (.int ds.length) S):uC [d] S Q:=by
 unfold uC;dsimp only;rw[e];exact h
def WG {S:SS}{p:Addr}{ds:List D}{Q:Bool->SS->Prop}(e:S p=some (.lst ds)) (h:Q (!ds.isEmpty) S):vN (.ref p) S Q:=by
 unfold vN;dsimp only;rw[e];exact h
def Yz {S:SS}{p:Addr}{ds:List D}{i:Int}{d:D}{Q:DK}(e:S p=some (.lst ds)) (e2:L2.z_ ds i=some d) (h:Q d S):xX (.ref p) (.int i) S Q:=by
 unfold xX;dsimp only;rw[e];dsimp only;rw[e2];exact h
def Oj {S:SS}{ds:List D}{i:Int}{d:D}{Q:DK}(e2:L2.z_ ds i=some d) (h:Q d S):xX (.tup ds) (.int i) S Q:=by
 unfold xX;dsimp only;rw[e2];exact h
def Ol {S:SS}{ds:List D}{i:Int}{d:D}{Q:DK}(e2:L2.z_ ds i=some d) (h:Q d S):xX (.yO ds) (.int i) S Q:=by
 unfold xX;dsimp only;rw[e2];exact h
inductive T where
 | zj | bl (b:Bool) | int (i:Int) | str (x:Str) | tup (ts:List T) | lst (ts:List T) | zN
mutual
noncomputable def eqT:T->T->Bool
 | .zj,.zj=>true
 | .bl a,.bl b=>a == b
 | .bl a,.int b=>(if a then 1 else 0) == b
 | .int a,.bl b=>a == (if b then 1 else 0)
 | .int a,.int b=>a == b
 | .str a,.str b=>a == b
 | .tup a,.tup b=>xO a b
 | .lst a,.lst b=>xO a b
 | .zN,.zN=>true
 | _,_=>false
noncomputable def xO:List T->List T->Bool
 | [],[]=>true
 | a::as,b::bs=>eqT a b&&xO as bs
 | _,_=>false
end
mutual
noncomputable def dep:T->Nat
 | .tup ts=>1+yw ts
 | .lst ts=>1+yw ts
 | .zN=>cLine
 | _=>0
noncomputable def yw:List T->Nat
 | []=>0
 | t::ts=>max (dep t) (yw ts)
end
noncomputable def mf:List T->Bool
 | []=>true
 | .int _::ts=>mf ts
 | _=>false
def S9 (ns:List Int):mf (ns.map T.int)=true:=by
 induction ns with
 | nil=>rfl
 | cons n ns ih=>exact ih
mutual
noncomputable def Sn (S:SS):T->D->Prop
 | .zj,d=>d=.zj
 | .bl b,d=>d=.bl b
 | .int i,d=>d=.int i
 | .str x,d=>d=.str x
 | .tup ts,d=>∃ ds,d=.tup ds/\zh S ts ds
 | .lst ts,d=>∃ ds,((d=.yO ds/\mf ts=true)\/∃ a,d=.ref a/\S a=some (.lst ds))/\zh S ts ds
 | .zN,d=>∃ a kvs,d=.ref a/\S a=some (.ye kvs)
noncomputable def zh (S:SS):List T->List D->Prop
 | [],ds=>ds=[]
 | t::ts,ds=>∃ c cs,ds=c::cs/\Sn S t c/\zh S ts cs
end
mutual
theorem mO:∀ t:T,eqT t t=true
 | .zj=>by simp[eqT]
 | .bl b=>by simp[eqT]
 | .int i=>by simp[eqT]
 | .str x=>by simp[eqT]
 | .tup ts=>by simp only[eqT];exact eE ts
 | .lst ts=>by simp only[eqT];exact eE ts
 | .zN=>by simp[eqT]
theorem eE:∀ ts:List T,xO ts ts=true
 | []=>by simp[xO]
 | t::ts=>by simp only[xO,mO t,eE ts,Bool.and_self]
end
theorem tT:∀ ts us:List T,xO ts us=((List.range (min ts.length us.length)).all (λ j=>eqT (ts.getD j .zj) (us.getD j .zj))&&ts.length == us.length)
 | [],[]=>by simp[xO]
 | [],_::_=>by simp[xO]
 | _::_,[]=>by simp[xO]
 | t::ts,u::us=>by
  simp only[xO,tT ts us,zC0];rw[show min (ts.length+1) (us.length+1)=min ts.length us.length+1 by omega,List.range_succ_eq_map,List.all_cons,List.all_map];have:(ts.length+1 == us.length+1)=(ts.length == us.length):=by rw[zC7];simp
  rw[this,Bool.and_assoc];rfl
theorem zh.length {S:SS}:∀ {ts:List T}{ds:List D},zh S ts ds->ts.length=ds.length
 | [],ds,h=>by simp only[zh] at h;subst h;rfl
 | t::ts,ds,h=>by
  simp only[zh] at h;obtain⟨c,cs,rfl,_,h2⟩:=h;simp[zh.length h2]
section
variable {X:Cx}{pins:List (Addr×Obj)}{B:St}{H:Hp}{s:Shared}{S:SS}
def ZV (I:Inv X pins B H s) {a:Addr}{xs ys:List V}(h1:ya X.K H a xs) (h2:zV X.K H a ys):False:=by
 obtain⟨_,_,⟨o,e,c,_⟩,_⟩:=I.tuple h1;obtain⟨_,_,⟨o',n,e',c',_⟩,_⟩:=I.list h2;rw[e] at e';cases e';rw[c] at c'
 injection c' with q
 exact absurd q (by decide)
def Sn.xa (p:zO X.K H S) {ts:List T}{d:D}{x:V}(h:Sn S (.lst ts) d) (r:zi X.K H d x):∃ a xs ds,x=.ref a/\zV X.K H a xs/\zo X.K H ds xs/\zh S ts ds:=by
 simp only[Sn] at h;obtain⟨ds,⟨h,_⟩ | ⟨a,h,e⟩,h2⟩:=h
 .subst h;simp only[zi] at r;obtain⟨a,xs,rfl,g1,g2⟩:=r;exact⟨a,xs,ds,rfl,g1.sq,g2,h2⟩
 .subst h;simp only[zi] at r;obtain⟨xs,g1,g2⟩:=p _ _ e;exact⟨a,xs,ds,r,zV.of g1,g2,h2⟩
def Sn.y_ {ts:List T}{d:D}{x:V}(h:Sn S (.tup ts) d) (r:zi X.K H d x):∃ a xs ds,x=.ref a/\ya X.K H a xs/\zo X.K H ds xs/\zh S ts ds:=by
 simp only[Sn] at h;obtain⟨ds,rfl,h2⟩:=h;simp only[zi] at r;obtain⟨a,xs,rfl,g1,g2⟩:=r;exact⟨a,xs,ds,rfl,g1,g2,h2⟩
def Sn.q_ (p:zO X.K H S) {d:D}{x:V}(h:Sn S .zN d) (r:zi X.K H d x):∃ a vs,x=.ref a/\H a=some (.dK vs):=by
 simp only[Sn] at h;obtain⟨a,kvs,rfl,e⟩:=h;simp only[zi] at r;obtain⟨xs,g1,g2⟩:=p _ _ e;exact⟨a,xs,r,g1⟩
def ZZ (I:Inv X pins B H s) {a:Addr}{vs:List (Key×V)}(h:H a=some (.dK vs)):∃ o,s.heap.get? a=some o/\o.cls=.type "dict":=by
 obtain⟨_,_,_,_,o,_,_,e,c⟩:=(show x8 X.prog X.w H s.heap a (.dK vs) from I.zD a _ h)
 exact⟨o,e,c.1.1⟩
def ZW (I:Inv X pins B H s) {a:Addr}{xs:List V}{vs:List (Key×V)}(h1:ya X.K H a xs) (h2:H a=some (.dK vs)):False:=by
 obtain⟨_,_,⟨o,e,c,_⟩,_⟩:=I.tuple h1;obtain⟨o',e',c'⟩:=ZZ I h2;rw[e] at e';cases e';rw[c] at c'
 injection c' with q
 exact absurd q (by decide)
def ZY (I:Inv X pins B H s) {a:Addr}{xs:List V}{vs:List (Key×V)}(h1:zV X.K H a xs) (h2:H a=some (.dK vs)):False:=by
 obtain⟨_,_,⟨o,n,e,c,_⟩,_⟩:=I.list h1;obtain⟨o',e',c'⟩:=ZZ I h2;rw[e] at e';cases e';rw[c] at c'
 injection c' with q
 exact absurd q (by decide)
theorem Sn.flat {t:T}{d:D}{x:V}(h:Sn S t d) (r:zi X.K H d x):match t with
  | .zj=>x=.zj
  | .bl b=>x=.bl b
  | .int i=>x=.int i
  | .str y=>x=.str y
  | _=>True:=by
 cases t <;> first
  | trivial
  | (simp only[Sn] at h;subst h;simpa only [zi] using r)
mutual
theorem kh (I:Inv X pins B H s) (p:zO X.K H S):∀ (t u:T) {d e:D}{x:V},Sn S t d->Sn S u e->zi X.K H d x->zi X.K H e x->t=u
 | .tup ts,u,d,e,x,h1,h2,r1,r2=>by
  obtain⟨a,xs,ds,rfl,g1,g2,g3⟩:=h1.y_ r1;cases u with
  | zN=>obtain⟨_,_,q,g⟩:=h2.q_ p r2;cases q;exact (ZW I g1 g).elim
  | tup us=>
   obtain⟨a',xs',ds',q,k1,k2,k3⟩:=h2.y_ r2;cases q;have:=I.ij g1 k1;subst this;rw[ie I p ts us g3 k3 g2 k2]
  | lst us=>
   obtain⟨a',xs',ds',q,k1,k2,k3⟩:=h2.xa p r2;cases q;exact (ZV I g1 k1).elim
  | zj=>exact nomatch h2.flat r2
  | bl _=>exact nomatch h2.flat r2
  | int _=>exact nomatch h2.flat r2
  | str _=>exact nomatch h2.flat r2
 | .lst ts,u,d,e,x,h1,h2,r1,r2=>by
  obtain⟨a,xs,ds,rfl,g1,g2,g3⟩:=h1.xa p r1;cases u with
  | zN=>obtain⟨_,_,q,g⟩:=h2.q_ p r2;cases q;exact (ZY I g1 g).elim
  | lst us=>
   obtain⟨a',xs',ds',q,k1,k2,k3⟩:=h2.xa p r2;cases q;have:=I.fG g1 k1;subst this;rw[ie I p ts us g3 k3 g2 k2]
  | tup us=>
   obtain⟨a',xs',ds',q,k1,k2,k3⟩:=h2.y_ r2;cases q;exact (ZV I k1 g1).elim
  | zj=>exact nomatch h2.flat r2
  | bl _=>exact nomatch h2.flat r2
  | int _=>exact nomatch h2.flat r2
  | str _=>exact nomatch h2.flat r2
 | .zj,u,d,e,x,h1,h2,r1,r2=>by
  have q:=h1.flat r1;subst q;cases u with
  | zN=>obtain⟨_,_,q,g⟩:=h2.q_ p r2;cases q
  | zj=>rfl
  | tup us=>obtain⟨_,_,_,q,_⟩:=h2.y_ r2;cases q
  | lst us=>obtain⟨_,_,_,q,_⟩:=h2.xa p r2;cases q
  | bl _=>exact nomatch h2.flat r2
  | int _=>exact nomatch h2.flat r2
  | str _=>exact nomatch h2.flat r2
 | .bl b,u,d,e,x,h1,h2,r1,r2=>by
  have q:=h1.flat r1;subst q;cases u with
  | zN=>obtain⟨_,_,q,g⟩:=h2.q_ p r2;cases q
  | bl _=>have q:=h2.flat r2;cases q;rfl
  | tup us=>obtain⟨_,_,_,q,_⟩:=h2.y_ r2;cases q
  | lst us=>obtain⟨_,_,_,q,_⟩:=h2.xa p r2;cases q
  | zj=>exact nomatch h2.flat r2
  | int _=>exact nomatch h2.flat r2
  | str _=>exact nomatch h2.flat r2
 | .int b,u,d,e,x,h1,h2,r1,r2=>by
  have q:=h1.flat r1;subst q;cases u with
  | zN=>obtain⟨_,_,q,g⟩:=h2.q_ p r2;cases q
  | int _=>have q:=h2.flat r2;cases q;rfl
  | tup us=>obtain⟨_,_,_,q,_⟩:=h2.y_ r2;cases q
  | lst us=>obtain⟨_,_,_,q,_⟩:=h2.xa p r2;cases q
  | zj=>exact nomatch h2.flat r2
  | bl _=>exact nomatch h2.flat r2
  | str _=>exact nomatch h2.flat r2
 | .str b,u,d,e,x,h1,h2,r1,r2=>by
  have q:=h1.flat r1;subst q;cases u with
  | zN=>obtain⟨_,_,q,g⟩:=h2.q_ p r2;cases q
  | str _=>have q:=h2.flat r2;cases q;rfl
  | tup us=>obtain⟨_,_,_,q,_⟩:=h2.y_ r2;cases q
  | lst us=>obtain⟨_,_,_,q,_⟩:=h2.xa p r2;cases q
  | zj=>exact nomatch h2.flat r2
  | bl _=>exact nomatch h2.flat r2
  | int _=>exact nomatch h2.flat r2
 | .zN,u,d,e,x,h1,h2,r1,r2=>by
  obtain⟨a,vs,rfl,g⟩:=h1.q_ p r1;cases u with
  | zN=>rfl
  | tup us=>obtain⟨_,_,_,q,g1,_⟩:=h2.y_ r2;cases q;exact (ZW I g1 g).elim
  | lst us=>obtain⟨_,_,_,q,g1,_⟩:=h2.xa p r2;cases q;exact (ZY I g1 g).elim
  | zj=>exact nomatch h2.flat r2
  | bl _=>exact nomatch h2.flat r2
  | int _=>exact nomatch h2.flat r2
  | str _=>exact nomatch h2.flat r2
theorem ie (I:Inv X pins B H s) (p:zO X.K H S):∀ (ts us:List T) {ds es:List D}{xs:List V},zh S ts ds->zh S us es->zo X.K H ds xs->zo X.K H es xs->ts=us
 | [],us,ds,es,xs,h1,h2,r1,r2=>by
  have e:=h1.length.trans (r1.length.trans (r2.length.symm.trans h2.length.symm));cases us with
  | nil=>rfl
  | cons _ _=>simp at e
 | t::ts,[],ds,es,xs,h1,h2,r1,r2=>by
  have e:=h1.length.trans (r1.length.trans (r2.length.symm.trans h2.length.symm));simp at e
 | t::ts,u::us,ds,es,xs,h1,h2,r1,r2=>by
  simp only[zh] at h1 h2;obtain⟨c,cs,rfl,a1,a2⟩:=h1;obtain⟨c',cs',rfl,b1,b2⟩:=h2;simp only[zo] at r1 r2;obtain⟨y,ys,rfl,g1,g2⟩:=r1;obtain⟨y',ys',q,k1,k2⟩:=r2;cases q;rw[kh I p t u a1 b1 g1 k1,ie I p ts us a2 b2 g2 k2]
end
def zh.get {ts:List T}{ds:List D}(h:zh S ts ds):∀ {j:Nat},j<ts.length->∃ c,ds[j]?=some c/\Sn S (ts.getD j .zj) c:=by
 induction ts generalizing ds with
 | nil=>intro j hj;simp at hj
 | cons t ts ih=>
  intro j hj;simp only[zh] at h;obtain⟨c,cs,rfl,h1,h2⟩:=h;cases j with
  | zero=>exact⟨c,rfl,h1⟩
  | succ j=>
   obtain⟨c',e,h3⟩:=ih h2 (j:=j) (by simpa using hj);exact⟨c',by simpa using e,by simpa using h3⟩
theorem YG:∀ {ts:List T}{j:Nat},j<ts.length->dep (ts.getD j .zj)<=yw ts
 | [],j,h=>by simp at h
 | t::ts,0,_=>by simp only[yw,List.getD_cons_zero];omega
 | t::ts,j+1,h=>by
  have:=YG (ts:=ts) (j:=j) (by simpa using h);simp only[yw,List.getD_cons_succ];omega
mutual
theorem Y3 (I:Inv X pins B H s) (p:zO X.K H S):∀ (t u:T) {A:Around}{d e:D}{x y:V}{a b:Value},A.units+dep t<cLine->A.units+dep u<cLine->Sn S t d->Sn S u e->zi X.K H d x->zi X.K H e y->RelV x a->RelV y b->SeqAt.EqAt A s a b (eqT t u)
 | .zj,u,A,d,e,x,y,a,b,hu,hu',h1,h2,r1,r2,v1,v2=>by
  have q:=h1.flat r1;subst q;cases v1;cases u with
  | zN=>simp only[dep] at hu';omega
  | zj=>have q:=h2.flat r2;subst q;cases v2;simp only[eqT];exact SeqAt.EqAt.same _
  | bl b=>have q:=h2.flat r2;subst q;cases v2;simp only[eqT];exact SeqAt.EqAt.none_bool _
  | int i=>have q:=h2.flat r2;subst q;obtain⟨t,rfl⟩:=v2;simp only[eqT];exact SeqAt.EqAt.none_int _ _
  | str i=>have q:=h2.flat r2;subst q;obtain⟨t,rfl⟩:=v2;simp only[eqT];exact SeqAt.EqAt.none_str _ _
  | tup us=>obtain⟨a',xs',ds',rfl,k1,k2,k3⟩:=h2.y_ r2;cases v2;obtain⟨_,_,pt,_⟩:=I.tuple k1;simp only[eqT];exact SeqAt.EqAt.none_tuple pt (by omega)
  | lst us=>obtain⟨a',xs',ds',rfl,k1,k2,k3⟩:=h2.xa p r2;cases v2;obtain⟨_,_,pl,_⟩:=I.list k1;simp only[eqT];exact SeqAt.EqAt.none_list pl.isList (by omega)
 | .bl c,u,A,d,e,x,y,a,b,hu,hu',h1,h2,r1,r2,v1,v2=>by
  have q:=h1.flat r1;subst q;cases v1;cases u with
  | zN=>simp only[dep] at hu';omega
  | zj=>have q:=h2.flat r2;subst q;cases v2;simp only[eqT];exact SeqAt.EqAt.bool_none _
  | bl b=>have q:=h2.flat r2;subst q;cases v2;simp only[eqT];exact SeqAt.EqAt.bool_bool _ _
  | int i=>have q:=h2.flat r2;subst q;obtain⟨t,rfl⟩:=v2;simp only[eqT];exact SeqAt.EqAt.bool_int _ _ _
  | str i=>have q:=h2.flat r2;subst q;obtain⟨t,rfl⟩:=v2;simp only[eqT];exact SeqAt.EqAt.bool_str _ _ _
  | tup us=>obtain⟨a',xs',ds',rfl,k1,k2,k3⟩:=h2.y_ r2;cases v2;obtain⟨_,_,pt,_⟩:=I.tuple k1;simp only[eqT];exact SeqAt.EqAt.bool_tuple _ pt (by omega)
  | lst us=>obtain⟨a',xs',ds',rfl,k1,k2,k3⟩:=h2.xa p r2;cases v2;obtain⟨_,_,pl,_⟩:=I.list k1;simp only[eqT];exact SeqAt.EqAt.bool_list _ pl.isList (by omega)
 | .int c,u,A,d,e,x,y,a,b,hu,hu',h1,h2,r1,r2,v1,v2=>by
  have q:=h1.flat r1;subst q;obtain⟨tk,rfl⟩:=v1;cases u with
  | zN=>simp only[dep] at hu';omega
  | zj=>have q:=h2.flat r2;subst q;cases v2;simp only[eqT];exact SeqAt.EqAt.int_none _ _
  | bl b=>have q:=h2.flat r2;subst q;cases v2;simp only[eqT];exact SeqAt.EqAt.int_bool _ _ _
  | int i=>have q:=h2.flat r2;subst q;obtain⟨t,rfl⟩:=v2;simp only[eqT];exact SeqAt.EqAt.int_int _ _ _ _
  | str i=>have q:=h2.flat r2;subst q;obtain⟨t,rfl⟩:=v2;simp only[eqT];exact SeqAt.EqAt.int_str _ _ _ _
  | tup us=>obtain⟨a',xs',ds',rfl,k1,k2,k3⟩:=h2.y_ r2;cases v2;obtain⟨_,_,pt,_⟩:=I.tuple k1;simp only[eqT];exact SeqAt.EqAt.int_tuple _ _ pt (by omega)
  | lst us=>obtain⟨a',xs',ds',rfl,k1,k2,k3⟩:=h2.xa p r2;cases v2;obtain⟨_,_,pl,_⟩:=I.list k1;simp only[eqT];exact SeqAt.EqAt.int_list _ _ pl.isList (by omega)
 | .str c,u,A,d,e,x,y,a,b,hu,hu',h1,h2,r1,r2,v1,v2=>by
  have q:=h1.flat r1;subst q;obtain⟨tk,rfl⟩:=v1;cases u with
  | zN=>simp only[dep] at hu';omega
  | zj=>have q:=h2.flat r2;subst q;cases v2;simp only[eqT];exact SeqAt.EqAt.str_none _ _
  | bl b=>have q:=h2.flat r2;subst q;cases v2;simp only[eqT];exact SeqAt.EqAt.str_bool _ _ _
  | int i=>have q:=h2.flat r2;subst q;obtain⟨t,rfl⟩:=v2;simp only[eqT];exact SeqAt.EqAt.str_int _ _ _ _
  | str i=>have q:=h2.flat r2;subst q;obtain⟨t,rfl⟩:=v2;simp only[eqT];exact SeqAt.EqAt.str_str _ _ _ _
  | tup us=>obtain⟨a',xs',ds',rfl,k1,k2,k3⟩:=h2.y_ r2;cases v2;obtain⟨_,_,pt,_⟩:=I.tuple k1;simp only[eqT];exact SeqAt.EqAt.str_tuple _ _ pt (by omega)
  | lst us=>obtain⟨a',xs',ds',rfl,k1,k2,k3⟩:=h2.xa p r2;cases v2;obtain⟨_,_,pl,_⟩:=I.list k1;simp only[eqT];exact SeqAt.EqAt.str_list _ _ pl.isList (by omega)
 | .tup ts,u,A,d,e,x,y,a,b,hu,hu',h1,h2,r1,r2,v1,v2=>by
  have hd1:=h1;have hr1:=r1;obtain⟨l,xs,ds,rfl,g1,g2,g3⟩:=h1.y_ r1;cases v1;obtain⟨its,w1,pt,_⟩:=I.tuple g1;simp only[dep] at hu;cases u with
  | zN=>simp only[dep] at hu';omega
  | zj=>have q:=h2.flat r2;subst q;cases v2;simp only[eqT];exact SeqAt.EqAt.tuple_none pt (by omega)
  | bl b=>have q:=h2.flat r2;subst q;cases v2;simp only[eqT];exact SeqAt.EqAt.tuple_bool _ pt (by omega)
  | int i=>have q:=h2.flat r2;subst q;obtain⟨t,rfl⟩:=v2;simp only[eqT];exact SeqAt.EqAt.tuple_int _ _ pt (by omega)
  | str i=>have q:=h2.flat r2;subst q;obtain⟨t,rfl⟩:=v2;simp only[eqT];exact SeqAt.EqAt.tuple_str _ _ pt (by omega)
  | tup us=>
   by_cases hlb:(Value.ref l)=b
   .subst hlb;have hy:y=.ref l:=RelV.inj v2 rfl;subst hy;have:=kh I p (.tup ts) (.tup us) hd1 h2 hr1 r2;rw[<- this,mO];exact SeqAt.EqAt.same _
   .obtain⟨l',xs',ds',rfl,k1,k2,k3⟩:=h2.y_ r2;cases v2;obtain⟨its',w2,pt',_⟩:=I.tuple k1;simp only[dep] at hu';have e1:its.toArray.size=ts.length:=by rw[zA0,<- w1.length,<- g2.length,<- g3.length]
    have e2:its'.toArray.size=us.length:=by rw[zA0,<- w2.length,<- k2.length,<- k3.length]
    have q:=SeqAt.RcAt.tuples (A:=A) (e:=λ j=>eqT (ts.getD j .zj) (us.getD j .zj)) pt pt' (by omega) λ j h1 h2=>by
     have:=qZ I p ts us (A:=A.in1) (by show A.units+1+yw ts<cLine;omega) (by show A.units+1+yw us<cLine;omega) g3 k3 g2 k2 w1 w2 j (by simpa using h1) (by simpa using h2);simpa using this
    rw[e1,e2] at q;have q':=SeqAt.EqAt.of_refs (λ z=>hlb (by rw[z])) q;simp only[eqT,tT];exact q'
  | lst us=>obtain⟨l',xs',ds',rfl,k1,k2,k3⟩:=h2.xa p r2;cases v2;obtain⟨_,_,pl,_⟩:=I.list k1;simp only[eqT];exact SeqAt.EqAt.tuple_list pt pl.isList (by omega)
 | .lst ts,u,A,d,e,x,y,a,b,hu,hu',h1,h2,r1,r2,v1,v2=>by
  have hd1:=h1;have hr1:=r1;obtain⟨l,xs,ds,rfl,g1,g2,g3⟩:=h1.xa p r1;cases v1;obtain⟨its,w1,pl,_⟩:=I.list g1;simp only[dep] at hu;cases u with
  | zN=>simp only[dep] at hu';omega
  | zj=>have q:=h2.flat r2;subst q;cases v2;simp only[eqT];exact SeqAt.EqAt.list_none pl.isList (by omega)
  | bl b=>have q:=h2.flat r2;subst q;cases v2;simp only[eqT];exact SeqAt.EqAt.list_bool _ pl.isList (by omega)
  | int i=>have q:=h2.flat r2;subst q;obtain⟨t,rfl⟩:=v2;simp only[eqT];exact SeqAt.EqAt.list_int _ _ pl.isList (by omega)
  | str i=>have q:=h2.flat r2;subst q;obtain⟨t,rfl⟩:=v2;simp only[eqT];exact SeqAt.EqAt.list_str _ _ pl.isList (by omega)
  | tup us=>obtain⟨l',xs',ds',rfl,k1,k2,k3⟩:=h2.y_ r2;cases v2;obtain⟨_,_,pt,_⟩:=I.tuple k1;simp only[eqT];exact SeqAt.EqAt.list_tuple pl.isList pt (by omega)
  | lst us=>
   by_cases hlb:(Value.ref l)=b
   .subst hlb;have hy:y=.ref l:=RelV.inj v2 rfl;subst hy;have:=kh I p (.lst ts) (.lst us) hd1 h2 hr1 r2;rw[<- this,mO];exact SeqAt.EqAt.same _
   .obtain⟨l',xs',ds',rfl,k1,k2,k3⟩:=h2.xa p r2;cases v2;obtain⟨its',w2,pl',_⟩:=I.list k1;simp only[dep] at hu';have e1:its.toArray.size=ts.length:=by rw[zA0,<- w1.length,<- g2.length,<- g3.length]
    have e2:its'.toArray.size=us.length:=by rw[zA0,<- w2.length,<- k2.length,<- k3.length]
    have hne:l≠l':=λ z=>hlb (by rw[z]);by_cases hsz:ts.length=us.length
    .have q:=SeqAt.RcAt.lists (A:=A) (e:=λ j=>eqT (ts.getD j .zj) (us.getD j .zj)) pl.isList pl'.isList (by rw[e1,e2];exact hsz) (by omega) λ j h1 h2=>by
      have:=qZ I p ts us (A:=A.in1) (by show A.units+1+yw ts<cLine;omega) (by show A.units+1+yw us<cLine;omega) g3 k3 g2 k2 w1 w2 j (by simpa using h1) (by simpa using h2);simpa using this
     rw[e1] at q;have q':=SeqAt.EqAt.of_refs hne q;simp only[eqT,tT];rw[<- hsz,Nat.min_self];simpa using q'
    .have q:=SeqAt.RcAt.lists_lengths (A:=A) pl.isList pl'.isList (by rw[e1,e2];simpa using hsz) (by omega);have q':=SeqAt.EqAt.of_refs hne q;simp only[eqT,tT];have:(ts.length == us.length)=false:=by simpa using hsz
     rw[this,Bool.and_false];exact q'
 | .zN,u,A,d,e,x,y,a,b,hu,hu',h1,h2,r1,r2,v1,v2=>by simp only[dep] at hu;omega
theorem qZ (I:Inv X pins B H s) (p:zO X.K H S):∀ (ts us:List T) {A:Around}{ds es:List D}{xs ys:List V}{its its':List Value},A.units+yw ts<cLine->A.units+yw us<cLine->zh S ts ds->zh S us es->zo X.K H ds xs->zo X.K H es ys->Vals xs its->Vals ys its'->
  ∀ (j:Nat) (h1:j<its.length) (h2:j<its'.length),SeqAt.EqAt A s its[j] its'[j] (eqT (ts.getD j .zj) (us.getD j .zj))
 | [],us,A,ds,es,xs,ys,its,its',hu,hu',s1,s2,r1,r2,v1,v2,j,h1,h2=>by
  rw[<- v1.length,<- r1.length,<- s1.length] at h1;simp at h1
 | t::ts,[],A,ds,es,xs,ys,its,its',hu,hu',s1,s2,r1,r2,v1,v2,j,h1,h2=>by
  rw[<- v2.length,<- r2.length,<- s2.length] at h2;simp at h2
 | t::ts,u::us,A,ds,es,xs,ys,its,its',hu,hu',s1,s2,r1,r2,v1,v2,j,h1,h2=>by
  simp only[zh] at s1 s2;obtain⟨c,cs,rfl,a1,a2⟩:=s1;obtain⟨c',cs',rfl,b1,b2⟩:=s2;simp only[zo] at r1 r2;obtain⟨y,ys,rfl,g1,g2⟩:=r1;obtain⟨y',ys',rfl,k1,k2⟩:=r2;cases v1 with
  | cons m1 m2=>
   cases v2 with
   | cons n1 n2=>
    simp only[yw] at hu hu';cases j with
    | zero=>simpa using Y3 I p t u (A:=A) (by omega) (by omega) a1 b1 g1 k1 m1 n1
    | succ j=>simpa using qZ I p ts us (A:=A) (by omega) (by omega) a2 b2 g2 k2 m2 n2 j (by simpa using h1) (by simpa using h2)
end
end
section
variable {X:Cx}{pins:List (Addr×Obj)}{B:St}{H:Hp}{s:Shared}{S:SS}
theorem VZ (I:Inv X pins B H s) (p:zO X.K H S):∀ (t u:T) {A:Around}{d e:D}{x y:V}{a b:Value},A.units+dep t<cLine->A.units+dep u<cLine->Sn S t d->Sn S u e->zi X.K H d x->zi X.K H e y->RelV x a->RelV y b->SeqAt.RcAt A s a b (eqT t u)
 | .zj,u,A,d,e,x,y,a,b,hu,hu',h1,h2,r1,r2,v1,v2=>by
  have q:=h1.flat r1;subst q;cases v1;cases u with
  | zN=>simp only[dep] at hu';omega
  | zj=>have q:=h2.flat r2;subst q;cases v2;simp only[eqT];exact SeqAt.RcAt.none_none
  | bl c2=>have q:=h2.flat r2;subst q;cases v2;simp only[eqT];exact SeqAt.RcAt.none_bool _
  | int c2=>have q:=h2.flat r2;subst q;obtain⟨tk2,rfl⟩:=v2;simp only[eqT];exact SeqAt.RcAt.none_int _ _
  | str c2=>have q:=h2.flat r2;subst q;obtain⟨tk2,rfl⟩:=v2;simp only[eqT];exact SeqAt.RcAt.none_str _ _
  | tup c2=>obtain⟨l',xs',ds',rfl,k1,k2,k3⟩:=h2.y_ r2;cases v2;obtain⟨its',w2,pt',_⟩:=I.tuple k1;simp only[dep] at hu';simp only[eqT];exact SeqAt.RcAt.none_tuple pt' (by omega)
  | lst c2=>obtain⟨l',xs',ds',rfl,k1,k2,k3⟩:=h2.xa p r2;cases v2;obtain⟨its',w2,pl',_⟩:=I.list k1;simp only[dep] at hu';simp only[eqT];exact SeqAt.RcAt.none_list pl'.isList (by omega)
 | .bl c,u,A,d,e,x,y,a,b,hu,hu',h1,h2,r1,r2,v1,v2=>by
  have q:=h1.flat r1;subst q;cases v1;cases u with
  | zN=>simp only[dep] at hu';omega
  | zj=>have q:=h2.flat r2;subst q;cases v2;simp only[eqT];exact SeqAt.RcAt.bool_none _
  | bl c2=>have q:=h2.flat r2;subst q;cases v2;simp only[eqT];exact SeqAt.RcAt.bool_bool _ _
  | int c2=>have q:=h2.flat r2;subst q;obtain⟨tk2,rfl⟩:=v2;simp only[eqT];exact SeqAt.RcAt.bool_int _ _ _
  | str c2=>have q:=h2.flat r2;subst q;obtain⟨tk2,rfl⟩:=v2;simp only[eqT];exact SeqAt.RcAt.bool_str _ _ _
  | tup c2=>obtain⟨l',xs',ds',rfl,k1,k2,k3⟩:=h2.y_ r2;cases v2;obtain⟨its',w2,pt',_⟩:=I.tuple k1;simp only[dep] at hu';simp only[eqT];exact SeqAt.RcAt.bool_tuple _ pt' (by omega)
  | lst c2=>obtain⟨l',xs',ds',rfl,k1,k2,k3⟩:=h2.xa p r2;cases v2;obtain⟨its',w2,pl',_⟩:=I.list k1;simp only[dep] at hu';simp only[eqT];exact SeqAt.RcAt.bool_list _ pl'.isList (by omega)
 | .int c,u,A,d,e,x,y,a,b,hu,hu',h1,h2,r1,r2,v1,v2=>by
  have q:=h1.flat r1;subst q;obtain⟨tk,rfl⟩:=v1;cases u with
  | zN=>simp only[dep] at hu';omega
  | zj=>have q:=h2.flat r2;subst q;cases v2;simp only[eqT];exact SeqAt.RcAt.int_none _ _
  | bl c2=>have q:=h2.flat r2;subst q;cases v2;simp only[eqT];exact SeqAt.RcAt.int_bool _ _ _
  | int c2=>have q:=h2.flat r2;subst q;obtain⟨tk2,rfl⟩:=v2;simp only[eqT];exact SeqAt.RcAt.int_int _ _ _ _
  | str c2=>have q:=h2.flat r2;subst q;obtain⟨tk2,rfl⟩:=v2;simp only[eqT];exact SeqAt.RcAt.int_str _ _ _ _
  | tup c2=>obtain⟨l',xs',ds',rfl,k1,k2,k3⟩:=h2.y_ r2;cases v2;obtain⟨its',w2,pt',_⟩:=I.tuple k1;simp only[dep] at hu';simp only[eqT];exact SeqAt.RcAt.int_tuple _ _ pt' (by omega)
  | lst c2=>obtain⟨l',xs',ds',rfl,k1,k2,k3⟩:=h2.xa p r2;cases v2;obtain⟨its',w2,pl',_⟩:=I.list k1;simp only[dep] at hu';simp only[eqT];exact SeqAt.RcAt.int_list _ _ pl'.isList (by omega)
 | .str c,u,A,d,e,x,y,a,b,hu,hu',h1,h2,r1,r2,v1,v2=>by
  have q:=h1.flat r1;subst q;obtain⟨tk,rfl⟩:=v1;cases u with
  | zN=>simp only[dep] at hu';omega
  | zj=>have q:=h2.flat r2;subst q;cases v2;simp only[eqT];exact SeqAt.RcAt.str_none _ _
  | bl c2=>have q:=h2.flat r2;subst q;cases v2;simp only[eqT];exact SeqAt.RcAt.str_bool _ _ _
  | int c2=>have q:=h2.flat r2;subst q;obtain⟨tk2,rfl⟩:=v2;simp only[eqT];exact SeqAt.RcAt.str_int _ _ _ _
  | str c2=>have q:=h2.flat r2;subst q;obtain⟨tk2,rfl⟩:=v2;simp only[eqT];exact SeqAt.RcAt.str_str _ _ _ _
  | tup c2=>obtain⟨l',xs',ds',rfl,k1,k2,k3⟩:=h2.y_ r2;cases v2;obtain⟨its',w2,pt',_⟩:=I.tuple k1;simp only[dep] at hu';simp only[eqT];exact SeqAt.RcAt.str_tuple _ _ pt' (by omega)
  | lst c2=>obtain⟨l',xs',ds',rfl,k1,k2,k3⟩:=h2.xa p r2;cases v2;obtain⟨its',w2,pl',_⟩:=I.list k1;simp only[dep] at hu';simp only[eqT];exact SeqAt.RcAt.str_list _ _ pl'.isList (by omega)
 | .tup c,u,A,d,e,x,y,a,b,hu,hu',h1,h2,r1,r2,v1,v2=>by
  obtain⟨l,xs,ds,rfl,g1,g2,g3⟩:=h1.y_ r1;cases v1;obtain⟨its,w1,pt,_⟩:=I.tuple g1;simp only[dep] at hu;cases u with
  | zN=>simp only[dep] at hu';omega
  | zj=>have q:=h2.flat r2;subst q;cases v2;simp only[eqT];exact SeqAt.RcAt.tuple_none pt (by omega)
  | bl c2=>have q:=h2.flat r2;subst q;cases v2;simp only[eqT];exact SeqAt.RcAt.tuple_bool _ pt (by omega)
  | int c2=>have q:=h2.flat r2;subst q;obtain⟨tk2,rfl⟩:=v2;simp only[eqT];exact SeqAt.RcAt.tuple_int _ _ pt (by omega)
  | str c2=>have q:=h2.flat r2;subst q;obtain⟨tk2,rfl⟩:=v2;simp only[eqT];exact SeqAt.RcAt.tuple_str _ _ pt (by omega)
  | tup c2=>
   obtain⟨l',xs',ds',rfl,k1,k2,k3⟩:=h2.y_ r2;cases v2;obtain⟨its',w2,pt',_⟩:=I.tuple k1;simp only[dep] at hu';have e1:its.toArray.size=c.length:=by rw[zA0,<- w1.length,<- g2.length,<- g3.length]
   have e2:its'.toArray.size=c2.length:=by rw[zA0,<- w2.length,<- k2.length,<- k3.length]
   have q:=SeqAt.RcAt.tuples (A:=A) (e:=λ j=>eqT (c.getD j .zj) (c2.getD j .zj)) pt pt' (by omega) λ j h1 h2=>by
    have:=qZ I p c c2 (A:=A.in1) (by show A.units+1+yw c<cLine;omega) (by show A.units+1+yw c2<cLine;omega) g3 k3 g2 k2 w1 w2 j (by simpa using h1) (by simpa using h2);simpa using this
   rw[e1,e2] at q;simp only[eqT,tT];exact q
  | lst c2=>obtain⟨l',xs',ds',rfl,k1,k2,k3⟩:=h2.xa p r2;cases v2;obtain⟨its',w2,pl',_⟩:=I.list k1;simp only[dep] at hu';simp only[eqT];exact SeqAt.RcAt.tuple_list pt pl'.isList (by omega)
 | .lst c,u,A,d,e,x,y,a,b,hu,hu',h1,h2,r1,r2,v1,v2=>by
  obtain⟨l,xs,ds,rfl,g1,g2,g3⟩:=h1.xa p r1;cases v1;obtain⟨its,w1,pl,_⟩:=I.list g1;simp only[dep] at hu;cases u with
  | zN=>simp only[dep] at hu';omega
  | zj=>have q:=h2.flat r2;subst q;cases v2;simp only[eqT];exact SeqAt.RcAt.list_none pl.isList (by omega)
  | bl c2=>have q:=h2.flat r2;subst q;cases v2;simp only[eqT];exact SeqAt.RcAt.list_bool _ pl.isList (by omega)
  | int c2=>have q:=h2.flat r2;subst q;obtain⟨tk2,rfl⟩:=v2;simp only[eqT];exact SeqAt.RcAt.list_int _ _ pl.isList (by omega)
  | str c2=>have q:=h2.flat r2;subst q;obtain⟨tk2,rfl⟩:=v2;simp only[eqT];exact SeqAt.RcAt.list_str _ _ pl.isList (by omega)
  | tup c2=>obtain⟨l',xs',ds',rfl,k1,k2,k3⟩:=h2.y_ r2;cases v2;obtain⟨its',w2,pt',_⟩:=I.tuple k1;simp only[dep] at hu';simp only[eqT];exact SeqAt.RcAt.list_tuple pl.isList pt' (by omega)
  | lst c2=>
   obtain⟨l',xs',ds',rfl,k1,k2,k3⟩:=h2.xa p r2;cases v2;obtain⟨its',w2,pl',_⟩:=I.list k1;simp only[dep] at hu';have e1:its.toArray.size=c.length:=by rw[zA0,<- w1.length,<- g2.length,<- g3.length]
   have e2:its'.toArray.size=c2.length:=by rw[zA0,<- w2.length,<- k2.length,<- k3.length]
   by_cases hsz:c.length=c2.length
   .have q:=SeqAt.RcAt.lists (A:=A) (e:=λ j=>eqT (c.getD j .zj) (c2.getD j .zj)) pl.isList pl'.isList (by rw[e1,e2];exact hsz) (by omega) λ j h1 h2=>by
     have:=qZ I p c c2 (A:=A.in1) (by show A.units+1+yw c<cLine;omega) (by show A.units+1+yw c2<cLine;omega) g3 k3 g2 k2 w1 w2 j (by simpa using h1) (by simpa using h2);simpa using this
    rw[e1] at q;simp only[eqT,tT];rw[<- hsz,Nat.min_self];simpa using q
   .have q:=SeqAt.RcAt.lists_lengths (A:=A) pl.isList pl'.isList (by rw[e1,e2];simpa using hsz) (by omega);simp only[eqT,tT];have z:(c.length == c2.length)=false:=by simpa using hsz
    rw[z,Bool.and_false];exact q
 | .zN,u,A,d,e,x,y,a,b,hu,hu',h1,h2,r1,r2,v1,v2=>by simp only[dep] at hu;omega
theorem VX (I:Inv X pins B H s) (p:zO X.K H S):∀ (t u:T) {A:Around}{d e:D}{x y:V}{a b:Value},A.units+dep t<cLine->A.units+dep u<cLine->Sn S t d->Sn S u e->zi X.K H d x->zi X.K H e y->RelV x a->RelV y b->SeqAt.RcNeAt A s a b (!eqT t u)
 | .zj,u,A,d,e,x,y,a,b,hu,hu',h1,h2,r1,r2,v1,v2=>by
  have q:=h1.flat r1;subst q;cases v1;cases u with
  | zN=>simp only[dep] at hu';omega
  | zj=>have q:=h2.flat r2;subst q;cases v2;simp only[eqT,zB2,zB5];exact SeqAt.RcNeAt.none_none
  | bl c2=>have q:=h2.flat r2;subst q;cases v2;simp only[eqT,zB2,zB5];exact SeqAt.RcNeAt.none_bool _
  | int c2=>have q:=h2.flat r2;subst q;obtain⟨tk2,rfl⟩:=v2;simp only[eqT,zB2,zB5];exact SeqAt.RcNeAt.none_int _ _
  | str c2=>have q:=h2.flat r2;subst q;obtain⟨tk2,rfl⟩:=v2;simp only[eqT,zB2,zB5];exact SeqAt.RcNeAt.none_str _ _
  | tup c2=>obtain⟨l',xs',ds',rfl,k1,k2,k3⟩:=h2.y_ r2;cases v2;obtain⟨its',w2,pt',_⟩:=I.tuple k1;simp only[dep] at hu';simp only[eqT,zB2,zB5];exact SeqAt.RcNeAt.none_tuple pt' (by omega)
  | lst c2=>obtain⟨l',xs',ds',rfl,k1,k2,k3⟩:=h2.xa p r2;cases v2;obtain⟨its',w2,pl',_⟩:=I.list k1;simp only[dep] at hu';simp only[eqT,zB2,zB5];exact SeqAt.RcNeAt.none_list pl'.isList (by omega)
 | .bl c,u,A,d,e,x,y,a,b,hu,hu',h1,h2,r1,r2,v1,v2=>by
  have q:=h1.flat r1;subst q;cases v1;cases u with
  | zN=>simp only[dep] at hu';omega
  | zj=>have q:=h2.flat r2;subst q;cases v2;simp only[eqT,zB2,zB5];exact SeqAt.RcNeAt.bool_none _
  | bl c2=>have q:=h2.flat r2;subst q;cases v2;simp only[eqT];exact SeqAt.RcNeAt.bool_bool _ _
  | int c2=>have q:=h2.flat r2;subst q;obtain⟨tk2,rfl⟩:=v2;simp only[eqT];exact SeqAt.RcNeAt.bool_int _ _ _
  | str c2=>have q:=h2.flat r2;subst q;obtain⟨tk2,rfl⟩:=v2;simp only[eqT,zB2,zB5];exact SeqAt.RcNeAt.bool_str _ _ _
  | tup c2=>obtain⟨l',xs',ds',rfl,k1,k2,k3⟩:=h2.y_ r2;cases v2;obtain⟨its',w2,pt',_⟩:=I.tuple k1;simp only[dep] at hu';simp only[eqT,zB2,zB5];exact SeqAt.RcNeAt.bool_tuple _ pt' (by omega)
  | lst c2=>obtain⟨l',xs',ds',rfl,k1,k2,k3⟩:=h2.xa p r2;cases v2;obtain⟨its',w2,pl',_⟩:=I.list k1;simp only[dep] at hu';simp only[eqT,zB2,zB5];exact SeqAt.RcNeAt.bool_list _ pl'.isList (by omega)
 | .int c,u,A,d,e,x,y,a,b,hu,hu',h1,h2,r1,r2,v1,v2=>by
  have q:=h1.flat r1;subst q;obtain⟨tk,rfl⟩:=v1;cases u with
  | zN=>simp only[dep] at hu';omega
  | zj=>have q:=h2.flat r2;subst q;cases v2;simp only[eqT,zB2,zB5];exact SeqAt.RcNeAt.int_none _ _
  | bl c2=>have q:=h2.flat r2;subst q;cases v2;simp only[eqT];exact SeqAt.RcNeAt.int_bool _ _ _
  | int c2=>have q:=h2.flat r2;subst q;obtain⟨tk2,rfl⟩:=v2;simp only[eqT];exact SeqAt.RcNeAt.int_int _ _ _ _
  | str c2=>have q:=h2.flat r2;subst q;obtain⟨tk2,rfl⟩:=v2;simp only[eqT,zB2,zB5];exact SeqAt.RcNeAt.int_str _ _ _ _
  | tup c2=>obtain⟨l',xs',ds',rfl,k1,k2,k3⟩:=h2.y_ r2;cases v2;obtain⟨its',w2,pt',_⟩:=I.tuple k1;simp only[dep] at hu';simp only[eqT,zB2,zB5];exact SeqAt.RcNeAt.int_tuple _ _ pt' (by omega)
  | lst c2=>obtain⟨l',xs',ds',rfl,k1,k2,k3⟩:=h2.xa p r2;cases v2;obtain⟨its',w2,pl',_⟩:=I.list k1;simp only[dep] at hu';simp only[eqT,zB2,zB5];exact SeqAt.RcNeAt.int_list _ _ pl'.isList (by omega)
 | .str c,u,A,d,e,x,y,a,b,hu,hu',h1,h2,r1,r2,v1,v2=>by
  have q:=h1.flat r1;subst q;obtain⟨tk,rfl⟩:=v1;cases u with
  | zN=>simp only[dep] at hu';omega
  | zj=>have q:=h2.flat r2;subst q;cases v2;simp only[eqT,zB2,zB5];exact SeqAt.RcNeAt.str_none _ _
  | bl c2=>have q:=h2.flat r2;subst q;cases v2;simp only[eqT,zB2,zB5];exact SeqAt.RcNeAt.str_bool _ _ _
  | int c2=>have q:=h2.flat r2;subst q;obtain⟨tk2,rfl⟩:=v2;simp only[eqT,zB2,zB5];exact SeqAt.RcNeAt.str_int _ _ _ _
  | str c2=>have q:=h2.flat r2;subst q;obtain⟨tk2,rfl⟩:=v2;simp only[eqT];exact SeqAt.RcNeAt.str_str _ _ _ _
  | tup c2=>obtain⟨l',xs',ds',rfl,k1,k2,k3⟩:=h2.y_ r2;cases v2;obtain⟨its',w2,pt',_⟩:=I.tuple k1;simp only[dep] at hu';simp only[eqT,zB2,zB5];exact SeqAt.RcNeAt.str_tuple _ _ pt' (by omega)
  | lst c2=>obtain⟨l',xs',ds',rfl,k1,k2,k3⟩:=h2.xa p r2;cases v2;obtain⟨its',w2,pl',_⟩:=I.list k1;simp only[dep] at hu';simp only[eqT,zB2,zB5];exact SeqAt.RcNeAt.str_list _ _ pl'.isList (by omega)
 | .tup c,u,A,d,e,x,y,a,b,hu,hu',h1,h2,r1,r2,v1,v2=>by
  obtain⟨l,xs,ds,rfl,g1,g2,g3⟩:=h1.y_ r1;cases v1;obtain⟨its,w1,pt,_⟩:=I.tuple g1;simp only[dep] at hu;cases u with
  | zN=>simp only[dep] at hu';omega
  | zj=>have q:=h2.flat r2;subst q;cases v2;simp only[eqT,zB2,zB5];exact SeqAt.RcNeAt.tuple_none pt (by omega)
  | bl c2=>have q:=h2.flat r2;subst q;cases v2;simp only[eqT,zB2,zB5];exact SeqAt.RcNeAt.tuple_bool _ pt (by omega)
  | int c2=>have q:=h2.flat r2;subst q;obtain⟨tk2,rfl⟩:=v2;simp only[eqT,zB2,zB5];exact SeqAt.RcNeAt.tuple_int _ _ pt (by omega)
  | str c2=>have q:=h2.flat r2;subst q;obtain⟨tk2,rfl⟩:=v2;simp only[eqT,zB2,zB5];exact SeqAt.RcNeAt.tuple_str _ _ pt (by omega)
  | tup c2=>
   obtain⟨l',xs',ds',rfl,k1,k2,k3⟩:=h2.y_ r2;cases v2;obtain⟨its',w2,pt',_⟩:=I.tuple k1;simp only[dep] at hu';have e1:its.toArray.size=c.length:=by rw[zA0,<- w1.length,<- g2.length,<- g3.length]
   have e2:its'.toArray.size=c2.length:=by rw[zA0,<- w2.length,<- k2.length,<- k3.length]
   have q:=SeqAt.RcNeAt.tuples (A:=A) (e:=λ j=>eqT (c.getD j .zj) (c2.getD j .zj)) pt pt' (by omega) λ j h1 h2=>by
    have:=qZ I p c c2 (A:=A.in1) (by show A.units+1+yw c<cLine;omega) (by show A.units+1+yw c2<cLine;omega) g3 k3 g2 k2 w1 w2 j (by simpa using h1) (by simpa using h2);simpa using this
   rw[e1,e2] at q;simp only[eqT,tT];exact q
  | lst c2=>obtain⟨l',xs',ds',rfl,k1,k2,k3⟩:=h2.xa p r2;cases v2;obtain⟨its',w2,pl',_⟩:=I.list k1;simp only[dep] at hu';simp only[eqT,zB2,zB5];exact SeqAt.RcNeAt.tuple_list pt pl'.isList (by omega)
 | .lst c,u,A,d,e,x,y,a,b,hu,hu',h1,h2,r1,r2,v1,v2=>by
  obtain⟨l,xs,ds,rfl,g1,g2,g3⟩:=h1.xa p r1;cases v1;obtain⟨its,w1,pl,_⟩:=I.list g1;simp only[dep] at hu;cases u with
  | zN=>simp only[dep] at hu';omega
  | zj=>have q:=h2.flat r2;subst q;cases v2;simp only[eqT,zB2,zB5];exact SeqAt.RcNeAt.list_none pl.isList (by omega)
  | bl c2=>have q:=h2.flat r2;subst q;cases v2;simp only[eqT,zB2,zB5];exact SeqAt.RcNeAt.list_bool _ pl.isList (by omega)
  | int c2=>have q:=h2.flat r2;subst q;obtain⟨tk2,rfl⟩:=v2;simp only[eqT,zB2,zB5];exact SeqAt.RcNeAt.list_int _ _ pl.isList (by omega)
  | str c2=>have q:=h2.flat r2;subst q;obtain⟨tk2,rfl⟩:=v2;simp only[eqT,zB2,zB5];exact SeqAt.RcNeAt.list_str _ _ pl.isList (by omega)
  | tup c2=>obtain⟨l',xs',ds',rfl,k1,k2,k3⟩:=h2.y_ r2;cases v2;obtain⟨its',w2,pt',_⟩:=I.tuple k1;simp only[dep] at hu';simp only[eqT,zB2,zB5];exact SeqAt.RcNeAt.list_tuple pl.isList pt' (by omega)
  | lst c2=>
   obtain⟨l',xs',ds',rfl,k1,k2,k3⟩:=h2.xa p r2;cases v2;obtain⟨its',w2,pl',_⟩:=I.list k1;simp only[dep] at hu';have e1:its.toArray.size=c.length:=by rw[zA0,<- w1.length,<- g2.length,<- g3.length]
   have e2:its'.toArray.size=c2.length:=by rw[zA0,<- w2.length,<- k2.length,<- k3.length]
   by_cases hsz:c.length=c2.length
   .have q:=SeqAt.RcNeAt.lists (A:=A) (e:=λ j=>eqT (c.getD j .zj) (c2.getD j .zj)) pl.isList pl'.isList (by rw[e1,e2];exact hsz) (by omega) λ j h1 h2=>by
     have:=qZ I p c c2 (A:=A.in1) (by show A.units+1+yw c<cLine;omega) (by show A.units+1+yw c2<cLine;omega) g3 k3 g2 k2 w1 w2 j (by simpa using h1) (by simpa using h2);simpa using this
    rw[e1] at q;simp only[eqT,tT];rw[<- hsz,Nat.min_self];simpa using q
   .have q:=SeqAt.RcNeAt.lists_lengths (A:=A) pl.isList pl'.isList (by rw[e1,e2];simpa using hsz) (by omega);simp only[eqT,tT];have z:(c.length == c2.length)=false:=by simpa using hsz
    rw[z,Bool.and_false];exact q
 | .zN,u,A,d,e,x,y,a,b,hu,hu',h1,h2,r1,r2,v1,v2=>by simp only[dep] at hu;omega
end
def gA (K:zFr) (neg:Bool):R2:=λ x y H Q=>∃ S d e t u,zi K H d x/\zi K H e y/\zO K H S/\Sn S t d/\Sn S u e/\dep t<=60/\dep u<=60/\Q (.bl (cond neg (!eqT t u) (eqT t u))) H
def vD (neg:Bool):yZ:=λ x y S Q=>∃ t u,Sn S t x/\Sn S u y/\dep t<=60/\dep u<=60/\Q (.bl (cond neg (!eqT t u) (eqT t u))) S
def vD.mo {neg:Bool}:xU (vD neg):=λ _ _ _ _ _ hq ⟨t,u,a,b,c,d,h⟩=>⟨t,u,a,b,c,d,hq _ _ h⟩
def vD.fits {K:zFr}{neg:Bool}:xI K (vD neg) (gA K neg):=λ x y d e H S Q h1 h2 h3 ⟨t,u,a,b,c,c',h⟩=>⟨S,d,e,t,u,h1,h2,h3,a,b,c,c',h _ H (by simp only[zi]) (.refl H) h3⟩
section
variable {X:Cx}{a b:Expr}{ta tb:zu}{pos:Pos}
def Zd (hu:X.A.units+64<cLine):yp X (compareOp .Eq) (gA X.K false):=by
 intro pins s B H x y v u Q I rx ry h;obtain⟨S,d,e,t,u',a1,a2,a3,a4,a5,a6,a7,q⟩:=h;exact VZ I a3 t u' (A:=X.A) (by omega) (by omega) a4 a5 a1 a2 rx ry X.prog X.w X.xe _ ⟨.bl _,H,I,rfl,q⟩
def Se (hu:X.A.units+64<cLine):yp X (compareOp .NotEq) (gA X.K true):=by
 intro pins s B H x y v u Q I rx ry h;obtain⟨S,d,e,t,u',a1,a2,a3,a4,a5,a6,a7,q⟩:=h;exact VX I a3 t u' (A:=X.A) (by omega) (by omega) a4 a5 a1 a2 rx ry X.prog X.w X.xe _ ⟨.bl _,H,I,rfl,q⟩
def gN {k:Nat}(hr:yC k X.A) (ha:PD X a ta) (hb:PD X b tb):PD X (.Compare a [.Eq] [b] pos) (yg (vD false) ta tb):=kO (Zd hr.units) vD.fits vD.mo ha hb (ux _)
def wA {k:Nat}(hr:yC k X.A) (ha:PD X a ta) (hb:PD X b tb):xP X (.Compare a [.Eq] [b] pos) (vF (yg (vD false) ta tb)):=sD (Zd hr.units) vD.fits vD.mo ha hb (ux _)
def nV {k:Nat}(hr:yC k X.A) (ha:PD X a ta) (hb:PD X b tb):xP X (.Compare a [.NotEq] [b] pos) (vF (yg (vD true) ta tb)):=sD (Se hr.units) vD.fits vD.mo ha hb (ux _)
def ar (K:zFr) (neg:Bool):R2:=λ x y H Q=>∃ S d e u ts ds,zi K H d x/\zi K H e y/\zO K H S/\Sn S u d/\zM e S=some ds/\zh S ts ds/\dep u<=60/\yw ts<=60/\Q (.bl (cond neg (!(ts.any λ t=>eqT t u)) (ts.any λ t=>eqT t u))) H
def qh (neg:Bool):yZ:=λ x y S Q=>∃ u ts ds,Sn S u x/\zM y S=some ds/\zh S ts ds/\dep u<=60/\yw ts<=60/\Q (.bl (cond neg (!(ts.any λ t=>eqT t u)) (ts.any λ t=>eqT t u))) S
def qh.mo {neg:Bool}:xU (qh neg):=λ _ _ _ _ _ hq ⟨u,ts,ds,a,b,c,d,e,h⟩=>⟨u,ts,ds,a,b,c,d,e,hq _ _ h⟩
def qh.fits {K:zFr}{neg:Bool}:xI K (qh neg) (ar K neg):=λ x y d e H S Q h1 h2 h3 ⟨u,ts,ds,a,b,c,c',c2,h⟩=>⟨S,d,e,u,ts,ds,h1,h2,h3,a,b,c,c',c2,h _ H (by simp only[zi]) (.refl H) h3⟩
open Classical in
noncomputable def sa (its:List Value) (ts:List T) (u:T) (v:Value):Bool:=if h:∃ j,its[j]?=some v then eqT (ts.getD (Classical.choose h) .zj) u else false
def dq {pins:List (Addr×Obj)}{B:St}{H:Hp}{s:Shared}{S:SS}(I:Inv X pins B H s) (p:zO X.K H S) {ts:List T}{ds:List D}{xs:List V}{its:List Value}(h1:zh S ts ds) (h2:zo X.K H ds xs) (h3:Vals xs its) (u:T) {j:Nat}{v:Value}(hj:its[j]?=some v):
  sa its ts u v=eqT (ts.getD j .zj) u:=by
 have h:∃ j,its[j]?=some v:=⟨j,hj⟩
 unfold sa;rw[dif_pos h];have hc:=Classical.choose_spec h;have lt:∀ i,its[i]?=some v->i<ts.length:=λ i hi=>by
  rw[h1.length,h2.length,h3.length];exact (zA2.mp hi).1
 obtain⟨c1,e1,s1⟩:=h1.get (lt _ hc);obtain⟨c2,e2,s2⟩:=h1.get (lt _ hj);obtain⟨x1,f1,r1⟩:=h2.get e1;obtain⟨x2,f2,r2⟩:=h2.get e2;obtain⟨v1,g1,q1⟩:=h3.get f1;obtain⟨v2,g2,q2⟩:=h3.get f2;rw[hc] at g1;cases g1;rw[hj] at g2;cases g2;have hx:=q1.inj q2;subst hx;rw[kh I p _ _ s1 s2 r1 r2]
def Xx {pins:List (Addr×Obj)}{B:St}{H:Hp}{s:Shared}{S:SS}(I:Inv X pins B H s) (p:zO X.K H S) {ts:List T}{ds:List D}{xs:List V}{its:List Value}(h1:zh S ts ds) (h2:zo X.K H ds xs) (h3:Vals xs its) (u:T):its.any (sa its ts u)=ts.any λ t=>eqT t u:=by
 have hl:ts.length=its.length:=by rw[h1.length,h2.length,h3.length]
 rw[zC7,zD0,zD0];constructor
 .rintro⟨v,hv,h⟩;obtain⟨j,hj,rfl⟩:=List.mem_iff_getElem.mp hv;rw[dq I p h1 h2 h3 u (j:=j) (by simp[hj])] at h;have hj':j<ts.length:=by omega
  exact⟨ts[j],zD8 hj',by simpa [hj'] using h⟩
 .rintro⟨t,ht,h⟩;obtain⟨j,hj,rfl⟩:=List.mem_iff_getElem.mp ht;have hj':j<its.length:=by omega
  exact⟨its[j],zD8 hj',by rw[dq I p h1 h2 h3 u (j:=j) (by simp[hj'])];simpa [hj] using h⟩
def Xy {pins:List (Addr×Obj)}{B:St}{H:Hp}{s:Shared}{S:SS}(I:Inv X pins B H s) (p:zO X.K H S) {ts:List T}{ds:List D}{xs:List V}{its:List Value}(h1:zh S ts ds) (h2:zo X.K H ds xs) (h3:Vals xs its) {u:T}{d:D}{x:V}{v:Value}(hu:Sn S u d) (hd:zi X.K H d x) (hx:RelV x v) {A:Around}(b1:A.units+yw ts<cLine) (b2:A.units+dep u<cLine) {y:Value}(hy:y∈its):
  SeqAt.EqAt A s y v (sa its ts u y):=by
 obtain⟨j,hj,rfl⟩:=List.mem_iff_getElem.mp hy;have hjt:j<ts.length:=by rw[h1.length,h2.length,h3.length];exact hj
 rw[dq I p h1 h2 h3 u (j:=j) (by simp[hj])];obtain⟨c1,e1,s1⟩:=h1.get hjt;obtain⟨x1,f1,r1⟩:=h2.get e1;obtain⟨v1,g1,q1⟩:=h3.get f1;have:its[j]=v1:=by
  have:=zA2.mp g1;exact this.2
 rw[this];have:=YG hjt;exact Y3 I p _ u (A:=A) (by omega) b2 s1 hu r1 hd q1 hx
def Ss (hu:X.A.units+64<cLine):yp X (compareOp .In) (ar X.K false):=by
 intro pins s B H x y v w Q I rx ry h;obtain⟨S,d,e,u,ts,ds,a1,a2,a3,a4,a5,a6,a7,a8,q⟩:=h;obtain⟨l,xs,rfl,g1,g2⟩:=zM.sq a2 a3 a5;cases ry;rcases g1 with g1 | g1
 .obtain⟨its,w1,pl,_⟩:=I.list g1;refine SeqAt.in_listAt (sa its ts u) pl.isList (λ y hy=>Xy I a3 a6 g2 w1 a4 a1 rx (A:=X.A.in1) (by show X.A.units+1+_<_;omega) (by show X.A.units+1+_<_;omega) (by simpa using hy)) ⟨.bl _,H,I,rfl,?_⟩;rw[show its.toArray.any (sa its ts u)=its.any (sa its ts u) by simp,Xx I a3 a6 g2 w1];exact q
 .obtain⟨its,w1,pt,_⟩:=I.tuple g1;refine SeqAt.in_tupleAt (sa its ts u) pt (λ y hy=>Xy I a3 a6 g2 w1 a4 a1 rx (A:=X.A.in1) (by show X.A.units+1+_<_;omega) (by show X.A.units+1+_<_;omega) (by simpa using hy)) ⟨.bl _,H,I,rfl,?_⟩;rw[show its.toArray.any (sa its ts u)=its.any (sa its ts u) by simp,Xx I a3 a6 g2 w1];exact q
def Tu {k:Nat}(hr:yC k X.A) (ha:PD X a ta) (hb:PD X b tb) (hm:behindInMarks .In b=false:=by rfl):xP X (.Compare a [.In] [b] pos) (vF (yg (qh false) ta tb)):=sD (Ss hr.units) qh.fits qh.mo ha hb hm
end
end L3
namespace L2
open PySem PySem.Spec PyProof.Rows
section
variable {κ:Type} [DecidableEq κ]
noncomputable def wJ (kvs:List (κ × V)) (k:κ):Option V:=(kvs.find? λ kv=>decide (kv.1=k)).map (·.2)
noncomputable def putK (kvs:List (κ × V)) (k:κ) (v:V):List (κ × V):=
 if (kvs.any λ kv=>decide (kv.1=k))=true then kvs.map (λ kv=>if kv.1=k then (kv.1,v) else kv) else kvs++[(k,v)]
def ia {p:κ × V}{r:List (κ × V)}{k:κ}(e:p.1=k):wJ (p::r) k=some p.2:=by simp[wJ,List.find?_cons,e]
def ic {p:κ × V}{r:List (κ × V)}{k:κ}(e:¬ p.1=k):wJ (p::r) k=wJ r k:=by simp[wJ,List.find?_cons,e]
theorem bg (k:κ):∀ kvs:List (κ × V),(kvs.any λ kv=>decide (kv.1=k))=(wJ kvs k).isSome
 | []=>rfl
 | p::r=>by
  rw[List.any_cons];by_cases e:p.1=k
  .simp only[ia e,decide_eq_true e,Bool.true_or,Option.isSome_some]
  .rw[ic e,decide_eq_false e,Bool.false_or];exact bg k r
def Z8 (kvs:List (κ × V)) (k:κ) (v:V):(putK kvs k v).length<=kvs.length+1:=by
 unfold putK;split
 .rw[zA7];omega
 .rw[zD7,zC0,List.length_nil];omega
def uK.QX {o:Option V}{u:Option Value}(r:uK o u):o.isSome=u.isSome:=by
 cases o with
 | none=>cases u with
  | none=>rfl
  | some _=>exact (show False from r).elim
 | some _=>cases u with
  | none=>exact (show False from r).elim
  | some _=>rfl
theorem uK.getD {o:Option V}{u:Option Value}{d:V}{d':Value}(r:uK o u) (rd:RelV d d'):RelV (o.getD d) (u.getD d'):=by
 cases o with
 | none=>cases u with
  | none=>exact rd
  | some _=>exact (show False from r).elim
 | some _=>cases u with
  | none=>exact (show False from r).elim
  | some _=>exact r
def KV.val {kvs:List (κ × V)}{vs:List (κ × Value)}(r:KV kvs vs) (k:κ):uK (wJ kvs k) (valueAt vs k):=by
 unfold KV at r
 induction r with
 | nil=>exact True.intro
 | @cons p q ps qs h t ih=>
  obtain⟨h1,h2⟩:=h;by_cases e:p.1=k
  .have e':q.1=k:=h1.symm.trans e;have b:valueAt (q::qs) k=some q.2:=by simp[valueAt,List.find?_cons,e']
   rw[ia e,b];exact h2
  .have e':¬ q.1=k:=λ z=>e (h1.trans z);have b:valueAt (q::qs) k=valueAt qs k:=by simp[valueAt,List.find?_cons,e']
   rw[ic e,b];exact ih
theorem KV.any {kvs:List (κ × V)}{vs:List (κ × Value)}(r:KV kvs vs) (k:κ):(kvs.any λ kv=>decide (kv.1=k))=vs.any λ kv=>decide (kv.1=k):=by
 unfold KV at r
 induction r with
 | nil=>rfl
 | cons h t ih=>rw[List.any_cons,List.any_cons,ih,h.1]
def KV.tG {kvs:List (κ × V)}{vs:List (κ × Value)}(r:KV kvs vs) (k:κ) {y:V}{u:Value}(ry:RelV y u):
  KV (kvs.map λ kv=>if kv.1=k then (kv.1,y) else kv) (vs.map λ kv=>if kv.1=k then (kv.1,u) else kv):=by
 unfold KV at r ⊢
 induction r with
 | nil=>exact .nil
 | @cons p q ps qs h t ih=>
  rw[zA6,zA6];refine .cons ?_ ih;obtain⟨h1,h2⟩:=h;by_cases e:p.1=k
  .rw[if_pos e,if_pos (h1.symm.trans e)];exact⟨h1,ry⟩
  .rw[if_neg e,if_neg (λ z=>e (h1.trans z))];exact⟨h1,h2⟩
def KV.put {kvs:List (κ × V)}{vs:List (κ × Value)}(r:KV kvs vs) (k:κ) {y:V}{u:Value}(ry:RelV y u):KV (putK kvs k y) (stored vs k u):=by
 unfold putK stored;rw[r.any k];by_cases e:(vs.any λ kv=>decide (kv.1=k))=true
 .rw[if_pos e,if_pos e];exact r.tG k ry
 .rw[if_neg e,if_neg e];exact Paired.snoc r ⟨rfl,ry⟩
theorem KV.length {kvs:List (κ × V)}{vs:List (κ × Value)}(r:KV kvs vs):kvs.length=vs.length:=Paired.length r
end
def jh {P:Program}{w:World}{k:Key}{u:Value}(r:RelV (kV k) u):(vb P w).is k u=true:=by
 cases k with
 | inl i=>obtain⟨t,e⟩:=(show ∃ t,u=Value.int i t from r);subst e;exact Qv P w i t
 | inr x=>obtain⟨t,e⟩:=(show ∃ t,u=Value.str x t from r);subst e;exact Qu P w x t
theorem ZO {P:Program}{w:World}:∀ {ks:List Key}{us:List Value},Vals (ks.map kV) us->ItemsAre (vb P w) ks us
 | [],_,r=>by rw[List.map_nil] at r;cases r;exact .nil
 | k::ks,_,r=>by
  rw[zA6] at r;cases r with
  | cons h t=>exact .cons (jh h) (ZO t)
abbrev KT (H:Hp):List (List Key×V)->List (List Key×Addr×Value)->Prop:=Paired λ p q=>p.1=q.1/\H q.2.1=some (.tup (p.1.map kV))/\RelV p.2 q.2.2
def KT.val {H:Hp}{kvs:List (List Key×V)}{xs:List (List Key×Addr×Value)}(r:KT H kvs xs) (k:List Key):uK (wJ kvs k) ((atKey xs k).map (·.2)):=by
 induction r with
 | nil=>exact True.intro
 | @cons p q ps qs h t ih=>
  obtain⟨h1,_,h2⟩:=h;by_cases e:p.1=k
  .have e':q.1=k:=h1.symm.trans e;have b:atKey (q::qs) k=some q.2:=by simp[atKey,List.find?_cons,e']
   rw[ia e,b];exact h2
  .have e':¬ q.1=k:=λ z=>e (h1.trans z);have b:atKey (q::qs) k=atKey qs k:=by simp[atKey,List.find?_cons,e']
   rw[ic e,b];exact ih
def KT.tG {H:Hp}{kvs:List (List Key×V)}{xs:List (List Key×Addr×Value)}(r:KT H kvs xs) (k:List Key) {y:V}{u:Value}(ry:RelV y u):
  KT H (kvs.map λ kv=>if kv.1=k then (kv.1,y) else kv) (xs.map (putAt k u)):=by
 induction r with
 | nil=>exact .nil
 | @cons p q ps qs h t ih=>
  rw[zA6,zA6];refine .cons ?_ ih;obtain⟨h1,h2,h3⟩:=h;unfold putAt;by_cases e:p.1=k
  .rw[if_pos e,if_pos (h1.symm.trans e)];exact⟨h1,h2,ry⟩
  .rw[if_neg e,if_neg (λ z=>e (h1.trans z))];exact⟨h1,h2,h3⟩
def KT.put {H:Hp}{kvs:List (List Key×V)}{xs:List (List Key×Addr×Value)}(r:KT H kvs xs) (k:List Key) {b:Addr}{y:V}{u:Value}(hb:H b=some (.tup (k.map kV))) (ry:RelV y u):
  KT H (putK kvs k y) (storedH xs k b u):=by
 have e:(kvs.any λ kv=>decide (kv.1=k))=(atKey xs k).isSome:=by
  rw[bg,(r.val k).QX,Option.isSome_map]
 unfold putK storedH;rw[e];by_cases q:(atKey xs k).isSome=true
 .rw[if_pos q,if_pos q];exact r.tG k ry
 .rw[if_neg q,if_neg q];exact Paired.snoc r ⟨rfl,hb,ry⟩
def KT.keeps {H H':Hp}{kvs:List (List Key×V)}{xs:List (List Key×Addr×Value)}(r:KT H kvs xs) (ht:∀ b ys,H b=some (.tup ys)->H' b=some (.tup ys)):KT H' kvs xs:=
 Paired.jd r λ _ _ z=>⟨z.1,ht _ _ z.2.1,z.2.2⟩
section
variable {P:Program}{w:World}{H:Hp}{h:Heap}{a:Addr}
def aa {u:HO}(ok:xg P w H h) (e:Rd H a u):x8 P w H h a u:=e.ok ok
def oT {kvs:List (Key×V)}(ok:xg P w H h) (e:Rd H a (.dK kvs)):kvs.length<=sizeLine/\(a == sysModules)=false/\∃ vs,KV kvs vs/\h.DictOf (vb P w) a vs:=
 show x8 P w H h a (.dK kvs) from aa ok e
def O5 {kvs:List (Key×V)}(ok:xg P w H h) (e:H a=some (.dK kvs)):kvs.length<=sizeLine/\(a == sysModules)=false/\∃ vs,KV kvs vs/\h.DictOf (vb P w) a vs:=oT ok (.inl e)
def jg {ks:List Key}(ok:xg P w H h) (e:H a=some (.tup (ks.map kV))):(tupleKind (vb P w)).is h ks a:=by
 obtain⟨_,its,r,o,h1,h2,n,h3⟩:=(show x8 P w H h a (.tup (ks.map kV)) from ok a _ e)
 exact⟨o,its.toArray,n,h1,h2,h3,by simpa using ZO r⟩
def mT {kvs:List (List Key×V)}(ok:xg P w H h) (e:Rd H a (.dT kvs)):kvs.length<=sizeLine/\(a == sysModules)=false/\
  ∃ xs,KT H kvs xs/\h.DictOfH (tupleKind (vb P w)) a xs:=by
 obtain⟨z,y,xs,r,o,es,ep,h1,h2,h3,h4,h5⟩:=(show x8 P w H h a (.dT kvs) from aa ok e)
 refine⟨z,y,xs,r,o,es,ep,h1,h2,h3,h4,λ x hx=>?_,h5⟩;have all:∀ {l:List (List Key×V)}{m:List (List Key×Addr×Value)},KT H l m->∀ x∈m,(tupleKind (vb P w)).is h x.1 x.2.1:=by
  intro l m q
  induction q with
  | nil=>intro x hx;exact nomatch hx
  | @cons p q ps qs hq t ih=>
   intro x hx;rcases zA5.mp hx with e | hx
   .subst e;exact jg ok (by rw[<- hq.1];exact hq.2.1)
   .exact ih x hx
 exact all r x hx
def O0 {kvs:List (List Key×V)}(ok:xg P w H h) (e:H a=some (.dT kvs)):kvs.length<=sizeLine/\(a == sysModules)=false/\
  ∃ xs,KT H kvs xs/\h.DictOfH (tupleKind (vb P w)) a xs:=mT ok (.inl e)
end
def r9 (H:Hp) (a:Addr) (y:V) (r:Option V):Prop:=
 (∃ kvs k,Rd H a (.dK kvs)/\y=kV k/\r=wJ kvs k)\/∃ kvs k b,Rd H a (.dT kvs)/\y=.ref b/\H b=some (.tup (k.map kV))/\r=wJ kvs k
def l_ (H:Hp) (a:Addr) (y v:V) (H':Hp):Prop:=
 (∃ kvs k,H a=some (.dK kvs)/\y=kV k/\kvs.length<sizeLine/\H'=upd H a (.dK (putK kvs k v)))\/
 ∃ kvs k b,H a=some (.dT kvs)/\y=.ref b/\H b=some (.tup (k.map kV))/\kvs.length<sizeLine/\H'=upd H a (.dT (putK kvs k v))
theorem r9.k {H:Hp}{a:Addr}{kvs:List (Key×V)}{k:Key}(e:H a=some (.dK kvs)):r9 H a (kV k) (wJ kvs k):=.inl ⟨kvs,k,.inl e,rfl,rfl⟩
theorem l_.k {H:Hp}{a:Addr}{kvs:List (Key×V)}{k:Key}{v:V}(e:H a=some (.dK kvs)) (hl:kvs.length<sizeLine):l_ H a (kV k) v (upd H a (.dK (putK kvs k v))):=.inl ⟨kvs,k,e,rfl,hl,rfl⟩
section
variable {X:Cx}{pins:List (Addr×Obj)}{B:St}{H:Hp}{s:Shared}{a:Addr}{y v:V}{u r:Value}{o:Option V}{A:Around}{E:Value->Shared->Prop}
def Inv.big (I:Inv X pins B H s):sysModules<s.heap.objs.size:=by
 have h:mainGlobals<s.heap.objs.size:=(I.mod.glob.keeps I.bk).lt;exact Nat.lt_trans (by decide) h
def OD {Q:Value->Shared->Prop}(hu:A.units+1<cLine) (I:Inv X pins B H s) (g:r9 H a y (some v)) (ry:RelV y u) (h:∀ w' s',Inv X pins B H s'->RelV v w'->Q w' s'):
  wpAny (model X.prog X.w) A (getItem (.ref a) u) Q E s:=by
 rcases g with ⟨kvs,k,e,ey,l⟩ | ⟨kvs,k,b,e,ey,eb,l⟩
 .subst ey;obtain⟨z,hd,vs,rel,dd⟩:=oT I.zD e;obtain⟨w',hw,rw'⟩:=uK.some_of (v:=v) (o:=valueAt vs k) (by rw[l];exact rel.val k);exact wpAny_getItem_of (jh ry) dd.mapOf hw (h w' _ (I.tok _) rw')
 .subst ey;cases (show u=Value.ref b from ry);obtain⟨z,hd,xs,rel,dd⟩:=mT I.zD e;obtain⟨w',hw,rw'⟩:=uK.some_of (v:=v) (o:=(atKey xs k).map (·.2)) (by rw[l];exact rel.val k);obtain⟨p,hp,Pk⟩:=zOm hw;refine wpAny_getItem_heap (tupleKind_room_in1 hu) (jg I.zD eb) dd hp ?_;rw[Pk];exact h w' _ (I.tok _) rw'
def YJ {h':Heap}{t':Nat}{ob:HO}(I:Inv X pins B H s) (mu:lJ (H a)) (hs:Heap.SameBut a s.heap h') (he:∃ q,h'.get? a=some q) (new:x8 X.prog X.w (upd H a ob) h' a ob):
  Inv X pins B (upd H a ob) { s with heap:=h',toks:=t' }:=
 I.write (x:=a) (e:=a) mu (.inl rfl) (λ b q hb z=>(hs.2 b hb).trans z) he new
def O6 {P:Program}{w:World}{H':Hp}{h':Heap}{kvs:List (Key×V)}{vs:List (Key×Value)}(z:kvs.length<=sizeLine) (hd:(a == sysModules)=false) (rel:KV kvs vs) (dd:h'.DictOf (vb P w) a vs):
  x8 P w H' h' a (.dK kvs):=⟨z,hd,vs,rel,dd⟩
def OB {H':Hp}{Q:Unit->Shared->Prop}(hu:A.units+1<cLine) (I:Inv X pins B H s) (g:l_ H a y v H') (ry:RelV y u) (rv:RelV v r) (h:∀ s',Inv X pins B H' s'->Q () s'):
  wpAny (model X.prog X.w) A (setItem (.ref a) u r) Q E s:=by
 rcases g with ⟨kvs,k,e,ey,l,eH⟩ | ⟨kvs,k,b,e,ey,eb,l,eH⟩
 .subst ey eH;obtain⟨z,hd,vs,rel,dd⟩:=O5 I.zD e;have hz:vs.length<=sizeLine:=by rw[<- rel.length];exact z
  have hl:(putK kvs k v).length<=sizeLine:=by have:=Z8 kvs k v;omega
  refine wpAny_setItem_pairs (hsz:=hz) (jh ry) dd λ h' dd' hs=>h _ ?_;have he:∃ q,h'.get? a=some q:=let ⟨q,_,_,hq,_⟩:=dd';⟨q,hq⟩
  exact YJ I (by rw[e];exact True.intro) hs he (O6 hl hd (rel.put k rv) dd')
 .subst ey eH;cases (show u=Value.ref b from ry);obtain⟨z,hd,xs,rel,dd⟩:=O0 I.zD e;have hz:xs.length<=sizeLine:=by rw[<- Paired.length rel];exact z
  have hl:(putK kvs k v).length<=sizeLine:=by have:=Z8 kvs k v;omega
  refine wpAny_setItem_heap (hsz:=hz) (tupleKind_room_in1 hu) (jg I.zD eb) dd λ h' dd' hs=>h _ ?_;obtain⟨q,es,ep,hq,h2,h3,h4,_,h5⟩:=dd';refine YJ I (by rw[e];exact True.intro) hs ⟨q,hq⟩ ⟨hl,hd,_,(rel.put k eb rv).keeps λ c ys ec=>?_,q,es,ep,hq,h2,h3,h4,h5⟩;rw[yU (my ec e (λ z=>nomatch z))];exact ec
end
section
variable {X:Cx}{pins:List (Addr×Obj)}{B:St}{H:Hp}{s:Shared}{a:Addr}{kvs:List (Key×V)}{k:Key}{u:Value}{A:Around}{E:Value->Shared->Prop}
def OC {Q:Value->Shared->Prop}(I:Inv X pins B H s) (e:Rd H a (.dK kvs)) (h:∀ t s',Inv X pins B H s'->Q (.int kvs.length t) s'):wpAny (model X.prog X.w) A (call (.builtin "len") [.ref a]) Q E s:=by
 obtain⟨z,hd,vs,rel,dd⟩:=oT I.zD e;refine call_len_dict hd dd (by rw[<- rel.length];rw[sizeLine_eq] at z;omega) ?_;rw[<- rel.length];exact h _ _ (I.tok _)
end
def d9 (i:Expr):Prop:=∀ ov iv,subscripted i false ov iv=operate [ov,iv] (getItem ov iv)
def Vk {prog:Program}{w:World}{A:Around}{E:Value->Shared->Prop}{s:Shared}{env:Env}{value slice:Expr}{pos:Pos}{T id:String}{Q:Value->Shared->Prop}
  (hl:typeLookup (.type T) "__getitem__"=pure (some (.builtin id))) (hs:d9 slice)
  (h:wpAny (model prog w) A (eval value env) (λ o s₁=>wpAny (model prog w) A (eval slice env) (λ i s₂=>s₂.TypeIs o T/\wpAny (model prog w) A (getItem o i) Q E s₂) E s₁) E s):
  wpAny (model prog w) A (eval (.Subscript value slice pos) env) Q E s:=by
 refine Subscript_ (wpAny_mono h (λ o s₁ h₁=>wpAny_mono h₁ (λ i s₂ h₂=>?_) λ _ _ x=>x) λ _ _ x=>x);obtain⟨hT,h₂⟩:=h₂;unfold subscriptTail;refine zWb ?_;rw[getitemInPython_of_ne hT.not_modules];refine zWb (wpAny_specialOf hT hl ?_);have fin:wpAny (model prog w) A (subscripted slice false o i) (λ r s₃=>wpAny (model prog w) A (letTemporaryGo value o r >>= λ _=>pure r) Q E s₃) E s₂:=by
  rw[hs o i];exact wpAny_operating (wpAny_mono h₂ (λ r s₃ h₃=>zWb (wpAny_letTemporaryGo (zD1 h₃))) λ _ _ x=>x)
 first
  | exact zD1 (zWb fin)
  | exact zWb (zD1 (zWb fin))
  | exact zWb fin
def O8 {X:Cx}{pins:List (Addr×Obj)}{B:St}{H:Hp}{s:Shared}{a:Addr}{y:V}{o:Option V}(I:Inv X pins B H s) (g:r9 H a y o):s.TypeIs (.ref a) "dict":=by
 rcases g with ⟨kvs,k,e,_,_⟩ | ⟨kvs,k,b,e,_,_,_⟩
 .obtain⟨_,_,vs,_,dd⟩:=oT I.zD e;exact dd.typeIs
 .obtain⟨_,_,xs,_,dd⟩:=mT I.zD e;exact dd.typeIs
def Vh (td ty:TE):TE:=fun B H Q=>td B H λ x H1=>ty B H1 λ y H2=>∃ a v,x=.ref a/\r9 H2 a y (some v)/\Q v H2
def VL (td ty tv:TE):TS:=λ D B H=>tv B H λ v H1=>td B H1 λ x H2=>ty B H2 λ y H3=>∃ a H4,x=.ref a/\l_ H3 a y v H4/\D.nx B H4
section
variable {X:Cx}{o i e value:Expr}{pos pos' tpos:Pos}{td ty tv:TE}
def Ti (hu:X.A.units+1<cLine) (ho:PE X o td) (hi:PE X i ty) (hs:d9 i):PE X (.Subscript o i pos) (Vh td ty):=by
 intro pins s B H Q I h;refine Vk PySem.F.slot_dict_getitem.lookup hs (zH (ho pins s B H _ I h) λ u s1 ⟨x,H1,I1,rx,q1⟩=>zH (hi pins s1 B H1 _ I1 q1) λ iv s2 ⟨y,H2,I2,ry,a,v,ex,g,q2⟩=>?_);subst ex;obtain rfl:u=Value.ref a:=rx;exact⟨O8 I2 g,OD hu I2 g ry λ w' s3 I3 rw'=>⟨v,H2,I3,rw',q2⟩⟩
def U0 (hu:X.A.units+1<cLine) (ho:PE X o td) (hi:PE X i ty) (hv:PE X value tv) (hs:swapsWith value (some (.Subscript o i pos')) pos.line X.env=pure false):
  PS X (.Assign [.Subscript o i pos'] value pos) (VL td ty tv):=by
 intro pins s B H D I h;refine wpAny_Assign_Subscript (zH (hv pins s B H _ I h) λ r s1 ⟨v,H1,I1,rv,q1⟩=>zH (ho pins s1 B H1 _ I1 q1) λ u s2 ⟨x,H2,I2,rx,q2⟩=>zH (hi pins s2 B H2 _ I2 q2) λ iv s3 ⟨y,H3,I3,ry,a,H4,ex,g,q3⟩=>?_) hs;subst ex;obtain rfl:u=Value.ref a:=rx;exact OB hu I3 g ry rv λ s4 I4=>⟨B,H4,I4,q3⟩
end
def O7 {P:Program}{w:World}{H:Hp}(h:Heap) (hb:sysModules<h.objs.size):x8 P w H (h.push { cls:=.type "dict",data:=.dict #[] }) h.objs.size (.dK []):=
 ⟨zD4 _,beq_eq_false_iff_ne.mpr (Ne.symm (zB3 hb)),[],.nil,Heap.DictOf.new h⟩
def Vf:TE:=λ _ H Q=>∀ p,H p=none->Q (.ref p) (upd H p (.dK []))
section
variable {X:Cx}{pos:Pos}
def Tg:PE X (.Dict [] [] pos) Vf:=λ pins s B H Q I h=>
 wpAny_Dict_empty ⟨.ref s.heap.objs.size,_,I.laid (a:=s.heap.objs.size) (o:=.dK []) (t':=s.toks) (λ _ _ q=>zHp _ q) (zA4 _) (O7 s.heap I.big),rfl,h _ (I.zD.fresh (zA4 _))⟩
end
structure M2 (X:Cx) (o:Expr) (m:Str) (apos:Pos) (e f:Expr) (cpos:Pos):Prop where
 base:attributeBase o m X.env (eval o X.env)=eval o X.env
 mJ:((backTo cpos (starEach [e,f] X.env)).all (λ x=>!x.1)&&(backToKw cpos (keywordEach [] X.env)).all (λ x=>x.1.isSome)
  && decide (([e,f]:List Expr).length+([]:List Keyword).length+(if ([]:List Keyword).isEmpty then 0 else 1)<30))=true
 line:(apos.endLine == cpos.line)=true
 trees:backTo cpos (starEach [e,f] X.env)=[(false,eval e X.env),(false,eval f X.env)]
def XD (H:Hp) (a:Addr):Prop:=(∃ kvs,Rd H a (.dK kvs))\/∃ kvs,Rd H a (.dT kvs)
def Q_ {X:Cx}{pins:List (Addr×Obj)}{B:St}{H:Hp}{s:Shared}{a:Addr}(I:Inv X pins B H s) (d:XD H a):
  s.TypeIs (.ref a) "dict"/\(∀ b,Value.ref a=.ref b->∃ ob,s.heap.get? b=some ob/\ob.dict=none)/\(a == sysModules)=false:=by
 rcases d with ⟨kvs,e⟩ | ⟨kvs,e⟩
 .obtain⟨_,hd,vs,_,dd⟩:=oT I.zD e;refine⟨dd.typeIs,λ b q=>?_,hd⟩;cases q;obtain⟨ob,_,_,h1,h2,_⟩:=dd;exact⟨ob,h1,h2.2.1⟩
 .obtain⟨_,hd,xs,_,dd⟩:=mT I.zD e;refine⟨dd.typeIs,λ b q=>?_,hd⟩;cases q;obtain⟨ob,_,_,h1,h2,_⟩:=dd;exact⟨ob,h1,h2.2.1⟩
section
variable {X:Cx}{pins:List (Addr×Obj)}{B:St}{H:Hp}{s:Shared}{a:Addr}{y d:V}{u r:Value}{o:Option V}{A:Around}{E:Value->Shared->Prop}
def OE {Q:Value->Shared->Prop}(hu:A.units+1<cLine) (I:Inv X pins B H s) (g:r9 H a y o) (ry:RelV y u) (rd:RelV d r) (h:∀ w' s',Inv X pins B H s'->RelV (o.getD d) w'->Q w' s'):
  wpAny (model X.prog X.w) A (call (.builtin "dict.get") [.ref a,u,r]) Q E s:=by
 rcases g with ⟨kvs,k,e,ey,l⟩ | ⟨kvs,k,b,e,ey,eb,l⟩
 .subst ey;obtain⟨z,hd,vs,rel,dd⟩:=oT I.zD e;refine call_meetsIn PySem.F.slot_dict_get dd.typeIs PySem.F.entry_dict_get (PySem.F.args_dict_get_3 _ _ _) (meets_dict_get_default (vb X.prog X.w) a (jh ry) hd r) ⟨_,dd.mapOf,h _ _ (I.tok _) ?_⟩;rw[l];exact (rel.val k).getD rd
 .subst ey;cases (show u=Value.ref b from ry);obtain⟨z,hd,xs,rel,dd⟩:=mT I.zD e;refine call_meetsIn PySem.F.slot_dict_get dd.typeIs PySem.F.entry_dict_get (PySem.F.args_dict_get_3 _ _ _) (meetsH_dict_get_default (tupleKind (vb X.prog X.w)) a b hd r) ⟨tupleKind_room_in1 hu,k,xs,jg I.zD eb,dd,h _ _ (I.tok _) ?_⟩;rw[l];exact (rel.val k).getD rd
end
def Vg (td ty tx:TE):TE:=fun B H Q=>td B H λ x H1=>∃ a,x=.ref a/\XD H1 a/\ty B H1 λ y H2=>tx B H2 λ z H3=>∃ o,r9 H3 a y o/\Q (o.getD z) H3
section
variable {X:Cx}{o e f:Expr}{apos cpos:Pos}{td ty tx:TE}
def Th (hu:X.A.units+1<cLine) (ho:PE X o td) (he:PE X e ty) (hf:PE X f tx) (m:M2 X o "get" apos e f cpos):PE X (.Call (.Attribute o "get" apos) [e,f] [] cpos) (Vg td ty tx):=by
 intro pins s B H Q I h;refine wpAny_Call_method m.base m.mJ m.line PySem.F.plainAttrs_dict PySem.F.slot_dict_get PySem.F.type_dict_get (zH (ho pins s B H _ I h) λ u s1 ⟨x,H1,I1,rx,a,ex,d,q1⟩=>?_);subst ex;obtain rfl:u=Value.ref a:=rx;obtain⟨t1,t2,_⟩:=Q_ I1 d;refine⟨t1,t2,?_⟩;rw[m.trees];refine Calls.callWith_builtin rfl (Calls.evalArgs_plain (Calls.spliced_cons (zH (he pins s1 B H1 _ I1 q1) λ iv s2 ⟨y,H2,I2,ry,q2⟩=>
  Calls.spliced_cons (zH (hf pins s2 B H2 _ I2 q2) λ fv s3 ⟨z,H3,I3,rz,ov,g,q3⟩=>Calls.spliced_nil ?_))))
 exact OE hu I3 g ry rz λ w' s4 I4 rw'=>⟨_,H3,I4,rw',q3⟩
end
section
variable {X:Cx}{pins:List (Addr×Obj)}{B:St}{H:Hp}{s:Shared}{a:Addr}{kvs:List (Key×V)}{A:Around}{E:Value->Shared->Prop}
end
section
variable {X:Cx}{pins:List (Addr×Obj)}{B:St}{H:Hp}{s:Shared}{a:Addr}{y:V}{u:Value}{A:Around}{E:Value->Shared->Prop}
end
end L2
namespace L3
open PySem PySem.Spec L2
open PyProof.Rows hiding St
noncomputable def uk (kvs:List (Key×D)) (k:Key):Option D:=(kvs.find? λ kv=>decide (kv.1=k)).map (·.2)
noncomputable def putD (kvs:List (Key×D)) (k:Key) (v:D):List (Key×D):=
 if (kvs.any λ kv=>decide (kv.1=k))=true then kvs.map (λ kv=>if kv.1=k then (kv.1,v) else kv) else kvs++[(k,v)]
section
variable {K:zFr}{H:Hp}
theorem xp.val:∀ {kvs:List (Key×D)}{vs:List (Key×V)},xp K H kvs vs->∀ k,(uk kvs k=none/\wJ vs k=none)\/∃ d v,uk kvs k=some d/\wJ vs k=some v/\zi K H d v
 | _,_,.nil,k=>.inl ⟨rfl,rfl⟩
 | (a,d)::kvs,(b,v)::vs,.cons ⟨e,r⟩ t,k=>by
  have e':a=b:=e;subst e';by_cases h:a=k
  .subst h;exact .inr ⟨d,v,by simp[uk],by simp[wJ],r⟩
  .rcases xp.val t k with ⟨h1,h2⟩ | ⟨d',v',h1,h2,h3⟩
   .exact .inl ⟨by simpa [uk,h] using h1,by simpa [wJ,h] using h2⟩
   .exact .inr ⟨d',v',by simpa [uk,h] using h1,by simpa [wJ,h] using h2,h3⟩
theorem xp.any {kvs:List (Key×D)}{vs:List (Key×V)}(h:xp K H kvs vs) (k:Key):(kvs.any λ kv=>decide (kv.1=k))=vs.any λ kv=>decide (kv.1=k):=by
 induction h with
 | nil=>rfl
 | cons r _ ih=>rw[List.any_cons,List.any_cons,ih,r.1]
def xp.len {kvs:List (Key×D)}{vs:List (Key×V)}(h:xp K H kvs vs):kvs.length=vs.length:=Paired.length h
theorem xp.tG {k:Key}{d:D}{v:V}(r:zi K H d v):∀ {kvs:List (Key×D)}{vs:List (Key×V)},xp K H kvs vs->xp K H (kvs.map λ kv=>if kv.1=k then (kv.1,d) else kv) (vs.map λ kv=>if kv.1=k then (kv.1,v) else kv)
 | _,_,.nil=>.nil
 | (a1,a2)::_,(b1,b2)::_,.cons ⟨e,q⟩ t=>by
  have e':a1=b1:=e;subst e';refine .cons ?_ (xp.tG r t);by_cases hk:a1=k
  .simp[hk,r]
  .simpa [hk] using q
theorem xp.snoc {k:Key}{d:D}{v:V}(r:zi K H d v):∀ {kvs:List (Key×D)}{vs:List (Key×V)},xp K H kvs vs->xp K H (kvs++[(k,d)]) (vs++[(k,v)])
 | _,_,.nil=>.cons ⟨rfl,r⟩ .nil
 | _,_,.cons q t=>.cons q (xp.snoc r t)
def xp.put {kvs:List (Key×D)}{vs:List (Key×V)}(h:xp K H kvs vs) (k:Key) {d:D}{v:V}(r:zi K H d v):xp K H (putD kvs k d) (putK vs k v):=by
 unfold putD putK;rw[h.any k];split
 .exact xp.tG r h
 .exact xp.snoc r h
end
section
variable {X:Cx}{K:zFr}{o i e f v:Expr}{td ty tx tv:zu}{pos pos' apos cpos:Pos}
def eN:zu:=λ _ S Q=>∀ p,S p=none->Q (.ref p) (ups S p (.ye []))
def TJ:PD X (.Dict [] [] pos) eN:=by
 refine⟨λ _ _ _ _ hq z p hp=>hq _ _ (z p hp),PE.imp Tg fun B H Q hu p hp=>?_⟩;obtain⟨Y,S,r1,r2,z⟩:=hu;exact z p (r2.none hp) _ _ (by simp only[zi]) (.new hp _) (r2.ups (.new hp _) ⟨[],yS,.nil⟩)
def YV (td ty:zu):zu:=fun Y S Q=>td Y S λ x S1=>ty Y S1 λ y S2=>∃ p kvs k d,x=.ref p/\y=.int k/\S2 p=some (.ye kvs)/\uk kvs (.inl k)=some d/\Q d S2
def aZ {k:Nat}(hr:yC k X.A) (ho:PD X o td) (hi:PD X i ty) (hs:d9 i:=by exact λ _ _=>rfl):PD X (.Subscript o i pos) (YV td ty):=by
 refine⟨fun Y S Q Q' hq z=>ho.mo Y S _ _ (λ x S1 z=>hi.mo Y S1 _ _ (λ y S2 ⟨p,kvs,k,d,a,b,c,e,h⟩=>⟨p,kvs,k,d,a,b,c,e,hq _ _ h⟩) z) z,PE.imp (Ti (fV hr) ho.pe hi.pe hs) fun B H Q hu=>?_⟩;obtain⟨Y,S,r1,r2,z⟩:=hu;refine zS.go ho.mo r1 r2 z λ x S1 w H1 h1 q1 e1 p1=>?_;refine zS.go hi.mo (r1.ext e1) p1 h1 λ y S2 w2 H2 h2 q2 e2 p2=>?_;obtain⟨p,kvs,k,d,rfl,rfl,c1,c2,h⟩:=h2;simp only[zi] at q1 q2;subst q1 q2;obtain⟨vs,g1,g2⟩:=p2 _ _ c1;rcases xp.val g2 (.inl k) with ⟨n1,_⟩ | ⟨d',v',n1,n2,n3⟩
 .rw[c2] at n1;cases n1
 .rw[c2] at n1;cases n1;exact⟨p,v',rfl,n2▸r9.k (k:=Sum.inl k) g1,h v' H2 n3 (e1.trans e2) p2⟩
def YU (td ty tx:zu):zu:=fun Y S Q=>td Y S λ x S1=>∃ p,x=.ref p/\(∃ kvs,S1 p=some (.ye kvs))/\ty Y S1 λ y S2=>tx Y S2 λ z S3=>∃ k kvs,y=.int k/\S3 p=some (.ye kvs)/\Q ((uk kvs (.inl k)).getD z) S3
def TK {k:Nat}(hr:yC k X.A) (ho:PD X o td) (he:PD X e ty) (hf:PD X f tx) (m:M2 X o "get" apos e f cpos:=by exact⟨rfl,rfl,rfl,rfl⟩):PD X (.Call (.Attribute o "get" apos) [e,f] [] cpos) (YU td ty tx):=by
 refine⟨fun Y S Q Q' hq z=>ho.mo Y S _ _ (λ x S1 ⟨p,a,b,z⟩=>⟨p,a,b,he.mo Y S1 _ _ (λ y S2 z=>hf.mo Y S2 _ _ (λ w S3 ⟨k,kvs,a,b,h⟩=>⟨k,kvs,a,b,hq _ _ h⟩) z) z⟩) z,PE.imp (Th (fV hr) ho.pe he.pe hf.pe m) fun B H Q hu=>?_⟩;obtain⟨Y,S,r1,r2,z⟩:=hu;refine zS.go ho.mo r1 r2 z λ x S1 w H1 h1 q1 e1 p1=>?_;obtain⟨p,rfl,⟨kvs0,c0⟩,h1⟩:=h1;simp only[zi] at q1;subst q1;obtain⟨vs0,g0,_⟩:=p1 _ _ c0;refine⟨p,rfl,.inl ⟨vs0,.inl g0⟩,?_⟩;refine zS.go he.mo (r1.ext e1) p1 h1 λ y S2 w2 H2 h2 q2 e2 p2=>?_;refine zS.go hf.mo ((r1.ext e1).ext e2) p2 h2 λ y3 S3 w3 H3 h3 q3 e3 p3=>?_;obtain⟨k,kvs,rfl,c1,h⟩:=h3;simp only[zi] at q2;subst q2;obtain⟨vs,g1,g2⟩:=p3 _ _ c1;refine⟨wJ vs (.inl k),r9.k (k:=Sum.inl k) g1,?_⟩;rcases xp.val g2 (.inl k) with ⟨n1,n2⟩ | ⟨d',v',n1,n2,n3⟩
 .rw[n1] at h;rw[n2];exact h _ H3 q3 ((e1.trans e2).trans e3) p3
 .rw[n1] at h;rw[n2];exact h _ H3 n3 ((e1.trans e2).trans e3) p3
def YT (td ty tv:zu):yz:=λ E Y S=>tv Y S λ v S1=>td Y S1 λ x S2=>ty Y S2 λ y S3=>∃ p kvs k,x=.ref p/\y=.int k/\S3 p=some (.ye kvs)/\kvs.length<sizeLine/\E.nx Y (ups S3 p (.ye (putD kvs (.inl k) v)))
theorem Ext.dK {H:Hp}{p:Addr}{kvs:List (Key×V)}(h:H p=some (.dK kvs)) (o:HO):Ext H (upd H p o):=
 ⟨λ b ys q=>by rw[yU (my q h (by intro z;cases z))];exact q,λ b ob u q=>by rw[yU (my q h (by intro z;cases z))];exact q⟩
def Tx {k:Nat}(hr:yC k X.A) (ho:PD X o td) (hi:PD X i ty) (hv:PD X v tv) (hs:swapsWith v (some (.Subscript o i pos')) pos.line X.env=pure false:=by rfl):uf X (.Assign [.Subscript o i pos'] v pos) (YT td ty tv):=by
 refine⟨λ E E' Y S hE z=>hv.mo Y S _ _ (λ w S1 z=>ho.mo Y S1 _ _ (λ x S2 z=>hi.mo Y S2 _ _ (λ y S3 ⟨p,kvs,k,a,b,c,d,h⟩=>⟨p,kvs,k,a,b,c,d,hE.nx _ _ h⟩) z) z) z,PS.imp (U0 (fV hr) ho.pe hi.pe hv.pe hs) λ D B H hu=>?_⟩;obtain⟨Y,S,r1,r2,z⟩:=hu;refine zS.go hv.mo r1 r2 z λ w S1 w1 H1 h1 q1 e1 p1=>?_;refine zS.go ho.mo (r1.ext e1) p1 h1 λ x S2 w2 H2 h2 q2 e2 p2=>?_;refine zS.go hi.mo ((r1.ext e1).ext e2) p2 h2 λ y S3 w3 H3 h3 q3 e3 p3=>?_;obtain⟨p,kvs,k,rfl,rfl,c1,c2,h⟩:=h3;simp only[zi] at q2 q3;subst q2 q3;obtain⟨vs,g1,g2⟩:=p3 _ _ c1;have e4:Ext H3 (upd H3 p (.dK (putK vs (.inl k) w1))):=.dK g1 _;refine⟨p,_,rfl,l_.k (k:=Sum.inl k) g1 (by rw[<- g2.len];exact c2),?_⟩;exact h B _ ((((r1.ext e1).ext e2).ext e3).ext e4) (((e1.trans e2).trans e3).trans e4) (p3.ups e4 ⟨_,yS,(xp.put g2 _ (zi.ext (e2.trans e3) w q1)).ext e4⟩)
def N0:yT X (.builtin "len") (λ xs H Q=>∃ p kvs,xs=[.ref p]/\H p=some (.dK kvs)/\Q (.int kvs.length) H):=by
 intro pins s B H xs us Q I r h;obtain⟨p,kvs,rfl,e,q⟩:=h;obtain⟨u,rfl,ru⟩:=vals1 r;cases ru;exact OC I (.inl e) λ t s' I'=>⟨.int _,H,I',⟨_,rfl⟩,q⟩
def Yy:xT:=λ ds S Q=>∃ p kvs,ds=[.ref p]/\S p=some (.ye kvs)/\Q (.int kvs.length) S
def TH {es:List Expr}{tA:yv}{p:Pos}(hm:X.mg "len"=none) (ha:wa X (e::es) tA) (hg:Gl X "len":=by rfl) (he:starEach (e::es) X.env=(false,eval e X.env)::starEach es X.env:=by rfl) (hpl:(backTo pos (starEach es X.env)).any (·.1)=false:=by rfl):PD X (.Call (.Name "len" p) (e::es) [] pos) (xY Yy tA):=
 sF (rO N0 hg hm PySem.boot_len ha.pa (by decide) (by decide) he hpl) (λ _ _ _ _ hq ⟨p,kvs,a,b,h⟩=>⟨p,kvs,a,b,hq _ _ h⟩) (λ xs ds H S Q h0 h2 ⟨p,kvs,a,b,h⟩=>by
  subst a;obtain⟨x,rfl,h1⟩:=h0.one;simp only[zi] at h1;subst h1;obtain⟨vs,g1,g2⟩:=h2 _ _ b;refine⟨p,vs,rfl,g1,?_⟩;rw[<- g2.len];exact h _ H (by simp only[zi]) (.refl H) h2) ha.mo
end
end L3
namespace L3
open PySem L2
section
variable {S S':SS}
mutual
theorem Sn.sx (h:Sx S S'):∀ (t:T) {d:D},Sn S t d->Sn S' t d
 | .zj,d,q=>by simpa only [Sn] using q
 | .bl b,d,q=>by simpa only [Sn] using q
 | .int i,d,q=>by simpa only [Sn] using q
 | .str x,d,q=>by simpa only [Sn] using q
 | .tup ts,d,q=>by
  simp only[Sn] at q ⊢;obtain⟨ds,q1,q2⟩:=q;exact⟨ds,q1,zh.sx h ts q2⟩
 | .lst ts,d,q=>by
  simp only[Sn] at q ⊢;obtain⟨ds,q1,q2⟩:=q;refine⟨ds,?_,zh.sx h ts q2⟩;rcases q1 with q1 | ⟨a,q1,q3⟩
  .exact .inl q1
  .exact .inr ⟨a,q1,h _ _ q3⟩
 | .zN,d,q=>by
  simp only[Sn] at q ⊢;obtain⟨a,kvs,q1,q2⟩:=q;exact⟨a,kvs,q1,h _ _ q2⟩
theorem zh.sx (h:Sx S S'):∀ (ts:List T) {ds:List D},zh S ts ds->zh S' ts ds
 | [],ds,q=>by simpa only [zh] using q
 | t::ts,ds,q=>by
  simp only[zh] at q ⊢;obtain⟨c,cs,q1,q2,q3⟩:=q;exact⟨c,cs,q1,Sn.sx h t q2,zh.sx h ts q3⟩
end
def zh.nil:zh S [] []:=by simp only[zh]
def zh.cons {t:T}{ts:List T}{d:D}{ds:List D}(h:Sn S t d) (h':zh S ts ds):zh S (t::ts) (d::ds):=by
 simp only[zh];exact⟨d,ds,rfl,h,h'⟩
theorem zh.append:∀ {ts us:List T}{ds es:List D},zh S ts ds->zh S us es->zh S (ts++us) (ds++es)
 | [],us,ds,es,h,h'=>by simp only[zh] at h;subst h;simpa using h'
 | t::ts,us,ds,es,h,h'=>by
  simp only[zh] at h;obtain⟨c,cs,rfl,h1,h2⟩:=h;exact zh.cons h1 (zh.append h2 h')
theorem zh.jn:∀ {ts:List T}{ds:List D}{i:Nat}{t:T},zh S ts ds->ts[i]?=some t->∃ d,ds[i]?=some d/\Sn S t d
 | [],_,i,t,_,e=>by simp at e
 | u::ts,ds,i,t,h,e=>by
  simp only[zh] at h;obtain⟨c,cs,rfl,h1,h2⟩:=h;cases i with
  | zero=>simp at e;subst e;exact⟨c,rfl,h1⟩
  | succ i=>
   obtain⟨y,e1,e2⟩:=zh.jn (i:=i) h2 (by simpa using e);exact⟨y,by simpa using e1,e2⟩
theorem zh.mH:∀ {ts:List T}{ds:List D}{i:Nat}{d:D},zh S ts ds->ds[i]?=some d->∃ t,ts[i]?=some t/\Sn S t d
 | [],ds,i,t,h,e=>by simp only[zh] at h;subst h;simp at e
 | u::ts,ds,i,t,h,e=>by
  simp only[zh] at h;obtain⟨c,cs,rfl,h1,h2⟩:=h;cases i with
  | zero=>simp at e;subst e;exact⟨u,rfl,h1⟩
  | succ i=>
   obtain⟨y,e1,e2⟩:=zh.mH (i:=i) h2 (by simpa using e);exact⟨y,by simpa using e1,e2⟩
def zh.len {ts:List T}{ds:List D}(h:zh S ts ds):ds.length=ts.length:=(L3.zh.length h).symm
theorem zh.at {ts:List T}{ds:List D}{i:Int}{t:T}(h:zh S ts ds) (e:L2.z_ ts i=some t):∃ d,L2.z_ ds i=some d/\Sn S t d:=by
 unfold L2.z_ at e ⊢;rw[h.len];cases q:L2.wR ts.length i with
 | none=>rw[q] at e;cases e
 | some j=>
  rw[q] at e;exact h.jn e
theorem zh.bP:∀ {ts:List T}{ds:List D}{t:T}{d:D}(i:Nat),zh S ts ds->Sn S t d->zh S (ts.set i t) (ds.set i d)
 | [],ds,t,d,i,h,_=>by simp only[zh] at h;subst h;simpa using zh.nil
 | u::ts,ds,t,d,0,h,hd=>by
  simp only[zh] at h;obtain⟨c,cs,rfl,h1,h2⟩:=h;exact zh.cons hd h2
 | u::ts,ds,t,d,i+1,h,hd=>by
  simp only[zh] at h;obtain⟨c,cs,rfl,h1,h2⟩:=h;exact zh.cons h1 (zh.bP i h2 hd)
theorem zh.take':∀ {ts:List T}{ds:List D}(n:Nat),zh S ts ds->zh S (ts.take n) (ds.take n)
 | ts,ds,0,h=>by simpa using zh.nil
 | [],ds,n+1,h=>by simp only[zh] at h;subst h;simpa using zh.nil
 | t::ts,ds,n+1,h=>by
  simp only[zh] at h;obtain⟨c,cs,rfl,h1,h2⟩:=h;exact zh.cons h1 (zh.take' n h2)
theorem zh.drop':∀ {ts:List T}{ds:List D}(n:Nat),zh S ts ds->zh S (ts.drop n) (ds.drop n)
 | ts,ds,0,h=>h
 | [],ds,n+1,h=>by simp only[zh] at h;subst h;simpa using zh.nil
 | t::ts,ds,n+1,h=>by
  simp only[zh] at h;obtain⟨c,cs,rfl,h1,h2⟩:=h;exact zh.drop' n h2
def zh.empty {ts:List T}{ds:List D}(h:zh S ts ds):ds.isEmpty=ts.isEmpty:=by
 have:=h.len;cases ds <;> cases ts <;> simp_all
theorem zh.Xo:∀ {bs:List Bool}{ds:List D},zh S (bs.map T.bl) ds->ds=bs.map D.bl
 | [],ds,h=>by simpa only [List.map_nil,zh] using h
 | b::bs,ds,h=>by
  rw[zA6] at h;simp only[zh,Sn] at h;obtain⟨c,cs,rfl,rfl,h3⟩:=h;rw[zh.Xo h3];rfl
end
end L3
namespace L5
open PySem L2 L3
noncomputable def zF (S:SS) (Z:Addr->Prop):SS:=open Classical in λ a=>if Z a then none else S a
section
variable {S S' S1:SS}{Z Z':Addr->Prop}{a p:Addr}
def wV (h:¬ Z a):zF S Z a=S a:=if_neg h
def mD (h:Z a):zF S Z a=none:=if_pos h
def vA {o:O}(h:zF S Z a=some o):¬ Z a/\S a=some o:=by
 by_cases z:Z a
 .rw[mD z] at h;cases h
 .rw[wV z] at h;exact⟨z,h⟩
def tM (S:SS) (Z:Addr->Prop):Sx (zF S Z) S:=λ _ _ h=>(vA h).2
def wD (h:Sx S S'):Sx (zF S Z) (zF S' Z):=λ b o q=>by
 obtain⟨q1,q2⟩:=vA q;rw[wV q1];exact h _ _ q2
def tN (h:∀ a,Z' a->Z a):Sx (zF S Z) (zF S Z'):=λ b o q=>by
 obtain⟨q1,q2⟩:=vA q;rw[wV (λ z=>q1 (h _ z))];exact q2
def qX (h:Sx S S') (hp:S p=none):Sx (zF S Z) (zF S' λ a=>Z a\/a=p):=λ b o q=>by
 obtain⟨q1,q2⟩:=vA q;rw[wV]
 .exact h _ _ q2
 .rintro (z | z)
  .exact q1 z
  .subst z;rw[hp] at q2;cases q2
def Pl {o:O}(h:Z p):zF (ups S p o) Z=zF S Z:=by
 funext b;by_cases z:Z b
 .rw[mD z,mD z]
 .rw[wV z,wV z,um (λ e=>z (by rw[e];exact h))]
end
inductive C where
 | lst (ts:List T) | ye (kvs:List (Key×T))
noncomputable def yG (S:SS):List (Key×T)->List (Key×D)->Prop
 | [],l=>l=[]
 | (k,t)::r,l=>∃ d m,l=(k,d)::m/\Sn S t d/\yG S r m
theorem yG.sx {S S':SS}(h:Sx S S'):∀ {a:List (Key×T)}{b:List (Key×D)},yG S a b->yG S' a b
 | [],_,q=>q
 | (k,t)::r,_,q=>by
  obtain⟨d,m,q1,q2,q3⟩:=q;exact⟨d,m,q1,Sn.sx h t q2,yG.sx h q3⟩
noncomputable def tq (S:SS):C->O->Prop
 | .lst ts,.lst ds=>zh S ts ds
 | .ye a,.ye b=>yG S a b
 | _,_=>False
theorem tq.sx {S S':SS}(h:Sx S S'):∀ {c:C}{o:O},tq S c o->tq S' c o
 | .lst ts,.lst ds,q=>zh.sx h ts q
 | .ye a,.ye b,q=>yG.sx h q
inductive W where
 | im (t:T) | own (c:C)
abbrev Ev:=List (Option W)
structure ER (S:SS) (Z:Addr->Prop) (Y:yn) (J:Ev):Prop where
 zd:∀ a,Z a->S a≠none
 im:∀ (i:Nat) t,J[i]?=some (some (.im t))->∃ d,Y[i]?=some (some d)/\Sn (zF S Z) t d
 ow:∀ (i:Nat) c,J[i]?=some (some (.own c))->∃ p o,Y[i]?=some (some (.ref p))/\S p=some o/\tq (zF S Z) c o/\Z p
def Vw (S:SS) (Z:Addr->Prop) (y:T) (d:D):Prop:=Sn (zF S Z) y d\/∃ ts p ds,y=.lst ts/\d=.ref p/\S p=some (.lst ds)/\zh (zF S Z) ts ds/\Z p
abbrev Rk:=SS->SS->(Addr->Prop)->T->D->Prop
def X2:Rk:=λ _ S' Z y d=>Vw S' Z y d
def vw:Rk:=λ _ S' Z y d=>Sn (zF S' Z) y d
def zJ:Rk:=λ S S' Z y d=>Sn (zF S' Z) y d/\∀ ts,y=.lst ts->∃ p ds,d=.ref p/\S p=none/\S' p=some (.lst ds)/\zh (zF S' λ a=>Z a\/a=p) ts ds
class Cl (R:Rk):Prop where
 cl:∀ {S S1 S':SS}{Z:Addr->Prop}{y:T}{d:D},Sx S S1->R S1 S' Z y d->R S S' Z y d
 of:∀ {S S':SS}{Z:Addr->Prop}{y:T}{d:D},(∀ ts,y≠.lst ts)->Sn (zF S' Z) y d->R S S' Z y d
instance:Cl X2:=⟨λ _ h=>h,λ _ h=>.inl h⟩
instance:Cl vw:=⟨λ _ h=>h,λ _ h=>h⟩
instance:Cl zJ:=⟨λ s h=>⟨h.1,λ ts e=>by
 obtain⟨p,ds,h1,h2,h3⟩:=h.2 ts e;exact⟨p,ds,h1,s.none h2,h3⟩⟩,λ n h=>⟨h,λ ts e=>absurd e (n ts)⟩⟩
section
variable {S S' S1:SS}{Z Z':Addr->Prop}{Y:yn}{J:Ev}{y:T}{d:D}
def ER.grow (h:ER S Z Y J) (s:Sx S S'):ER S' Z Y J:=
 ⟨λ a z q=>h.zd a z (s.none q),λ i t e=>by
  obtain⟨d,h1,h2⟩:=h.im i t e;exact⟨d,h1,Sn.sx (wD s) t h2⟩,λ i ts e=>by
  obtain⟨p,ds,h1,h2,h3,h4⟩:=h.ow i ts e;exact⟨p,ds,h1,s _ _ h2,tq.sx (wD s) h3,h4⟩⟩
def Vw.grow (h:Vw S Z y d) (s:Sx S S'):Vw S' Z y d:=by
 rcases h with h | ⟨ts,p,ds,h1,h2,h3,h4,h5⟩
 .exact .inl (Sn.sx (wD s) y h)
 .exact .inr ⟨ts,p,ds,h1,h2,s _ _ h3,zh.sx (wD s) ts h4,h5⟩
def Vw.sn (h:Vw S Z y d):Sn S y d:=by
 rcases h with h | ⟨ts,p,ds,rfl,rfl,h3,h4,_⟩
 .exact Sn.sx (tM S Z) y h
 .simp only[Sn];exact⟨ds,.inr ⟨p,rfl,h3⟩,zh.sx (tM S Z) ts h4⟩
theorem Vw.zj (h:Vw S Z .zj d):d=.zj:=by
 rcases h with h | ⟨_,_,_,h,_⟩
 .simpa only [Sn] using h
 .cases h
theorem Vw.bl {b:Bool}(h:Vw S Z (.bl b) d):d=.bl b:=by
 rcases h with h | ⟨_,_,_,h,_⟩
 .simpa only [Sn] using h
 .cases h
theorem Vw.int {b:Int}(h:Vw S Z (.int b) d):d=.int b:=by
 rcases h with h | ⟨_,_,_,h,_⟩
 .simpa only [Sn] using h
 .cases h
theorem Vw.str {b:Str}(h:Vw S Z (.str b) d):d=.str b:=by
 rcases h with h | ⟨_,_,_,h,_⟩
 .simpa only [Sn] using h
 .cases h
theorem Vw.tup {ts:List T}(h:Vw S Z (.tup ts) d):∃ ds,d=.tup ds/\zh (zF S Z) ts ds:=by
 rcases h with h | ⟨_,_,_,h,_⟩
 .simpa only [Sn] using h
 .cases h
theorem Vw.lst {ts:List T}(h:Vw S Z (.lst ts) d):∃ ds,(d=.yO ds\/∃ a,d=.ref a/\S a=some (.lst ds))/\zh (zF S Z) ts ds:=by
 rcases h with h | ⟨us,p,ds,h1,h2,h3,h4,_⟩
 .simp only[Sn] at h;obtain⟨ds,h1,h2⟩:=h;refine⟨ds,?_,h2⟩;rcases h1 with h1 | ⟨a,h1,h3⟩
  .exact .inl h1.1
  .exact .inr ⟨a,h1,(vA h3).2⟩
 .cases h1;exact⟨ds,.inr ⟨p,h2,h3⟩,h4⟩
noncomputable def we:T->Option (List T)
 | .tup ts=>some ts
 | .lst ts=>some ts
 | _=>none
@[simp] theorem zab (ts:List T):we (.tup ts)=some ts:=rfl
@[simp] theorem zac (ts:List T):we (.lst ts)=some ts:=rfl
def Vw.seq {ts:List T}(h:Vw S Z y d) (e:we y=some ts):∃ ds,zM d S=some ds/\zh (zF S Z) ts ds:=by
 cases y with
 | tup us=>cases e;obtain⟨ds,rfl,h2⟩:=h.tup;exact⟨ds,rfl,h2⟩
 | lst us=>
  cases e;obtain⟨ds,h1 | ⟨a,rfl,h1⟩,h2⟩:=h.lst
  .subst h1;exact⟨ds,rfl,h2⟩
  .exact⟨ds,by unfold zM;dsimp only;rw[h1],h2⟩
 | zj=>cases e
 | bl _=>cases e
 | int _=>cases e
 | str _=>cases e
 | zN=>cases e
theorem Vw.zN (h:Vw S Z .zN d):∃ a kvs,d=.ref a/\S a=some (.ye kvs):=by
 rcases h with h | ⟨_,_,_,h,_⟩
 .simp only[Sn] at h;obtain⟨a,kvs,h1,h2⟩:=h;exact⟨a,kvs,h1,(vA h2).2⟩
 .cases h
def kz:Sn S .zj .zj:=by simp only[Sn]
def wc {b:Bool}:Sn S (.bl b) (.bl b):=by simp only[Sn]
def wN {i:Int}:Sn S (.int i) (.int i):=by simp only[Sn]
def bK {x:Str}:Sn S (.str x) (.str x):=by simp only[Sn]
def rH {ts:List T}{ds:List D}(h:zh S ts ds):Sn S (.tup ts) (.tup ds):=by simp only[Sn];exact⟨ds,rfl,h⟩
def tF {ts:List T}{ds:List D}{p:Addr}(hz:∀ a,Z a->S a≠none) (hp:S p=none) (h:zh (zF S Z) ts ds):zJ S (ups S p (.lst ds)) Z (.lst ts) (.ref p):=by
 have nz:¬ Z p:=λ z=>hz p z hp;have s:Sx S (ups S p (.lst ds)):=.new hp _;refine⟨?_,λ us e=>?_⟩
 .simp only[Sn];exact⟨ds,.inr ⟨p,rfl,by rw[wV nz,t7]⟩,zh.sx (wD s) ts h⟩
 .cases e;exact⟨p,ds,rfl,hp,t7,zh.sx (qX s hp) ts h⟩
end
def xy (R:Rk) (f:Ev->Option T) (t:zu):Prop:=∀ S Z Y J y Q,ER S Z Y J->f J=some y->(∀ d S',Sx S S'->R S S' Z y d->Q d S')->t Y S Q
abbrev vf:=xy vw
abbrev yf:=xy X2
abbrev xi:=xy zJ
def xy.imp {R R':Rk}{f:Ev->Option T}{t:zu}(h:xy R f t) (i:∀ S S' Z y d,R S S' Z y d->R' S S' Z y d):xy R' f t:=λ S Z Y J y Q hE e hq=>h S Z Y J y Q hE e λ d S' s r=>hq d S' s (i _ _ _ _ _ r)
def xy.er {f:Ev->Option T}{t:zu}(h:vf f t):yf f t:=h.imp λ _ _ _ _ _ r=>.inl r
def xy.fe {f:Ev->Option T}{t:zu}(h:xi f t):vf f t:=h.imp λ _ _ _ _ _ r=>r.1
def xy.fr {f:Ev->Option T}{t:zu}(h:xi f t):yf f t:=h.fe.er
@[simp] noncomputable def zr (i:Nat):Ev->Option T:=fun J=>match J[i]? with
 | some (some (.im t))=>some t
 | _=>none
@[simp] noncomputable def zc (i:Nat):Ev->Option T:=fun J=>match J[i]? with
 | some (some (.im t))=>some t
 | some (some (.own (.lst ts)))=>some (.lst ts)
 | _=>none
@[simp] noncomputable def cS (t:T):Ev->Option T:=λ _=>some t
def uw (i:Nat):vf (zr i) (yr i):=λ S Z Y J y Q hE e hq=>by
 unfold zr at e;split at e
 .rename_i t h;cases e;obtain⟨d,h1,h2⟩:=hE.im i _ h;unfold yr;rw[h1];exact hq d S (.refl S) h2
 .cases e
def yV (i:Nat):yf (zc i) (yr i):=λ S Z Y J y Q hE e hq=>by
 unfold zc at e;split at e
 .rename_i t h;cases e;obtain⟨d,h1,h2⟩:=hE.im i _ h;unfold yr;rw[h1];exact hq d S (.refl S) (.inl h2)
 .rename_i ts h;cases e;obtain⟨p,o,h1,h2,h3,h4⟩:=hE.ow i _ h;unfold yr;rw[h1];cases o with
  | ye _=>exact h3.elim
  | lst ds=>exact hq _ S (.refl S) (.inr ⟨ts,p,ds,rfl,rfl,h2,h3,h4⟩)
 .cases e
def xq (i:Int):xi (cS (.int i)) (dC (.int i)):=λ S Z Y J y Q hE e hq=>by cases e;exact hq _ S (.refl S) (Cl.of (λ _=>nofun) wN)
def oB (i:Bool):xi (cS (.bl i)) (dC (.bl i)):=λ S Z Y J y Q hE e hq=>by cases e;exact hq _ S (.refl S) (Cl.of (λ _=>nofun) wc)
def Rm (i:Str):xi (cS (.str i)) (dC (.str i)):=λ S Z Y J y Q hE e hq=>by cases e;exact hq _ S (.refl S) (Cl.of (λ _=>nofun) bK)
def Rx:xi (cS .zj) (dC .zj):=λ S Z Y J y Q hE e hq=>by cases e;exact hq _ S (.refl S) (Cl.of (λ _=>nofun) kz)
@[simp] noncomputable def zb (f:T->T->Option T) (fa fb:Ev->Option T):Ev->Option T:=fun J=>(fa J).bind λ x=>(fb J).bind λ y=>f x y
def Good2 (R:Rk) (f:T->T->Option T) (g:yZ):Prop:=∀ S Z x y z d e Q,(∀ a,Z a->S a≠none)->Vw S Z x d->Vw S Z y e->f x y=some z->(∀ c S',Sx S S'->R S S' Z z c->Q c S')->g d e S Q
def y8 {R:Rk} [Cl R] {f:T->T->Option T}{g:yZ}{fa fb:Ev->Option T}{ta tb:zu}(hg:Good2 R f g) (ha:yf fa ta) (hb:yf fb tb):xy R (zb f fa fb) (yg g ta tb):=λ S Z Y J y Q hE e hq=>by
 unfold zb at e;obtain⟨x,e1,e⟩:=zOb e;obtain⟨z,e2,e⟩:=zOb e;refine ha S Z Y J x _ hE e1 λ d S1 s1 r1=>?_;refine hb S1 Z Y J z _ (hE.grow s1) e2 λ d2 S2 s2 r2=>?_;exact hg S2 Z x z y d d2 Q ((hE.grow (s1.trans s2)).zd) (Vw.grow r1 s2) r2 e λ c S' s r=>hq c S' ((s1.trans s2).trans s) (Cl.cl (s1.trans s2) r)
@[simp] noncomputable def i2 (g:Int->Int->T):T->T->Option T
 | .int i,.int j=>some (g i j)
 | _,_=>none
instance {i j:Int}:Decidable (wI i j):=by unfold wI;infer_instance
instance {i j:Int}:Decidable (wb i j):=by unfold wb;infer_instance
instance {i j:Int}:Decidable (pT i j):=by unfold pT;infer_instance
@[simp] noncomputable def oO (C:Int->Int->Prop) [∀ i j,Decidable (C i j)] (g:Int->Int->T):T->T->Option T
 | .int i,.int j=>if C i j then some (g i j) else none
 | _,_=>none
def qd {g:Int->Int->T}{g':Int->Int->D}(h:∀ i j S,Sn S (g i j) (g' i j)) (n:∀ i j ts,g i j≠.lst ts):Good2 zJ (i2 g) (xA g'):=λ S Z x y z d e Q hz hx hy ef hq=>by
 unfold i2 at ef;split at ef
 .cases ef;cases hx.int;cases hy.int;exact hq _ S (.refl S) (Cl.of (n _ _) (h _ _ _))
 .cases ef
def jm {C:Int->Int->Prop} [∀ i j,Decidable (C i j)] {g:Int->Int->T}{g':Int->Int->D}(h:∀ i j S,Sn S (g i j) (g' i j)) (n:∀ i j ts,g i j≠.lst ts):Good2 zJ (oO C g) (fI C g'):=λ S Z x y z d e Q hz hx hy ef hq=>by
 unfold oO at ef;split at ef
 .split at ef
  .rename_i hh;cases ef;cases hx.int;cases hy.int;exact⟨hh,hq _ S (.refl S) (Cl.of (n _ _) (h _ _ _))⟩
  .cases ef
 .cases ef
@[simp] noncomputable def wz:T->T->Option T:=i2 λ i j=>.int (i-j)
@[simp] noncomputable def zX:T->T->Option T:=oO (λ _ j=>0<j) λ i j=>.int (i%j)
@[simp] noncomputable def xc:T->T->Option T:=oO wb λ i j=>.int (i/j)
@[simp] noncomputable def a9:T->T->Option T:=oO pT λ i j=>.int (i ^ j.toNat)
@[simp] noncomputable def V4:T->T->Option T:=oO (λ _ j=>0<=j) λ i j=>.int (i/2 ^ j.toNat)
@[simp] noncomputable def NJ:T->T->Option T:=i2 λ i j=>.int (Builtin.bitAnd i j)
@[simp] noncomputable def r_:T->T->Option T:=i2 λ i j=>.bl (decide (i<=j))
@[simp] noncomputable def uU:T->T->Option T:=i2 λ i j=>.bl (decide (j<i))
@[simp] noncomputable def uV:T->T->Option T:=i2 λ i j=>.bl (decide (j<=i))
section
variable {fa fb:Ev->Option T}{ta tb:zu}
def gZ (ha:yf fa ta) (hb:yf fb tb):xi (zb wz fa fb) (yg (xA λ i j=>.int (i-j)) ta tb):=y8 (qd (λ _ _ _=>wN) λ _ _ _=>nofun) ha hb
def fg (ha:yf fa ta) (hb:yf fb tb):xi (zb zX fa fb) (yg (fI (λ _ j=>0<j) λ i j=>.int (i%j)) ta tb):=y8 (jm (λ _ _ _=>wN) λ _ _ _=>nofun) ha hb
def RQ (ha:yf fa ta) (hb:yf fb tb):xi (zb xc fa fb) (yg (fI wb λ i j=>.int (i/j)) ta tb):=y8 (jm (λ _ _ _=>wN) λ _ _ _=>nofun) ha hb
def Rt (ha:yf fa ta) (hb:yf fb tb):xi (zb a9 fa fb) (yg (fI pT λ i j=>.int (i ^ j.toNat)) ta tb):=y8 (jm (λ _ _ _=>wN) λ _ _ _=>nofun) ha hb
def Rp (ha:yf fa ta) (hb:yf fb tb):xi (zb V4 fa fb) (yg (fI (λ _ j=>0<=j) λ i j=>.int (i/2 ^ j.toNat)) ta tb):=y8 (jm (λ _ _ _=>wN) λ _ _ _=>nofun) ha hb
def Qa (ha:yf fa ta) (hb:yf fb tb):xi (zb NJ fa fb) (yg (xA λ i j=>.int (Builtin.bitAnd i j)) ta tb):=y8 (qd (λ _ _ _=>wN) λ _ _ _=>nofun) ha hb
def R1 (ha:yf fa ta) (hb:yf fb tb):xi (zb r_ fa fb) (yg ju ta tb):=y8 (qd (λ _ _ _=>wc) λ _ _ _=>nofun) ha hb
def fh (ha:yf fa ta) (hb:yf fb tb):xi (zb uU fa fb) (yg mL ta tb):=y8 (qd (λ _ _ _=>wc) λ _ _ _=>nofun) ha hb
def RP (ha:yf fa ta) (hb:yf fb tb):xi (zb uV fa fb) (yg mM ta tb):=y8 (qd (λ _ _ _=>wc) λ _ _ _=>nofun) ha hb
end
noncomputable def zG (neg:Bool):T->T->Option T:=λ x y=>if dep x<=60/\dep y<=60 then some (.bl (cond neg (!eqT x y) (eqT x y))) else none
noncomputable def oM (neg:Bool):T->T->Option T:=λ x y=>match we y with
 | some ts=>if dep x<=60/\yw ts<=60 then some (.bl (cond neg (!(ts.any λ t=>eqT t x)) (ts.any λ t=>eqT t x))) else none
 | none=>none
def qY {neg:Bool}:Good2 zJ (zG neg) (vD neg):=λ S Z x y z d e Q hz hx hy ef hq=>by
 unfold zG at ef;split at ef
 .rename_i h;cases ef;exact⟨x,y,hx.sn,hy.sn,h.1,h.2,hq _ S (.refl S) (Cl.of (λ _=>nofun) wc)⟩
 .cases ef
def PJ {neg:Bool}:Good2 zJ (oM neg) (qh neg):=λ S Z x y z d e Q hz hx hy ef hq=>by
 unfold oM at ef;split at ef
 .rename_i ts ht;split at ef
  .rename_i h;cases ef;obtain⟨ds,h1,h2⟩:=hy.seq ht;exact⟨x,ts,ds,hx.sn,h1,zh.sx (tM S Z) ts h2,h.1,h.2,hq _ S (.refl S) (Cl.of (λ _=>nofun) wc)⟩
  .cases ef
 .cases ef
@[simp] noncomputable def zl:T->T->Option T:=λ x y=>match we x,y with
 | some ts,.int i=>L2.z_ ts i
 | _,_=>none
def vB:Good2 vw zl xX:=λ S Z x y z d e Q hz hx hy ef hq=>by
 unfold zl at ef;split at ef
 .rename_i ts i ht;cases hy.int;obtain⟨ds,h1,h2⟩:=hx.seq ht;obtain⟨c,h3,h4⟩:=h2.at ef;unfold zM at h1;split at h1
  .cases h1;exact Oj h3 (hq c S (.refl S) h4)
  .cases h1;exact Ol h3 (hq c S (.refl S) h4)
  .split at h1
   .rename_i q;cases h1;exact Yz q h3 (hq c S (.refl S) h4)
   .cases h1
  .cases h1
 .cases ef
@[simp] noncomputable def yR:T->T->Option T
 | .int i,.int j=>some (.int (i+j))
 | .str i,.str j=>if i.length+j.length<=sizeLine then some (.str (i++j)) else none
 | .lst ts,.lst us=>if ts.length+us.length<=sizeLine then some (.lst (ts++us)) else none
 | .tup ts,.tup us=>if ts.length+us.length<=sizeLine then some (.tup (ts++us)) else none
 | _,_=>none
def uD:yZ:=λ x y S Q=>match x,y with
 | .int i,.int j=>Q (.int (i+j)) S
 | .str i,.str j=>i.length+j.length<=sizeLine/\Q (.str (i++j)) S
 | .tup ds,.tup es=>ds.length+es.length<=sizeLine/\Q (.tup (ds++es)) S
 | .zj,_=>False
 | .bl _,_=>False
 | .int _,_=>False
 | .str _,_=>False
 | .tup _,_=>False
 | x,y=>match zM x S,zM y S with
  | some ds,some es=>(∀ ts,y≠.tup ts)/\ds.length+es.length<=sizeLine/\∀ r,S r=none->Q (.ref r) (ups S r (.lst (ds++es)))
  | _,_=>False
def good_add:Good2 zJ yR uD:=λ S Z x y z d e Q hz hx hy ef hq=>by
 unfold yR at ef;split at ef
 .cases ef;cases hx.int;cases hy.int;exact hq _ S (.refl S) (Cl.of (λ _=>nofun) wN)
 .split at ef
  .rename_i h;cases ef;cases hx.str;cases hy.str;exact⟨h,hq _ S (.refl S) (Cl.of (λ _=>nofun) bK)⟩
  .cases ef
 .split at ef
  .rename_i h;cases ef;obtain⟨ds,h1,h2⟩:=hx.seq rfl;obtain⟨es,h3,h4⟩:=hy.seq rfl;have nt:∀ ts,e≠.tup ts:=by
    obtain⟨_,q | ⟨_,q,_⟩,_⟩:=hy.lst <;> subst q <;> exact λ _=>nofun
   have key:(∀ ts,e≠.tup ts)/\ds.length+es.length<=sizeLine/\∀ r,S r=none->Q (.ref r) (ups S r (.lst (ds++es))):=
    ⟨nt,by rw[h2.len,h4.len];exact h,λ r hr=>hq _ _ (.new hr _) (tF hz hr (h2.append h4))⟩
   obtain⟨_,q | ⟨a,q,_⟩,_⟩:=hx.lst
   .subst q;unfold uD;dsimp only;rw[h1,h3];exact key
   .subst q;unfold uD;dsimp only;rw[h1,h3];exact key
  .cases ef
 .split at ef
  .rename_i h;cases ef;obtain⟨ds,rfl,h2⟩:=hx.tup;obtain⟨es,rfl,h4⟩:=hy.tup;exact⟨by rw[h2.len,h4.len];exact h,hq _ S (.refl S) (Cl.of (λ _=>nofun) (rH (h2.append h4)))⟩
  .cases ef
 .cases ef
def ve (f:Ev->Option Bool) (t:yN):Prop:=∀ S Z Y J y Q,ER S Z Y J->f J=some y->(∀ S',Sx S S'->Q y S')->t Y S Q
@[simp] noncomputable def zP (f:Ev->Option T):Ev->Option Bool:=fun J=>(f J).bind λ x=>match x with
 | .bl b=>some b
 | _=>none
@[simp] noncomputable def rD:T->Option Bool
 | .zj=>some false
 | .bl b=>some b
 | .int i=>some (i != 0)
 | .str x=>if x.length<=sizeLine then some ((x.length:Int) != 0) else none
 | .tup ts=>some (!ts.isEmpty)
 | .lst ts=>some (!ts.isEmpty)
 | .zN=>none
@[simp] noncomputable def xj (f:Ev->Option T):Ev->Option Bool:=fun J=>(f J).bind rD
@[simp] noncomputable def vY (f g:Ev->Option Bool):Ev->Option Bool:=fun J=>(f J).bind λ b=>if b=true then g J else some false
@[simp] noncomputable def vp (f g:Ev->Option Bool):Ev->Option Bool:=fun J=>(f J).bind λ b=>if b=true then some true else g J
@[simp] noncomputable def vq (f:Ev->Option Bool):Ev->Option Bool:=fun J=>(f J).map (!·)
section
variable {f g:Ev->Option T}{t u:zu}{fb gb:Ev->Option Bool}{tb ub:yN}{R:Rk}
def kU (h:yf f t):ve (zP f) (vF t):=λ S Z Y J y Q hE e hq=>by
 obtain⟨x,e1,e2⟩:=zOb e;refine h S Z Y J x _ hE e1 λ d S1 s1 r1=>?_;split at e2
 .cases e2;cases Vw.bl r1;exact hq S1 s1
 .cases e2
def o9 (h:yf f t):ve (xj f) (YA t):=λ S Z Y J y Q hE e hq=>by
 obtain⟨x,e1,e2⟩:=zOb e;refine h S Z Y J x _ hE e1 λ d S1 s1 r1=>?_;cases x with
 | zj=>cases Vw.zj r1;cases e2;exact hq S1 s1
 | bl b=>cases Vw.bl r1;cases e2;exact hq S1 s1
 | int b=>cases Vw.int r1;cases e2;exact hq S1 s1
 | str b=>
  cases Vw.str r1;simp only[rD] at e2;split at e2
  .rename_i hh;cases e2;exact⟨hh,hq S1 s1⟩
  .cases e2
 | tup ts=>
  obtain⟨ds,rfl,h2⟩:=Vw.tup r1;cases e2;show Q (!ds.isEmpty) S1;rw[h2.empty];exact hq S1 s1
 | lst ts=>
  obtain⟨ds,rfl | ⟨a,rfl,h1⟩,h2⟩:=Vw.lst r1
  .cases e2;show Q (!ds.isEmpty) S1;rw[h2.empty];exact hq S1 s1
  .cases e2;refine WG h1 ?_;rw[h2.empty];exact hq S1 s1
 | zN=>cases e2
def Zi (h:ve fb tb) (h':ve gb ub):ve (vY fb gb) (mS tb ub):=λ S Z Y J y Q hE e hq=>by
 obtain⟨b,e1,e2⟩:=zOb e;refine h S Z Y J b _ hE e1 λ S1 s1=>?_;split at e2
 .rename_i hb;rw[if_pos hb];exact h' S1 Z Y J y _ (hE.grow s1) e2 λ S2 s2=>hq S2 (s1.trans s2)
 .rename_i hb;rw[if_neg hb];cases e2;exact hq S1 s1
def fj (h:ve fb tb) (h':ve gb ub):ve (vp fb gb) (mQ tb ub):=λ S Z Y J y Q hE e hq=>by
 obtain⟨b,e1,e2⟩:=zOb e;refine h S Z Y J b _ hE e1 λ S1 s1=>?_;split at e2
 .rename_i hb;rw[if_pos hb];cases e2;exact hq S1 s1
 .rename_i hb;rw[if_neg hb];exact h' S1 Z Y J y _ (hE.grow s1) e2 λ S2 s2=>hq S2 (s1.trans s2)
def mr (h:ve fb tb):ve (vq fb) (mR tb):=λ S Z Y J y Q hE e hq=>by
 unfold vq at e;obtain⟨b,e1,rfl⟩:=zOm e;exact h S Z Y J b _ hE e1 λ S1 s1=>hq S1 s1
@[simp] noncomputable def nq (f g:Ev->Option T):Ev->Option T:=fun J=>(f J).bind λ x=>match x with
 | .bl k=>if k=true then g J else some (.bl false)
 | _=>none
@[simp] noncomputable def rW (f g:Ev->Option T):Ev->Option T:=fun J=>(f J).bind λ x=>match x with
 | .bl k=>if k=true then some (.bl true) else g J
 | _=>none
@[simp] noncomputable def fq (f:Ev->Option T):Ev->Option T:=fun J=>(f J).bind λ x=>match x with
 | .bl k=>some (.bl (!k))
 | _=>none
@[simp] noncomputable def Yd (c:Ev->Option Bool) (f g:Ev->Option T):Ev->Option T:=fun J=>(c J).bind λ b=>if b=true then f J else g J
def Zm [Cl R] (h:yf f t) (h':xy R g u):xy R (nq f g) (lb t u):=λ S Z Y J y Q hE e hq=>by
 obtain⟨x,e1,e2⟩:=zOb e;refine h S Z Y J x _ hE e1 λ d S1 s1 r1=>?_;split at e2
 .cases Vw.bl r1;split at e2
  .rename_i hb;dsimp only;rw[if_pos hb];exact h' S1 Z Y J y _ (hE.grow s1) e2 λ d S2 s2 r2=>hq d S2 (s1.trans s2) (Cl.cl s1 r2)
  .rename_i hb;dsimp only;rw[if_neg hb];cases e2;exact hq _ S1 s1 (Cl.of (λ _=>nofun) wc)
 .cases e2
def kW [Cl R] (h:yf f t) (h':xy R g u):xy R (rW f g) (mX t u):=λ S Z Y J y Q hE e hq=>by
 obtain⟨x,e1,e2⟩:=zOb e;refine h S Z Y J x _ hE e1 λ d S1 s1 r1=>?_;split at e2
 .cases Vw.bl r1;split at e2
  .rename_i hb;dsimp only;rw[if_pos hb];cases e2;exact hq _ S1 s1 (Cl.of (λ _=>nofun) wc)
  .rename_i hb;dsimp only;rw[if_neg hb];exact h' S1 Z Y J y _ (hE.grow s1) e2 λ d S2 s2 r2=>hq d S2 (s1.trans s2) (Cl.cl s1 r2)
 .cases e2
def Rw [Cl R] (h:yf f t):xy R (fq f) (mY t):=λ S Z Y J y Q hE e hq=>by
 obtain⟨x,e1,e2⟩:=zOb e;refine h S Z Y J x _ hE e1 λ d S1 s1 r1=>?_;split at e2
 .cases Vw.bl r1;cases e2;exact hq _ S1 s1 (Cl.of (λ _=>nofun) wc)
 .cases e2
def RO [Cl R] (hc:ve fb tb) (h:xy R f t) (h':xy R g u):xy R (Yd fb f g) (mZ tb t u):=λ S Z Y J y Q hE e hq=>by
 obtain⟨b,e1,e2⟩:=zOb e;refine hc S Z Y J b _ hE e1 λ S1 s1=>?_;split at e2
 .rename_i hb;rw[if_pos hb];exact h S1 Z Y J y _ (hE.grow s1) e2 λ d S2 s2 r2=>hq d S2 (s1.trans s2) (Cl.cl s1 r2)
 .rename_i hb;rw[if_neg hb];exact h' S1 Z Y J y _ (hE.grow s1) e2 λ d S2 s2 r2=>hq d S2 (s1.trans s2) (Cl.cl s1 r2)
end
noncomputable def lF (S:SS) (Z:Addr->Prop):List T->List D->Prop
 | [],ds=>ds=[]
 | t::ts,ds=>∃ c cs,ds=c::cs/\Vw S Z t c/\lF S Z ts cs
def qy (f:Ev->Option (List T)) (t:yv):Prop:=∀ S Z Y J ys Q,ER S Z Y J->f J=some ys->(∀ ds S',Sx S S'->lF S' Z ys ds->Q ds S')->t Y S Q
def qx (f:Ev->Option (List T)) (t:yv):Prop:=∀ S Z Y J ys Q,ER S Z Y J->f J=some ys->(∀ ds S',Sx S S'->zh (zF S' Z) ys ds->Q ds S')->t Y S Q
@[simp] noncomputable def zm:Ev->Option (List T):=λ _=>some []
@[simp] noncomputable def ze (f:Ev->Option T) (g:Ev->Option (List T)):Ev->Option (List T):=fun J=>(f J).bind λ x=>(g J).bind λ xs=>some (x::xs)
section
variable {f:Ev->Option T}{g:Ev->Option (List T)}{t:zu}{u:yv}
def tI:qy zm jy:=λ S Z Y J y Q hE e hq=>by cases e;exact hq [] S (.refl S) rfl
def vR:qx zm jy:=λ S Z Y J y Q hE e hq=>by cases e;exact hq [] S (.refl S) .nil
def tJ (h:yf f t) (h':qy g u):qy (ze f g) (ph t u):=λ S Z Y J y Q hE e hq=>by
 obtain⟨x,e1,e0⟩:=zOb e;obtain⟨xs,e2,e3⟩:=zOb e0;cases e3;refine h S Z Y J x _ hE e1 λ d S1 s1 r1=>?_;refine h' S1 Z Y J xs _ (hE.grow s1) e2 λ ds S2 s2 r2=>?_;exact hq _ S2 (s1.trans s2) ⟨d,ds,rfl,Vw.grow r1 s2,r2⟩
def wo (h:vf f t) (h':qx g u):qx (ze f g) (ph t u):=λ S Z Y J y Q hE e hq=>by
 obtain⟨x,e1,e0⟩:=zOb e;obtain⟨xs,e2,e3⟩:=zOb e0;cases e3;refine h S Z Y J x _ hE e1 λ d S1 s1 r1=>?_;refine h' S1 Z Y J xs _ (hE.grow s1) e2 λ ds S2 s2 r2=>?_;exact hq _ S2 (s1.trans s2) (.cons (Sn.sx (wD s2) x r1) r2)
@[simp] noncomputable def tupS (g:Ev->Option (List T)):Ev->Option T:=fun J=>(g J).bind λ xs=>if xs.length<=sizeLine then some (.tup xs) else none
@[simp] noncomputable def xJ (g:Ev->Option (List T)):Ev->Option T:=fun J=>(g J).bind λ xs=>if xs.length<=sizeLine then some (.lst xs) else none
def ml (h:qx g u):xi (tupS g) (YK u):=λ S Z Y J y Q hE e hq=>by
 obtain⟨xs,e1,e2⟩:=zOb e;split at e2
 .rename_i hl;cases e2;refine h S Z Y J xs _ hE e1 λ ds S1 s1 r1=>⟨by rw[r1.len];exact hl,hq _ S1 s1 (Cl.of (λ _=>nofun) (rH r1))⟩
 .cases e2
def Zg (h:qx g u):xi (xJ g) (YQ u):=λ S Z Y J y Q hE e hq=>by
 obtain⟨xs,e1,e2⟩:=zOb e;split at e2
 .rename_i hl;cases e2;refine h S Z Y J xs _ hE e1 λ ds S1 s1 r1=>⟨by rw[r1.len];exact hl,λ p hp=>hq _ _ (s1.trans (.new hp _)) (Cl.cl s1 (tF (hE.grow s1).zd hp r1))⟩
 .cases e2
end
@[simp] noncomputable def zv (F:List T->Option T) (g:Ev->Option (List T)):Ev->Option T:=fun J=>(g J).bind F
def uh (R:Rk) (F:List T->Option T) (f:xT):Prop:=∀ S Z ys z ds Q,(∀ a,Z a->S a≠none)->lF S Z ys ds->F ys=some z->(∀ c S',Sx S S'->R S S' Z z c->Q c S')->f ds S Q
def qQ {R:Rk} [Cl R] {F:List T->Option T}{f:xT}{g:Ev->Option (List T)}{u:yv}(hf:uh R F f) (h:qy g u):xy R (zv F g) (xY f u):=λ S Z Y J y Q hE e hq=>by
 obtain⟨xs,e1,e2⟩:=zOb e;refine h S Z Y J xs _ hE e1 λ ds S1 s1 r1=>?_;exact hf S1 Z xs y ds Q (hE.grow s1).zd r1 e2 λ c S' s r=>hq c S' (s1.trans s) (Cl.cl s1 r)
@[simp] noncomputable def xb:List T->Option T
 | [.str z]=>if z.length<=sizeLine then some (.int z.length) else none
 | [y]=>(we y).map λ ts=>.int ts.length
 | _=>none
def vM {S:SS}{Z:Addr->Prop}{y:T}{ds:List D}(h:lF S Z [y] ds):∃ d,ds=[d]/\Vw S Z y d:=by
 obtain⟨c,cs,rfl,h1,h2⟩:=h;cases h2;exact⟨c,rfl,h1⟩
def j_ {S:SS}{Z:Addr->Prop}{y z:T}{ds:List D}(h:lF S Z [y,z] ds):∃ d e,ds=[d,e]/\Vw S Z y d/\Vw S Z z e:=by
 obtain⟨c,cs,rfl,h1,c2,cs2,rfl,h2,h3⟩:=h;cases h3;exact⟨c,c2,rfl,h1,h2⟩
def mF:uh zJ xb uC:=λ S Z ys z ds Q hz hv e hq=>by
 unfold xb at e;split at e
 .obtain⟨d,rfl,h1⟩:=vM hv;split at e
  .rename_i hl;cases e;cases h1.str;exact⟨hl,hq _ S (.refl S) (Cl.of (λ _=>nofun) wN)⟩
  .cases e
 .obtain⟨d,rfl,h1⟩:=vM hv;obtain⟨ts,e1,rfl⟩:=zOm e;obtain⟨es,h2,h3⟩:=h1.seq e1;refine Oi h2 ?_;rw[h3.len];exact hq _ S (.refl S) (Cl.of (λ _=>nofun) wN)
 .cases e
@[simp] noncomputable def listS:List T->Option T
 | [y]=>(we y).map .lst
 | _=>none
def Yh:uh zJ listS uB:=λ S Z ys z ds Q hz hv e hq=>by
 unfold listS at e;split at e
 .obtain⟨d,rfl,h1⟩:=vM hv;obtain⟨ts,e1,rfl⟩:=zOm e;obtain⟨es,h2,h3⟩:=h1.seq e1;exact Oh h2 λ p hp=>hq _ _ (.new hp _) (tF hz hp h3)
 .cases e
@[simp] noncomputable def rC:List T->Option T
 | [y]=>(we y).map .tup
 | _=>none
def Pt:uh zJ rC uA:=λ S Z ys z ds Q hz hv e hq=>by
 unfold rC at e;split at e
 .rename_i y;obtain⟨d,rfl,h1⟩:=vM hv;obtain⟨ts,e1,rfl⟩:=zOm e;obtain⟨es,h2,h3⟩:=h1.seq e1;have k:Q (.tup es) S:=hq _ S (.refl S) (Cl.of (λ _=>nofun) (rH h3));unfold zM at h2;split at h2
  .cases h2;exact k
  .cases h2;exact k
  .split at h2
   .rename_i q;cases h2;exact Og q k
   .cases h2
  .cases h2
 .cases e
@[simp] noncomputable def qW (g:Int->Int->Int):List T->Option T
 | [.int i,.int j]=>some (.int (g i j))
 | _=>none
def Yi {g:Int->Int->Int}:uh zJ (qW g) (vX λ i j=>.int (g i j)):=λ S Z ys z ds Q hz hv e hq=>by
 unfold qW at e;split at e
 .obtain⟨d,d',rfl,h1,h2⟩:=j_ hv;cases e;cases h1.int;cases h2.int;exact hq _ S (.refl S) (Cl.of (λ _=>nofun) wN)
 .cases e
@[simp] noncomputable def mz:List T->Option T:=qW λ i j=>if j>i then j else i
@[simp] noncomputable def qR:List T->Option T:=qW λ i j=>if j<i then j else i
noncomputable def pA:List T->Option (List Bool)
 | []=>some []
 | .bl b::ts=>(pA ts).map (b::·)
 | _::_=>none
theorem Xn:∀ {ts:List T}{bs:List Bool},pA ts=some bs->ts=bs.map T.bl
 | [],bs,h=>by cases h;rfl
 | .bl b::ts,bs,h=>by
  unfold pA at h;obtain⟨cs,h1,rfl⟩:=zOm h;rw[zA6,<- Xn h1]
 | .zj::ts,bs,h=>by cases h
 | .int _::ts,bs,h=>by cases h
 | .str _::ts,bs,h=>by cases h
 | .tup _::ts,bs,h=>by cases h
 | .lst _::ts,bs,h=>by cases h
def NF (bs:List Bool):pA (bs.map T.bl)=some bs:=by
 induction bs with
 | nil=>rfl
 | cons b bs ih=>rw[zA6];unfold pA;rw[ih];rfl
@[simp] noncomputable def eZ (g:List Bool->Bool):List T->Option T
 | [.lst ts]=>(pA ts).map λ bs=>.bl (g bs)
 | _=>none
def tS (g:List Bool->Bool):xT:=λ ds S Q=>match ds with
 | [.tup _]=>False
 | [d]=>∃ bs:List Bool,zM d S=some (bs.map D.bl)/\Q (.bl (g bs)) S
 | _=>False
def Yj {g:List Bool->Bool}:uh zJ (eZ g) (tS g):=λ S Z ys z ds Q hz hv e hq=>by
 unfold eZ at e;split at e
 .obtain⟨d,rfl,h1⟩:=vM hv;obtain⟨bs,e1,rfl⟩:=zOm e;cases Xn e1;obtain⟨es,h2,h3⟩:=h1.seq rfl;cases h3.Xo;have key:∃ bs:List Bool,zM d S=some (bs.map D.bl)/\Q (.bl (g bs)) S:=⟨bs,h2,hq _ S (.refl S) (Cl.of (λ _=>nofun) wc)⟩
  obtain⟨_,q | ⟨a,q,_⟩,_⟩:=h1.lst
  .subst q;exact key
  .subst q;exact key
 .cases e
structure FR (S0:SS) (Z0:Addr->Prop) (S:SS) (Z:Addr->Prop) (Y:yn) (J:Ev):Prop where
 er:ER S Z Y J
 len:Y.length=J.length
 sx:Sx S0 S
 z0:∀ a,Z0 a->S0 a≠none
 zz:∀ a,Z0 a->Z a
 zn:∀ a,Z a->Z0 a\/S0 a=none
 fr:∀ (i:Nat) ts p,J[i]?=some (some (.own ts))->Y[i]?=some (some (.ref p))->S0 p=none
 dj:∀ (i j:Nat) ts us p,i≠j->J[i]?=some (some (.own ts))->J[j]?=some (some (.own us))->Y[i]?=some (some (.ref p))->Y[j]?=some (some (.ref p))->False
def y7 {α:Type}{l:List α}{i j:Nat}{a b:α}(h:(l.set i a)[j]?=some b):(i=j/\i<l.length/\b=a)\/(i≠j/\l[j]?=some b):=by
 rw[List.getElem?_set] at h;by_cases e:i=j
 .subst e;rw[if_pos rfl] at h;by_cases hl:i<l.length
  .rw[if_pos hl] at h;cases h;exact .inl ⟨rfl,hl,rfl⟩
  .rw[if_neg hl] at h;cases h
 .rw[if_neg e] at h;exact .inr ⟨e,h⟩
def xM {α:Type}{l:List α}{i j:Nat}{a:α}(h:i≠j):(l.set i a)[j]?=l[j]?:=by rw[List.getElem?_set,if_neg h]
def sP {α:Type}{l:List α}{i:Nat}{a:α}(h:i<l.length):(l.set i a)[i]?=some a:=by rw[List.getElem?_set,if_pos rfl,if_pos h]
section
variable {S0 S S':SS}{Z0 Z:Addr->Prop}{Y:yn}{J:Ev}{y:T}{d:D}
theorem FR.grow (h:FR S0 Z0 S Z Y J) (s:Sx S S'):FR S0 Z0 S' Z Y J:=⟨h.er.grow s,h.len,h.sx.trans s,h.z0,h.zz,h.zn,h.fr,h.dj⟩
def FR.tE (h:FR S0 Z0 S Z Y J) (i:Nat) (r:Sn (zF S Z) y d):FR S0 Z0 S Z (Y.set i (some d)) (J.set i (some (.im y))):=by
 refine⟨⟨h.er.zd,λ j t e=>?_,λ j ts e=>?_⟩,by simp[h.len],h.sx,h.z0,h.zz,h.zn,λ j ts p e e'=>?_,λ j k ts us p n e1 e2 e3 e4=>?_⟩
 .rcases y7 e with ⟨rfl,hl,e⟩ | ⟨n,e⟩
  .cases e;exact⟨d,sP (by rw[h.len];exact hl),r⟩
  .rw[xM n];exact h.er.im j t e
 .rcases y7 e with ⟨rfl,hl,e⟩ | ⟨n,e⟩
  .cases e
  .rw[xM n];exact h.er.ow j ts e
 .rcases y7 e with ⟨rfl,hl,e⟩ | ⟨n,e⟩
  .cases e
  .rw[xM n] at e';exact h.fr j ts p e e'
 .rcases y7 e1 with ⟨rfl,hl,e⟩ | ⟨n1,e1⟩
  .cases e
  rcases y7 e2 with ⟨rfl,hl,e⟩ | ⟨n2,e2⟩
  .cases e
  rw[xM n1] at e3;rw[xM n2] at e4;exact h.dj j k ts us p n e1 e2 e3 e4
def FR.i9 {ts:C}{ds:O}{p:Addr}(h:FR S0 Z0 S Z Y J) (s:Sx S S') (i:Nat) (hp:S p=none) (hd:S' p=some ds) (r:tq (zF S' λ a=>Z a\/a=p) ts ds):
  FR S0 Z0 S' (λ a=>Z a\/a=p) (Y.set i (some (.ref p))) (J.set i (some (.own ts))):=by
 have np:∀ (j:Nat) us q,J[j]?=some (some (.own us))->Y[j]?=some (some (.ref q))->q≠p:=λ j us q e e' z=>by
  subst z;obtain⟨p',ds',h1,h2,_⟩:=h.er.ow j us e;rw[e'] at h1;cases h1;rw[hp] at h2;cases h2
 refine⟨⟨λ a z=>?_,λ j t e=>?_,λ j us e=>?_⟩,by simp[h.len],h.sx.trans s,h.z0,λ a z=>.inl (h.zz a z),λ a z=>z.elim (h.zn a) (λ q=>.inr (by subst q;exact h.sx.none hp)),λ j us q e e'=>?_,λ j k us vs q n e1 e2 e3 e4=>?_⟩
 .rcases z with z | rfl
  .exact λ q=>h.er.zd a z (s.none q)
  .rw[hd];nofun
 .rcases y7 e with ⟨rfl,hl,e⟩ | ⟨n,e⟩
  .cases e
  .rw[xM n];obtain⟨d,h1,h2⟩:=h.er.im j t e;exact⟨d,h1,Sn.sx (qX s hp) t h2⟩
 .rcases y7 e with ⟨rfl,hl,e⟩ | ⟨n,e⟩
  .cases e;exact⟨p,ds,sP (by rw[h.len];exact hl),hd,r,.inr rfl⟩
  .rw[xM n];obtain⟨q,es,h1,h2,h3,h4⟩:=h.er.ow j us e;exact⟨q,es,h1,s _ _ h2,tq.sx (qX s hp) h3,.inl h4⟩
 .rcases y7 e with ⟨rfl,hl,e⟩ | ⟨n,e⟩
  .rw[sP (by rw[h.len];exact hl)] at e';cases e';exact h.sx.none hp
  .rw[xM n] at e';exact h.fr j us q e e'
 .rcases y7 e1 with ⟨rfl,hl,e⟩ | ⟨n1,e1⟩
  .rcases y7 e2 with ⟨rfl,_,_⟩ | ⟨n2,e2⟩
   .exact n rfl
   .rw[sP (by rw[h.len];exact hl)] at e3;cases e3;rw[xM n2] at e4;exact np k vs p e2 e4 rfl
  .rcases y7 e2 with ⟨rfl,hl,_⟩ | ⟨n2,e2⟩
   .rw[sP (by rw[h.len];exact hl)] at e4;cases e4;rw[xM n1] at e3;exact np j us p e1 e3 rfl
   .rw[xM n1] at e3;rw[xM n2] at e4;exact h.dj j k us vs q n e1 e2 e3 e4
def FR.forget (h:FR S0 Z0 S Z Y J) (i:Nat):FR S0 Z0 S Z Y (J.set i none):=by
 refine⟨⟨h.er.zd,λ j t e=>?_,λ j ts e=>?_⟩,by simp[h.len],h.sx,h.z0,h.zz,h.zn,λ j ts p e e'=>?_,λ j k ts us p n e1 e2 e3 e4=>?_⟩
 .rcases y7 e with ⟨rfl,hl,e⟩ | ⟨n,e⟩
  .cases e
  .exact h.er.im j t e
 .rcases y7 e with ⟨rfl,hl,e⟩ | ⟨n,e⟩
  .cases e
  .exact h.er.ow j ts e
 .rcases y7 e with ⟨rfl,hl,e⟩ | ⟨n,e⟩
  .cases e
  .exact h.fr j ts p e e'
 .rcases y7 e1 with ⟨rfl,hl,e⟩ | ⟨n1,e1⟩
  .cases e
  rcases y7 e2 with ⟨rfl,hl,e⟩ | ⟨n2,e2⟩
  .cases e
  exact h.dj j k ts us p n e1 e2 e3 e4
@[simp] noncomputable def yM (is:List Nat) (J:Ev):Ev:=is.foldl (fun J i=>J.set i none) J
theorem FR.yM:∀ (is:List Nat) {J:Ev},FR S0 Z0 S Z Y J->FR S0 Z0 S Z Y (yM is J)
 | [],_,h=>h
 | i::is,_,h=>FR.yM is (h.forget i)
def FR.freeze {ts:List T}{p:Addr}(h:FR S0 Z0 S Z Y J) (i:Nat) (e:J[i]?=some (some (.own (.lst ts)))) (ed:Y[i]?=some (some (.ref p))):
  FR S0 Z0 S (λ a=>Z a/\a≠p) Y (J.set i (some (.im (.lst ts))))/\Sn (zF S λ a=>Z a/\a≠p) (.lst ts) (.ref p):=by
 obtain⟨p',o,h1,h2,h3,h4⟩:=h.er.ow i _ e;rw[ed] at h1;cases h1;obtain⟨ds,rfl⟩:∃ ds,o=.lst ds:=by
  cases o with
  | lst ds=>exact⟨ds,rfl⟩
  | ye _=>exact h3.elim
 replace h3:zh (zF S Z) ts ds:=h3;have hS:Sn (zF S λ a=>Z a/\a≠p) (.lst ts) (.ref p):=by
  simp only[Sn];exact⟨ds,.inr ⟨p,rfl,by rw[wV (λ z=>z.2 rfl)];exact h2⟩,zh.sx (tN λ a z=>z.1) ts h3⟩
 refine⟨?_,hS⟩;refine⟨⟨λ a z=>h.er.zd a z.1,λ j t e'=>?_,λ j us e'=>?_⟩,by simp[h.len],h.sx,h.z0,λ a z=>⟨h.zz a z,λ q=>?_⟩,λ a z=>h.zn a z.1,λ j us q e' ed'=>?_,λ j k us vs q n e1 e2 e3 e4=>?_⟩
 .rcases y7 e' with ⟨rfl,hl,e'⟩ | ⟨n,e'⟩
  .cases e';exact⟨_,ed,hS⟩
  .obtain⟨d,g1,g2⟩:=h.er.im j t e';exact⟨d,g1,Sn.sx (tN λ a z=>z.1) t g2⟩
 .rcases y7 e' with ⟨rfl,hl,e'⟩ | ⟨n,e'⟩
  .cases e'
  .obtain⟨q,es,g1,g2,g3,g4⟩:=h.er.ow j us e';exact⟨q,es,g1,g2,tq.sx (tN λ a z=>z.1) g3,g4,λ z=>by subst z;exact h.dj i j _ us q n e e' ed g1⟩
 .subst q;exact h.z0 a z (h.fr i _ a e ed)
 .rcases y7 e' with ⟨rfl,hl,e'⟩ | ⟨n,e'⟩
  .cases e'
  .exact h.fr j us q e' ed'
 .rcases y7 e1 with ⟨rfl,hl,e⟩ | ⟨n1,e1⟩
  .cases e
  rcases y7 e2 with ⟨rfl,hl,e⟩ | ⟨n2,e2⟩
  .cases e
  exact h.dj j k us vs q n e1 e2 e3 e4
def FR.mut {ts us:C}{es:O}{p:Addr}(h:FR S0 Z0 S Z Y J) (i:Nat) (e:J[i]?=some (some (.own ts))) (ed:Y[i]?=some (some (.ref p))) (r:tq (zF S Z) us es):
  FR S0 Z0 (ups S p es) Z Y (J.set i (some (.own us))):=by
 obtain⟨p',ds,h1,h2,h3,h4⟩:=h.er.ow i ts e;rw[ed] at h1;cases h1;have hh:zF (ups S p es) Z=zF S Z:=Pl h4;have hpn:=h.fr i ts p e ed;refine⟨⟨λ a z=>?_,λ j t e'=>?_,λ j vs e'=>?_⟩,by simp[h.len],λ b o q=>?_,h.z0,h.zz,h.zn,λ j vs q e' ed'=>?_,λ j k vs ws q n e1 e2 e3 e4=>?_⟩
 .by_cases hp:a=p
  .subst hp;rw[t7];nofun
  .rw[um hp];exact h.er.zd a z
 .rw[hh];rcases y7 e' with ⟨rfl,hl,e'⟩ | ⟨n,e'⟩
  .cases e'
  .exact h.er.im j t e'
 .rw[hh];rcases y7 e' with ⟨rfl,hl,e'⟩ | ⟨n,e'⟩
  .cases e';exact⟨p,es,ed,t7,r,h4⟩
  .obtain⟨q,es',g1,g2,g3,g4⟩:=h.er.ow j vs e';refine⟨q,es',g1,?_,g3,g4⟩;rw[um (λ z=>by subst z;exact h.dj i j ts vs q n e e' ed g1)];exact g2
 .rw[um (λ z=>by subst z;rw[hpn] at q;cases q)];exact h.sx b o q
 .rcases y7 e' with ⟨rfl,hl,_⟩ | ⟨n,e'⟩
  .rw[ed] at ed';cases ed';exact hpn
  .exact h.fr j vs q e' ed'
 .rcases y7 e1 with ⟨rfl,hl,_⟩ | ⟨n1,e1⟩
  .rcases y7 e2 with ⟨rfl,hl,_⟩ | ⟨n2,e2⟩
   .exact n rfl
   .exact h.dj _ k ts ws q n e e2 e3 e4
  .rcases y7 e2 with ⟨rfl,hl,_⟩ | ⟨n2,e2⟩
   .exact h.dj j _ vs ts q n e1 e e3 e4
   .exact h.dj j k vs ws q n e1 e2 e3 e4
noncomputable def gy (S0 S:SS) (Z:Addr->Prop):SS:=open Classical in λ a=>if S0 a=none/\Z a then none else S a
def kF {a:Addr}(h:¬ (S0 a=none/\Z a)):gy S0 S Z a=S a:=if_neg h
def gw {a:Addr}(h:S0 a=none/\Z a):gy S0 S Z a=none:=if_pos h
def FR.rebase (h:FR S0 Z0 S Z Y J):∃ S1,Sx S0 S1/\FR S1 Z0 S Z Y J/\Sx (zF S Z) S1:=by
 refine⟨gy S0 S Z,λ b o q=>?_,⟨h.er,h.len,λ b o q=>?_,λ a z=>?_,h.zz,λ a z=>?_,λ i ts p e ed=>?_,h.dj⟩,λ b o q=>?_⟩
 .rw[kF (λ z=>by rw[z.1] at q;cases q)];exact h.sx _ _ q
 .by_cases w:S0 b=none/\Z b
  .rw[gw w] at q;cases q
  .rw[kF w] at q;exact q
 .rw[kF (λ q=>h.z0 a z q.1)];exact h.er.zd a (h.zz a z)
 .rcases h.zn a z with w | w
  .exact .inl w
  .exact .inr (gw ⟨w,z⟩)
 .obtain⟨p',ds,h1,h2,h3,h4⟩:=h.er.ow i ts e;rw[ed] at h1;cases h1;exact gw ⟨h.fr i ts p e ed,h4⟩
 .obtain⟨q1,q2⟩:=vA q;rw[kF (λ z=>q1 z.2)];exact q2
def FR.back {S1:SS}(h:FR S1 Z0 S Z Y J) (s:Sx S0 S1) (z0:∀ a,Z0 a->S0 a≠none):FR S0 Z0 S Z Y J:=⟨h.er,h.len,s.trans h.sx,z0,h.zz,λ a z=>(h.zn a z).imp id s.none,λ i ts p e ed=>s.none (h.fr i ts p e ed),h.dj⟩
def FR.V7 {S1:SS}{Z1:Addr->Prop}(h:FR S0 Z0 S Z Y J) (b:Sx (zF S1 Z1) S0) (zz:∀ a,Z0 a->Z1 a):Sx (zF S1 Z1) (zF S Z):=λ a o q=>by
 have q0:=b _ _ q;obtain⟨q1,q2⟩:=vA q;rw[wV]
 .exact h.sx _ _ q0
 .intro z;rcases h.zn a z with w | w
  .exact q1 (zz a w)
  .rw[w] at q0;cases q0
end
inductive Out where
 | nx (J:Ev) | rt (t:T) | bk (J:Ev) | ct (J:Ev)
abbrev Sm:=Ev->Option Out
def NX (R:Rk) (S0:SS) (Z0:Addr->Prop) (o:Out) (E:rq):Prop:=match o with
 | .nx J=>∀ S Z Y,FR S0 Z0 S Z Y J->E.nx Y S
 | .bk J=>∀ S Z Y,FR S0 Z0 S Z Y J->E.bk Y S
 | .ct J=>∀ S Z Y,FR S0 Z0 S Z Y J->E.ct Y S
 | .rt y=>∀ d S,Sx S0 S->R S0 S Z0 y d->E.rt d S
def yk (R:Rk) (g:Sm) (t:yz):Prop:=∀ S0 Z0 S Z Y J o E,FR S0 Z0 S Z Y J->g J=some o->NX R S0 Z0 o E->t E Y S
class Lo (R:Rk):Prop extends Cl R where
 lo:∀ {S0 S S':SS}{Z0 Z:Addr->Prop}{y:T}{d:D},Sx S0 S->(∀ a,Z0 a->Z a)->R S S' Z y d->R S0 S' Z0 y d
instance:Lo vw:=⟨λ _ z h=>Sn.sx (tN z) _ h⟩
instance:Lo zJ:=⟨λ s z h=>⟨Sn.sx (tN z) _ h.1,λ ts e=>by
 obtain⟨p,ds,h1,h2,h3,h4⟩:=h.2 ts e;exact⟨p,ds,h1,s.none h2,h3,zh.sx (tN λ a q=>q.imp (z a) id) ts h4⟩⟩⟩
@[simp] noncomputable def zt (g h:Sm):Sm:=fun J=>(g J).bind λ o=>match o with
 | .nx J'=>h J'
 | o=>some o
@[simp] noncomputable def y6:Sm:=fun J=>some (.nx J)
@[simp] noncomputable def N6:Sm:=fun J=>some (.bk J)
@[simp] noncomputable def OZ:Sm:=fun J=>some (.ct J)
@[simp] noncomputable def zU (i:Nat) (f:Ev->Option T):Sm:=fun J=>(f J).map λ y=>.nx (J.set i (some (.im y)))
@[simp] noncomputable def vJ (i:Nat) (f:Ev->Option T):Sm:=fun J=>(f J).bind λ y=>match y with
 | .lst ts=>some (.nx (J.set i (some (.own (.lst ts)))))
 | y=>some (.nx (J.set i (some (.im y))))
@[simp] noncomputable def eJ (f:Ev->Option T):Sm:=fun J=>(f J).map λ _=>.nx J
@[simp] noncomputable def retS (f:Ev->Option T):Sm:=fun J=>(f J).map .rt
@[simp] noncomputable def VO:Sm:=λ _=>some (.rt .zj)
@[simp] noncomputable def qK (i:Nat):Sm:=fun J=>match J[i]? with
 | some (some (.own (.lst ts)))=>some (.rt (.lst ts))
 | _=>none
@[simp] noncomputable def yA (c:Ev->Option Bool) (g h:Sm):Sm:=fun J=>(c J).bind λ b=>if b=true then g J else h J
@[simp] noncomputable def ez (i:Nat) (J:Ev):Ev:=match J[i]? with
 | some (some (.own (.lst ts)))=>J.set i (some (.im (.lst ts)))
 | _=>J
@[simp] noncomputable def el (i:Nat) (g:Sm):Sm:=fun J=>g (ez i J)
section
variable {R:Rk}{g h:Sm}{t u:yz}{f:Ev->Option T}{te:zu}
def mh (hg:yk R g t) (hh:yk R h u):yk R (zt g h) (ql t u):=λ S0 Z0 S Z Y J o E F e P=>by
 obtain⟨o1,e1,e2⟩:=zOb e;refine hg S0 Z0 S Z Y J o1 { E with nx:=u E } F e1 ?_;cases o1 with
 | nx J1=>exact λ S1 Z1 Y1 F1=>hh S0 Z0 S1 Z1 Y1 J1 o E F1 e2 P
 | rt y=>cases e2;exact P
 | bk y=>cases e2;exact P
 | ct y=>cases e2;exact P
def o7:yk R y6 YM:=λ S0 Z0 S Z Y J o E F e P=>by cases e;exact P S Z Y F
def SU:yk R N6 OK:=λ S0 Z0 S Z Y J o E F e P=>by cases e;exact P S Z Y F
def SO:yk R OZ OJ:=λ S0 Z0 S Z Y J o E F e P=>by cases e;exact P S Z Y F
def gU (i:Nat) (hf:vf f te):yk R (zU i f) (uG te (hName i)):=λ S0 Z0 S Z Y J o E F e P=>by
 obtain⟨y,e1,rfl⟩:=zOm e;exact hf S Z Y J y _ F.er e1 λ d S1 s1 r1=>P S1 Z _ ((F.grow s1).tE i r1)
def gT (i:Nat) (hf:xi f te):yk R (vJ i f) (uG te (hName i)):=λ S0 Z0 S Z Y J o E F e P=>by
 obtain⟨y,e1,e2⟩:=zOb e;refine hf S Z Y J y _ F.er e1 λ d S1 s1 r1=>?_;cases y with
 | lst ts=>
  cases e2;obtain⟨p,ds,rfl,h1,h2,h3⟩:=r1.2 ts rfl;exact P S1 _ _ (F.i9 (ts:=.lst ts) (ds:=.lst ds) s1 i h1 h2 h3)
 | zj=>cases e2;exact P S1 Z _ ((F.grow s1).tE i r1.1)
 | bl _=>cases e2;exact P S1 Z _ ((F.grow s1).tE i r1.1)
 | int _=>cases e2;exact P S1 Z _ ((F.grow s1).tE i r1.1)
 | str _=>cases e2;exact P S1 Z _ ((F.grow s1).tE i r1.1)
 | tup _=>cases e2;exact P S1 Z _ ((F.grow s1).tE i r1.1)
 | zN=>cases e2;exact P S1 Z _ ((F.grow s1).tE i r1.1)
def SK (hf:yf f te):yk R (eJ f) (pd te):=λ S0 Z0 S Z Y J o E F e P=>by
 obtain⟨y,e1,rfl⟩:=zOm e;exact hf S Z Y J y _ F.er e1 λ d S1 s1 r1=>P S1 Z _ (F.grow s1)
def qP [Lo R] (hf:xy R f te):yk R (retS f) (eM te):=λ S0 Z0 S Z Y J o E F e P=>by
 obtain⟨y,e1,rfl⟩:=zOm e;exact hf S Z Y J y _ F.er e1 λ d S1 s1 r1=>P d S1 (F.sx.trans s1) (Lo.lo F.sx F.zz r1)
def SF [Cl R]:yk R VO OI:=λ S0 Z0 S Z Y J o E F e P=>by
 cases e;exact P .zj S F.sx (Cl.of (λ _=>nofun) kz)
def gR (i:Nat):yk zJ (qK i) (eM (yr i)):=λ S0 Z0 S Z Y J o E F e P=>by
 unfold qK at e;split at e
 .rename_i ts h;cases e;obtain⟨p,ob,h1,h2,h3,h4⟩:=F.er.ow i _ h;obtain⟨ds,rfl⟩:∃ ds,ob=.lst ds:=by
   cases ob with
   | lst ds=>exact⟨ds,rfl⟩
   | ye _=>exact h3.elim
  replace h3:zh (zF S Z) ts ds:=h3;have hn:=F.fr i _ p h h1;have nz:¬ Z0 p:=λ z=>F.z0 p z hn;show yr i Y S E.rt;unfold yr;rw[h1];refine P _ S F.sx ⟨?_,λ us e=>?_⟩
  .simp only[Sn];exact⟨ds,.inr ⟨p,rfl,by rw[wV nz];exact h2⟩,zh.sx (tN F.zz) ts h3⟩
  .cases e;exact⟨p,ds,rfl,hn,h2,zh.sx (tN λ a q=>q.elim (F.zz a) λ q=>q▸h4) ts h3⟩
 .cases e
def o8 {c:Ev->Option Bool}{tc:yN}(hc:ve c tc) (hg:yk R g t) (hh:yk R h u):yk R (yA c g h) (YS tc t u):=λ S0 Z0 S Z Y J o E F e P=>by
 obtain⟨b,e1,e2⟩:=zOb e;refine hc S Z Y J b _ F.er e1 λ S1 s1=>?_;split at e2
 .rename_i hb;rw[if_pos hb];exact hg S0 Z0 S1 Z Y J o E (F.grow s1) e2 P
 .rename_i hb;rw[if_neg hb];exact hh S0 Z0 S1 Z Y J o E (F.grow s1) e2 P
def FR.fz {S0 S:SS}{Z0 Z:Addr->Prop}{Y:yn}{J:Ev}(F:FR S0 Z0 S Z Y J) (i:Nat):∃ Z',FR S0 Z0 S Z' Y (ez i J):=by
 unfold ez;split
 .rename_i ts h;obtain⟨p,ds,h1,_⟩:=F.er.ow i _ h;exact⟨_,(F.freeze i h h1).1⟩
 .exact⟨Z,F⟩
def SJ (i:Nat) (hg:yk R g t):yk R (el i g) t:=λ S0 Z0 S Z Y J o E F e P=>by
 obtain⟨Z',F'⟩:=F.fz i;exact hg S0 Z0 S Z' Y _ o E F' e P
def lH (g:T->Ev->Option Ev) (t:xG):Prop:=∀ S0 Z0 S Z Y J J' y d Q,FR S0 Z0 S Z Y J->Sn (zF S Z) y d->g y J=some J'->(∀ Y',FR S0 Z0 S Z Y' J'->Q Y' S)->t d Y S Q
def jE (g:List T->Ev->Option Ev) (t:vc):Prop:=∀ S0 Z0 S Z Y J J' ys ds Q,FR S0 Z0 S Z Y J->zh (zF S Z) ys ds->g ys J=some J'->(∀ Y',FR S0 Z0 S Z Y' J'->Q Y' S)->t ds Y S Q
@[simp] noncomputable def zy (i:Nat):T->Ev->Option Ev:=λ y J=>some (J.set i (some (.im y)))
@[simp] noncomputable def vn:List T->Ev->Option Ev
 | [],J=>some J
 | _::_,_=>none
@[simp] noncomputable def yy (g:T->Ev->Option Ev) (h:List T->Ev->Option Ev):List T->Ev->Option Ev
 | y::ys,J=>(g y J).bind fun J'=>h ys J'
 | [],_=>none
@[simp] noncomputable def wM (n:Nat) (g:List T->Ev->Option Ev):T->Ev->Option Ev
 | .tup ys,J=>if ys.length=n then g ys J else none
 | _,_=>none
def gW (i:Nat):lH (zy i) (hName i):=λ S0 Z0 S Z Y J J' y d Q F r e hq=>by cases e;exact hq _ (F.tE i r)
def Rc:jE vn fW:=λ S0 Z0 S Z Y J J' ys ds Q F r e hq=>by
 cases ys with
 | nil=>simp only[zh] at r;subst r;cases e;exact⟨rfl,hq _ F⟩
 | cons _ _=>cases e
def Rf {g:T->Ev->Option Ev}{h:List T->Ev->Option Ev}{t:xG}{u:vc}(hg:lH g t) (hh:jE h u):jE (yy g h) (fX t u):=λ S0 Z0 S Z Y J J' ys ds Q F r e hq=>by
 cases ys with
 | nil=>cases e
 | cons y ys=>
  simp only[zh] at r;obtain⟨c,cs,rfl,r1,r2⟩:=r;obtain⟨J1,e1,e2⟩:=zOb e;exact hg S0 Z0 S Z Y J J1 y c _ F r1 e1 fun Y1 F1=>hh S0 Z0 S Z Y1 J1 J' ys cs Q F1 r2 e2 hq
def Rg {n:Nat}{g:List T->Ev->Option Ev}{t:vc}(hg:jE g t):lH (wM n g) (jk n t):=λ S0 Z0 S Z Y J J' y d Q F r e hq=>by
 cases y with
 | tup ys=>
  simp only[Sn] at r;obtain⟨ds,rfl,r⟩:=r;simp only[wM] at e;split at e
  .rename_i hl;exact⟨by rw[r.len];exact hl,hg S0 Z0 S Z Y J J' ys ds Q F r e hq⟩
  .cases e
 | zj=>cases e
 | bl _=>cases e
 | int _=>cases e
 | str _=>cases e
 | lst _=>cases e
 | zN=>cases e
@[simp] noncomputable def WJ (f:Ev->Option T) (g:T->Ev->Option Ev):Sm:=fun J=>(f J).bind λ y=>(g y J).map .nx
def SE {g:T->Ev->Option Ev}{tg:xG}(hf:vf f te) (hg:lH g tg):yk R (WJ f g) (uG te tg):=λ S0 Z0 S Z Y J o E F e P=>by
 obtain⟨y,e1,e2⟩:=zOb e;obtain⟨J',e3,rfl⟩:=zOm e2;exact hf S Z Y J y _ F.er e1 λ d S1 s1 r1=>hg S0 Z0 S1 Z Y J J' y d _ (F.grow s1) r1 e3 fun Y' F'=>P S1 Z Y' F'
def tu (free:Bool) (f:Ev->Option (List T)) (ti:wH):Prop:=∀ S Z Y J ts Q,ER S Z Y J->f J=some ts->(∀ I S',Sx S S'->zh (zF S' Z) ts I.items->(∀ S'',Sx (if free=true then zF S' Z else S') S''->I.keep S'')->Q I S')->ti Y S Q
@[simp] noncomputable def yx (f:Ev->Option T):Ev->Option (List T):=fun J=>(f J).bind we
def kS {f:Ev->Option T}{te:zu}(hf:yf f te):tu false (yx f) (fN te):=λ S Z Y J ts Q hE e hq=>by
 obtain⟨y,e1,e2⟩:=zOb e;refine hf S Z Y J y _ hE e1 λ d S1 s1 r1=>?_;cases y with
 | tup us=>
  cases e2;obtain⟨ds,rfl,h2⟩:=Vw.tup r1;exact hq _ S1 s1 h2 λ _ _=>trivial
 | lst us=>
  cases e2;obtain⟨ds,rfl | ⟨a,rfl,h1⟩,h2⟩:=Vw.lst r1
  .exact hq _ S1 s1 h2 λ _ _=>trivial
  .dsimp only;rw[h1];exact hq ⟨ds,_⟩ S1 s1 h2 λ S'' s=>s _ _ h1
 | zj=>cases e2
 | bl _=>cases e2
 | int _=>cases e2
 | str _=>cases e2
 | zN=>cases e2
def SY {f:Ev->Option T}{te:zu}(hf:vf f te):tu true (yx f) (fN te):=λ S Z Y J ts Q hE e hq=>by
 obtain⟨y,e1,e2⟩:=zOb e;refine hf S Z Y J y _ hE e1 λ d S1 s1 r1=>?_;cases y with
 | tup us=>
  cases e2;obtain⟨ds,rfl,h2⟩:=Vw.tup (.inl r1);exact hq _ S1 s1 h2 λ _ _=>trivial
 | lst us=>
  cases e2;have r2:=r1;unfold vw at r2;simp only[Sn] at r2;obtain⟨ds,⟨rfl,_⟩ | ⟨a,rfl,h1⟩,h2⟩:=r2
  .exact hq _ S1 s1 h2 λ _ _=>trivial
  .dsimp only;rw[(vA h1).2];exact hq ⟨ds,_⟩ S1 s1 h2 λ S'' s=>s _ _ h1
 | zj=>cases e2
 | bl _=>cases e2
 | int _=>cases e2
 | str _=>cases e2
 | zN=>cases e2
noncomputable def rangeT (lo:Int) (n:Nat):List T:=(List.range n).map λ(k:Nat)=>T.int (lo+(k:Int))
def i6 {S:SS}(lo:Int) (n:Nat):zh S (rangeT lo n) (vy lo n):=by
 unfold rangeT vy
 induction List.range n with
 | nil=>exact .nil
 | cons k l ih=>exact .cons wN ih
noncomputable def inR (j:Int):Bool:=decide (-100000000<=j)&&decide (j<=100000000)
def ji {j:Int}:inR j=true↔-100000000<=j/\j<=100000000:=by simp[inR]
def jj {j:Int}(h:inR j=true):-(2 ^ 62)<=j/\j<2 ^ 62:=by have:=ji.mp h;omega
noncomputable def uQ:List T->Option (List T)
 | [.int j]=>if inR j=true then some (rangeT 0 j.toNat) else none
 | _=>none
noncomputable def nN:List T->Option (List T)
 | [.int i,.int j]=>if inR i=true/\inR j=true then some (rangeT i (j-i).toNat) else none
 | _=>none
@[simp] noncomputable def wq (F:List T->Option (List T)) (g:Ev->Option (List T)):Ev->Option (List T):=fun J=>(g J).bind F
def kT {b:Bool}{g:Ev->Option (List T)}{tA:yv}(h:qy g tA):tu b (wq uQ g) (fP tA):=λ S Z Y J ts Q hE e hq=>by
 obtain⟨ys,e1,e2⟩:=zOb e;refine h S Z Y J ys _ hE e1 λ ds S1 s1 r1=>?_;unfold uQ at e2;split at e2
 .split at e2
  .rename_i hc;cases e2;obtain⟨d,rfl,h1⟩:=vM r1;cases h1.int;exact⟨jj hc,hq _ S1 s1 (i6 _ _) λ _ _=>trivial⟩
  .cases e2
 .cases e2
def S_ {b:Bool}{g:Ev->Option (List T)}{tA:yv}(h:qy g tA):tu b (wq nN g) (fO tA):=λ S Z Y J ts Q hE e hq=>by
 obtain⟨ys,e1,e2⟩:=zOb e;refine h S Z Y J ys _ hE e1 λ ds S1 s1 r1=>?_;unfold nN at e2;split at e2
 .split at e2
  .rename_i hc;cases e2;obtain⟨d,d',rfl,h1,h2⟩:=j_ r1;cases h1.int;cases h2.int;exact⟨⟨(jj hc.1).1,(jj hc.1).2,jj hc.2⟩,hq _ S1 s1 (i6 _ _) λ _ _=>trivial⟩
  .cases e2
 .cases e2
noncomputable def wQ (is:List Nat) (g:T->Ev->Option Ev) (b:Sm):List T->Ev->Option Out
 | [],J=>some (.nx (yM is J))
 | y::ys,J=>(g y (yM is J)).bind fun J1=>(b J1).bind λ o=>match o with
  | .nx J2=>wQ is g b ys J2
  | .ct J2=>wQ is g b ys J2
  | .bk J2=>some (.nx (yM is J2))
  | .rt t=>some (.rt t)
@[simp] noncomputable def xt (is:List Nat) (f:Ev->Option (List T)) (g:T->Ev->Option Ev) (b:Sm):Sm:=fun J=>(f J).bind λ ts=>wQ is g b ts J
def gS {is:List Nat}{fi:Ev->Option (List T)}{ti:wH}{g:T->Ev->Option Ev}{tg:xG}{b:Sm}{tb:yz} [Lo R] (hi:tu true fi ti) (hg:lH g tg) (hb:yk R b tb):yk R (xt is fi g b) (m_ ti tg tb):=λ S0 Z0 S Z Y J o E F e P=>by
 obtain⟨ts,e1,e2⟩:=zOb e;refine hi S Z Y J ts _ F.er e1 λ I S1 s1 r1 hk=>?_;rw[if_pos rfl] at hk;obtain⟨SB,b1,FB,b2⟩:=(F.grow s1).rebase;have lo:∀ S' d y,R SB S' Z0 y d->R S0 S' Z0 y d:=λ S' d y r=>Lo.lo b1 (λ _ z=>z) r;have zz:=F.zz;refine⟨λ i Y' S'=>∃ Z' J',FR SB Z0 S' Z' Y' J'/\wQ is g b (ts.drop i) J'=some o,⟨Z,J,FB,e2⟩,λ i Y' S' ⟨Z',J',F',_⟩=>hk S' (b2.trans F'.sx),λ i d Y' S' hd ⟨Z',J',F',e'⟩=>?_,fun Y' S' ⟨Z',J',F',e'⟩=>?_⟩
 .obtain⟨y,hy,r2⟩:=r1.mH hd;have hlt:=(zA2.mp hy).1;have hdt:ts.drop i=y::ts.drop (i+1):=by
   rw[List.drop_eq_getElem_cons hlt,(zA2.mp hy).2]
  rw[hdt] at e';unfold wQ at e';obtain⟨J1,g1,e'⟩:=zOb e';obtain⟨o1,g2,e'⟩:=zOb e';refine hg SB Z0 S' Z' Y' _ J1 y d _ (F'.yM is) (Sn.sx (F'.V7 b2 zz) y r2) g1 fun Y2 F2=>?_
  refine hb SB Z0 S' Z' Y2 J1 o1 _ F2 g2 ?_;cases o1 with
  | nx J2=>exact λ S3 Z3 Y3 F3=>⟨Z3,J2,F3,e'⟩
  | ct J2=>exact λ S3 Z3 Y3 F3=>⟨Z3,J2,F3,e'⟩
  | bk J2=>cases e';exact λ S3 Z3 Y3 F3=>P S3 Z3 Y3 ((F3.yM is).back b1 F.z0)
  | rt y=>cases e';exact λ d S3 s3 r3=>P d S3 (b1.trans s3) (lo _ _ _ r3)
 .rw[show I.items.length=ts.length from r1.len,List.drop_length] at e';unfold wQ at e';cases e';exact P S' Z' Y' ((F'.yM is).back b1 F.z0)
end
@[simp] noncomputable def uI (i:Nat) (f:Ev->Option T):Sm:=fun J=>match J[i]? with
 | some (some (.own (.lst ts)))=>(f J).bind λ y=>if ts.length<sizeLine then some (.nx (J.set i (some (.own (.lst (ts++[y])))))) else none
 | _=>none
section
variable {R:Rk}{f:Ev->Option T}{te:zu}
def SV (i:Nat) (hf:vf f te):yk R (uI i f) (pd (tY (yr i) te)):=λ S0 Z0 S Z Y J o E F e P=>by
 unfold uI at e;split at e
 .rename_i ts h;obtain⟨y,e1,e2⟩:=zOb e;split at e2
  .rename_i hl;cases e2;obtain⟨p,ob,h1,h2,h3,h4⟩:=F.er.ow i _ h;obtain⟨ds,rfl⟩:∃ ds,ob=.lst ds:=by
    cases ob with
    | lst ds=>exact⟨ds,rfl⟩
    | ye _=>exact h3.elim
   replace h3:zh (zF S Z) ts ds:=h3;show tY (yr i) te Y S _;unfold tY yr;rw[h1];refine⟨⟨ds,h2⟩,hf S Z Y J y _ F.er e1 λ d S1 s1 r1=>?_⟩;dsimp only;rw[s1 _ _ h2];have F1:=F.grow s1;refine⟨by rw[h3.len];exact hl,P _ Z Y (F1.mut (us:=.lst (ts++[y])) (es:=.lst (ds++[d])) i h h1 ((zh.sx (wD s1) ts h3).append (.cons r1 .nil)))⟩
  .cases e2
 .cases e
end
def tX (pick:List (Option Nat)) (ti:wH) (g:xG) (tc:yN) (te:zu):zu:=fun Y S Q=>ti Y S λ I S1=>I.items.length<=sizeLine/\(∀ S,Sx S1 S->I.keep S)/\∀ p,S1 p=none->∃ W:Nat->SS->List D->Prop,W 0 S1 []/\
 (∀ i S S' acc,(∀ b o,b≠p->S b=some o->S' b=some o)->W i S acc->W i S' acc)/\
 (∀ i d S acc,I.items[i]?=some d->Sx S1 S->S p=some (.lst acc)->W i S acc->g d (vj pick Y) S fun Y2 S2=>pG (vj pick Y) Y2/\tc Y2 S2 λ b S3=>if b=true then te Y2 S3 λ y S4=>Sx S S4/\W (i+1) S4 (acc++[y]) else Sx S S3/\W (i+1) S3 acc)/\
 ∀ S2 acc,Sx S1 S2->S2 p=some (.lst acc)->W I.items.length S2 acc->Q (.ref p) S2
@[simp] noncomputable def oj (pick:List (Option Nat)) (J:Ev):Ev:=pick.map λ o=>o.bind λ i=>(J[i]?).join
noncomputable def sT (h:T->Option (Option T)):List T->Option (List T)
 | []=>some []
 | y::ys=>(h y).bind λ o=>(sT h ys).map λ zs=>match o with
  | some z=>z::zs
  | none=>zs
@[simp] noncomputable def qa (pick:List (Option Nat)) (g:T->Ev->Option Ev) (c:Ev->Option Bool) (f:Ev->Option T) (J:Ev) (y:T):Option (Option T):=
 (g y (oj pick J)).bind fun J2=>(c J2).bind λ b=>if b=true then (f J2).map some else some none
noncomputable def xE (pick:List (Option Nat)) (it:Ev->Option (List T)) (g:T->Ev->Option Ev) (c:Ev->Option Bool) (f:Ev->Option T):Ev->Option T:=fun J=>(it J).bind λ ts=>if ts.length<=sizeLine then (sT (qa pick g c f J) ts).map .lst else none
@[simp] noncomputable def vZ:Ev->Option Bool:=λ _=>some true
def mq:ve vZ Y9:=λ S Z Y J y Q hE e hq=>by cases e;exact hq S (.refl S)
def lI (pick:List (Option Nat)) (g:T->Ev->Option Ev) (t:xG):Prop:=∀ B S Z Y J J' y d Q,(∀ i:Nat,pick[i]?=some none->B[i]?=some none)->pG B Y->Y.length=J.length->ER S Z Y J->Sn (zF S Z) y d->g y J=some J'->
 (∀ Y',ER S Z Y' J'->pG B Y'->Y'.length=J'.length->Q Y' S)->t d Y S Q
def jF (pick:List (Option Nat)) (g:List T->Ev->Option Ev) (t:vc):Prop:=∀ B S Z Y J J' y d Q,(∀ i:Nat,pick[i]?=some none->B[i]?=some none)->pG B Y->Y.length=J.length->ER S Z Y J->zh (zF S Z) y d->g y J=some J'->
 (∀ Y',ER S Z Y' J'->pG B Y'->Y'.length=J'.length->Q Y' S)->t d Y S Q
def ER.tE {S:SS}{Z:Addr->Prop}{Y:yn}{J:Ev}{y:T}{d:D}(h:ER S Z Y J) (hl:Y.length=J.length) (i:Nat) (r:Sn (zF S Z) y d):ER S Z (Y.set i (some d)) (J.set i (some (.im y))):=by
 refine⟨h.zd,λ j t e=>?_,λ j ts e=>?_⟩
 .rcases y7 e with ⟨rfl,hl',e⟩ | ⟨n,e⟩
  .cases e;exact⟨d,sP (by rw[hl];exact hl'),r⟩
  .rw[xM n];exact h.im j t e
 .rcases y7 e with ⟨rfl,hl',e⟩ | ⟨n,e⟩
  .cases e
  .rw[xM n];exact h.ow j ts e
variable {pick:List (Option Nat)}
def mj (i:Nat) (hi:pick[i]?=some none:=by rfl):lI pick (zy i) (hName i):=λ B S Z Y J J' y d Q hB hs hl hE r e hq=>by
 cases e;refine hq _ (hE.tE hl i r) ⟨by rw[List.length_set];exact hs.1,λ j c q=>?_⟩ (by simp[hl]);by_cases hj:i=j
 .subst hj;rw[hB i hi] at q;cases q
 .rw[xM hj];exact hs.2 j c q
def Rh:jF pick vn fW:=λ B S Z Y J J' y d Q hB hs hl hE r e hq=>by
 cases y with
 | nil=>simp only[zh] at r;subst r;cases e;exact⟨rfl,hq _ hE hs hl⟩
 | cons _ _=>cases e
def Ri {g:T->Ev->Option Ev}{h:List T->Ev->Option Ev}{t:xG}{u:vc}(hg:lI pick g t) (hh:jF pick h u):jF pick (yy g h) (fX t u):=λ B S Z Y J J' y d Q hB hs hl hE r e hq=>by
 cases y with
 | nil=>cases e
 | cons y ys=>
  simp only[zh] at r;obtain⟨c,cs,rfl,r1,r2⟩:=r;obtain⟨J1,e1,e2⟩:=zOb e;exact hg B S Z Y J J1 y c _ hB hs hl hE r1 e1 fun Y1 E1 s1 l1=>hh B S Z Y1 J1 J' ys cs Q hB s1 l1 E1 r2 e2 hq
def Rj {n:Nat}{g:List T->Ev->Option Ev}{t:vc}(hg:jF pick g t):lI pick (wM n g) (jk n t):=λ B S Z Y J J' y d Q hB hs hl hE r e hq=>by
 cases y with
 | tup ys=>
  simp only[Sn] at r;obtain⟨ds,rfl,r⟩:=r;simp only[wM] at e;split at e
  .rename_i hn;exact⟨by rw[r.len];exact hn,hg B S Z Y J J' ys ds Q hB hs hl hE r e hq⟩
  .cases e
 | zj=>cases e
 | bl _=>cases e
 | int _=>cases e
 | str _=>cases e
 | lst _=>cases e
 | zN=>cases e
def aB {J:Ev}{i:Nat}{w:W}(h:(oj pick J)[i]?=some (some w)):∃ j:Nat,pick[i]?=some (some j)/\J[j]?=some (some w):=by
 unfold oj at h;rw[zA3] at h;cases q:pick[i]? with
 | none=>rw[q] at h;cases h
 | some o=>
  rw[q] at h;cases o with
  | none=>simp at h
  | some j=>
   simp only[Option.map_some,zC9,Option.some.injEq] at h;refine⟨j,rfl,?_⟩;cases q2:J[j]? with
   | none=>rw[q2] at h;cases h
   | some o2=>rw[q2] at h;simp only[Option.join_some] at h;rw[h]
def aD {Y:yn}{i j:Nat}{d:D}(h:pick[i]?=some (some j)) (h':Y[j]?=some (some d)):(vj pick Y)[i]?=some (some d):=by
 unfold vj;rw[zA3,h];simp[h']
def ER.aC {S:SS}{Z:Addr->Prop}{Y:yn}{J:Ev}(h:ER S Z Y J):ER S Z (vj pick Y) (oj pick J):=by
 refine⟨h.zd,λ i t e=>?_,λ i ts e=>?_⟩
 .obtain⟨j,h1,h2⟩:=aB e;obtain⟨d,h3,h4⟩:=h.im j t h2;exact⟨d,aD h1 h3,h4⟩
 .obtain⟨j,h1,h2⟩:=aB e;obtain⟨p,ds,h3,h4⟩:=h.ow j ts h2;exact⟨p,ds,aD h1 h3,h4⟩
def ER.hide {S S':SS}{Z:Addr->Prop}{Y:yn}{J:Ev}{p:Addr}(h:ER S Z Y J) (s:Sx S S') (hp:S p=none) (hp':S' p≠none):ER S' (λ a=>Z a\/a=p) Y J:=by
 refine⟨λ a z q=>?_,λ i t e=>?_,λ i ts e=>?_⟩
 .rcases z with z | rfl
  .exact h.zd a z (s.none q)
  .exact hp' q
 .obtain⟨d,h1,h2⟩:=h.im i t e;exact⟨d,h1,Sn.sx (qX s hp) t h2⟩
 .obtain⟨q,ds,h1,h2,h3,h4⟩:=h.ow i ts e;exact⟨q,ds,h1,s _ _ h2,tq.sx (qX s hp) h3,.inl h4⟩
def kX {it:Ev->Option (List T)}{ti:wH}{g:T->Ev->Option Ev}{tg:xG}{c:Ev->Option Bool}{tc:yN}{f:Ev->Option T}{te:zu}{b:Bool}(hi:tu b it ti) (hg:lI pick g tg) (hc:ve c tc) (hf:vf f te):
  xi (xE pick it g c f) (tX pick ti tg tc te):=λ S Z Y J y Q hE e hq=>by
 obtain⟨ts,e1,e2⟩:=zOb e;split at e2
 case isFalse=>cases e2
 rename_i hlen;obtain⟨zs,e3,rfl⟩:=zOm e2;refine hi S Z Y J ts _ hE e1 λ I S1 s1 r1 hk=>⟨by rw[r1.len];exact hlen,λ S' s'=>hk S' ?_,λ p hp=>?_⟩
 .cases b
  .exact s'
  .exact (tM _ _).trans s'
 have E1:=hE.grow s1;have nz:¬ Z p:=λ z=>E1.zd p z hp;refine⟨λ i S' acc=>∃ us ws,zh (zF S' λ a=>Z a\/a=p) us acc/\sT (qa pick g c f J) (ts.drop i)=some ws/\zs=us++ws,⟨[],zs,.nil,e3,rfl⟩,λ i S' S'' acc hh ⟨us,ws,h1,h2⟩=>⟨us,ws,zh.sx (λ a o q=>?_) us h1,h2⟩,λ i d S2 acc hd s2 hacc ⟨us,ws,h1,h2,h3⟩=>?_,λ S2 acc s2 hacc ⟨us,ws,h1,h2,h3⟩=>?_⟩
 .obtain⟨q1,q2⟩:=vA q;rw[wV q1];exact hh a o (λ z=>q1 (.inr z)) q2
 .obtain⟨x,hx,rx⟩:=r1.mH hd;have hlt:=(zA2.mp hx).1;have hdt:ts.drop i=x::ts.drop (i+1):=by rw[List.drop_eq_getElem_cons hlt,(zA2.mp hx).2]
  rw[hdt] at h2;unfold sT at h2;obtain⟨o,o1,h2⟩:=zOb h2;obtain⟨ws',o2,rfl⟩:=zOm h2;have E2:=(E1.hide s2 hp (by rw[hacc];nofun)).aC (pick:=pick);unfold qa at o1;obtain⟨J2,g1,o1⟩:=zOb o1;obtain⟨bb,g2,o1⟩:=zOb o1;refine hg (vj pick Y) S2 _ _ _ J2 x d _ (λ j hj=>?_) ⟨rfl,λ _ _ q=>q⟩ (by unfold vj oj;simp) E2 (Sn.sx (qX s2 hp) x rx) g1 fun Y2 E3 l3 _=>⟨l3,?_⟩
  .unfold vj;rw[zA3,hj];rfl
  refine hc S2 _ Y2 J2 bb _ E3 g2 λ S3 s3=>?_;split at o1
  .rename_i hb;rw[if_pos hb];obtain⟨z,g3,rfl⟩:=zOm o1;refine hf S3 _ Y2 J2 z _ (E3.grow s3) g3 λ dz S4 s4 r4=>⟨s3.trans s4,us++[z],ws',?_,o2,by rw[h3];simp⟩;exact (zh.sx (wD (s3.trans s4)) us h1).append (.cons r4 .nil)
  .rename_i hb;rw[if_neg hb];cases o1;exact⟨s3,us,ws',zh.sx (wD s3) us h1,o2,h3⟩
 .rw[show I.items.length=ts.length from r1.len,List.drop_length] at h2;cases h2;rw[List.append_nil] at h3;subst h3;refine hq _ S2 (s1.trans s2) ⟨?_,λ vs e=>?_⟩
  .simp only[Sn];exact⟨acc,.inr ⟨p,rfl,by rw[wV nz];exact hacc⟩,zh.sx (tN λ a z=>.inl z) zs h1⟩
  .cases e;exact⟨p,acc,rfl,s1.none hp,hacc,h1⟩
mutual
noncomputable def plainT:T->Bool
 | .tup ts=>va ts
 | .lst _=>false
 | .zN=>false
 | _=>true
noncomputable def va:List T->Bool
 | []=>true
 | t::ts=>plainT t&&va ts
end
mutual
theorem gC {S S':SS}:∀ (t:T) {d:D},plainT t=true->Sn S t d->Sn S' t d
 | .zj,d,_,q=>by simpa only [Sn] using q
 | .bl b,d,_,q=>by simpa only [Sn] using q
 | .int i,d,_,q=>by simpa only [Sn] using q
 | .str x,d,_,q=>by simpa only [Sn] using q
 | .tup ts,d,h,q=>by
  simp only[Sn] at q ⊢;obtain⟨ds,q1,q2⟩:=q;exact⟨ds,q1,qL ts (by simpa only [plainT] using h) q2⟩
 | .lst ts,d,h,q=>by simp only[plainT] at h;cases h
 | .zN,d,h,q=>by simp only[plainT] at h;cases h
theorem qL {S S':SS}:∀ (ts:List T) {ds:List D},va ts=true->zh S ts ds->zh S' ts ds
 | [],ds,_,q=>by simpa only [zh] using q
 | t::ts,ds,h,q=>by
  simp only[va,zE5] at h;simp only[zh] at q ⊢;obtain⟨c,cs,q1,q2,q3⟩:=q;exact⟨c,cs,q1,gC t h.1 q2,qL ts h.2 q3⟩
end
class Sr (R:Rk):Prop extends Lo R where
 sn:∀ {S S':SS}{Z:Addr->Prop}{y:T}{d:D},R S S' Z y d->Sn (zF S' Z) y d
instance:Sr vw:=⟨λ h=>h⟩
instance:Sr zJ:=⟨λ h=>h.1⟩
def yi (R:Rk) (F:List T->Option T):sX:=λ ds S Q=>∃ Z ys y,(∀ a,Z a->S a≠none)/\zh (zF S Z) ys ds/\F ys=some y/\∀ d S',Sx S S'->R S S' Z y d->Q d S'
def yi.mo {R:Rk}{F:List T->Option T}:dA (yi R F):=λ _ _ _ _ hq ⟨Z,ys,y,h1,h2,h3,h4⟩=>⟨Z,ys,y,h1,h2,h3,λ d S' s r=>hq _ _ (h4 d S' s r)⟩
def tK {R:Rk} [Lo R] {F:List T->Option T}{g:Ev->Option (List T)}{u:yv}(h:qx g u):xy R (zv F g) (eP (yi R F) u):=λ S Z Y J y Q hE e hq=>by
 obtain⟨xs,e1,e2⟩:=zOb e;refine h S Z Y J xs _ hE e1 λ ds S1 s1 r1=>?_;exact⟨Z,xs,y,(hE.grow s1).zd,r1,e2,λ d S' s r=>hq d S' (s1.trans s) (Cl.cl s1 r)⟩
@[simp] noncomputable def tB (N:List Str) (ys:List T):Ev:=ys.map (λ y=>some (.im y))++List.replicate (N.length-ys.length) none
@[simp] noncomputable def gO:Option Out->Option T
 | some (.rt y)=>some y
 | some (.nx _)=>some .zj
 | _=>none
@[simp] noncomputable def yc (N:List Str) (n:Nat) (g:Sm):List T->Option T:=λ ys=>if ys.length=n then gO (g (tB N ys)) else none
theorem yi.len {R:Rk}{N:List Str}{n:Nat}{g:Sm}{ds:List D}{S:SS}{Q:DK}(hs:yi R (yc N n g) ds S Q):ds.length=n:=by
 obtain⟨Z,ys,y,hz,r,e,hq⟩:=hs;unfold yc at e;split at e
 .rename_i h;rw[r.len];exact h
 .cases e
def bC {N:List Str}{ds:List D}{i:Nat}{d:D}(h:ds[i]?=some d):(uO N ds)[i]?=some (some d):=by
 have hi:=(zA2.mp h).1;unfold uO;rw[List.getElem?_append_left (by simpa using hi),zA3,h];rfl
def rG {N:List Str}{ys:List T}{i:Nat}{w:W}(h:(tB N ys)[i]?=some (some w)):∃ y,ys[i]?=some y/\w=.im y:=by
 unfold tB at h;have hi:i<ys.length:=by
  rcases Nat.lt_or_ge i ys.length with q | q
  .exact q
  .rw[List.getElem?_append_right (by simpa using q),List.getElem?_replicate] at h;split at h <;> cases h
 rw[List.getElem?_append_left (by simpa using hi),zA3] at h;cases q:ys[i]? with
 | none=>rw[q] at h;cases h
 | some y=>rw[q] at h;cases h;exact⟨y,rfl,rfl⟩
def NB {R:Rk} [Lo R] {N:List Str}{n:Nat}{g:Sm}{t:yz}(h:yk R g t) {ds:List D}{S:SS}{Q:DK}(hs:yi R (yc N n g) ds S Q):t { nx:=λ _ S'=>Q .zj S',rt:=Q } (uO N ds) S:=by
 obtain⟨Z,ys,y,hz,r,e,hq⟩:=hs;unfold yc at e;split at e
 case isFalse=>cases e
 obtain⟨o,e1,e2⟩:∃ o,g (tB N ys)=some o/\gO (some o)=some y:=by
  cases q:g (tB N ys) with
  | none=>rw[q] at e;cases e
  | some o=>exact⟨o,rfl,by rw[<- q];exact e⟩
 refine h S Z S Z _ _ o _ ⟨⟨hz,λ i t e=>?_,λ i ts e=>?_⟩,?_,.refl S,hz,λ _ z=>z,λ _ z=>.inl z,λ i ts p e _=>?_,λ i j ts us p _ e _ _ _=>?_⟩ e1 ?_
 .obtain⟨y',h1,h2⟩:=rG e;cases h2;obtain⟨d,h3,h4⟩:=r.jn h1;exact⟨d,bC h3,h4⟩
 .obtain⟨y',h1,h2⟩:=rG e;cases h2
 .unfold uO tB;have:=r.len;simp[this]
 .obtain⟨y',h1,h2⟩:=rG e;cases h2
 .obtain⟨y',h1,h2⟩:=rG e;cases h2
 .cases o with
  | rt y'=>cases e2;exact λ d S' s r=>hq d S' s r
  | nx J'=>
   cases e2;exact λ S' Z' Y' F=>hq .zj S' F.sx (Cl.of (λ _=>nofun) kz)
  | bk _=>cases e2
  | ct _=>cases e2
noncomputable def xD (kvs:List (Key×T)) (k:Key):Option T:=(kvs.find? λ kv=>decide (kv.1=k)).map (·.2)
noncomputable def ur (kvs:List (Key×T)) (k:Key) (v:T):List (Key×T):=
 if (kvs.any λ kv=>decide (kv.1=k))=true then kvs.map (λ kv=>if kv.1=k then (kv.1,v) else kv) else kvs++[(k,v)]
section
variable {S:SS}
theorem yG.len:∀ {a:List (Key×T)}{b:List (Key×D)},yG S a b->b.length=a.length
 | [],_,h=>by cases h;rfl
 | (k,t)::r,_,h=>by
  obtain⟨d,m,rfl,_,h2⟩:=h;simp[yG.len h2]
theorem yG.val:∀ {a:List (Key×T)}{b:List (Key×D)}(k:Key),yG S a b->(xD a k=none/\uk b k=none)\/∃ t d,xD a k=some t/\uk b k=some d/\Sn S t d
 | [],_,k,h=>by cases h;exact .inl ⟨rfl,rfl⟩
 | (j,t)::r,_,k,h=>by
  obtain⟨d,m,rfl,h1,h2⟩:=h;by_cases e:j=k
  .subst e;exact .inr ⟨t,d,by simp[xD],by simp[uk],h1⟩
  .rcases yG.val k h2 with ⟨g1,g2⟩ | ⟨t',d',g1,g2,g3⟩
   .exact .inl ⟨by simpa [xD,e] using g1,by simpa [uk,e] using g2⟩
   .exact .inr ⟨t',d',by simpa [xD,e] using g1,by simpa [uk,e] using g2,g3⟩
theorem yG.any:∀ {a:List (Key×T)}{b:List (Key×D)}(k:Key),yG S a b->(b.any λ kv=>decide (kv.1=k))=a.any λ kv=>decide (kv.1=k)
 | [],_,k,h=>by cases h;rfl
 | (j,t)::r,_,k,h=>by
  obtain⟨d,m,rfl,h1,h2⟩:=h;rw[List.any_cons,List.any_cons,yG.any k h2]
theorem yG.tG {k:Key}{t:T}{d:D}(r:Sn S t d):∀ {a:List (Key×T)}{b:List (Key×D)},yG S a b->yG S (a.map λ kv=>if kv.1=k then (kv.1,t) else kv) (b.map λ kv=>if kv.1=k then (kv.1,d) else kv)
 | [],_,h=>by cases h;rfl
 | (j,u)::a,_,h=>by
  obtain⟨e,m,rfl,h1,h2⟩:=h;rw[zA6,zA6];by_cases q:j=k
  .rw[if_pos q,if_pos q];exact⟨d,_,rfl,r,yG.tG r h2⟩
  .rw[if_neg q,if_neg q];exact⟨e,_,rfl,h1,yG.tG r h2⟩
theorem yG.snoc {k:Key}{t:T}{d:D}(r:Sn S t d):∀ {a:List (Key×T)}{b:List (Key×D)},yG S a b->yG S (a++[(k,t)]) (b++[(k,d)])
 | [],_,h=>by cases h;exact⟨d,[],rfl,r,rfl⟩
 | (j,u)::a,_,h=>by
  obtain⟨e,m,rfl,h1,h2⟩:=h;exact⟨e,_,rfl,h1,yG.snoc r h2⟩
def yG.put {a:List (Key×T)}{b:List (Key×D)}(h:yG S a b) (k:Key) {t:T}{d:D}(r:Sn S t d):yG S (ur a k t) (putD b k d):=by
 unfold ur putD;rw[h.any k];split
 .exact yG.tG r h
 .exact yG.snoc r h
end
@[simp] noncomputable def YD (i:Nat):Sm:=fun J=>some (.nx (J.set i (some (.own (.ye [])))))
@[simp] noncomputable def eL (i:Nat) (f:Ev->Option T):Ev->Option T:=fun J=>(f J).bind λ y=>match J[i]?,y with
 | some (some (.own (.ye kvs))),.int k=>xD kvs (.inl k)
 | _,_=>none
@[simp] noncomputable def YE (i:Nat) (f g:Ev->Option T):Ev->Option T:=fun J=>(f J).bind λ y=>(g J).bind λ z=>match J[i]?,y with
 | some (some (.own (.ye kvs))),.int k=>some ((xD kvs (.inl k)).getD z)
 | _,_=>none
@[simp] noncomputable def YC (i:Nat) (f v:Ev->Option T):Sm:=fun J=>(v J).bind λ z=>(f J).bind λ y=>match J[i]?,y with
 | some (some (.own (.ye kvs))),.int k=>if kvs.length<sizeLine then some (.nx (J.set i (some (.own (.ye (ur kvs (.inl k) z)))))) else none
 | _,_=>none
@[simp] noncomputable def eK (i:Nat):Ev->Option T:=fun J=>match J[i]? with
 | some (some (.own (.ye kvs)))=>some (.int kvs.length)
 | _=>none
def kP {S:SS}{Z:Addr->Prop}{Y:yn}{J:Ev}(hE:ER S Z Y J) {i:Nat}{kvs:List (Key×T)}(h:J[i]?=some (some (.own (.ye kvs)))):∃ p b,Y[i]?=some (some (.ref p))/\S p=some (.ye b)/\yG (zF S Z) kvs b:=by
 obtain⟨p,o,h1,h2,h3,_⟩:=hE.ow i _ h;cases o with
 | ye b=>exact⟨p,b,h1,h2,h3⟩
 | lst _=>exact h3.elim
section
variable {R:Rk}{f g v:Ev->Option T}{ty tx tv:zu}
def SN (i:Nat):yk R (YD i) (uG eN (hName i)):=λ S0 Z0 S Z Y J o E F e P=>by
 cases e;intro p hp;exact P _ _ _ (F.i9 (ts:=.ye []) (ds:=.ye []) (.new hp _) i hp t7 rfl)
def Zj (i:Nat) (hf:yf f ty):vf (eL i f) (YV (yr i) ty):=λ S Z Y J y Q hE e hq=>by
 obtain⟨x,e1,e2⟩:=zOb e;split at e2
 .rename_i kvs k h;obtain⟨p,b,h1,h2,h3⟩:=kP hE h;show yr i Y S _;unfold yr;rw[h1];refine hf S Z Y J _ _ hE e1 λ d S1 s1 r1=>?_;cases Vw.int r1;rcases (yG.sx (wD s1) h3).val (.inl k) with ⟨g1,_⟩ | ⟨t,d,g1,g2,g3⟩
  .rw[g1] at e2;cases e2
  .rw[g1] at e2;cases e2;exact⟨p,b,k,d,rfl,rfl,s1 _ _ h2,g2,hq d S1 s1 g3⟩
 .cases e2
def Zl (i:Nat) (hf:yf f ty) (hg:vf g tx):vf (YE i f g) (YU (yr i) ty tx):=λ S Z Y J y Q hE e hq=>by
 obtain⟨x,e1,e⟩:=zOb e;obtain⟨z,e2,e3⟩:=zOb e;split at e3
 .rename_i kvs k h;cases e3;obtain⟨p,b,h1,h2,h3⟩:=kP hE h;show yr i Y S _;unfold yr;rw[h1];refine⟨p,rfl,⟨b,h2⟩,hf S Z Y J _ _ hE e1 λ d S1 s1 r1=>?_⟩;cases Vw.int r1;refine hg S1 Z Y J z _ (hE.grow s1) e2 λ dz S2 s2 r2=>⟨k,b,rfl,(s1.trans s2) _ _ h2,?_⟩;rcases (yG.sx (wD (s1.trans s2)) h3).val (.inl k) with ⟨g1,g2⟩ | ⟨t,d,g1,g2,g3⟩
  .rw[g2];rw[g1] at hq;exact hq _ S2 (s1.trans s2) r2
  .rw[g2];rw[g1] at hq;exact hq _ S2 (s1.trans s2) g3
 .cases e3
def SM (i:Nat) (hf:yf f ty) (hv:vf v tv):yk R (YC i f v) (YT (yr i) ty tv):=λ S0 Z0 S Z Y J o E F e P=>by
 obtain⟨z,e1,e⟩:=zOb e;obtain⟨x,e2,e3⟩:=zOb e;split at e3
 .rename_i kvs k h;split at e3
  .rename_i hl;cases e3;refine hv S Z Y J z _ F.er e1 λ dz S1 s1 r1=>?_;have F1:=F.grow s1;obtain⟨p,b,h1,h2,h3⟩:=kP F1.er h;show yr i Y S1 _;unfold yr;rw[h1];refine hf S1 Z Y J _ _ F1.er e2 λ d S2 s2 r2=>?_;cases Vw.int r2;have h4:=yG.sx (wD s2) h3;exact⟨p,b,k,rfl,rfl,s2 _ _ h2,by rw[h4.len];exact hl,P _ Z Y ((F1.grow s2).mut (us:=.ye (ur kvs (.inl k) z)) (es:=.ye (putD b (.inl k) dz)) i h h1 (h4.put _ (Sn.sx (wD s2) z r1)))⟩
  .cases e3
 .cases e3
def RT (i:Nat):xi (eK i) (xY Yy (ph (yr i) jy)):=λ S Z Y J y Q hE e hq=>by
 unfold eK at e;split at e
 .rename_i kvs h;cases e;obtain⟨p,b,h1,h2,h3⟩:=kP hE h;show yr i Y S _;unfold yr;rw[h1];refine⟨p,b,rfl,h2,?_⟩;rw[h3.len];exact hq _ S (.refl S) (Cl.of (λ _=>nofun) wN)
 .cases e
end
@[simp] noncomputable def uz (f:Ev->Option T):Ev->Option T:=fun J=>(f J).bind λ x=>match x with
 | .int i=>some (.int (-i))
 | _=>none
def YO (ta:zu):zu:=fun Y S Q=>ta Y S λ x S1=>match x with
 | .int i=>Q (.int (-i)) S1
 | _=>False
def oA {f:Ev->Option T}{te:zu}(h:yf f te):xi (uz f) (YO te):=λ S Z Y J y Q hE e hq=>by
 obtain⟨x,e1,e2⟩:=zOb e;refine h S Z Y J x _ hE e1 λ d S1 s1 r1=>?_;split at e2
 .cases Vw.int r1;cases e2;exact hq _ S1 s1 (Cl.of (λ _=>nofun) wN)
 .cases e2
def PB:uh zJ mz Yx:=Yi
def Pz:uh zJ qR Yw:=Yi
noncomputable def u7:List T->Option (List Int)
 | []=>some []
 | .int i::ts=>(u7 ts).map (i::·)
 | _::_=>none
noncomputable def uq:List T->Option (List (List Int))
 | []=>some []
 | .tup r::ts=>(u7 r).bind λ x=>(uq ts).map (x::·)
 | _::_=>none
noncomputable def yq (r:List Int):T:=.tup (r.map T.int)
theorem mC:∀ {ts:List T}{is:List Int},u7 ts=some is->ts=is.map T.int
 | [],is,h=>by cases h;rfl
 | .int b::ts,is,h=>by
  unfold u7 at h;obtain⟨cs,h1,rfl⟩:=zOm h;rw[zA6,<- mC h1]
 | .zj::ts,bs,h=>by cases h
 | .bl _::ts,bs,h=>by cases h
 | .str _::ts,bs,h=>by cases h
 | .tup _::ts,bs,h=>by cases h
 | .lst _::ts,bs,h=>by cases h
theorem gr:∀ {ts:List T}{rs:List (List Int)},uq ts=some rs->ts=rs.map yq
 | [],is,h=>by cases h;rfl
 | .tup r::ts,is,h=>by
  unfold uq at h;obtain⟨x,h1,h⟩:=zOb h;obtain⟨cs,h2,rfl⟩:=zOm h;rw[zA6,<- gr h2,mC h1];rfl
 | .zj::ts,bs,h=>by cases h
 | .bl _::ts,bs,h=>by cases h
 | .str _::ts,bs,h=>by cases h
 | .int _::ts,bs,h=>by cases h
 | .lst _::ts,bs,h=>by cases h
def Ya (is:List Int):u7 (is.map T.int)=some is:=by
 induction is with
 | nil=>rfl
 | cons b bs ih=>rw[zA6];unfold u7;rw[ih];rfl
def gs (rs:List (List Int)):uq (rs.map yq)=some rs:=by
 induction rs with
 | nil=>rfl
 | cons b bs ih=>
  show uq (.tup (b.map T.int)::bs.map yq)=_;unfold uq;rw[Ya,ih];rfl
theorem sC {S:SS}:∀ {is:List Int}{ds:List D},zh S (is.map T.int) ds↔ds=is.map D.int
 | [],ds=>by simp only[List.map_nil,zh]
 | i::is,ds=>by
  rw[zA6];simp only[zh,Sn];constructor
  .rintro⟨c,cs,rfl,rfl,h⟩;rw[sC.mp h];rfl
  .rintro rfl;exact⟨.int i,_,rfl,rfl,sC.mpr rfl⟩
theorem pY {S:SS}:∀ {rs:List (List Int)}{ds:List D},zh S (rs.map yq) ds↔ds=rs.map w6
 | [],ds=>by simp only[List.map_nil,zh]
 | r::rs,ds=>by
  rw[zA6];simp only[zh,yq,Sn];constructor
  .rintro⟨c,cs,rfl,⟨es,rfl,h1⟩,h⟩;rw[pY.mp h,sC.mp h1];rfl
  .rintro rfl;exact⟨w6 r,_,rfl,⟨_,rfl,sC.mpr rfl⟩,pY.mpr rfl⟩
@[simp] noncomputable def bx:T->String
 | .zj=>"NoneType"
 | .bl _=>"bool"
 | .int _=>"int"
 | .str _=>"str"
 | .tup _=>"tuple"
 | .lst _=>"list"
 | .zN=>"dict"
@[simp] noncomputable def instS (ty:String) (f:Ev->Option T):Ev->Option T:=fun J=>(f J).map λ x=>.bl (v9 (bx x) ty)
def Zh {ty:String}{f:Ev->Option T}{te:zu}(hf:yf f te):xi (instS ty f) (oU ty te):=λ S Z Y J y Q hE e hq=>by
 obtain⟨x,e1,rfl⟩:=zOm e;refine hf S Z Y J x _ hE e1 λ d S1 s1 r1=>?_;have key:rB d S1=some (bx x):=by
  cases x with
  | zj=>cases Vw.zj r1;rfl
  | bl _=>cases Vw.bl r1;rfl
  | int _=>cases Vw.int r1;rfl
  | str _=>cases Vw.str r1;rfl
  | tup _=>obtain⟨ds,rfl,_⟩:=Vw.tup r1;rfl
  | lst _=>
   obtain⟨ds,rfl | ⟨a,rfl,h1⟩,h2⟩:=Vw.lst r1
   .rfl
   .unfold rB;dsimp only;rw[h1];rfl
  | zN=>
   obtain⟨a,kvs,rfl,h1⟩:=Vw.zN r1;unfold rB;dsimp only;rw[h1];rfl
 rw[key];exact hq _ S1 s1 (Cl.of (λ _=>nofun) wc)
@[simp] noncomputable def isNone:T->Bool
 | .zj=>true
 | _=>false
noncomputable def oK:D->Bool
 | .zj=>true
 | _=>false
noncomputable def zk (p:Int×Int):T:=.tup [.int p.1,.int p.2]
noncomputable def zR (ns:List Int):T:=.lst (ns.map .int)
@[simp] theorem zaa:sizeLine=16777216:=rfl
def Q4 {n:Nat}(h:n<=10000):n<=sizeLine:=zE0 h (by decide)
def vv {α:Type}{xs:List α}{k:Nat}{x:α}(h:xs[k]?=some x):L2.z_ xs (k:Int)=some x:=by
 unfold L2.z_ L2.wR;have hk:=(zA2.mp h).1;rw[if_pos (by omega),if_pos (by omega)];simpa using h
@[simp] theorem nj {α:Type}{xs:List α}{x:α}:L2.z_ (xs++[x]) (-1)=some x:=by
 unfold L2.z_ L2.wR;rw[if_neg (by omega),if_pos (by simp;omega)];have:(-1+((xs++[x]).length:Int)).toNat=xs.length:=by simp;omega
 rw[zC9,this];simp
@[simp] theorem zai {α:Type}{x:α}{xs:List α}:L2.z_ (x::xs) 0=some x:=vv (k:=0) rfl
@[simp] theorem zah {α:Type}{x y:α}{xs:List α}:L2.z_ (x::y::xs) 1=some y:=vv (k:=1) rfl
@[simp] theorem zag {α:Type}{x y z:α}{xs:List α}:L2.z_ (x::y::z::xs) 2=some z:=vv (k:=2) rfl
@[simp] theorem zaf {α:Type}{x y z w:α}{xs:List α}:L2.z_ (x::y::z::w::xs) 3=some w:=vv (k:=3) rfl
theorem eR {α:Type}(enc:α->T) (g:α->Option T) (h:T->Option (Option T)):∀ (xs:List α),(∀ x∈xs,h (enc x)=some (g x))->sT h (xs.map enc)=some (xs.filterMap g)
 | [],_=>rfl
 | x::xs,hh=>by
  rw[zA6];unfold sT;rw[hh x zMc,eR enc g h xs λ y hy=>hh y (zMo _ hy)];cases q:g x <;> simp[q]
def OW {α:Type}(enc:α->T) (g:α->T) (h:T->Option (Option T)) (xs:List α) (hh:∀ x∈xs,h (enc x)=some (some (g x))):sT h (xs.map enc)=some (xs.map g):=by
 rw[eR enc (λ x=>some (g x)) h xs hh];simp
def sL {α:Type}(enc:α->T) (h:α->T) {pick:List (Option Nat)}{it:Ev->Option (List T)}{g:T->Ev->Option Ev}{c:Ev->Option Bool}{f:Ev->Option T}{J:Ev}(xs:List α) (hi:it J=some (xs.map enc)) (hl:xs.length<=16777216)
  (hh:∀ x∈xs,qa pick g c f J (enc x)=some (some (h x))):xE pick it g c f J=some (.lst (xs.map h)):=by
 unfold xE;rw[hi,zC9,if_pos (by rw[zA7];exact hl),OW enc h _ xs hh];rfl
def m5 {α:Type}(enc:α->T) (h:α->Option T) {pick:List (Option Nat)}{it:Ev->Option (List T)}{g:T->Ev->Option Ev}{c:Ev->Option Bool}{f:Ev->Option T}{J:Ev}(xs:List α) (hi:it J=some (xs.map enc)) (hl:xs.length<=16777216)
  (hh:∀ x∈xs,qa pick g c f J (enc x)=some (h x)):xE pick it g c f J=some (.lst (xs.filterMap h)):=by
 unfold xE;rw[hi,zC9,if_pos (by rw[zA7];exact hl),eR enc h _ xs hh];rfl
section
variable {α:Type}{is:List Nat}{g:T->Ev->Option Ev}{b:Sm}
noncomputable def turn (g:T->Ev->Option Ev) (b:Sm) (y:T) (J:Ev):Option Out:=(g y J).bind b
theorem fE (y:T) (ys:List T) (J:Ev):wQ is g b (y::ys) J=(turn g b y (yM is J)).bind λ o=>match o with
  | .nx J2=>wQ is g b ys J2
  | .ct J2=>wQ is g b ys J2
  | .bk J2=>some (.nx (yM is J2))
  | .rt t=>some (.rt t):=by
 unfold turn;rw[wQ];cases g y (yM is J) <;> rfl
theorem u5 (enc:α->T) (test:α->Bool) (v:T) (J0:Ev):∀ (xs:List α) (J:Ev),yM is J=J0->(∀ x∈xs,∃ J',yM is J'=J0/\turn g b (enc x) J0=some (if test x=true then .rt v else .nx J'))->wQ is g b (xs.map enc) J=some (if xs.any test=true then .rt v else .nx J0)
 | [],J,h,_=>by rw[List.map_nil,wQ,h];rfl
 | x::xs,J,h,hs=>by
  obtain⟨J',h1,h2⟩:=hs x zMc;rw[zA6,fE,h,h2,List.any_cons];cases q:test x with
  | true=>simp
  | false=>
   have ih:=u5 enc test v J0 xs J' h1 λ y hy=>hs y (zMo _ hy);simpa using ih
theorem Z2 (enc:α->T) (I:List α->Ev->Prop):∀ (xs:List α) (pre:List α) (J:Ev),I pre (yM is J)->
  (∀ p x q,pre++xs=p++x::q->∀ J,I p J->∃ J',turn g b (enc x) J=some (.nx J')/\I (p++[x]) (yM is J'))->∃ J',wQ is g b (xs.map enc) J=some (.nx J')/\I (pre++xs) J'
 | [],pre,J,h,_=>⟨yM is J,by rw[List.map_nil,wQ],by simpa using h⟩
 | x::xs,pre,J,h,hs=>by
  obtain⟨J',h1,h2⟩:=hs pre x xs rfl _ h;rw[zA6,fE,h1];have ih:=Z2 enc I xs (pre++[x]) J' h2 λ p y q e=>hs p y q (by rw[<- e];simp);simpa using ih
def u0 (enc:α->T) (I:List α->Ev->Prop) (xs:List α) (J:Ev) (h:I [] (yM is J))
  (hs:∀ p x q,xs=p++x::q->∀ J,I p J->∃ J',turn g b (enc x) J=some (.nx J')/\I (p++[x]) (yM is J')):∃ J',wQ is g b (xs.map enc) J=some (.nx J')/\I xs J':=Z2 enc I xs [] J h hs
end
def rM (n:Nat) (h:n<=100000):uQ [.int (n:Int)]=some ((List.range n).map λ(k:Nat)=>T.int (0+(k:Int))):=by
 show (if inR (n:Int)=true then some (rangeT 0 (n:Int).toNat) else none)=_;rw[if_pos (ji.mpr ⟨by omega,by omega⟩)];rfl
def VR (a n:Nat) (h:a<=100000) (h':n<=100000):nN [.int (a:Int),.int (n:Int)]=some ((List.range (n-a)).map λ(k:Nat)=>T.int ((a:Int)+(k:Int))):=by
 show (if inR (a:Int)=true/\inR (n:Int)=true then some (rangeT a ((n:Int)-a).toNat) else none)=_;rw[if_pos ⟨ji.mpr ⟨by omega,by omega⟩,ji.mpr ⟨by omega,by omega⟩⟩,show ((n:Int)-a).toNat=n-a by omega];rfl
def qB (a:Key) (b:T) (kvs:List (Key×T)) (j:Key):xD ((a,b)::kvs) j=if a=j then some b else xD kvs j:=by
 by_cases h:a=j <;> simp[xD,h]
theorem bj (k j:Key) (d:T):∀ kvs:List (Key×T),xD (kvs.map λ kv=>if kv.1=k then (kv.1,d) else kv) j=(xD kvs j).map λ x=>if j=k then d else x
 | []=>rfl
 | (a,b)::kvs=>by
  have ih:=bj k j d kvs;rw[zA6];by_cases hk:a=k
  .rw[if_pos hk,qB,qB,ih];by_cases hj:a=j
   .subst hj;subst hk;simp
   .rw[if_neg hj,if_neg hj]
  .rw[if_neg hk,qB,qB,ih];by_cases hj:a=j
   .subst hj;simp[hk]
   .rw[if_neg hj,if_neg hj]
theorem bh (k j:Key) (d:T):∀ kvs:List (Key×T),(∀ kv∈kvs,¬ kv.1=k)->xD (kvs++[(k,d)]) j=if j=k then some d else xD kvs j
 | [],_=>by
  show xD [(k,d)] j=_;rw[qB];by_cases h:j=k
  .subst h;simp
  .rw[if_neg h,if_neg (λ z=>h z.symm)]
 | (a,b)::kvs,hn=>by
  have ih:=bh k j d kvs λ kv hkv=>hn kv (zMo _ hkv);have ha:¬ a=k:=hn (a,b) zMc;show xD ((a,b)::(kvs++[(k,d)])) j=_;rw[qB,qB,ih];by_cases hj:a=j
  .subst hj;simp[ha]
  .rw[if_neg hj,if_neg hj]
def Xw (kvs:List (Key×T)) (k:Key):(kvs.any λ kv=>decide (kv.1=k))=(xD kvs k).isSome:=by
 unfold xD;rw[Option.isSome_map,zC7,zD0,List.find?_isSome]
def ke (kvs:List (Key×T)) (k j:Key) (d:T):xD (ur kvs k d) j=if j=k then some d else xD kvs j:=by
 unfold ur;split
 .rename_i h;rw[Xw] at h;rw[bj];by_cases hj:j=k
  .subst hj;obtain⟨x,hx⟩:=Option.isSome_iff_exists.mp h;simp[hx]
  .simp[hj]
 .rename_i h;exact bh k j d kvs λ kv hkv z=>h (zD0.mpr ⟨kv,hkv,decide_eq_true z⟩)
def Z9 (kvs:List (Key×T)) (k:Key) (d:T):(ur kvs k d).length=if (xD kvs k).isSome=true then kvs.length else kvs.length+1:=by
 have e:=Xw kvs k;unfold ur;rw[e];split <;> simp
noncomputable def vO (p:Int×Int):List Int:=[p.1,p.2]
noncomputable def sy (ps:List (Int×Int)):List (Int×Int):=(L4.xW (ps.map vO)).map λ r=>(r.getD 0 0,r.getD 1 0)
def bG (ps:List (Int×Int)):(sy ps).map vO=L4.xW (ps.map vO):=by
 unfold sy;rw[zD6]
 conv=>rhs;rw[<- List.map_id (L4.xW (ps.map vO))]
 refine List.map_congr_left λ r hr=>?_;obtain⟨p,_,rfl⟩:=zB0.mp ((L4.uP _).mem_iff.mp hr);rfl
def i4 (ps:List (Int×Int)):(sy ps).Perm ps:=by
 have h:=L4.uP (ps.map vO);have:(sy ps).Perm ((ps.map vO).map λ r=>(r.getD 0 0,r.getD 1 0)):=h.map _
 rwa [zD6,show ((λ r:List Int=>(r.getD 0 0,r.getD 1 0)) ∘ vO)=id from rfl,List.map_id] at this
def oG (p q:Int×Int):Prop:=p.1<q.1\/(p.1=q.1/\p.2<=q.2)
def bF (ps:List (Int×Int)):(sy ps).Pairwise oG:=by
 have h:=L4.i3 (ps.map vO);rw[<- bG,List.pairwise_map] at h;refine h.imp λ{p q} hpq=>?_;unfold vO at hpq;rw[HT.rZ,HT.rZ] at hpq;unfold oG;by_cases e:q.1=p.1
 .rw[if_pos e] at hpq;by_cases e2:q.2=p.2
  .omega
  .rw[if_neg e2] at hpq;have:=of_decide_eq_false hpq;omega
 .rw[if_neg e] at hpq;have:=of_decide_eq_false hpq;omega
def VP (ps:List (Int×Int)):uq (ps.map zk)=some (ps.map vO):=by
 have:=gs (ps.map vO)
 rwa [zD6,show yq ∘ vO=zk from rfl] at this
noncomputable def wF (q p:Int×Int):Bool:=decide (p.1<=q.1)&&decide (p.2<=q.2)
noncomputable def zK (ps:List (Int×Int)) (q:Int×Int):Bool:=ps.any (wF q)
def yE {ps:List (Int×Int)}{q:Int×Int}:zK ps q=true↔∃ p∈ps,p.1<=q.1/\p.2<=q.2:=by
 unfold zK wF;simp[zD0]
def OO {ps qs:List (Int×Int)}(h:ps.Perm qs) (q:Int×Int):zK ps q=zK qs q:=by
 rw[zC7,yE,yE];exact⟨λ⟨p,h1,h2⟩=>⟨p,h.mem_iff.mp h1,h2⟩,λ⟨p,h1,h2⟩=>⟨p,h.mem_iff.mpr h1,h2⟩⟩
def OQ (ps qs:List (Int×Int)) (q:Int×Int):zK (ps++qs) q=(zK ps q||zK qs q):=by
 unfold zK;rw[List.any_append]
def vx (ps:List (Int×Int)):Prop:=ps.Pairwise λ p q=>p.1<q.1/\q.2<p.2
theorem vx.eq:∀ {ps qs:List (Int×Int)},vx ps->vx qs->(∀ q,zK ps q=zK qs q)->ps=qs
 | [],[],_,_,_=>rfl
 | [],q::qs,_,_,h=>by
  have:=h q;rw[show zK [] q=false from rfl] at this;have h2:zK (q::qs) q=true:=yE.mpr ⟨q,zMc,zC6 _,zC6 _⟩;rw[h2] at this;cases this
 | p::ps,[],_,_,h=>by
  have:=h p;rw[show zK [] p=false from rfl] at this;have h2:zK (p::ps) p=true:=yE.mpr ⟨p,zMc,zC6 _,zC6 _⟩;rw[h2] at this;cases this
 | p::ps,q::qs,hp,hq,h=>by
  have hp1:=List.pairwise_cons.mp hp;have hq1:=List.pairwise_cons.mp hq;have a1:∃ r∈q::qs,r.1<=p.1/\r.2<=p.2:=yE.mp (by rw[<- h];exact yE.mpr ⟨p,zMc,zC6 _,zC6 _⟩);have a2:∃ r∈p::ps,r.1<=q.1/\r.2<=q.2:=yE.mp (by rw[h];exact yE.mpr ⟨q,zMc,zC6 _,zC6 _⟩);obtain⟨r,hr,r1,r2⟩:=a1;obtain⟨u,hu,u1,u2⟩:=a2;have qr:q.1<=r.1:=by
   rcases zA5.mp hr with e | e
   .subst e;exact zC6 _
   .exact Int.le_of_lt (hq1.1 r e).1
  have pu:p.1<=u.1:=by
   rcases zA5.mp hu with e | e
   .subst e;exact zC6 _
   .exact Int.le_of_lt (hp1.1 u e).1
  have e1:p.1=q.1:=by omega
  have er:r=q:=by
   rcases zA5.mp hr with e | e
   .exact e
   .have:=(hq1.1 r e).1;omega
  have eu:u=p:=by
   rcases zA5.mp hu with e | e
   .exact e
   .have:=(hp1.1 u e).1;omega
  subst er eu;have e2:u.2=r.2:=by omega
  have epq:u=r:=Prod.ext e1 e2;subst epq;rw[vx.eq hp1.2 hq1.2 λ x=>?_];have hx:=h x;unfold zK at hx ⊢;rw[List.any_cons,List.any_cons] at hx;cases g:wF x u with
  | false=>rw[g] at hx;simpa using hx
  | true=>
   have gx:u.1<=x.1/\u.2<=x.2:=by simpa [wF] using g
   have key:∀ {l:List (Int×Int)},(∀ v∈l,u.1<v.1/\v.2<u.2)->l.any (wF x)=l.any (wF (x.1,u.2-1)):=by
    intro l hl;rw[zC7,zD0,zD0];constructor
    .rintro⟨v,hv,hg⟩;have:=hl v hv;have hg':v.1<=x.1/\v.2<=x.2:=by simpa [wF] using hg
     exact⟨v,hv,by simp[wF];omega⟩
    .rintro⟨v,hv,hg⟩;have:=hl v hv;have hg':v.1<=x.1/\v.2<=u.2-1:=by simpa [wF] using hg
     exact⟨v,hv,by simp[wF];omega⟩
   rw[key hp1.1,key hq1.1];have hy:=h (x.1,u.2-1);unfold zK at hy;rw[List.any_cons,List.any_cons] at hy;have gn:wF (x.1,u.2-1) u=false:=by
    unfold wF;rw[show decide (u.2<=(x.1,u.2-1).2)=false from decide_eq_false (by show ¬ u.2<=u.2-1;omega),Bool.and_false]
   rw[gn] at hy;simpa using hy
noncomputable def t_ (l:Option Int) (x:Int):Bool:=match l with
 | none=>true
 | some m=>decide (x<m)
noncomputable def yW:List (Int×Int)->Option Int->List (Int×Int)
 | [],_=>[]
 | p::ps,l=>if t_ l p.2=true then p::yW ps (some p.2) else yW ps l
noncomputable def vo (ps:List (Int×Int)):List (Int×Int):=yW (sy ps) none
theorem mE:∀ (ps:List (Int×Int)) (l:Option Int) (q:Int×Int),q∈yW ps l->q∈ps/\∀ m,l=some m->q.2<m
 | [],l,q,h=>by simp[yW] at h
 | p::ps,l,q,h=>by
  unfold yW at h;split at h
  .rename_i c;have hm:∀ m,l=some m->p.2<m:=λ m e=>by subst e;simpa [t_] using c
   rcases zA5.mp h with e | e
   .subst e;exact⟨zMc,hm⟩
   .obtain⟨h1,h2⟩:=mE ps _ q e;exact⟨zMo _ h1,λ m e=>by have:=h2 _ rfl;have:=hm m e;omega⟩
  .obtain⟨h1,h2⟩:=mE ps _ q h;exact⟨zMo _ h1,h2⟩
theorem fY:∀ (ps:List (Int×Int)) (l:Option Int),ps.Pairwise oG->vx (yW ps l)
 | [],l,_=>by simp[yW,vx]
 | p::ps,l,h=>by
  have h1:=List.pairwise_cons.mp h;unfold yW;split
  .refine List.pairwise_cons.mpr ⟨λ q hq=>?_,fY ps _ h1.2⟩;obtain⟨g1,g2⟩:=mE ps _ q hq;have:=h1.1 q g1;have:=g2 _ rfl;unfold oG at *;omega
  .exact fY ps _ h1.2
theorem fZ:∀ (ps:List (Int×Int)) (l:Option Int),ps.Pairwise oG->∀ p∈ps,(∃ q∈yW ps l,q.1<=p.1/\q.2<=p.2)\/∃ m,l=some m/\m<=p.2
 | [],l,_,p,hp=>by cases hp
 | r::ps,l,h,p,hp=>by
  have h1:=List.pairwise_cons.mp h;unfold yW;split
  .rename_i c;rcases zA5.mp hp with e | e
   .subst e;exact .inl ⟨p,zMc,zC6 _,zC6 _⟩
   .rcases fZ ps (some r.2) h1.2 p e with ⟨q,q1,q2⟩ | ⟨m,e1,e2⟩
    .exact .inl ⟨q,zMo _ q1,q2⟩
    .cases e1;have:=h1.1 p e;unfold oG at this;exact .inl ⟨r,zMc,by omega,e2⟩
  .rename_i c;rcases zA5.mp hp with e | e
   .subst e;cases l with
    | none=>simp[t_] at c
    | some m=>exact .inr ⟨m,rfl,by simpa [t_] using c⟩
   .exact fZ ps l h1.2 p e
def fK (ps:List (Int×Int)):vx (vo ps):=fY _ _ (bF ps)
def Q9 {ps:List (Int×Int)}{q:Int×Int}(h:q∈vo ps):q∈ps:=(i4 ps).mem_iff.mp (mE _ _ q h).1
def oE (ps:List (Int×Int)) (q:Int×Int):zK (vo ps) q=zK ps q:=by
 rw[<- OO (i4 ps) q,zC7,yE,yE];constructor
 .rintro⟨p,h1,h2⟩;exact⟨p,(mE _ _ p h1).1,h2⟩
 .rintro⟨p,h1,h2⟩;rcases fZ (sy ps) none (bF ps) p h1 with ⟨r,r1,r2⟩ | ⟨m,e,_⟩
  .exact⟨r,r1,by omega,by omega⟩
  .cases e
end L5
namespace L2
open PySem PySem.Spec PyProof.Rows
section
variable {X:Cx}
def ax (K:zFr):R2:=λ x y H Q=>∃ l b xs zs,x=.ref l/\y=.ref b/\zV K H l xs/\zV K H b zs/\xs.length+zs.length<=sizeLine/\∀ p,H p=none->Q (.ref p) (upd H p (.lst (xs++zs)))
def Sz:yp X (binaryOp .Add) (ax X.K):=by
 intro pins s B H x y v u Q I rx ry h;obtain⟨l,b,xs,zs,rfl,rfl,hH,hB,hz,q⟩:=h;cases rx;cases ry;obtain⟨its,r,p1,_⟩:=I.list hH;obtain⟨its2,r2,p2,_⟩:=I.list hB;obtain⟨⟨cls,dd,data,sl⟩,ho,hc,n,hd⟩:=p1.isList;obtain⟨⟨cls2,dd2,data2,sl2⟩,ho2,hc2,n2,hd2⟩:=p2.isList;simp only at hc hd hc2 hd2;subst hc hd hc2 hd2;have e:its.toArray++its2.toArray=(its++its2).toArray:=by simp
 refine concat_meets ⟨_,ho,rfl⟩ ⟨_,ho2,rfl⟩ noFill_list_add seq_list_add PySem.F.slot_list_add PySem.F.entry_list_add (PySem.F.args_list_add_2 _ _) (list_addW l b its.toArray its2.toArray n n2 dd dd2 sl sl2 (by rw[zA0,zA0,<- r.length,<- r2.length];exact hz)) ⟨ho,ho2,?_⟩;rw[e];exact⟨.ref _,_,I.Q2 (t':=s.toks) (r.append r2) (by rw[zD7];omega),rfl,q _ I.fresh⟩
def av (K:zFr):R2:=λ x y H Q=>∃ a b ys,x=.ref a/\y=.ref b/\ya K H a []/\ya K H b ys/\Q (.ref b) H
def Sv:yp X (binaryOp .Add) (av X.K):=by
 intro pins s B H x y v u Q I rx ry h;obtain⟨l,b,ys,rfl,rfl,hH,hB,q⟩:=h;cases rx;cases ry;obtain⟨its,r,p1,_⟩:=I.tuple hH;obtain⟨its2,r2,p2,_⟩:=I.tuple hB;obtain⟨⟨cls,dd,data,sl⟩,ho,hc,n,hd⟩:=id p1;obtain⟨⟨cls2,dd2,data2,sl2⟩,ho2,hc2,n2,hd2⟩:=id p2;simp only at hc hd hc2 hd2;subst hc hd hc2 hd2;exact concat_meets ⟨_,ho,rfl⟩ ⟨_,ho2,rfl⟩ noFill_tuple_add seq_tuple_add PySem.F.slot_tuple_add PySem.F.entry_tuple_add (PySem.F.args_tuple_add_2 _ _)
   (tuple_addW0 l b its.toArray its2.toArray n n2 dd dd2 sl sl2 (by cases r;rfl)) ⟨ho,ho2,⟨.ref b,H,I,rfl,q⟩⟩
end
end L2
namespace L5
open PySem PySem.Spec L2 L3
open PyProof.Rows hiding St
section
variable {X:Cx}{K:zFr}{a b c e:Expr}{es:List Expr}{ta tb tc te:zu}{tA:yv}{pos p:Pos}
def uD.mo:xU uD:=λ x y S Q Q' hq h=>by
 cases x with
 | zj=>exact h
 | bl _=>exact h
 | int i=>cases y <;> first | exact hq _ _ h | exact h
 | str i=>cases y <;> first | exact⟨h.1,hq _ _ h.2⟩ | exact h
 | tup i=>cases y <;> first | exact⟨h.1,hq _ _ h.2⟩ | exact h
 | yO ds=>
  unfold uD at h ⊢;dsimp only at h ⊢;split at h
  .exact⟨h.1,h.2.1,λ r hr=>hq _ _ (h.2.2 r hr)⟩
  .exact h.elim
 | ref q=>
  unfold uD at h ⊢;dsimp only at h ⊢;split at h
  .exact⟨h.1,h.2.1,λ r hr=>hq _ _ (h.2.2 r hr)⟩
  .exact h.elim
def rJ {H:Hp}{S:SS}{d:D}{v:V}{ds:List D}(r:zi K H d v) (p:zO K H S) (e:zM d S=some ds) (n:∀ ts,d≠.tup ts):∃ a xs,v=.ref a/\zV K H a xs/\zo K H ds xs:=by
 unfold zM at e;split at e
 .exact absurd rfl (n _)
 .cases e;simp only[zi] at r;obtain⟨a,xs,h1,h2,h3⟩:=r;exact⟨a,xs,h1,h2.sq,h3⟩
 .split at e
  .rename_i q;cases e;simp only[zi] at r;subst r;obtain⟨xs,h1,h2⟩:=p _ _ q;exact⟨_,xs,rfl,zV.of h1,h2⟩
  .cases e
 .cases e
abbrev az (K:zFr):R2:=λ x y H Q=>vi (λ i j=>.int (i+j)) x y H Q\/((∃ i j,x=.str i/\y=.str j/\i.length+j.length<=sizeLine/\Q (.str (i++j)) H)\/(ax K x y H Q\/(av K x y H Q\/aw K x y H Q)))
def uD.fits:xI K uD (az K):=λ x y d e H S Q h1 h2 h3 h=>by
 have lst:(∀ ts,d≠.tup ts)->(match zM d S,zM e S with
  | some ds,some es=>(∀ ts,e≠.tup ts)/\ds.length+es.length<=sizeLine/\∀ r,S r=none->wX K H Q (.ref r) (ups S r (.lst (ds++es)))
  | _,_=>False)->az K x y H Q:=λ n h=>by
  split at h
  .rename_i ds es q1 q2;obtain⟨a,xs,rfl,g1,g2⟩:=rJ h1 h3 q1 n;obtain⟨b,ys,rfl,g3,g4⟩:=rJ h2 h3 q2 h.1;refine .inr (.inr (.inl ⟨a,b,xs,ys,rfl,rfl,g1,g3,by rw[<- g2.length,<- g4.length];exact h.2.1,λ p hp=>?_⟩));exact h.2.2 p (h3.none hp) _ _ (by simp only[zi]) (.new hp _) (h3.ups (.new hp _) ⟨_,yS,zo.ext (.new hp _) _ (g2.append g4)⟩)
  .exact h.elim
 cases d with
 | zj=>exact h.elim
 | bl _=>exact h.elim
 | int i=>
  cases e with
  | int j=>
   simp only[zi] at h1 h2;exact .inl ⟨_,_,h1,h2,h _ H (by simp only[zi]) (.refl H) h3⟩
  | zj=>exact h.elim
  | bl _=>exact h.elim
  | str _=>exact h.elim
  | tup _=>exact h.elim
  | yO _=>exact h.elim
  | ref _=>exact h.elim
 | str i=>
  cases e with
  | str j=>
   simp only[zi] at h1 h2;exact .inr (.inl ⟨_,_,h1,h2,h.1,h.2 _ H (by simp only[zi]) (.refl H) h3⟩)
  | zj=>exact h.elim
  | bl _=>exact h.elim
  | int _=>exact h.elim
  | tup _=>exact h.elim
  | yO _=>exact h.elim
  | ref _=>exact h.elim
 | tup ds=>
  cases e with
  | tup es=>
   have h1':=h1;have h2':=h2;simp only[zi] at h1 h2;obtain⟨a,xs,rfl,g1,g2⟩:=h1;obtain⟨b,ys,rfl,g3,g4⟩:=h2;have hl:=g2.length;have hl':=g4.length;by_cases hx:xs=[]
   .subst hx;have:ds=[]:=by cases ds <;> simp_all
    subst this;exact .inr (.inr (.inr (.inl ⟨a,b,ys,rfl,rfl,g1,g3,h.2 _ H h2' (.refl H) h3⟩)))
   .refine .inr (.inr (.inr (.inr ⟨a,b,xs,ys,rfl,rfl,g1,g3,hx,by rw[<- hl,<- hl'];exact h.1,λ hy=>?_,λ hy p hp=>?_⟩)))
    .subst hy;have:es=[]:=by cases es <;> simp_all
     subst this;refine h.2 _ H ?_ (.refl H) h3;rw[List.append_nil];exact h1'
    .refine h.2 _ _ ?_ (.new hp _) (h3.new hp);simp only[zi];exact⟨p,_,rfl,ya.of yS,zo.ext (.new hp _) _ (g2.append g4)⟩
  | zj=>exact h.elim
  | bl _=>exact h.elim
  | int _=>exact h.elim
  | str _=>exact h.elim
  | yO _=>exact h.elim
  | ref _=>exact h.elim
 | yO ds=>exact lst (λ _=>nofun) h
 | ref q=>exact lst (λ _=>nofun) h
def xR (ha:PD X a ta) (hb:PD X b tb):PD X (.BinOp a .Add b pos) (yg uD ta tb):=oz (S8.or (S7.or (Sz.or (Sv.or Sy)))) uD.fits uD.mo ha hb
def tS.mo {g:List Bool->Bool}:ug (tS g):=λ ds S Q Q' hq h=>by
 unfold tS at h ⊢;split at h
 .exact h.elim
 .obtain⟨bs,h1,h2⟩:=h;exact⟨bs,h1,hq _ _ h2⟩
 .exact h.elim
def tS.fits {g:List Bool->Bool}:tw K (tS g) (λ xs H Q=>∃ p,∃ bs:List Bool,xs=[.ref p]/\zV K H p (bs.map V.bl)/\Q (.bl (g bs)) H):=λ xs ds H S Q h0 h2 h=>by
 unfold tS at h;split at h
 .exact h.elim
 .rename_i d hn;obtain⟨x,hx,h1⟩:=h0.one;subst hx;obtain⟨bs,e,h⟩:=h;obtain⟨a,ys,rfl,g1,g2⟩:=rJ h1 h2 e (λ ts z=>hn ts z);rw[g2.bools] at g1;exact⟨a,bs,rfl,g1,h _ H (by simp only[zi]) (.refl H) h2⟩
 .exact h.elim
def TR (hm:X.mg "all"=none) (ha:wa X (e::es) tA) (hc:X.calm=true:=by rfl) (hg:Gl X "all":=by rfl) (he:starEach (e::es) X.env=(false,eval e X.env)::starEach es X.env:=by rfl) (hpl:(backTo pos (starEach es X.env)).any (·.1)=false:=by rfl):PD X (.Call (.Name "all" p) (e::es) [] pos) (xY (tS λ bs=>bs.all id) tA):=
 sF (rO (N3 hc) hg hm boot_all ha.pa (by decide) (by decide) he hpl) tS.mo tS.fits ha.mo
def ZR {H:Hp}{d:D}{v:V}(r:zi K H d v):decide (v=.zj)=oK d:=by
 cases d with
 | zj=>simp only[zi] at r;subst r;rfl
 | bl _=>simp only[zi] at r;subst r;rfl
 | int _=>simp only[zi] at r;subst r;rfl
 | str _=>simp only[zi] at r;subst r;rfl
 | tup _=>simp only[zi] at r;obtain⟨a,xs,rfl,_⟩:=r;rfl
 | yO _=>simp only[zi] at r;obtain⟨a,xs,rfl,_⟩:=r;rfl
 | ref _=>simp only[zi] at r;subst r;rfl
def sG (ha:PD X a ta):PD X (.UnaryOp .USub a pos) (YO ta):=by
 refine⟨fun Y S Q Q' hq h=>ha.mo Y S _ _ (λ x S1 z=>by
  cases x <;> first
   | exact hq _ _ z
   | exact z) h,PE.imp (UR W6 ha.pe) fun B H Q hu=>?_⟩
 obtain⟨Y,S,r1,r2,h⟩:=hu;refine zS.go ha.mo r1 r2 h λ x S1 v H1 h1 q1 e1 p1=>?_;cases x with
 | int i=>simp only[zi] at q1;exact⟨i,q1,h1 _ H1 (by simp only[zi]) e1 p1⟩
 | zj=>exact h1.elim
 | bl _=>exact h1.elim
 | str _=>exact h1.elim
 | tup _=>exact h1.elim
 | yO _=>exact h1.elim
 | ref _=>exact h1.elim
section
variable {N':List Str}{pick:List (Option Nat)}{scope:Scope}{tg elt iter:Expr}{ifs:List Expr}{ti:wH}{g:xG}{tcc:yN}
def tX.mo (hi:jH ti):ym (tX pick ti g tcc te):=fun Y S Q Q' hq z=>hi Y S _ _ (λ I S1 ⟨h1,h2,h3⟩=>⟨h1,h2,λ p hp=>by
 obtain⟨W,w0,w1,w2,w3⟩:=h3 p hp;exact⟨W,w0,w1,w2,λ S2 acc a b c=>hq _ _ (w3 S2 acc a b c)⟩⟩) z
def bp (hi:jH ti) (hg:jI g) (hc:vg tcc) (he:ym te) {B:St}{H:Hp}{Q:VK}(hu:zS K (tX pick ti g tcc te) B H Q):iu pick (wY K ti) (kg K g) (wK K tcc) (zS K te) B H Q:=by
 obtain⟨Y,S,r1,r2,z⟩:=hu;refine⟨Y,S,r1,r2,hi Y S _ _ (λ I S1 hF J H1 e1 p1 rep D hD=>?_) z⟩;obtain⟨hlen,hk,hF⟩:=hF;have hS1:S1 D=none:=p1.none hD;obtain⟨W,w0,wm,wstep,wfin⟩:=hF D hS1;refine⟨λ i m B H2=>m=I.items.length-i/\i<=I.items.length/\Ext H1 H2/\yY K H2 (vj pick Y) B/\∃ S2 acc,zO K H2 S2/\Sx S1 S2/\S2 D=some (.lst acc)/\acc.length<=i/\W i S2 acc,⟨_,rfl,zD4 _,.new hD _,((r1.ext e1).pick pick).ext (.new hD _),ups S1 D (.lst []),[],?_,.new hS1 _,t7,zA4 _,?_⟩,?_⟩
 .exact p1.ups (.new hD _) ⟨[],yS,.nil⟩
 .exact wm 0 S1 _ [] (λ b o hb q=>by rw[um hb];exact q) w0
 rintro i m B2 H2 ⟨rfl,hi',x2,q1,S2,acc,q2,sx,hS2,hacc,hW⟩;obtain⟨g1,g2⟩:=rep i H2 S2 x2 q2 (hk S2 sx);by_cases hl:i<I.items.length
 .have hd:I.items[i]?=some I.items[i]:=by simp[hl]
  obtain⟨go,yl⟩:=g1 _ hd;refine .inr ⟨go,λ x H3 hy=>?_⟩;obtain⟨x3,p3,d3⟩:=yl x H3 hy;refine⟨_,_,S2,d3,q1.ext x3,p3,hg _ _ S2 _ _ (fun Y4 S4 z4 B4 H4 a1 a2 a3=>?_) (wstep i _ S2 acc hd sx hS2 hW)⟩;obtain⟨hle,z4⟩:=z4;refine wK.go hc a1 a3 z4 λ b S5 H5 z5 x5 p5=>wU (λ z5=>?_) (λ z5=>?_) z5
  .refine zS.go he (a1.ext x5) p5 z5 λ y S6 v H6 z6 q6 x6 p6=>?_;obtain⟨s6,hW6⟩:=z6;obtain⟨ys,h6,r6⟩:=p6 _ _ (s6 _ _ hS2);have e6:Ext H6 (upd H6 D (.lst (ys++[v]))):=.lst h6 _;have hlen2:ys.length<=i:=by rw[<- r6.length];exact hacc
   refine⟨ys,I.items.length-(i+1),h6,by omega,by omega,rfl,hl,((((x2.trans x3).trans a2).trans x5).trans x6).trans e6,hle.rep ((a1.ext (x5.trans x6)).ext e6),ups S6 D (.lst (acc++[y])),acc++[y],?_,λ b o hb=>?_,t7,by simp;omega,?_⟩
   .exact p6.ups e6 ⟨_,yS,zo.ext e6 _ (r6.snoc q6)⟩
   .rw[um (by intro q;subst q;rw[hS1] at hb;cases hb)];exact s6 _ _ (sx _ _ hb)
   .exact wm _ S6 _ _ (λ b o hb q=>by rw[um hb];exact q) hW6
  .obtain⟨s5,hW5⟩:=z5;exact⟨I.items.length-(i+1),by omega,rfl,hl,((x2.trans x3).trans a2).trans x5,hle.rep (a1.ext x5),S5,acc,p5,sx.trans s5,s5 _ _ hS2,by omega,hW5⟩
 .have e:i=I.items.length:=by omega
  subst e;exact .inl ⟨g2 (zA4 _),wfin S2 acc sx hS2 hW _ H2 (by simp only[zi]) (e1.trans x2) q2⟩
def rV (Sc:pS X N' pick scope) (hc:X.calm=true) (hi:sZ X tg iter ti) (hg:∀ cl C s H fp,qv (xf X N' scope cl C s H fp) tg g) (hf:∀ cl C s H fp,jC (xf X N' scope cl C s H fp) ifs tcc) (he:∀ cl C s H fp,PD (xf X N' scope cl C s H fp) elt te)
  (hs:∀ x,foldedSetIterable iter X.env x=pure x:=by intro _;rfl):
  PD X (.ListComp elt [⟨tg,iter,ifs,0⟩] scope pos) (tX pick ti g tcc te):=
 ⟨tX.mo hi.mo,λ pins s B H Q I hu=>Tb (g:=kg X.K g) (tc:=wK X.K tcc) (te:=zS X.K te) Sc hc hi.pi (λ cl C s H fp=>(hg cl C s H fp).pg) (λ cl C s H fp=>(hf cl C s H fp).pf) (λ cl C s H fp=>(he cl C s H fp).pe) hs pins s B H Q I (bp hi.mo (hg [] 0 s H []).mo (hf [] 0 s H []).mo (he [] 0 s H []).mo hu)⟩
def ot {i:Nat}{y:Str}{py spos:Pos}(Sc:pS X N' pick scope) (hc:X.calm=true) (hi:sZ X tg iter ti) (hg:∀ cl C s H fp,qv (xf X N' scope cl C s H fp) tg g) (hf:∀ cl C s H fp,jC (xf X N' scope cl C s H fp) ifs tcc) (he:∀ cl C s H fp,PD (xf X N' scope cl C s H fp) elt te)
  (hN:X.N.Nodup) (hy:X.N[i]?=some y) (hx:Loc X.env.scope y)
  (hsw:swapsWith (.ListComp elt [⟨tg,iter,ifs,0⟩] scope pos) (some (.Name y py)) spos.line X.env=pure true:=by rfl)
  (hfn:X.fn y=true\/X.env.scope.names.lookup y=some .local:=by first | exact .inl rfl | exact .inr rfl | assumption)
  (hs:∀ x,foldedSetIterable iter X.env x=pure x:=by intro _;rfl):
  uf X (.Assign [.Name y py] (.ListComp elt [⟨tg,iter,ifs,0⟩] scope pos) spos) (uG (tX pick ti g tcc te) (hName i)):=by
 refine⟨uG.mo (tX.mo hi.mo) λ _ _ _ _ _ hq z=>hq _ _ z,λ pins s B H D I hu=>Uu (g:=kg X.K g) (tc:=wK X.K tcc) (te:=zS X.K te) Sc hc hi.pi (λ cl C s H fp=>(hg cl C s H fp).pg) (λ cl C s H fp=>(hf cl C s H fp).pf) (λ cl C s H fp=>(he cl C s H fp).pe) hN hy hx hsw hfn hs pins s B H D I ?_⟩;obtain⟨Y,S,r1,r2,z⟩:=hu;refine bp hi.mo (hg [] 0 s H []).mo (hf [] 0 s H []).mo (he [] 0 s H []).mo ⟨Y,S,r1,r2,tX.mo hi.mo Y S _ _ (λ x S1 z v H1 q1 e1 p1=>?_) z⟩;exact z _ H1 ((r1.ext e1).set i q1) e1 p1
end
end
section
variable {P:Program}{w:World}{K:zFr}{mg:Str->Option Value}{base:Heap}{f:Addr}{fd:FuncData}
def PZ {R:Rk} [Lo R] {x:Str}{st:Stmt}{N ps:List Str}{k n:Nat}{g:Sm}(F:uN K x x st f fd) (Sc:yo N ps (zE st)) (hn:n=ps.length)
  (hbody:∀ (cdv:Value) (A:Around) (outer:List Env) (s:Shared) (H:Hp) (E:XK),yC k (A.deeper (envOfC x (zE st) s.heap.objs.size f cdv))->
   ∃ t,ue (u_ vh P w K mg base N x (zE st) f cdv A outer s H E).sJ (vt st) t/\yk R g t):uj P w K mg base vh (k+1) f fd ps (t8 K (yi R (yc N n g))):=
 Yo F Sc (λ ds S Q h=>by rw[h.len,hn]) λ cdv A outer s H E hr=>by
  obtain⟨t,h1,h2⟩:=hbody cdv A outer s H E hr;exact⟨t,h1,λ ds S Q h=>NB h2 h⟩
def Oe {R:Rk} [Lo R] {x:Str}{st:Stmt}{N ps:List Str}{k n:Nat}{g:Sm}(F:uN K x x st f fd) (hm:mg x=some (.ref f)) (Sc:yo N ps (zE st)) (hn:n=ps.length)
  (hb:∀ (kV doc pm:Value) (an:Option Addr) (cdv ct:Value) (us:List Value),us.length=ps.length->bindArgs (PySem.W.fnOf x x (sS st) (vt st) (zE st) .none kV doc pm an cdv ct) ⟨us,[]⟩=pure (ps.zip us))
  (hbody:∀ (cdv:Value) (A:Around) (outer:List Env) (s:Shared) (H:Hp) (E:XK),yC k (A.deeper (envOfC x (zE st) s.heap.objs.size f cdv))->
   ∃ t,ue (u_ vh P w K mg base N x (zE st) f cdv A outer s H E).sJ (vt st) t/\yk R g t):FD P w K mg base x (k+1) ps (yi R (yc N n g)):=
 ⟨⟨f,fd,PZ F Sc hn hbody,hm,F.kp,F.binds hb⟩,yi.mo⟩
end
end L5
namespace ST
open PySem PySem.SetTable
def tp (xs:List Nat):Prop:=xs.Pairwise (· < ·)
def ej {xs:Array Nat}{m d:Nat}(h:m<xs.size):xs.getD m d=xs[m]:=by simp[Array.getD,h]
theorem dg (xs:Array Nat) (j:Nat) (hr:tp xs.toList):∀ (f lo hi:Nat),hi-lo<=f->lo<=hi->hi<=xs.size->(∀ i (h:i<xs.size),i<lo->xs[i]<j)->(∀ i (h:i<xs.size),hi<=i->j<=xs[i])->
  below.go xs j f lo hi<=xs.size/\(∀ i (h:i<xs.size),i<below.go xs j f lo hi->xs[i]<j)/\∀ i (h:i<xs.size),below.go xs j f lo hi<=i->j<=xs[i]
 | 0,lo,hi,h1,h2,h3,h4,h5=>by
  unfold below.go;have:lo=hi:=by omega
  subst this;exact⟨h3,h4,h5⟩
 | f+1,lo,hi,h1,h2,h3,h4,h5=>by
  unfold below.go;have wZ:∀ i k (hi:i<xs.size) (hk:k<xs.size),i<=k->xs[i]<=xs[k]:=λ i k hi hk hik=>by
   rcases Nat.lt_or_ge i k with q | q
   .have r:=List.pairwise_iff_getElem.mp hr i k (by simpa using hi) (by simpa using hk) q;rw[Array.getElem_toList,Array.getElem_toList] at r;exact zE3 r
   .have:i=k:=by omega
    subst this;exact zA4 _
  by_cases hl:lo<hi
  .rw[if_pos hl];dsimp only;have hm:(lo+hi)/2<xs.size:=by omega
   rw[ej hm];by_cases c:xs[(lo+hi)/2]<j
   .rw[if_pos c];refine dg xs j hr f _ hi (by omega) (by omega) h3 (λ i hi' hlt=>?_) h5;have:=wZ i ((lo+hi)/2) hi' hm (by omega);omega
   .rw[if_neg c];refine dg xs j hr f lo _ (by omega) (by omega) (by omega) h4 (λ i hi' hge=>?_);have:=wZ ((lo+hi)/2) i hm hi' hge;omega
  .rw[if_neg hl];have:lo=hi:=by omega
   subst this;exact⟨h3,h4,h5⟩
def j5 {xs:Array Nat}{j:Nat}(hr:tp xs.toList):below xs j<=xs.size/\(∀ i (h:i<xs.size),i<below xs j->xs[i]<j)/\∀ i (h:i<xs.size),below xs j<=i->j<=xs[i]:=
 dg xs j hr xs.size 0 xs.size (by omega) (by omega) (zA4 _) (λ i h q=>by omega) (λ i h q=>by omega)
def below_at {xs:Array Nat}{j i:Nat}(hr:tp xs.toList) (h:xs[i]?=some j):below xs j=i:=by
 obtain⟨h1,h2,h3⟩:=j5 (j:=j) hr;obtain⟨hi,e⟩:=Array.getElem?_eq_some_iff.mp h;have a:¬ i<below xs j:=λ q=>by have:=h2 i hi q;omega
 have b:¬ below xs j<i:=λ q=>by
  have:=h3 (below xs j) (by omega) (zA4 _);have r:=List.pairwise_iff_getElem.mp hr (below xs j) i (by simp;omega) (by simpa using hi) q;simp at r;omega
 omega
def NI {xs:Array Nat}{j:Nat}(hr:tp xs.toList):(xs[below xs j]?=some j)↔j∈xs.toList:=by
 constructor
 .intro h;obtain⟨hi,e⟩:=Array.getElem?_eq_some_iff.mp h;rw[<- e];simp
 .intro h;obtain⟨i,hi,e⟩:=List.mem_iff_getElem.mp h;have hx:xs[i]?=some j:=by
   simp at hi;simp[hi] at e ⊢;exact e
  rw[below_at hr hx];exact hx
noncomputable def uJ (M:Nat) (p:Probe):Probe:=
 if p.more>0 then { p with j:=p.j+1,more:=p.more-1 } else
 let (i,perturb):=leap M p.i p.perturb
 { p with j:=i,more:=runEnd M i-i,i,perturb }
def du (t:SetTable) (p:Probe):t.advance p=uJ t.mask p:=rfl
noncomputable def og (M i perturb:Nat):Probe:={ j:=i,more:=runEnd M i-i,i:=i,perturb:=perturb,dummy:=none }
noncomputable def way (M:Nat) (h:Int):Nat->Probe
 | 0=>og M (bits h%(M+1)) (bits h)
 | k+1=>uJ M (way M h k)
def NR (M:Nat) (p:Probe) (h:p.dummy=none):(uJ M p).dummy=none:=by
 unfold uJ;split
 .exact h
 .exact h
theorem jZ (M:Nat) (h:Int):∀ k,(way M h k).dummy=none
 | 0=>rfl
 | k+1=>NR M _ (jZ M h k)
noncomputable def yb (M:Nat) (h:Int):Nat->Nat×Nat
 | 0=>(bits h%(M+1),bits h)
 | n+1=>leap M (yb M h n).1 (yb M h n).2
theorem gq (M i pt:Nat) (h:Int) (k:Nat) (hk:way M h k=og M i pt):∀ m,m<=runEnd M i-i->way M h (k+m)={ j:=i+m,more:=runEnd M i-i-m,i:=i,perturb:=pt,dummy:=none }
 | 0,_=>by rw[Nat.add_zero,hk];rfl
 | m+1,hm=>by
  have ih:=gq M i pt h k hk m (by omega);show uJ M (way M h (k+m))=_;rw[ih];unfold uJ;rw[if_pos (by show runEnd M i-i-m>0;omega)];simp only[Probe.mk.injEq];exact⟨by omega,by omega,trivial,trivial,trivial⟩
def VN (M i:Nat):runEnd M i-i<=9:=by unfold runEnd;split <;> omega
def bU (M:Nat) (h:Int) (n k:Nat) (hk:way M h k=og M (yb M h n).1 (yb M h n).2):way M h (k+(runEnd M (yb M h n).1-(yb M h n).1)+1)=og M (yb M h (n+1)).1 (yb M h (n+1)).2:=by
 have:=gq M _ _ h k hk _ (zA4 _);show uJ M (way M h (k+_))=_;rw[this];unfold uJ;rw[if_neg (by show ¬ _-_-(_-_)>0;omega)];rfl
theorem bV (M:Nat) (h:Int):∀ n,∃ k,k<=10*n/\way M h k=og M (yb M h n).1 (yb M h n).2
 | 0=>⟨0,by omega,rfl⟩
 | n+1=>by
  obtain⟨k,h1,h2⟩:=bV M h n;have:=VN M (yb M h n).1;exact⟨_,by omega,bU M h n k h2⟩
def NG (h:Int):bits h<2 ^ 64:=by
 unfold bits;have h1:=Int.emod_nonneg h (show (2 ^ 64:Int)≠0 by decide);have h2:=Int.emod_lt_of_pos h (show (0:Int)<2 ^ 64 by decide);omega
theorem aE (M:Nat) (h:Int):∀ n,(yb M h n).2*32 ^ n<=bits h
 | 0=>by simp[yb]
 | n+1=>by
  have ih:=aE M h n;show ((yb M h n).2/32)*32 ^ (n+1)<=_;have:(yb M h n).2/32*32<=(yb M h n).2:=Nat.div_mul_le_self _ _
  calc (yb M h n).2/32*32 ^ (n+1)=((yb M h n).2/32*32)*32 ^ n:=by rw[Nat.pow_succ,Nat.mul_comm (32 ^ n) 32,Nat.mul_assoc]
   _<=(yb M h n).2*32 ^ n:=Nat.mul_le_mul_right _ this
   _<=_:=ih
def UP (M:Nat) (h:Int) (n:Nat) (hn:13<=n):(yb M h n).2=0:=by
 rcases Nat.eq_zero_or_pos (yb M h n).2 with q | q
 .exact q
 .have h1:=aE M h n;have h2:=NG h;have h3:32 ^ 13<=32 ^ n:=Nat.pow_le_pow_right (by decide) hn;have h4:1*32 ^ n<=(yb M h n).2*32 ^ n:=Nat.mul_le_mul_right _ q;have h5:(2:Nat) ^ 64<32 ^ 13:=by decide
  omega
noncomputable def sI (M:Nat) (i:Nat):Nat->Nat
 | 0=>i
 | n+1=>(sI M i n*5+1)%(M+1)
theorem ZC (M:Nat) (h:Int):∀ n,(yb M h (13+n)).1=sI M (yb M h 13).1 n
 | 0=>rfl
 | n+1=>by
  have ih:=ZC M h n;have hz:=UP M h (13+n) (by omega);show ((yb M h (13+n)).1*5+1+(yb M h (13+n)).2/32)%(M+1)=_;rw[hz,ih];rfl
theorem me (M i:Nat):∀ a b,sI M i (a+b)=sI M (sI M i a) b
 | a,0=>rfl
 | a,b+1=>by
  show (sI M i (a+b)*5+1)%(M+1)=_;rw[me M i a b];rfl
noncomputable def md (M:Nat):Nat->Nat->List Nat
 | 0,_=>[]
 | n+1,i=>i::md M n ((i*5+1)%(M+1))
theorem gP (M:Nat):∀ n i x,x∈md M n i->∃ k,k<n/\sI M i k=x
 | 0,i,x,h=>by cases h
 | n+1,i,x,h=>by
  rcases zA5.mp h with e | e
  .exact⟨0,by omega,e.symm⟩
  .obtain⟨k,h1,h2⟩:=gP M n _ x e;exact⟨k+1,by omega,by rw[Nat.add_comm,me];exact h2⟩
def vL (M:Nat):Prop:=M=7\/M=31\/M=127
def TY (M:Nat) (hM:vL M):(∀ e,e<=M->e∈md M (M+1) 0)/\sI M 0 (M+1)=0:=by
 have key:∀ M,((List.range (M+1)).all λ e=>(md M (M+1) 0).contains e)=true->∀ e,e<=M->e∈md M (M+1) 0:=λ M h e he=>by
  have:=zE4.mp h e (zC1.mpr (by omega));simpa using this
 rcases hM with rfl | rfl | rfl
 .exact⟨key 7 (by decide +kernel),by decide +kernel⟩
 .exact⟨key 31 (by decide +kernel),by decide +kernel⟩
 .exact⟨key 127 (by decide +kernel),by decide +kernel⟩
def TX (M:Nat) (hM:vL M) (i e:Nat) (hi:i<=M) (he:e<=M):∃ n,n<=M/\sI M i n=e:=by
 obtain⟨h1,h2⟩:=TY M hM;obtain⟨a,a1,a2⟩:=gP M _ _ _ (h1 i hi);obtain⟨b,b1,b2⟩:=gP M _ _ _ (h1 e he);rcases Nat.lt_or_ge b a with q | q
 .refine⟨M+1+b-a,by omega,?_⟩;rw[<- a2,<- me,show a+(M+1+b-a)=(M+1)+b by omega,me,h2,b2]
 .refine⟨b-a,by omega,?_⟩;rw[<- a2,<- me,show a+(b-a)=b by omega,b2]
theorem QA (M:Nat) (h:Int):∀ n,(yb M h n).1<=M
 | 0=>by have:=Nat.mod_lt (bits h) (show 0<M+1 by omega);show bits h%(M+1)<=M;omega
 | n+1=>by
  have:=Nat.mod_lt ((yb M h n).1*5+1+(yb M h n).2/32) (show 0<M+1 by omega);show (_%(M+1):Nat)<=M;omega
def ZD (M:Nat) (hM:vL M) (h:Int) (e:Nat) (he:e<=M):∃ n,n<M+14/\(yb M h n).1=e:=by
 obtain⟨n,h1,h2⟩:=TX M hM (yb M h 13).1 e (QA M h 13) he;exact⟨13+n,by omega,by rw[ZC,h2]⟩
def Ww (M:Nat) (hM:vL M) (h:Int) (e:Nat) (he:e<=M):∃ k,k<10*(M+15)/\(way M h k).j=e:=by
 obtain⟨n,h1,h2⟩:=ZD M hM h e he;obtain⟨k,k1,k2⟩:=bV M h n;exact⟨k,by omega,by rw[k2];exact h2⟩
theorem ba (M:Nat) (h:Int):∀ k,(way M h k).j+(way M h k).more<=M/\(way M h k).i<=M
 | 0=>by
  have h1:bits h%(M+1)<=M:=by have:=Nat.mod_lt (bits h) (show 0<M+1 by omega);omega
  refine⟨?_,h1⟩;show bits h%(M+1)+(runEnd M (bits h%(M+1))-bits h%(M+1))<=M;unfold runEnd;split <;> omega
 | k+1=>by
  obtain⟨h1,h2⟩:=ba M h k;show (uJ M (way M h k)).j+(uJ M (way M h k)).more<=M/\(uJ M (way M h k)).i<=M;unfold uJ;split
  .rename_i c;exact⟨by show (way M h k).j+1+((way M h k).more-1)<=M;omega,h2⟩
  .have h3:((way M h k).i*5+1+(way M h k).perturb/32)%(M+1)<=M:=by have:=Nat.mod_lt ((way M h k).i*5+1+(way M h k).perturb/32) (show 0<M+1 by omega);omega
   refine⟨?_,h3⟩;show _%(M+1)+(runEnd M (_%(M+1))-_%(M+1))<=M;unfold runEnd;split <;> omega
def jY (M:Nat) (h:Int) (k:Nat):(way M h k).j<=M:=by have:=(ba M h k).1;omega
structure Tab (t:SetTable) (hs:List Int):Prop where
 mask:vL t.mask
 qk:t.dummies=#[]
 len:t.place.size=hs.length
 wZ:tp t.place.toList
 yu:∀ j∈t.place.toList,j<=t.mask
 nR:∀ (i:Nat) h j,hs[i]?=some h->t.place[i]?=some j->∃ k,(way t.mask h k).j=j/\∀ k'<k,(way t.mask h k').j∈t.place.toList
theorem Tab.live {t:SetTable}{hs:List Int}(T:Tab t hs) {i j:Nat}(h:t.place[i]?=some j):t.slot j=.live i:=by
 unfold SetTable.slot;dsimp only;rw[below_at T.wZ h,if_pos (by rw[h];simp)]
theorem Tab.empty {t:SetTable}{hs:List Int}(T:Tab t hs) {j:Nat}(h:j∉t.place.toList):t.slot j=.empty:=by
 unfold SetTable.slot;dsimp only;have n1:¬ (t.place[below t.place j]? == some j)=true:=λ q=>h ((NI T.wZ).mp (by simpa using q));rw[if_neg n1,if_neg (by rw[T.qk];simp[has])]
theorem Tab.at {t:SetTable}{hs:List Int}(T:Tab t hs) {j:Nat}(h:j∈t.place.toList):∃ (i:Nat) (g:Int),t.place[i]?=some j/\hs[i]?=some g:=by
 obtain⟨i,hi,e⟩:=List.mem_iff_getElem.mp h;have hi':i<t.place.size:=by simpa using hi
 refine⟨i,hs[i]'(by rw[<- T.len];exact hi'),?_,by simp⟩;rw[zB8 hi'];rw[Array.getElem_toList] at e;rw[e]
theorem Yk {t:SetTable}{hs:List Int}(T:Tab t hs) {hashAt:Nat->Int}(hA:∀ (i:Nat) g,hs[i]?=some g->hashAt i=g) (h:Int):∀ (f k:Nat),(∃ e,k<=e/\e<k+f/\(way t.mask h e).j∉t.place.toList)->
  ∃ k1,k<=k1/\(∀ m,k<=m->m<k1->∃ (i:Nat) (g:Int),t.place[i]?=some (way t.mask h m).j/\hs[i]?=some g/\g≠h)/\
   ((way t.mask h k1).j∉t.place.toList/\probe.go t hashAt h f (way t.mask h k)=some (.empty (way t.mask h k1).j none)\/
    ∃ i,t.place[i]?=some (way t.mask h k1).j/\hs[i]?=some h/\probe.go t hashAt h f (way t.mask h k)=some (.candidate (way t.mask h k1).j i (way t.mask h (k1+1))))
 | 0,k,⟨e,h1,h2,_⟩=>by omega
 | f+1,k,⟨e,h1,h2,h3⟩=>by
  by_cases hm:(way t.mask h k).j∈t.place.toList
  .obtain⟨i,g,p1,p2⟩:=T.at hm;by_cases hg:g=h
   .refine⟨k,zA4 _,λ m a b=>by omega,.inr ⟨i,p1,by rw[<- hg];exact p2,?_⟩⟩;unfold probe.go;rw[T.live p1];dsimp only;rw[hA i g p2,if_pos (by simp[hg]),du];rfl
   .have hne:e≠k:=λ q=>by subst q;exact h3 hm
    obtain⟨k1,q1,q2,q3⟩:=Yk T hA h f (k+1) ⟨e,by omega,by omega,h3⟩;have eq:probe.go t hashAt h (f+1) (way t.mask h k)=probe.go t hashAt h f (way t.mask h (k+1)):=by
     conv=>lhs;unfold probe.go
     rw[T.live p1];dsimp only;rw[hA i g p2,if_neg (by simp[hg]),du];rfl
    rw[eq];refine⟨k1,by omega,λ m a b=>?_,q3⟩;rcases Nat.eq_or_lt_of_le a with w | w
    .subst w;exact⟨i,g,p1,p2,hg⟩
    .exact q2 m w b
  .refine⟨k,zA4 _,λ m a b=>by omega,.inl ⟨hm,?_⟩⟩;unfold probe.go;rw[T.empty hm,jZ]
def Zp {xs ys:List Nat}(hx:xs.Nodup) (h:∀ x∈xs,x∈ys):xs.length<=ys.length:=by
 induction xs generalizing ys with
 | nil=>simp
 | cons x xs ih=>
  have h1:=List.nodup_cons.mp hx;have hxy:=h x zMc;have:=ih h1.2 (ys:=ys.erase x) λ z hz=>by
   have hne:z≠x:=λ e=>h1.1 (e▸hz);exact (List.mem_erase_of_ne hne).mpr (h z (zMo _ hz))
  rw[List.length_erase_of_mem hxy] at this;have hp:=List.length_pos_of_mem hxy;simp only[zC0];omega
def least {P:Nat->Prop}(k:Nat) (h:P k):∃ m,m<=k/\P m/\∀ m'<m,¬ P m':=by
 induction k using Nat.strongRecOn with
 | ind k ih=>
  rcases Classical.em (∃ m',m'<k/\P m') with ⟨m',h1,h2⟩ | q
  .obtain⟨m,g1,g2⟩:=ih m' h1 h2;exact⟨m,by omega,g2⟩
  .exact⟨k,zA4 _,h,λ m' hm hp=>q ⟨m',hm,hp⟩⟩
def PU {xs:List Nat}{M:Nat}(h:xs.length<=M):∃ e,e<=M/\e∉xs:=by
 rcases Classical.em (∃ e,e<=M/\e∉xs) with q | q
 .exact q
 .have:=Zp (xs:=List.range (M+1)) (ys:=xs) List.nodup_range λ e he=>by
   have:=zC1.mp he;rcases Classical.em (e∈xs) with w | w
   .exact w
   .exact absurd ⟨e,by omega,w⟩ q
  simp at this;omega
def cn (t:SetTable) (h:Int) (j:Nat):Prop:=j∉t.place.toList/\∃ k,(way t.mask h k).j=j/\∀ k'<k,(way t.mask h k').j∈t.place.toList
def Tab.first {t:SetTable}{hs:List Int}(T:Tab t hs) (hl:hs.length<=t.mask) (h:Int):∃ K,K<10*(t.mask+15)/\(way t.mask h K).j∉t.place.toList/\∀ k'<K,(way t.mask h k').j∈t.place.toList:=by
 obtain⟨e,e1,e2⟩:=PU (xs:=t.place.toList) (M:=t.mask) (by rw[zD2,T.len];exact hl);obtain⟨k,k1,k2⟩:=Ww t.mask T.mask h e e1;obtain⟨K,q1,q2,q3⟩:=least (P:=λ n=>(way t.mask h n).j∉t.place.toList) k (by rw[k2];exact e2);exact⟨K,by omega,q2,λ k' hk=>Classical.not_not.mp (q3 k' hk)⟩
def VS {xs:List Nat}{j p:Nat}(h:tp xs) (h1:∀ x∈xs.take p,x<j) (h2:∀ x∈xs.drop p,j<x):tp (xs.take p++j::xs.drop p):=by
 refine List.pairwise_append.mpr ⟨h.sublist (List.take_sublist _ _),List.pairwise_cons.mpr ⟨h2,h.sublist (List.drop_sublist _ _)⟩,λ a ha b hb=>?_⟩;rcases zA5.mp hb with e | e
 .subst e;exact h1 a ha
 .have:=h1 a ha;have:=h2 b e;omega
def Yb {α:Type}{xs:List α}{p i:Nat}{x y:α}(hp:p<=xs.length) (h:(xs.take p++x::xs.drop p)[i]?=some y):(i=p/\y=x)\/(i<p/\xs[i]?=some y)\/(p<i/\xs[i-1]?=some y):=by
 have hl:(xs.take p).length=p:=by rw[List.length_take];omega
 rcases Nat.lt_trichotomy i p with q | q | q
 .rw[List.getElem?_append_left (by omega),List.getElem?_take,if_pos q] at h;exact .inr (.inl ⟨q,h⟩)
 .subst q;rw[List.getElem?_append_right (by omega),hl] at h;simp at h;exact .inl ⟨rfl,h.symm⟩
 .rw[List.getElem?_append_right (by omega),hl] at h;obtain⟨d,hd⟩:∃ d,i-p=d+1:=⟨i-p-1,by omega⟩
  rw[hd] at h;simp only[List.getElem?_cons_succ,List.getElem?_drop] at h;refine .inr (.inr ⟨q,?_⟩);rw[show i-1=p+d by omega];exact h
theorem Tab.put {t:SetTable}{hs:List Int}(T:Tab t hs) {h:Int}{j:Nat}(F:cn t h j):
  (t.put j).2<=hs.length/\(t.put j).1={ t with place:=insertAt t.place (t.put j).2 j }/\Tab (t.put j).1 (hs.take (t.put j).2++h::hs.drop (t.put j).2):=by
 obtain⟨b1,b2,b3⟩:=j5 (xs:=t.place) (j:=j) T.wZ;obtain⟨fn,K,k1,k2⟩:=F;have e2:(t.put j).2=below t.place j:=rfl;have e1:(t.put j).1={ t with place:=insertAt t.place (t.put j).2 j }:=by
  show ({ t with place:=insertAt t.place (below t.place j) j,dummies:=_ }:SetTable)=_;rw[if_neg (by rw[T.qk];simp[has]),e2]
 have pl:(insertAt t.place (below t.place j) j).toList=t.place.toList.take (below t.place j)++j::t.place.toList.drop (below t.place j):=toList_insertAt _ _ _;have old:∀ x∈t.place.toList,x∈(insertAt t.place (below t.place j) j).toList:=λ x hx=>by
  rw[pl];have:=List.take_append_drop (below t.place j) t.place.toList;rw[<- this] at hx;rcases zB9.mp hx with q | q
  .exact List.mem_append_left _ q
  .exact zB4 _ (zMo _ q)
 rw[e2] at e1 ⊢;refine⟨by rw[<- T.len];exact b1,e1,?_⟩;rw[e1];refine⟨T.mask,T.qk,?_,?_,?_,?_⟩
 .show (insertAt t.place (below t.place j) j).size=_;rw[<- zD2,pl];simp[T.len]
 .show tp (insertAt t.place (below t.place j) j).toList;rw[pl];refine VS T.wZ (λ x hx=>?_) (λ x hx=>?_)
  .obtain⟨i,hi,e⟩:=List.mem_iff_getElem.mp hx;rw[List.length_take] at hi;rw[List.getElem_take,Array.getElem_toList] at e;rw[<- e];exact b2 i (by simp at hi;omega) (by omega)
  .obtain⟨i,hi,e⟩:=List.mem_iff_getElem.mp hx;rw[List.length_drop] at hi;rw[List.getElem_drop,Array.getElem_toList] at e;have h3:=b3 (below t.place j+i) (by simp at hi;omega) (by omega);have hm:x∈t.place.toList:=List.mem_of_mem_drop hx;have hne:x≠j:=λ q=>fn (q▸hm);omega
 .intro x hx;show x<=t.mask;have hx:x∈(insertAt t.place (below t.place j) j).toList:=hx;rw[pl] at hx;rcases zB9.mp hx with q | q
  .exact T.yu x (List.mem_of_mem_take q)
  .rcases zA5.mp q with e | e
   .subst e;rw[<- k1];exact jY _ _ _
   .exact T.yu x (List.mem_of_mem_drop e)
 .intro i g x hg hx;show ∃ k,(way t.mask g k).j=x/\∀ k'<k,(way t.mask g k').j∈(insertAt t.place (below t.place j) j).toList;have hx:(insertAt t.place (below t.place j) j)[i]?=some x:=hx;rw[<- zD3,pl] at hx;have hpl:below t.place j<=t.place.toList.length:=by simpa using b1
  have hpl':below t.place j<=hs.length:=by rw[<- T.len];exact b1
  rcases Yb hpl hx with ⟨c1,c2⟩ | ⟨c1,c2⟩ | ⟨c1,c2⟩ <;> rcases Yb hpl' hg with ⟨d1,d2⟩ | ⟨d1,d2⟩ | ⟨d1,d2⟩ <;> first
   | omega
   | (subst c2 d2;exact⟨K,k1,λ k' hk=>old _ (k2 k' hk)⟩)
   | (obtain⟨k,g1,g2⟩:=T.nR _ g x d2 (by rw[<- zD3];exact c2)
      exact⟨k,g1,λ k' hk=>old _ (g2 k' hk)⟩)
def qz (owner:Array (Option Nat)) (j:Nat):Prop:=∃ k,owner[j]?=some (some k)
def Od {P:Nat->Bool}{n k:Nat}(h:(List.range n).find? P=some k):k<n/\P k=true/\∀ k'<k,P k'=false:=by
 obtain⟨h1,as,bs,h2,h3⟩:=List.find?_eq_some_iff_append.mp h;have hlen:as.length=k:=by
  have e:(List.range n)[as.length]?=some k:=by rw[h2];simp
  have:=(zA2.mp e)
  obtain⟨q1,q2⟩:=this;rw[List.getElem_range] at q2;exact q2
 have hk:k<n:=by
  have:k∈List.range n:=by rw[h2];simp
  exact zC1.mp this
 refine⟨hk,h1,λ k' hk'=>?_⟩;have:k'∈as:=by
  have e:(List.range n)[k']?=some k':=List.getElem?_range (by omega);rw[h2,List.getElem?_append_left (by omega)] at e;exact zB7 e
 have:=h3 k' this;simpa using this
def getD_none {owner:Array (Option Nat)}{j:Nat}(h:((owner.getD j (some 0)).isNone)=true):owner[j]?=some none:=by
 unfold Array.getD at h;split at h
 .rename_i hj;have e:owner[j]=none:=by simpa using h
  rw[zB8 hj,e]
 .simp at h
def Ym {owner:Array (Option Nat)}{j:Nat}(hj:j<owner.size) (h:((owner.getD j (some 0)).isNone)=false):qz owner j:=by
 unfold Array.getD at h;rw[dif_pos hj] at h;cases q:owner[j] with
 | none=>simp[q] at h
 | some k=>exact⟨k,by rw[zB8 hj,q]⟩
theorem Yr (M:Nat) (owner:Array (Option Nat)) (hsz:owner.size=M+1) (h:Int):∀ (fuel n kn:Nat),way M h kn=og M (yb M h n).1 (yb M h n).2->(∀ q<kn,qz owner (way M h q).j)->
  (∃ n',n<=n'/\n'<n+fuel/\owner[(yb M h n').1]?=some none)->
  ∃ j q,layClean.free M owner fuel (yb M h n).1 (yb M h n).2=some j/\(way M h q).j=j/\owner[j]?=some none/\∀ q'<q,qz owner (way M h q').j
 | 0,n,kn,_,_,⟨n',h1,h2,_⟩=>by omega
 | fuel+1,n,kn,hk,ho,⟨n',h1,h2,h3⟩=>by
  have hre:runEnd M (yb M h n).1+1-(yb M h n).1=runEnd M (yb M h n).1-(yb M h n).1+1:=by unfold runEnd;split <;> omega
  have hwalk:∀ m,m<=runEnd M (yb M h n).1-(yb M h n).1->(way M h (kn+m)).j=(yb M h n).1+m:=λ m hm=>by rw[gq M _ _ h kn hk m hm]
  unfold layClean.free;cases hf:(List.range (runEnd M (yb M h n).1+1-(yb M h n).1)).find? (λ k=>(owner.getD ((yb M h n).1+k) (some 0)).isNone) with
  | some k=>
   obtain⟨f1,f2,f3⟩:=Od hf;refine⟨_,kn+k,rfl,hwalk k (by omega),getD_none f2,λ q' hq=>?_⟩;rcases Nat.lt_or_ge q' kn with w | w
   .exact ho q' w
   .have e:(way M h q').j=(yb M h n).1+(q'-kn):=by
     have:=hwalk (q'-kn) (by omega)
     rwa [show kn+(q'-kn)=q' by omega] at this
    have hle:=jY M h q';rw[e] at hle ⊢;exact Ym (by omega) (f3 (q'-kn) (by omega))
  | none=>
   have f3:=List.find?_eq_none.mp hf;have occ:∀ m,m<=runEnd M (yb M h n).1-(yb M h n).1->qz owner ((yb M h n).1+m):=λ m hm=>by
    have hle:=jY M h (kn+m);rw[hwalk m hm] at hle;exact Ym (by omega) (Bool.eq_false_iff.mpr (f3 m (zC1.mpr (by omega))))
   have hne:n'≠n:=λ e=>by
    subst e;obtain⟨k,hk'⟩:=occ 0 (zD4 _);rw[Nat.add_zero] at hk';rw[hk'] at h3;cases h3
   dsimp only;obtain⟨j,q,r1,r2⟩:=Yr M owner hsz h fuel (n+1) _ (bU M h n kn hk) (λ q hq=>by
    rcases Nat.lt_or_ge q kn with w | w
    .exact ho q w
    .have e:=hwalk (q-kn) (by omega);rw[show kn+(q-kn)=q by omega] at e;rw[e];exact occ _ (by omega)) ⟨n',by omega,by omega,h3⟩
   exact⟨j,q,r1,r2⟩
structure Lay (M:Nat) (hs:List Int) (owner:Array (Option Nat)) (m:Nat):Prop where
 size:owner.size=M+1
 below:∀ (j k:Nat),owner[j]?=some (some k)->k<m
 each:∀ (k:Nat),k<m->∃ (j:Nat),owner[j]?=some (some k)
 once:∀ (i j k:Nat),owner[i]?=some (some k)->owner[j]?=some (some k)->i=j
 nR:∀ (j k:Nat) h,owner[j]?=some (some k)->hs[k]?=some h->∃ q,(way M h q).j=j/\∀ q'<q,qz owner (way M h q').j
theorem Lay.none {M:Nat}(hM:vL M) {hs:List Int}{owner:Array (Option Nat)}{m:Nat}(L:Lay M hs owner m) (hm:m<=M):∃ (e:Nat),e<=M/\owner[e]?=some Option.none:=by
 rcases Classical.em (∃ (e:Nat),e<=M/\owner[e]?=some Option.none) with q | q
 .exact q
 .exfalso;have hall:∀ (e:Nat),e<=M->∃ (k:Nat),owner[e]?=some (some k):=λ e he=>by
   have hlt:e<owner.size:=by rw[L.size];omega
   cases w:owner[e] with
   | none=>exact absurd ⟨e,he,by rw[zB8 hlt,w]⟩ q
   | some k=>exact⟨k,by rw[zB8 hlt,w]⟩
  have:=Zp (xs:=(List.range (M+1)).map λ e=>((owner[e]?).getD Option.none).getD 0) (ys:=List.range m) (by
   refine List.pairwise_map.mpr (List.Pairwise.imp_of_mem ?_ List.nodup_range);intro a b ha hb hne e;refine hne ?_;obtain⟨k,hk⟩:=hall a (by have:=zC1.mp ha;omega);obtain⟨k',hk'⟩:=hall b (by have:=zC1.mp hb;omega);rw[hk,hk'] at e;simp at e;subst e;exact L.once a b k hk hk') (λ x hx=>by
   obtain⟨e,he,rfl⟩:=zB0.mp hx;obtain⟨k,hk⟩:=hall e (by have:=zC1.mp he;omega);rw[hk];exact zC1.mpr (L.below e k hk))
  simp at this;omega
def k5 {α:Type}{xs:Array α}{j i:Nat}{a b:α}(h:(xs.setIfInBounds j a)[i]?=some b):(i=j/\b=a)\/(i≠j/\xs[i]?=some b):=by
 rw[Array.getElem?_setIfInBounds] at h;by_cases e:j=i
 .subst e;rw[if_pos rfl] at h;split at h
  .cases h;exact .inl ⟨rfl,rfl⟩
  .cases h
 .rw[if_neg e] at h;exact .inr ⟨λ q=>e q.symm,h⟩
def Lay.step {M:Nat}(hM:vL M) {hs:List Int}{owner:Array (Option Nat)}{m:Nat}{h:Int}(L:Lay M hs owner m) (hm:m<=M) (hh:hs[m]?=some h):
  ∃ j,layClean.free M owner (turns M) (bits h%(M+1)) (bits h)=some j/\Lay M hs (owner.setIfInBounds j (some m)) (m+1):=by
 obtain⟨e,e1,e2⟩:=L.none hM hm;obtain⟨n',n1,n2⟩:=ZD M hM h e e1;obtain⟨j,q,r1,r2,r3,r4⟩:=Yr M owner L.size h (turns M) 0 0 rfl (λ q hq=>by omega) ⟨n',by omega,by unfold turns;omega,by rw[n2];exact e2⟩;have hj:j<owner.size:=(Array.getElem?_eq_some_iff.mp r3).1;have keep:∀ x,qz owner x->qz (owner.setIfInBounds j (some m)) x:=λ x ⟨k,hk⟩=>by
  have hne:j≠x:=λ w=>by subst w;rw[r3] at hk;cases hk
  exact⟨k,by rw[Array.getElem?_setIfInBounds,if_neg hne];exact hk⟩
 have self:(owner.setIfInBounds j (some m))[j]?=some (some m):=by rw[Array.getElem?_setIfInBounds,if_pos rfl,if_pos hj]
 refine⟨j,r1,⟨by simp[L.size],λ x k hx=>?_,λ k hk=>?_,λ x y k hx hy=>?_,λ x k g hx hg=>?_⟩⟩
 .rcases k5 hx with ⟨_,w⟩ | ⟨_,w⟩
  .cases w;omega
  .have:=L.below x k w;omega
 .rcases Nat.lt_or_ge k m with w | w
  .obtain⟨x,hx⟩:=L.each k w;have hne:j≠x:=λ w=>by subst w;rw[r3] at hx;cases hx
   exact⟨x,by rw[Array.getElem?_setIfInBounds,if_neg hne];exact hx⟩
  .have:k=m:=by omega
   subst this;exact⟨j,self⟩
 .rcases k5 hx with ⟨w1,w⟩ | ⟨w1,w⟩ <;> rcases k5 hy with ⟨v1,v⟩ | ⟨v1,v⟩
  .omega
  .cases w;have:=L.below y _ v;omega
  .cases v;have:=L.below x _ w;omega
  .exact L.once x y k w v
 .rcases k5 hx with ⟨w1,w⟩ | ⟨w1,w⟩
  .cases w;rw[hh] at hg;cases hg;subst w1;exact⟨q,r2,λ q' hq=>keep _ (r4 q' hq)⟩
  .obtain⟨q,g1,g2⟩:=L.nR x k g w hg;exact⟨q,g1,λ q' hq=>keep _ (g2 q' hq)⟩
theorem ZH {M:Nat}(hM:vL M) {hs:List Int}(hl:hs.length<=M+1):∀ (rest:List Int) (owner:Array (Option Nat)) (m:Nat),m<=hs.length->hs.drop m=rest->Lay M hs owner m->
  ∃ owner',rest.foldl (λ acc h=>do
   let (owner,k) <- acc
   let j <- layClean.free M owner (turns M) (bits h%(M+1)) (bits h)
   pure (owner.setIfInBounds j (some k),k+1)) (some (owner,m))=some (owner',hs.length)/\Lay M hs owner' hs.length
 | [],owner,m,hl2,hd,L=>by
  have hm:hs.length<=m:=List.drop_eq_nil_iff.mp hd;have e:m=hs.length:=by omega
  subst e;exact⟨owner,rfl,L⟩
 | h::rest,owner,m,hl2,hd,L=>by
  have hm:hs[m]?=some h:=by
   have:=congrArg (λ l=>l[0]?) hd;simpa using this
  have hlt:m<hs.length:=(zA2.mp hm).1;obtain⟨j,j1,j2⟩:=L.step hM (by omega) hm;have hd':hs.drop (m+1)=rest:=by
   have:=congrArg List.tail hd;simpa using this
  obtain⟨o',h1,h2⟩:=ZH hM hl rest _ (m+1) (by omega) hd' j2;refine⟨o',?_,h2⟩;rw[List.foldl_cons,<- h1];show _=_;congr 1;show ((layClean.free M owner (turns M) (bits h%(M+1)) (bits h)).bind λ j=>some (owner.setIfInBounds j (some m),m+1))=_;rw[j1];rfl
def QD (M:Nat) (hs:List Int):Lay M hs (Array.replicate (M+1) Option.none) 0:=by
 have no:∀ (j k:Nat),(Array.replicate (M+1) (Option.none:Option Nat))[j]?≠some (some k):=λ j k h=>by
  rw[Array.getElem?_replicate] at h;split at h <;> cases h
 exact⟨by simp,λ j k h=>absurd h (no j k),λ k hk=>by omega,λ i j k h=>absurd h (no i k),λ j k h e=>absurd e (no j k)⟩
def QE {M:Nat}(hM:vL M) (hashes:Array Int) (hl:hashes.size<=M+1):∃ owner,layClean M hashes=some owner/\Lay M hashes.toList owner hashes.size:=by
 obtain⟨o,h1,h2⟩:=ZH hM (hs:=hashes.toList) (by simpa using hl) hashes.toList _ 0 (zD4 _) (by simp) (QD M _);refine⟨o,?_,by simpa using h2⟩;unfold layClean;rw[<- Array.foldl_toList,h1];rfl
noncomputable def lives (M:Nat) (owner:Array (Option Nat)):List (Nat×Nat):=(List.range (M+1)).filterMap λ j=>(owner.getD j Option.none).map (j,·)
def getD_some {owner:Array (Option Nat)}{j k:Nat}:owner.getD j Option.none=some k↔owner[j]?=some (some k):=by
 unfold Array.getD;split
 .rename_i h;rw[zB8 h];simp
 .rename_i h;rw[Array.getElem?_eq_none (by omega)];simp
def qS {M:Nat}{owner:Array (Option Nat)}(hs:owner.size=M+1) {j k:Nat}:(j,k)∈lives M owner↔owner[j]?=some (some k):=by
 unfold lives;rw[List.mem_filterMap];constructor
 .rintro⟨x,hx,e⟩;obtain⟨y,e1,e2⟩:=zOm e;cases e2;exact getD_some.mp e1
 .intro h;have hj:=(Array.getElem?_eq_some_iff.mp h).1;exact⟨j,zC1.mpr (by omega),by rw[getD_some.mpr h];rfl⟩
def Z6 (M:Nat) (owner:Array (Option Nat)):(lives M owner).Pairwise λ a b=>a.1<b.1:=by
 unfold lives;rw[List.pairwise_filterMap];refine List.Pairwise.imp ?_ List.pairwise_lt_range;intro a b hab x hx y hy;obtain⟨_,_,e1⟩:=zOm hx;obtain⟨_,_,e2⟩:=zOm hy;subst e1 e2;exact hab
def ZI {M:Nat}(hM:vL M) (finger moves:Nat) (led plain:Bool) (hashes:Array Int) (hl:hashes.size<=M+1):
  ∃ t order,laid M finger moves led plain hashes=some (t,order)/\t.mask=M/\t.finger=finger/\t.led=led/\t.plain=plain/\order.toList.Perm (List.range hashes.size)/\Tab t (order.toList.map λ k=>hashes.toList.getD k 0):=by
 obtain⟨owner,h1,L⟩:=QE hM hashes hl;refine⟨_,_,by unfold laid;rw[h1];rfl,rfl,rfl,rfl,rfl,?_,?_⟩
 .show ((lives M owner).map (·.2)).toArray.toList.Perm _;rw[List.toList_toArray];refine (List.perm_ext_iff_of_nodup ?_ List.nodup_range).mpr λ k=>?_
  .refine List.pairwise_map.mpr (List.Pairwise.imp_of_mem ?_ (Z6 M owner));intro a b ha hb hab e;have h2:=(qS L.size (j:=a.1) (k:=a.2)).mp ha;have h3:=(qS L.size (j:=b.1) (k:=b.2)).mp hb;have e:a.2=b.2:=e;rw[e] at h2;have:=L.once _ _ _ h2 h3;omega
  .rw[zC1];constructor
   .intro h;obtain⟨⟨j,k'⟩,h2,rfl⟩:=zB0.mp h;exact L.below j _ ((qS L.size).mp h2)
   .intro h;obtain⟨j,hj⟩:=L.each k h;exact zB0.mpr ⟨(j,k),(qS L.size).mpr hj,rfl⟩
 .have pl:∀ x,x∈(lives M owner).map (·.1)↔qz owner x:=λ x=>by
   constructor
   .intro h;obtain⟨⟨j,k⟩,h2,rfl⟩:=zB0.mp h;exact⟨k,(qS L.size).mp h2⟩
   .rintro⟨k,hk⟩;exact zB0.mpr ⟨(x,k),(qS L.size).mpr hk,rfl⟩
  refine⟨hM,rfl,?_,?_,?_,?_⟩
  .show ((lives M owner).map (·.1)).toArray.size=(((lives M owner).map (·.2)).toArray.toList.map _).length;simp
  .show tp ((lives M owner).map (·.1)).toArray.toList;rw[List.toList_toArray];exact List.pairwise_map.mpr (Z6 M owner)
  .intro x hx;show x<=M;have hx:x∈((lives M owner).map (·.1)).toArray.toList:=hx;rw[List.toList_toArray] at hx;obtain⟨k,hk⟩:=(pl x).mp hx;have:=(Array.getElem?_eq_some_iff.mp hk).1;rw[L.size] at this;omega
  .intro i g x hg hx;have hx:((lives M owner).map (·.1)).toArray[i]?=some x:=hx;have hg:(((lives M owner).map (·.2)).toArray.toList.map λ k=>hashes.toList.getD k 0)[i]?=some g:=hg;rw[List.getElem?_toArray,zA3] at hx;rw[List.toList_toArray,zA3,zA3] at hg;obtain⟨p,p1,p2⟩:=zOm hx;rw[p1] at hg;simp only[Option.map_some,Option.some.injEq] at hg;obtain⟨j,k⟩:=p;cases p2;have hm:=(qS L.size).mp (zB7 p1);have hk:=L.below _ _ hm;obtain⟨q,q1,q2⟩:=L.nR _ k g hm (by rw[<- hg];simp[hk]);refine⟨q,q1,λ q' hq=>?_⟩;show _∈((lives M owner).map (·.1)).toArray.toList;rw[List.toList_toArray];exact (pl _).mpr (q2 q' hq)
section
variable {prog:Program}{w:World}{A:Around}{E:Value->Shared->Prop}{s:Shared}
abbrev rk (prog:Program) (w:World):HeapKind prog w (List Int):=tupleKind (intKind prog w)
def items_int {ks:List Int}{vs:List Value}(h:ItemsAre (intKind prog w) ks vs):∀ v∈vs,∃ n t,v=.int n t:=by
 induction h with
 | nil=>intro v hv;cases hv
 | cons h1 _ ih=>
  intro v hv;rcases zA5.mp hv with rfl | hv
  .obtain⟨t,e⟩:=Value.isInt_shape h1;exact⟨_,t,e⟩
  .exact ih v hv
def Zs {ks:List Int}{a:Addr}{Q:Bool->Shared->Prop}(hk:IsTupleKey (intKind prog w) s.heap ks a) (h:Q false s):wpAny (model prog w) A (ofAClassStatement 8 (.ref a)) Q E s:=by
 have hT:=hk.typeIs;obtain⟨o,items,n,ho,_,hd,hi⟩:=hk;unfold ofAClassStatement;refine zWb (wpAny_typeOf hT ?_);show wpAny _ _ (pure true >>= _) _ _ s;refine zWb (zD1 ?_);simp only[zB5,zC4,if_false];refine zWb (wpAny_seqItems ho hd ?_);dsimp only;refine zWb ?_;show wpAny _ _ (forIn items _ _) _ _ s;rw[<- Array.forIn_toList];refine wpAny_forIn_list _ (λ rest r s'=>r.1=none/\s'=s/\∀ v∈rest,∃ n t,v=.int n t) _ ?_ ?_ _ _ ⟨rfl,rfl,items_int hi⟩
 .rintro v rest r s' ⟨hr,rfl,hall⟩;obtain⟨m,t,rfl⟩:=hall v zMc;show wpAny _ _ (pure false >>= _) _ _ _;refine zWb (zD1 ?_);simp only[zC4,if_false];exact zD1 ⟨rfl,rfl,λ u hu=>hall u (zMo _ hu)⟩
 .rintro⟨r1,r2⟩ s' ⟨hr,rfl,_⟩;simp only at hr;subst hr;exact zD1 h
def Po {ks:List Int}{a:Addr}{Q:Bool->Shared->Prop}(hk:IsTupleKey (intKind prog w) s.heap ks a) (h:Q true s):wpAny (model prog w) A (hashByValue 8 (.ref a)) Q E s:=by
 have hT:=hk.typeIs;obtain⟨o,items,n,ho,_,hd,hi⟩:=hk;unfold hashByValue;refine zWb (wpAny_specialOf hT F.slot_tuple_hash.lookup ?_);dsimp only;refine zWb (wpAny_seqItems ho hd ?_);refine zWb ?_;show wpAny _ _ (forIn items _ _) _ _ s;rw[<- Array.forIn_toList];refine wpAny_forIn_list _ (λ rest r s'=>r.1=none/\s'=s/\∀ v∈rest,∃ n t,v=.int n t) _ ?_ ?_ _ _ ⟨rfl,rfl,items_int hi⟩
 .rintro v rest r s' ⟨hr,rfl,hall⟩;obtain⟨m,t,rfl⟩:=hall v zMc;show wpAny _ _ (pure true >>= _) _ _ _;refine zWb (zD1 ?_);simp only[zB5,zC4,if_false];exact zD1 ⟨rfl,rfl,λ u hu=>hall u (zMo _ hu)⟩
 .rintro⟨r1,r2⟩ s' ⟨hr,rfl,_⟩;simp only at hr;subst hr;exact zD1 h
def W5 {ks:List Int}{b:Addr}{Q:Bool->Shared->Prop}(hk:IsTupleKey (intKind prog w) s.heap ks b) (l:List Value) (hl:∀ v∈l,∃ k c,v=.ref c/\IsTupleKey (intKind prog w) s.heap k c) (h:Q false s):
  wpAny (model prog w) A (searchCouldBeSeen (.ref b) l) Q E s:=by
 unfold searchCouldBeSeen;refine zWb ?_;refine wpAny_forIn_list _ (λ rest r s'=>r.1=none/\s'=s/\∀ v∈rest,∃ k c,v=.ref c/\IsTupleKey (intKind prog w) s.heap k c) _ ?_ ?_ _ _ ⟨rfl,rfl,hl⟩
 .rintro v rest r s' ⟨hr,rfl,hall⟩;obtain⟨k,c,rfl,hc⟩:=hall v zMc;have rest':∀ u∈rest,∃ k c,u=Value.ref c/\IsTupleKey (intKind prog w) s'.heap k c:=λ u hu=>hall u (zMo _ hu);dsimp only;by_cases e:(b == c||(carriedByValue (.ref b)&&carriedByValue (.ref c)))=true
  .rw[if_pos e];exact zD1 ⟨rfl,rfl,rest'⟩
  .rw[if_neg e];refine zWb ((rk prog w).quiet hk ?_);simp only[zB5,zC4,if_false];refine zWb ((rk prog w).quiet hc ?_);simp only[zB5,zC4,if_false];refine zWb (Zs hk ?_);simp only[zC4,if_false];refine zWb (Zs hc ?_);simp only[zC4,if_false];exact zD1 ⟨rfl,rfl,rest'⟩
 .rintro⟨r1,r2⟩ s' ⟨hr,rfl,_⟩;simp only at hr;subst hr;exact zD1 h
structure q8 (h:Heap) (es:Array (Int×Value)) (t:SetTable) (xs:List (List Int×Addr)):Prop where
 es:es.toList=xs.map λ e=>((rk prog w).hash e.1,Value.ref e.2)
 is:∀ e∈xs,IsTupleKey (intKind prog w) h e.1 e.2
 tab:Tab t (xs.map λ e=>(rk prog w).hash e.1)
 mJ:xs.length<=t.mask
theorem q8.fits {h:Heap}{es:Array (Int×Value)}{t:SetTable}{xs:List (List Int×Addr)}(X:q8 (prog:=prog) (w:=w) h es t xs):t.fits es.size=true:=by
 have hl:es.size=xs.length:=by have:=congrArg List.length X.es;simpa using this
 have h1:=X.tab.len;rw[zA7] at h1;have h2:=X.mJ;unfold SetTable.fits SetTable.fill;rw[X.tab.qk,hl,h1];simp;omega
def q8.at {h:Heap}{es:Array (Int×Value)}{t:SetTable}{xs:List (List Int×Addr)}(X:q8 (prog:=prog) (w:=w) h es t xs) {i:Nat}{e:List Int×Addr}(he:xs[i]?=some e):es[i]?=some ((rk prog w).hash e.1,Value.ref e.2):=by
 rw[<- zD3,X.es,zA3,he];rfl
theorem bQ {a:Addr}{o:Obj}{es:Array (Int×Value)}{ep:Nat}{t:SetTable}{xs:List (List Int×Addr)}{key:List Int}{b:Addr}{Q:SetFound->Shared->Prop}
  (hu:A.units<cLine) (ho:s.heap.get? a=some o) (hd:o.data=.set es ep t) (X:q8 (prog:=prog) (w:=w) s.heap es t xs) (hb:IsTupleKey (intKind prog w) s.heap key b)
  (h1:key∈xs.map (·.1)->Q (.there none) s) (h2:key∉xs.map (·.1)->∀ j,cn t ((rk prog w).hash key) j->Q (.free j false) s):
  ∀ (fuel k:Nat) (stand:Option Probe),stand.getD (t.probeStart ((rk prog w).hash key))=way t.mask ((rk prog w).hash key) k->(∀ m<k,∃ (i:Nat) (e:List Int×Addr),t.place[i]?=some (way t.mask ((rk prog w).hash key) m).j/\xs[i]?=some e/\e.1≠key)->(∃ K,k<=K/\K<k+fuel/\K<10*(t.mask+15)/\(way t.mask ((rk prog w).hash key) K).j∉t.place.toList/\∀ m<K,(way t.mask ((rk prog w).hash key) m).j∈t.place.toList)->
   wpAny (model prog w) A (setSearchFrom a (.ref b) ((rk prog w).hash key) true fuel stand) Q E s
 | 0,k,stand,_,_,⟨K,q1,q2,_⟩=>by omega
 | fuel+1,k,stand,hst,hpast,⟨K,q1,q2,q3,q4,q5⟩=>by
  have T:=X.tab;have hodd:t.gaveWay=false:=by
   unfold SetTable.gaveWay;rcases T.mask with e | e | e <;> rw[e] <;> rfl
  unfold setSearchFrom;refine zWb (wpAny_setState_of ho hd X.fits ?_);dsimp only;rw[hodd];simp only[zC4,if_false];have hA:∀ (i:Nat) g,(xs.map λ e=>(rk prog w).hash e.1)[i]?=some g->((es[i]?).map (·.1)).getD 0=g:=λ i g hg=>by
   rw[zA3] at hg;obtain⟨e,e1,e2⟩:=zOm hg;rw[X.at e1];exact e2
  obtain⟨k1,g1,g2,g3⟩:=Yk T (hashAt:=λ i=>((es[i]?).map (·.1)).getD 0) hA ((rk prog w).hash key) (10*turns t.mask) k ⟨K,q1,by unfold turns;omega,q4⟩;rw[hst];have look:∀ (i:Nat) g,(xs.map λ e=>(rk prog w).hash e.1)[i]?=some g->∃ e,xs[i]?=some e/\(rk prog w).hash e.1=g:=λ i g hg=>by
   rw[zA3] at hg;obtain⟨e,e1,e2⟩:=zOm hg;exact⟨e,e1,e2⟩
  have hpast':∀ m<k1,∃ (i:Nat) (e:List Int×Addr),t.place[i]?=some (way t.mask ((rk prog w).hash key) m).j/\xs[i]?=some e/\e.1≠key:=λ m hm=>by
   rcases Nat.lt_or_ge m k with c | c
   .exact hpast m c
   .obtain⟨i,g,p1,p2,p3⟩:=g2 m c hm;obtain⟨e,e1,e2⟩:=look i g p2;exact⟨i,e,p1,e1,λ q=>p3 (by rw[<- e2,q])⟩
  rcases g3 with ⟨n1,n2⟩ | ⟨i,n1,n2,n3⟩
  .have n2':t.probe _ ((rk prog w).hash key) (way t.mask ((rk prog w).hash key) k)=_:=n2;simp only[SetTable.probe] at n2' ⊢
   erw [n2]
   dsimp only;refine zD1 (h2 (λ hm=>?_) _ ⟨n1,k1,rfl,λ m hm=>?_⟩)
   .obtain⟨e,he,ek⟩:=zB0.mp hm;obtain⟨i,hi⟩:=List.mem_iff_getElem?.mp he;have hh:(xs.map λ e=>(rk prog w).hash e.1)[i]?=some ((rk prog w).hash key):=by rw[zA3,hi,<- ek];rfl
    have hil:i<t.place.size:=by rw[T.len];exact (zA2.mp hh).1
    obtain⟨kk,w1,w2⟩:=T.nR i _ _ hh (zB8 hil);rcases Nat.lt_trichotomy kk k1 with c | c | c
    .obtain⟨i',e',p1,p2,p3⟩:=hpast' kk c;rw[w1] at p1;have:i=i':=by
      rw[<- below_at T.wZ (zB8 hil),<- below_at T.wZ p1]
     subst this;rw[hi] at p2;cases p2;exact p3 ek
    .subst c;rw[w1] at n1;exact n1 (by simp)
    .exact n1 (w2 k1 c)
   .obtain⟨i',e',p1,_⟩:=hpast' m hm;exact zB7 (by rw[zD3];exact p1)
  .simp only[SetTable.probe]
   erw [n3]
   dsimp only;obtain⟨e,e1,e2⟩:=look i _ n2;have hes:=X.at e1;have hey:=X.is e (zB7 e1);have main:wpAny (model prog w) A (holding [Value.ref e.2] (eqBool (.ref e.2) (.ref b)) >>= λ equal=>setState a >>= λ x=>match x with
     | (es',_,t')=>if (true&&equal)=true then pure (SetFound.there none) else
      match t'.sameMemory t.moves t.mask with
      | some same=>
       have jp:=λ still=>match still with
        | none=>do
         rule "set.search.anew"
         setSearchFrom a (.ref b) ((rk prog w).hash key) true fuel none
        | some i'=>if equal=true then pure (SetFound.there (some i')) else setSearchFrom a (.ref b) ((rk prog w).hash key) true fuel (some (way t.mask ((rk prog w).hash key) (k1+1)))
       match if same=true then t'.slot (way t.mask ((rk prog w).hash key) k1).j else Slot.empty with
       | .live i'=>match es'[i']? with
        | some (_,y')=>do
         let r <- isSame y' (.ref e.2)
         let still <- pure (if r=true then some i' else none)
         jp still
        | none=>do
         let still <- pure none
         jp still
       | _=>do
        let still <- pure none
        jp still
      | _=>unsupported "set.changed-during-lookup:is-the-new-block-at-the-old-address") Q E s:=by
    refine zWb (wpAny_holding ((rk prog w).eqBool hu hey hb ?_));refine zWb (wpAny_setState_of ho hd X.fits ?_);dsimp only;by_cases hk:e.1=key
    .rw[decide_eq_true hk];simp only[Bool.and_self,if_true];exact zD1 (h1 (zB0.mpr ⟨e,zB7 e1,hk⟩))
    .rw[decide_eq_false hk];simp only[Bool.and_false,zC4,if_false];have sm:t.sameMemory t.moves t.mask=some true:=by unfold SetTable.sameMemory;simp
     rw[sm];dsimp only;rw[if_pos rfl,T.live n1];dsimp only;rw[hes];dsimp only;refine zWb (wpAny_isSame_ref_self ?_);refine zWb (zD1 ?_);rw[if_pos rfl];dsimp only;have hKk:k1<K:=by
      rcases Nat.lt_trichotomy K k1 with c | c | c
      .obtain⟨i',e',p1,_⟩:=hpast' K c;exact absurd (zB7 (by rw[zD3];exact p1)) q4
      .subst c;exact absurd (zB7 (by rw[zD3];exact n1)) q4
      .exact c
     refine bQ hu ho hd X hb h1 h2 fuel (k1+1) _ rfl (λ m hm=>?_) ⟨K,by omega,by omega,q3,q4,q5⟩;rcases Nat.lt_or_ge m k1 with c | c
     .exact hpast' m c
     .have:m=k1:=by omega
      subst this;exact⟨i,e,n1,e1,hk⟩
   rw[hes];by_cases hl:t.led=true
   .rw[hl];simp only[zB5,zC4,if_false];exact main
   .have hl':t.led=false:=by simpa using hl
    rw[hl'];simp only[zB2,if_true];refine zWb (W5 hb _ (λ v hv=>?_) ?_)
    .obtain⟨p,hp,rfl⟩:=zB0.mp hv;rw[Array.toList_filter,zC8,X.es] at hp;obtain⟨⟨e',he',rfl⟩,_⟩:=(And.intro (zB0.mp hp.1) hp.2)
     exact⟨e'.1,e'.2,rfl,X.is e' he'⟩
    .simp only[zC4,if_false];exact main
end
section
variable {prog:Program}{w:World}{A:Around}{E:Value->Shared->Prop}{s:Shared}
structure uc (prog:Program) (w:World) (h:Heap) (a:Addr) (xs:List (List Int×Addr)) (led:Bool):Prop where
 ex:∃ es ep t,h.get? a=some { cls:=.type "set",dict:=none,data:=.set es ep t }/\q8 (prog:=prog) (w:=w) h es t xs/\t.led=led/\t.plain=true/\xs.length*5<t.mask*3
 nd:(xs.map (·.1)).Nodup
def ik {h h':Heap}{ks:List Int}{b a:Addr}{es:Array (Int×Value)}{ep:Nat}{t:SetTable}{c:Value}{d:Option Addr}{sl:Array (Option Value)}(x:IsTupleKey (intKind prog w) h ks b) (ho:h.get? a=some { cls:=c,dict:=d,data:=.set es ep t,slots:=sl }) (hs:Heap.SameBut a h h'):IsTupleKey (intKind prog w) h' ks b:=by
 obtain⟨o',items,n,ho',hc,hd',hi⟩:=x;have hne:b≠a:=by
  rintro rfl;obtain rfl:o'=_:=zD5 (ho'.symm.trans ho);cases hd'
 exact⟨o',items,n,(hs.2 b hne).trans ho',hc,hd',hi⟩
def kI {h:Heap}{a:Addr}{es es':Array (Int×Value)}{ep:Nat}{t t':SetTable}(ho:h.get? a=some { cls:=.type "set",dict:=none,data:=.set es ep t }):(h.update a (Obj.putSet es' t')).get? a=some { cls:=.type "set",dict:=none,data:=.set es' (ep+1) t' }:=by
 have e:Obj.putSet es' t' { cls:=.type "set",dict:=none,data:=.set es ep t }={ cls:=.type "set",dict:=none,data:=.set es' (ep+1) t' }:=putSet_of es' t' rfl;have:=Heap.get?_update_self (Obj.putSet es' t') ho (by rw[e];rfl);rw[e] at this;exact this
theorem gI {α β:Type}(l:List α) (f:α->β) (d:β):∀ (order:List Nat),(∀ k∈order,k<l.length)->order.map (λ k=>(l.map f).getD k d)=(order.filterMap λ k=>l[k]?).map f
 | [],_=>rfl
 | k::order,h=>by
  have hk:=h k zMc;have ih:=gI l f d order λ j hj=>h j (zMo _ hj);rw[zA6,List.filterMap_cons,zA1 hk];dsimp only;rw[zA6,ih];congr 1;simp[hk]
def VV {a:Addr}{es:Array (Int×Value)}{ep:Nat}{t:SetTable}{xs:List (List Int×Addr)}{led:Bool}{wanted M:Nat}{Q:Unit->Shared->Prop}
  (ho:s.heap.get? a=some { cls:=.type "set",dict:=none,data:=.set es ep t }) (X:q8 (prog:=prog) (w:=w) s.heap es t xs) (hled:t.led=led) (hpl:t.plain=true) (hM:vL M) (hw:sizeAbove wanted=M+1) (hfew:xs.length*5<M*3) (hnd:(xs.map (·.1)).Nodup)
  (h:∀ h' xs',Heap.SameBut a s.heap h'->uc prog w h' a xs' led->xs'.Perm xs->Q () { s with heap:=h' }):wpAny (model prog w) A (setRelay a wanted) Q E s:=by
 have hlen:es.size=xs.length:=by have:=congrArg List.length X.es;simpa using this
 have hhs:(es.map (·.1)).toList=xs.map λ e=>(rk prog w).hash e.1:=by rw[Array.toList_map,X.es,zD6];rfl
 have hsz:(es.map (·.1)).size=xs.length:=by rw[Array.size_map,hlen]
 obtain⟨t',order,h1,h2,h3,h4,h5,h6,h7⟩:=ZI hM t.finger (t.movedTo M) t.led t.plain (es.map (·.1)) (by rw[hsz];omega);rw[hsz] at h6;have hlt:∀ k∈order.toList,k<xs.length:=λ k hk=>by simpa using h6.mem_iff.mp hk
 unfold setRelay;refine zWb (wpAny_setState_of ho rfl X.fits ?_);dsimp only;rw[if_neg (by rw[hw];rcases hM with e | e | e <;> rw[e] <;> decide)];have hr:t.relaid (es.map (·.1)) wanted=some (t',order):=by
  unfold SetTable.relaid;rw[hw,Nat.add_sub_cancel];exact h1
 rw[hr];have hes':(order.filterMap (es[·]?)).toList=(order.toList.filterMap λ k=>xs[k]?).map λ e=>((rk prog w).hash e.1,Value.ref e.2):=by
  rw[Array.toList_filterMap,List.map_filterMap];congr 1;funext k;rw[<- zD3,X.es,zA3]
 have hperm:(order.toList.filterMap λ k=>xs[k]?).Perm xs:=(h6.filterMap _).trans (by rw[List.filterMap_getElem?_range_length]);have hsz':(order.filterMap (es[·]?)).size=es.size:=by
  rw[<- zD2,hes',zA7,hperm.length_eq,hlen]
 refine zWb (m:=_) ?_;show wpAny _ _ (do
  let some (t,order):=some (t',order) | unsupported "internal:set-table-without-room"
  let es':=order.filterMap (es[·]?)
  if es'.size != es.size then unsupported "internal:set-table-lost-an-element"
  pure (es',t)) _ _ _
 dsimp only;rw[if_neg (by rw[hsz'];simp)];refine zD1 ?_;have hsl:(order.filterMap (es[·]?)).size<=sizeLine:=by
  rw[hsz',hlen];have:sizeLine=16777216:=rfl;rcases hM with e | e | e <;> subst e <;> omega
 refine wpAny_storeSet_of ho rfl ?_ hsl;have sb:=Heap.SameBut.update s.heap a (Obj.putSet (order.filterMap (es[·]?)) t');refine h _ _ sb ⟨⟨_,ep+1,t',kI ho,⟨hes',λ e he=>ik (X.is e (hperm.mem_iff.mp he)) ho sb,?_,?_⟩,by rw[h4];exact hled,by rw[h5];exact hpl,?_⟩,(hperm.map _).nodup_iff.mpr hnd⟩ hperm
 .rw[<- gI xs (λ e=>(rk prog w).hash e.1) 0 order.toList hlt,<- hhs];exact h7
 .rw[hperm.length_eq,h2];omega
 .rw[hperm.length_eq,h2];exact hfew
def bO (n:Nat) (M:Nat) (hM:vL M) (h1:n*5<M*3) (h2:M*3<=(n+1)*5) (hn:n<70):∃ M',vL M'/\sizeAbove (grown (n+1))=M' + 1/\(n+1)*5<M'*3:=by
 rcases hM with e | e | e <;> subst e
 .have:n=4:=by omega
  subst this;exact⟨31,.inr (.inl rfl),by decide +kernel,by omega⟩
 .have:n=18:=by omega
  subst this;exact⟨127,.inr (.inr rfl),by decide +kernel,by omega⟩
 .omega
def NT {a:Addr}{xs:List (List Int×Addr)}{key:List Int}{b:Addr}{led:Bool}{Q:Bool->Shared->Prop}(hu:A.units<cLine) (S:uc prog w s.heap a xs led) (hb:IsTupleKey (intKind prog w) s.heap key b) (hn:xs.length<70)
  (h:∀ h' xs' r,Heap.SameBut a s.heap h'->uc prog w h' a xs' led->(key∈xs.map (·.1)/\xs'=xs\/key∉xs.map (·.1)/\xs'.Perm (xs++[(key,b)]))->Q r { s with heap:=h' }):
  wpAny (model prog w) A (setAddHashed a (.ref b) ((rk prog w).hash key)) Q E s:=by
 obtain⟨⟨es,ep,t,ho,X,hled,hpl,hfew⟩,hnd⟩:=S;have hlen:es.size=xs.length:=by have:=congrArg List.length X.es;simpa using this
 unfold setAddHashed setAddHashedIn;refine wpAny_holding (zWb (wpAny_setState_of ho rfl X.fits ?_));dsimp only;rw[if_neg (by simp[byScan,Value.scannable])];obtain⟨K,k1,k2,k3⟩:=X.tab.first (by rw[zA7];exact X.mJ) ((rk prog w).hash key);have hmk:t.mask<=127:=by rcases X.tab.mask with e | e | e <;> omega
 refine zWb ?_;unfold setSearch;refine bQ (key:=key) (b:=b) hu ho rfl X hb (λ hm=>?_) (λ hm j F=>?_) 100000 0 none rfl (λ m hm=>by omega) ⟨K,by omega,by omega,k1,k2,k3⟩
 .dsimp only;refine zD1 ?_;have:=h s.heap xs false ⟨rfl,λ _ _=>rfl⟩ ⟨⟨es,ep,t,ho,X,hled,hpl,hfew⟩,hnd⟩ (.inl ⟨hm,rfl⟩);exact this
 .dsimp only;refine zWb (wpAny_setState_of ho rfl X.fits ?_);dsimp only;obtain⟨p1,p2,p3⟩:=X.tab.put F;rw[zA7] at p1;have hpt:(t.put j).1.plain=true:=by rw[p2];exact hpl
  have hmt:(t.put j).1.mask=t.mask:=by rw[p2]
  have hlt:(t.put j).1.led=led:=by rw[p2];exact hled
  generalize hT:(t.put j)=P at *;obtain⟨t1,p⟩:=P;dsimp only at *;rw[hpt];simp only[if_true];refine zWb (Po hb ?_);simp only[if_true]
  let xs1:=xs.take p++(key,b)::xs.drop p
  have hperm:xs1.Perm (xs++[(key,b)]):=by
   have e:xs.take p++xs.drop p=xs:=List.take_append_drop p xs;have:xs1.Perm ((key,b)::(xs.take p++xs.drop p)):=List.perm_middle;rw[e] at this;exact this.trans (List.perm_append_singleton _ _).symm
  have hl1:xs1.length=xs.length+1:=by rw[hperm.length_eq];simp
  have hes1:(insertAt es p ((rk prog w).hash key,Value.ref b)).toList=xs1.map λ e=>((rk prog w).hash e.1,Value.ref e.2):=by
   rw[toList_insertAt,X.es];simp[xs1,List.map_take,List.map_drop]
  have hsz1:(insertAt es p ((rk prog w).hash key,Value.ref b)).size=xs.length+1:=by rw[<- zD2,hes1,zA7,hl1]
  have hsl:(insertAt es p ((rk prog w).hash key,Value.ref b)).size<=sizeLine:=by
   rw[hsz1];have:sizeLine=16777216:=rfl;omega
  refine zWb (wpAny_storeSet_of ho rfl ?_ hsl);have sb:=Heap.SameBut.update s.heap a (Obj.putSet (insertAt es p ((rk prog w).hash key,Value.ref b)) t1);have ho1:=kI (es':=insertAt es p ((rk prog w).hash key,Value.ref b)) (t':=t1) ho;have hm7:7<=t.mask:=by rcases X.tab.mask with e | e | e <;> omega
  have X1:q8 (prog:=prog) (w:=w) (s.heap.update a (Obj.putSet (insertAt es p ((rk prog w).hash key,Value.ref b)) t1)) (insertAt es p ((rk prog w).hash key,Value.ref b)) t1 xs1:=by
   refine⟨hes1,λ e he=>?_,?_,by rw[hl1,hmt];omega⟩
   .rcases zB9.mp (hperm.mem_iff.mp he) with q | q
    .exact ik (X.is e q) ho sb
    .cases zB6.mp q;exact ik hb ho sb
   .have:xs1.map (λ e=>(rk prog w).hash e.1)=(xs.map λ e=>(rk prog w).hash e.1).take p++(rk prog w).hash key::(xs.map λ e=>(rk prog w).hash e.1).drop p:=by simp[xs1,List.map_take,List.map_drop]
    rw[this];exact p3
  have hnd1:(xs1.map (·.1)).Nodup:=by
   refine (hperm.map _).nodup_iff.mpr ?_;rw[zE7,List.nodup_append];refine⟨hnd,by simp,λ x hx y hy=>?_⟩;simp at hy;subst hy;exact λ e=>hm (e▸hx)
  by_cases hf:t1.tooFull=true
  .rw[hf];simp only[zB2,Bool.and_self,if_true];have hfill:t1.fill=xs.length+1:=by
    unfold SetTable.fill;rw[p3.qk,p3.len];simp;omega
   have hfull:t.mask*3<=(xs.length+1)*5:=by
    have:=hf;unfold SetTable.tooFull at this;rw[hfill,hmt] at this;simpa using this
   obtain⟨M',g1,g2,g3⟩:=bO xs.length t.mask X.tab.mask hfew hfull hn;rw[hlen];refine zWb (VV (led:=led) ho1 X1 hlt hpt g1 g2 (by rw[hl1];exact g3) hnd1 λ h' xs' sb' S' pm=>?_);refine zD1 ?_;exact h h' xs' true (sb.trans sb') S' (.inr ⟨hm,pm.trans hperm⟩)
  .have hf':t1.tooFull=false:=by simpa using hf
   rw[hf'];simp only[zB2,Bool.and_false,zC4,if_false];refine zD1 ?_;have hfill:t1.fill=xs.length+1:=by
    unfold SetTable.fill;rw[p3.qk,p3.len];simp;omega
   have hfull:(xs.length+1)*5<t.mask*3:=by
    have:=hf';unfold SetTable.tooFull at this;rw[hfill,hmt] at this;simpa using this
   exact h _ xs1 true sb ⟨⟨_,ep+1,t1,ho1,X1,hlt,hpt,by rw[hl1,hmt];exact hfull⟩,hnd1⟩ (.inr ⟨hm,hperm⟩)
end
noncomputable def vT (w:World):Bool:=!w.params.followText "set-order"
noncomputable def xk (w:World):Obj:={ cls:=.type "set",dict:=none,data:=.set #[] 0 (.fresh 0 0 (vT w)) }
section
variable {prog:Program}{w:World}{A:Around}{E:Value->Shared->Prop}{s:Shared}
set_option maxHeartbeats 3200000 in
def Y_ (a:Value) {Q:Value->Shared->Prop}(h:Q (.ref s.heap.objs.size) { s with heap:=s.heap.push (xk w) }):
  codeAny (model prog w) A (.call (.builtin "set.__new__") ⟨[.type "set",a],[]⟩) (wants Q E) s:=by
 refine codeAny_of_tree ?_;show wpAny _ A.in1 (checkBuiltinCall "set.__new__" ⟨[.type "set",a],[]⟩ >>= λ _=>again (.builtin "set.__new__" ⟨[.type "set",a],[]⟩)) _ _ s;refine zWb (wpAny_of_eq (F.newCall_set_1 a) (zD1 ⟨plainId_quiet F.plain_set_new _,codeAny_builtin F.entry_set_new ?_⟩));rw[Around.under_plainId F.plain_set_new _];unfold Builtin.«set.__new__» Builtin.Frozenset.newClass newSet setsByText;have sub:=sub_set_self;obtain⟨hp,g,d,tk,os⟩:=s;dsimp only
 wp_walk
 refine wpAny_askSetting (zD1 ?_);dsimp only;simp only[newObj];exact zWb (wpAny_alloc (zD1 (zD1 h)))
def V5 {h:Heap}{a:Addr}(ho:h.get? a=some (xk w)):uc prog w h a [] (vT w):=
 ⟨⟨#[],0,_,ho,⟨rfl,λ e he=>(by cases he),⟨.inl rfl,rfl,rfl,.nil,λ j hj=>(by cases hj),λ i g j hg=>(by cases hg)⟩,by simp⟩,rfl,rfl,by show 0*5<7*3;omega⟩,.nil⟩
end
end ST
namespace ST
open PySem PySem.SetTable PyProof.Rows
structure Up (its:Array Value) (rows:List (List Int)) (i:Nat) (xs:List (List Int×Addr)):Prop where
 own:∀ e∈xs,∃ j,j<i/\its[j]?=some (.ref e.2)/\rows[j]?=some e.1
 all:∀ (j:Nat) r,j<i->rows[j]?=some r->r∈xs.map (·.1)
def Up.len {its:Array Value}{rows:List (List Int)}{i:Nat}{xs:List (List Int×Addr)}(U:Up its rows i xs) (nd:(xs.map (·.1)).Nodup):xs.length<=i:=by
 have:∀ x∈xs.map (·.1),x∈(List.range i).map λ j=>rows.getD j []:=λ x hx=>by
  obtain⟨e,he,rfl⟩:=zB0.mp hx;obtain⟨j,h1,_,h3⟩:=U.own e he;refine zB0.mpr ⟨j,zC1.mpr h1,?_⟩;rw[zB1,h3];rfl
 have key:∀ (l m:List (List Int)),l.Nodup->(∀ x∈l,x∈m)->l.length<=m.length:=by
  intro l
  induction l with
  | nil=>intro m _ _;exact zD4 _
  | cons x l ih=>
   intro m hn hs;have h1:=List.nodup_cons.mp hn;have hx:=hs x zMc;have:=ih (m.erase x) h1.2 λ z hz=>(List.mem_erase_of_ne (λ e:z=x=>h1.1 (by rw[<- e];exact hz))).mpr (hs z (zMo _ hz));rw[List.length_erase_of_mem hx] at this;have:=List.length_pos_of_mem hx;simp only[zC0];omega
 have:=key _ _ nd this;simpa using this
def Up.step {its:Array Value}{rows:List (List Int)}{i:Nat}{xs xs':List (List Int×Addr)}{key:List Int}{b:Addr}(U:Up its rows i xs) (hi:its[i]?=some (.ref b)) (hr:rows[i]?=some key)
  (h:key∈xs.map (·.1)/\xs'=xs\/key∉xs.map (·.1)/\xs'.Perm (xs++[(key,b)])):Up its rows (i+1) xs':=by
 rcases h with ⟨hm,rfl⟩ | ⟨_,hp⟩
 .refine⟨λ e he=>?_,λ j r hj hrj=>?_⟩
  .obtain⟨j,h1,h2⟩:=U.own e he;exact⟨j,by omega,h2⟩
  .rcases Nat.lt_or_ge j i with q | q
   .exact U.all j r q hrj
   .have:j=i:=by omega
    subst this;rw[hr] at hrj;cases hrj;exact hm
 .refine⟨λ e he=>?_,λ j r hj hrj=>?_⟩
  .rcases zB9.mp (hp.mem_iff.mp he) with q | q
   .obtain⟨j,h1,h2⟩:=U.own e q;exact⟨j,by omega,h2⟩
   .cases zB6.mp q;exact⟨i,by omega,hi,hr⟩
  .have hp':=hp.map (·.1);rw[hp'.mem_iff,zE7];rcases Nat.lt_or_ge j i with q | q
   .exact List.mem_append_left _ (U.all j r q hrj)
   .have:j=i:=by omega
    subst this;rw[hr] at hrj;cases hrj;exact zB4 _ zMc
section
variable {prog:Program}{w:World}{A:Around}{R:Result->Shared->Prop}{I:Addr}{fp wr:List Addr}{G:Array GenState->Array GenState->Prop}{n:Nat}{P:Nat->Value->Prop}{St:Nat->Shared->Prop}
def pF (prog:Program) (w:World) (h:Heap) (its:Array Value) (rows:List (List Int)):Prop:=∀ (i:Nat) v,its[i]?=some v->∃ b r,v=.ref b/\rows[i]?=some r/\IsTupleKey (intKind prog w) h r b
def pF.at {h h':Heap}{its:Array Value}{rows:List (List Int)}(T:pF prog w h its rows) (k:∀ (i:Nat) b,its[i]?=some (.ref b)->∀ o,h.get? b=some o->h'.get? b=some o):pF prog w h' its rows:=λ i v hv=>by
 obtain⟨b,r,rfl,h1,o,items,m,h2,h3⟩:=T i v hv;exact⟨b,r,rfl,h1,o,items,m,k i b hv o h2,h3⟩
def Q0 (W:WalksS prog w A.in1 I fp wr G n (λ i v=>P i v) St) (Sa:Addr) (hSf:Sa∉fp) {its:Array Value}{rows:List (List Int)}(hP:∀ i v,P i v->its[i]?=some v) (hn:n<70) (hu:A.units+1<cLine) (led:Bool)
  (hoff:∀ (i:Nat) b,its[i]?=some (.ref b)->b∉Sa::wr):∀ (k i:Nat) (s:Shared) (xs:List (List Int×Addr)),n-i=k->i<=n->St i s->uc prog w s.heap Sa xs led->pF prog w s.heap its rows->Up its rows i xs->
   (∀ s' xs',Moved (Sa::wr) G s s'->uc prog w s'.heap Sa xs' led->Up its rows n xs'->R (.ok (.ret .none)) s')->
   codeAny (model prog w) A (.builtin "set.update.loop" ⟨[.ref Sa,.ref I],[]⟩) R s:=by
 have hSw:Sa∉wr:=λ z=>hSf (W.sub _ z);have more:∀ b∈wr,b∈Sa::wr:=λ b hb=>zMo _ hb;have keepS:∀ {s s':Shared}{xs:List (List Int×Addr)}{wr':List Addr},Sa∉wr'->(∀ e∈xs,e.2∉wr')->Moved wr' G s s'->uc prog w s.heap Sa xs led->uc prog w s'.heap Sa xs led:=λ{s s' xs wr'} h1 h2 hm ⟨⟨es,ep,t,ho,X,r1,r2,r3⟩,nd⟩=>
  ⟨⟨es,ep,t,hm.heap Sa _ h1 ho,⟨X.es,λ e he=>by
   obtain⟨o,items,m,g1,g2⟩:=X.is e he;exact⟨o,items,m,hm.heap _ _ (h2 e he) g1,g2⟩,X.tab,X.mJ⟩,r1,r2,r3⟩,nd⟩
 intro k
 induction k with
 | zero=>
  intro i s xs hk hi hst hS hT hU hR;have e:i=n:=by omega
  subst e;refine codeAny_builtin F.entry_set_update_loop ?_;rw[Around.under_plainId F.plain_set_update_loop _];show wpAny _ A.in1 (pyNext (.ref I) >>= _) _ _ s;refine zWb (W.done s _ _ hst λ s' hm=>?_);refine zD1 (hR s' xs (hm.mono more) (keepS hSw (λ e he=>?_) hm hS) hU);obtain⟨j,_,h2,_⟩:=hU.own e he;exact λ z=>hoff j e.2 h2 (more _ z)
 | succ k ih=>
  intro i s xs hk hi hst hS hT hU hR;have hlt:i<n:=by omega
  refine codeAny_builtin F.entry_set_update_loop ?_;rw[Around.under_plainId F.plain_set_update_loop _];show wpAny _ A.in1 (pyNext (.ref I) >>= _) _ _ s;refine zWb (W.item i s _ _ hlt hst λ v s1 hPv hst1 hm=>?_);have hv:=hP i v hPv;have T1:pF prog w s1.heap its rows:=hT.at λ j b hj o e=>hm.heap b o (λ z=>hoff j b hj (more _ z)) e;obtain⟨b,r,rfl,hr,hb⟩:=T1 i v hv;have S1:uc prog w s1.heap Sa xs led:=keepS hSw (λ e he=>by
   obtain⟨j,_,h2,_⟩:=hU.own e he;exact λ z=>hoff j e.2 h2 (more _ z)) hm hS
  have hl:xs.length<70:=by have:=hU.len hS.nd;omega
  show wpAny _ A.in1 (holding [Value.ref b] (setAdd Sa (.ref b)) >>= _) _ _ s1;refine zWb (wpAny_holding ?_);unfold setAdd;refine wpAny_holding (zWb ((rk prog w).pyHash (k:=r) (a:=b) (A:=A.in1) hu hb ?_));refine NT (s:={ s1 with toks:=s1.toks+(rk prog w).draws r }) (A:=A.in1) hu S1 hb hl λ h' xs' rr sb S' hx=>?_;have fr:=W.frame (i+1) s1 h' (s1.toks+(rk prog w).draws r) hst1 (Nat.le_add_right _ _) λ c hc o e=>(sb.2 c (λ z:c=Sa=>hSf (z▸hc))).trans e;refine zD1 ⟨plainId_quiet F.plain_set_update_loop _,ih (i+1) _ xs' (by omega) hlt fr S' (T1.at λ j c hj o e=>?_) (hU.step hv hr hx) λ s2 xs2 hm2 S2 U2=>?_⟩
  .exact (sb.2 c (λ z=>hoff j c hj (z▸zMc))).trans e
  .refine hR s2 xs2 (Moved.trans W.gtrans ((hm.mono more).then_heap (Nat.le_add_right _ _) λ c o hc e=>?_) hm2) S2 U2;exact (sb.2 c (λ z=>hc (z▸zMc))).trans e
end
section
variable {prog:Program}{w:World}{A:Around}{E:Value->Shared->Prop}{s:Shared}
set_option maxRecDepth 100000 in
set_option maxHeartbeats 6400000 in
def Nr {l:Addr}{its:Array Value}{rows:List (List Int)}{Q:Value->Shared->Prop}(hh:A.handled=none) (hu:A.units+64<cLine) (hl:s.heap.IsList l its) (hT:pF prog w s.heap its rows) (hn:its.size<70)
  (h:∀ (h':Heap) (tk:Nat) xs,uc prog w h' s.heap.objs.size xs (vT w)->Up its rows its.size xs->(∀ b o,b<s.heap.objs.size->s.heap.get? b=some o->h'.get? b=some o)->Q (.ref s.heap.objs.size) { s with heap:=h',toks:=tk }):
  wpAny (model prog w) A (call (.type "set") [.ref l]) Q E s:=by
 obtain⟨c,tl,hmro⟩:=F.called_set.mro;have made:=F.called_set.made;have subm:=F.called_set.sub;refine wpAny_call (codeAny_of_tree ?_);show wpAny _ _ (callAny (.type "set") _) _ _ _;refine zD1 ⟨Code.quiet_builtin _ (by decide +kernel),codeAny_builtin F.entry_type_call ?_⟩;rw[Around.under_plain (weight_type_call_type "set" [.ref l] []) rfl];have nt:=F.called_set.notType;have cc:=F.called_set.canCreate;have tc:=F.typeCall_set_1 (.ref l)
 repeat (any_goals (first | assumption | wp_step))
 refine codeAny_mono (Y_ (.ref l) (E:=E) (Q:=λ obj s₁=>obj=.ref s.heap.objs.size/\s₁={ s with heap:=s.heap.push (xk w) }) ⟨rfl,rfl⟩) λ r s₁ hr=>?_;cases r with
 | error e=>exact hr
 | ok fl=>
  cases fl with
  | ret obj=>
   obtain⟨rfl,rfl⟩:=hr;have hS:(s.heap.push (xk w)).get? s.heap.objs.size=some (xk w):=zA9 _ rfl;have hTy:Shared.TypeIs { s with heap:=s.heap.push (xk w) } (.ref s.heap.objs.size) "set":=⟨_,hS,rfl⟩
   have li:=F.called_set.init.lookup;have bi:=F.called_set.init.bind (.ref s.heap.objs.size)
   repeat (any_goals (first | assumption | wp_step))
   let s1:Shared:={ s with heap:=s.heap.push (xk w) }
   refine codeAny_mono (codeAny_call_builtin (R:=wants (λ r s₂=>r=.none/\∃ h' tk xs,s₂={ s with heap:=h',toks:=tk }/\uc prog w h' s.heap.objs.size xs (vT w)/\Up its rows its.size xs/\
     ∀ b o,b<s.heap.objs.size->s.heap.get? b=some o->h'.get? b=some o) E) F.called_set.init.plain F.entry_set_init (check_set_init_1 hTy ?_)) λ r₂ s₂ hr₂=>?_
   .obtain⟨⟨ocls,odict,odata,oslots⟩,hol,hcl,nl,hdl⟩:=id hl;simp only at hcl hdl;subst hcl hdl;have hol1:(s.heap.push (xk w)).get? l=some { cls:=.type "list",dict:=odict,data:=.seq its nl,slots:=oslots }:=zHp _ hol;have sls:=F.sub_list_set;have slf:=F.sub_list_frozenset;have nd:(Value.type "list" == Value.type "dict")=false:=by decide
    have hl1:(s.heap.push (xk w)).IsList l its:=⟨_,hol1,rfl,nl,rfl⟩
    unfold Builtin.«set.__init__» noKeywords Builtin.Frozenset.updateFrom;generalize hPI:pyIter=PI;unfold xk at *
    wp_walk
    subst hPI;refine wpAny_pyIter_list hl1 (zWb (wpAny_runValue ?_));have hlS:l<s.heap.objs.size:=zA8 hol;have hsz:(s.heap.push (xk w)).objs.size=s.heap.objs.size+1:=Heap.size_push _ _;have hneI:l≠(s.heap.push (xk w)).objs.size:=by rw[hsz];exact zB3 (Nat.lt_succ_of_lt hlS)
    have szne:s.heap.objs.size≠(s.heap.push (xk w)).objs.size:=by rw[hsz];exact zB3 (zE2 _)
    have low:∀ b:Addr,b<s.heap.objs.size->b≠(s.heap.push (xk w)).objs.size:=λ b hb=>by rw[hsz];exact zB3 (Nat.lt_succ_of_lt hb)
    have tin:∀ (i:Nat) b,its[i]?=some (.ref b)->b<s.heap.objs.size:=λ i b hb=>by
     obtain⟨b',r,e,_,o,_,_,ho,_⟩:=hT i _ hb;cases e;exact zA8 ho
    refine Q0 (A:=A.in1.in1) (P:=λ i v=>its[i]?=some v) ((Walks.list (A:=A.in1.in1.in1) (by simp[hh]) _ l hneI its).toS) s.heap.objs.size ?_ (its:=its) (rows:=rows) (λ _ _ q=>q) hn (show A.units+1+1+1<cLine by omega) (vT w) ?_ its.size 0 _ [] (by omega) (zD4 _)
     ⟨⟨_,zA9 _ rfl,rfl,rfl⟩,hl1.push _⟩ (V5 (w:=w) (zHp _ hS)) (hT.at λ i b _ o e=>zHp _ (zHp _ e)) ⟨λ e he=>(by cases he),λ j r hj=>(by omega)⟩ ?_
    .intro hm;rcases zA5.mp hm with q | q
     .exact szne q
     .exact Nat.ne_of_gt hlS (zB6.mp q)
    .intro i b hb hm;have hlt:=tin i b hb;rcases zA5.mp hm with q | q
     .exact zB3 hlt q
     .exact low b hlt (zB6.mp q)
    .intro s' xs' hm S' U';obtain⟨h',g',d',tk',os'⟩:=s';obtain rfl:g'=s.gens:=hm.gens;obtain rfl:d'=s.drawn:=hm.drawn;obtain rfl:os'=s.os:=hm.os;refine zD1 (zD1 ⟨rfl,h',tk',xs',rfl,S',U',λ b o hb e=>?_⟩);refine hm.heap b o (λ q=>?_) (zHp _ (zHp _ e));rcases zA5.mp q with q | q
     .exact zB3 hb q
     .exact low b hb (zB6.mp q)
   .cases r₂ with
    | error e=>exact hr₂
    | ok fl₂=>
     cases fl₂ with
     | ret r=>
      obtain⟨rfl,h',tk,xs,rfl,g1,g2,g3⟩:=hr₂
      repeat (any_goals (first | assumption | wp_step))
      exact h h' tk xs g1 g2 g3
     | _=>exact hr₂.elim
  | _=>exact hr.elim
end
end ST
namespace ST
open PySem PySem.SetTable
section facts
set_option maxRecDepth 100000
def a_:Manifest.owners.lookup (String.ofList ['r','o','t','a','r','e','t','i','_','t','e','s'].reverse)=some Manifest.sig_set_iterator:=by kernel_rfl
def pZ:Slot "set_iterator" "__next__" "set_iterator.__next__":=
 .of (owner:="set_iterator") (n:="__next__") (by rw[typeLookup_type,builtinLookup_eq_fast];kernel_rfl) (by decide +kernel) (by decide +kernel) (by decide +kernel) (by first | exact .inl (by decide +kernel) | exact .inr (by decide +kernel)) (by rw[isSubtype_type];kernel_rfl)
def Y4:entryFor table "set_iterator.__next__"=some Builtin.«set_iterator.__next__»:=entryFor_of_tree (by kernel_rfl)
def Xv (a:Value):argsOk "set_iterator.__next__" ⟨[a],[]⟩:=by
 unfold argsOk;rw[signature?_of (id:="set_iterator.__next__") (n:=['_','_','t','x','e','n','_','_']) (o:=['r','o','t','a','r','e','t','i','_','t','e','s']) (by kernel_rfl) a_]
 kernel_rfl
def Ow:entryFor table "set.__iter__"=some Builtin.«frozenset.__iter__»:=entryFor_alias (id':="frozenset.__iter__") (by kernel_rfl) rfl (by decide +kernel) (by kernel_rfl)
def bN:Slot "set_iterator" "__iter__" "set_iterator.__iter__":=
 .of (owner:="set_iterator") (n:="__iter__") (by rw[typeLookup_type,builtinLookup_eq_fast];kernel_rfl) (by decide +kernel) (by decide +kernel) (by decide +kernel) (by first | exact .inl (by decide +kernel) | exact .inr (by decide +kernel)) (by rw[isSubtype_type];kernel_rfl)
def Ov:entryFor table "set_iterator.__iter__"=some Builtin.«dict_keyiterator.__iter__»:=entryFor_alias (id':="dict_keyiterator.__iter__") (by kernel_rfl) rfl (by decide +kernel) (by kernel_rfl)
def NL (a:Value):argsOk "set_iterator.__iter__" ⟨[a],[]⟩:=by
 unfold argsOk;rw[signature?_of (id:="set_iterator.__iter__") (n:=['_','_','r','e','t','i','_','_']) (o:=['r','o','t','a','r','e','t','i','_','t','e','s']) (by kernel_rfl) a_]
 kernel_rfl
end facts
theorem Y0 {α:Type}:∀ (l:List α) (i:Nat) (x:α),l[i]?=some x->l.Perm (x::l.eraseIdx i)
 | [],i,x,h=>by simp at h
 | y::l,0,x,h=>by simp at h;subst h;simp
 | y::l,i+1,x,h=>by
  have ih:=Y0 l i x (by simpa using h);rw[List.eraseIdx_cons_succ];exact (ih.cons y).trans (.swap x y _)
theorem aA {α:Type}(next:Nat->Nat):∀ (f k:Nat) (left:List α) (out:Array α),left.length=f->(pickOrder.go next f k left out).toList.Perm (out.toList++left)
 | 0,k,left,out,h=>by
  cases left with
  | nil=>unfold pickOrder.go;simp
  | cons _ _=>simp at h
 | f+1,k,left,out,h=>by
  unfold pickOrder.go;have hlt:next k%left.length<left.length:=Nat.mod_lt _ (by omega);rw[zA1 hlt];dsimp only;refine (aA next f (k+1) _ _ (by rw[List.length_eraseIdx_of_lt hlt];omega)).trans ?_;rw[Array.toList_push,List.append_assoc];exact (Y0 left _ _ (zA1 hlt)).symm.append_left _
def UB {α:Type}(next:Nat->Nat) (xs:Array α):(pickOrder next xs).toList.Perm xs.toList:=by
 unfold pickOrder;simpa using aA next xs.size 0 xs.toList #[] (by simp)
noncomputable def comes (w:World) (a:Addr) (es:Array (Int×Value)) (ep:Nat):Array (Int×Value):=if w.params.followText "set-order"=true then pickOrder (w.params.setOrder a ep) es else es
def oW (w:World) (a:Addr) (es:Array (Int×Value)) (ep:Nat):(comes w a es ep).toList.Perm es.toList:=by
 unfold comes;split
 .exact UB _ _
 .exact .refl _
noncomputable def qb (a:Addr) (slot i n ep:Nat):Obj:={ cls:=.type "set_iterator",data:=.fields #[rawInt slot,rawInt i,.ref a,rawInt n,rawInt ep] }
noncomputable def slotAt (t:SetTable):Nat->Nat
 | 0=>0
 | i+1=>t.place.getD i 0+1
theorem NH {t:SetTable}(hr:tp t.place.toList):∀ i,i<=t.place.size->below t.place (slotAt t i)=i
 | 0,_=>by
  obtain⟨h1,h2,h3⟩:=j5 (xs:=t.place) (j:=0) hr;rcases Nat.eq_zero_or_pos (below t.place 0) with q | q
  .exact q
  .have:=h2 0 (by omega) q;omega
 | i+1,hi=>by
  have hd:t.place.getD i 0=t.place[i]:=ej (by omega);show below t.place (t.place.getD i 0+1)=i+1;rw[hd];obtain⟨h1,h2,h3⟩:=j5 (xs:=t.place) (j:=t.place[i] + 1) hr;have wZ:∀ a b (ha:a<t.place.size) (hb:b<t.place.size),a<b->t.place[a]<t.place[b]:=λ a b ha hb hab=>by
   have r:=List.pairwise_iff_getElem.mp hr a b (by simpa using ha) (by simpa using hb) hab;rw[Array.getElem_toList,Array.getElem_toList] at r;exact r
  rcases Nat.lt_trichotomy (below t.place (t.place[i] + 1)) (i+1) with q | q | q
  .have:=h3 i (by omega) (by omega);omega
  .exact q
  .have a:=h2 (i+1) (by omega) q;have b:=wZ i (i+1) (by omega) (by omega) (by omega);omega
structure vd (w:World) (h:Heap) (a:Addr) (es:Array (Int×Value)) (ep:Nat) (t:SetTable):Prop where
 get:h.get? a=some { cls:=.type "set",dict:=none,data:=.set es ep t }
 fits:t.fits es.size=true
 wZ:tp t.place.toList
 led:t.led=vT w
 plain:t.plain=true
theorem vd.size {w:World}{h:Heap}{a:Addr}{es:Array (Int×Value)}{ep:Nat}{t:SetTable}(S:vd w h a es ep t):t.place.size=es.size:=by
 have:=S.fits;simp only[SetTable.fits,zE5,beq_iff_eq] at this;exact this.1
section
variable {prog:Program}{w:World}{A:Around}{E:Value->Shared->Prop}{s:Shared}
def Zt {a:Addr}{es:Array (Int×Value)}{ep:Nat}{t:SetTable}{i:Nat}{Q:Option (Value×Nat)->Shared->Prop}(S:vd w s.heap a es ep t) (hi:i<=es.size) (slot:Nat) (hs:w.params.followText "set-order"=false->slot=slotAt t i)
  (h:∀ slot',(w.params.followText "set-order"=false->slot'=slotAt t (i+1))->Q ((comes w a es ep)[i]?.map λ e=>(e.2,slot')) s):wpAny (model prog w) A (setNext a slot i ep) Q E s:=by
 unfold setNext setsByText;refine zWb (wpAny_setState_of S.get rfl S.fits ?_);dsimp only;refine zWb (zWb (wpAny_askSetting (zD1 ?_)));show wpAny _ A (if w.params.followText "set-order"=true then _ else _) Q E s;cases hb:w.params.followText "set-order" with
 | true=>
  rw[if_pos rfl,if_neg (by simp)];unfold setWalk setsByText;refine zWb (zWb (wpAny_setState_of S.get rfl S.fits ?_));dsimp only;refine zWb (zWb (wpAny_askSetting (zD1 ?_)));show wpAny _ A (if w.params.followText "set-order"=true then _ else _) _ E s;rw[if_pos hb];refine zWb (wpAny_askSetting (zD1 ?_));refine zD1 ?_;have:=h slot (λ q=>by rw[hb] at q;cases q);unfold comes at this;rw[if_pos hb] at this;exact this
 | false=>
  rw[if_neg (by simp)];split
  .rename_i hd;have hd':(!t.plain&&decide (es.size>1))=true:=hd;rw[S.plain] at hd';simp at hd'
  .show wpAny _ A ((if (!t.led&&!es.isEmpty)=true then unsupported "set:maker-not-led" else pure ()) >>= _) Q E s;have hl:t.led=true:=by rw[S.led];unfold vT;rw[hb];rfl
   rw[if_neg (by rw[hl];simp)];refine zWb (zD1 (zD1 ?_));have hsl:=hs hb;have hz:=S.size;rw[hsl,NH S.wZ i (by rw[hz];exact hi)];have:=h (slotAt t (i+1)) (λ _=>rfl);unfold comes at this;rw[if_neg (by rw[hb];simp)] at this;rcases Nat.lt_or_ge i es.size with q | q
   .have hp:i<t.place.size:=by rw[hz];exact q
    rw[zB8 q] at this;rw[zB8 q,zB8 hp];have e:slotAt t (i+1)=t.place[i] + 1:=by show t.place.getD i 0+1=_;rw[ej hp]
    rw[e] at this;exact this
   .rw[Array.getElem?_eq_none q] at this;rw[Array.getElem?_eq_none q];exact this
def qV {a I:Addr}{slot i n ep:Nat}(ho:s.heap.get? I=some (qb a slot i n ep)):s.TypeIs (.ref I) "set_iterator":=⟨_,ho,rfl⟩
def b6 (k:Nat):((k:Int)).toNat=k:=Int.toNat_natCast k
def V2 {I a:Addr}{es:Array (Int×Value)}{ep:Nat}{t:SetTable}{i slot:Nat}{e:Int×Value}{Q:Option Value->Shared->Prop}(ho:s.heap.get? I=some (qb a slot i es.size ep)) (S:vd w s.heap a es ep t) (hs:w.params.followText "set-order"=false->slot=slotAt t i) (he:(comes w a es ep)[i]?=some e)
  (hi:i<es.size) (h:∀ h' slot',(w.params.followText "set-order"=false->slot'=slotAt t (i+1))->h'.get? I=some (qb a slot' (i+1) es.size ep)->Heap.SameBut I s.heap h'->Q (some e.2) { s with heap:=h' }):wpAny (model prog w) A (pyNext (.ref I)) Q E s:=by
 unfold pyNext;refine zWb (wpAny_attempt (wpAny_callSpecial?_slot (name:=Str.ofString "__next__") (qV ho) pZ (wpAny_call_entry pZ (qV ho) Y4 ?_ (Xv _))));refine zWb (zD1 ?_);dsimp only;refine zWb (wpAny_fieldsOf ho rfl ?_);dsimp only[rawInt];refine zWb (zWb (wpAny_setState_of S.get rfl S.fits (zD1 ?_)));rw[if_neg (by simp)];refine zWb (Zt S (by omega) slot hs λ slot' hs'=>?_);rw[b6] at hs' ⊢;rw[he];dsimp only[Option.map_some];refine zWb (wpAny_setField ho rfl (by simp) ?_);have o1:=Heap.get?_update_self (Obj.mapFields (·.set! 0 (Value.int (slot':Int) 0))) ho rfl;refine zWb (wpAny_setField o1 rfl (by simp) ?_);have o2:=Heap.get?_update_self (Obj.mapFields (·.set! 1 (Value.int ((i:Int)+1) 0))) o1 rfl;refine zD1 ⟨_,rfl,zD1 (h _ slot' hs' o2 ((Heap.SameBut.update ..).trans (Heap.SameBut.update ..)))⟩
def V3 {I a:Addr}{es:Array (Int×Value)}{ep:Nat}{t:SetTable}{slot:Nat}{Q:Option Value->Shared->Prop}(hh:A.handled=none) (ho:s.heap.get? I=some (qb a slot es.size es.size ep)) (S:vd w s.heap a es ep t) (hs:w.params.followText "set-order"=false->slot=slotAt t es.size)
  (h:∀ h',Heap.ExtBut I s.heap h'->Q none { s with heap:=h' }):wpAny (model prog w) A (pyNext (.ref I)) Q E s:=by
 have hn:(comes w a es ep)[es.size]?=none:=by
  have:=(oW w a es ep).length_eq;simp only[zD2] at this;rw[Array.getElem?_eq_none (by omega)]
 unfold pyNext;refine zWb (wpAny_attempt (wpAny_callSpecial?_slot (name:=Str.ofString "__next__") (qV ho) pZ (wpAny_call_entry pZ (qV ho) Y4 ?_ (Xv _))));refine zWb (zD1 ?_);dsimp only;refine zWb (wpAny_fieldsOf ho rfl ?_);dsimp only[rawInt];refine zWb (zWb (wpAny_setState_of S.get rfl S.fits (zD1 ?_)));rw[if_neg (by simp)];refine zWb (Zt S (by simp) slot (by simpa using hs) λ slot' hs'=>?_);rw[b6,hn];dsimp only[Option.map_none];refine zWb (wpAny_setField ho rfl (by simp) ?_);refine zWb ?_;simp only[newExc,newTuple];refine zWb (wpAny_newObj_type ?_ (by size_fits));refine zWb (m:=firstArgMember _ _) (wpAny_of_eq (a:=Value.none) (by first | rfl | (simp only[firstArgMember];rfl)) (wpAny_newObj_type ?_ (by size_fits)));unfold raiseNew;refine zWb (wpAny_handled ?_);rw[show A.in1.handled=none from hh];refine zWb ((zD1 (wpAny_throw ?_)));refine zWb ((wpAny_isInstance (T:="StopIteration") (b:=true) ⟨_,zA9 _ rfl,rfl⟩ isSubtype_stop ?_));exact zD1 (h _ (((Heap.SameBut.update ..).extBut.push _).push _))
def V1 {I a:Addr}{slot i n ep:Nat}{Q:Value->Shared->Prop}(ho:s.heap.get? I=some (qb a slot i n ep)) (h:Q (.ref I) s):wpAny (model prog w) A (pyIter (.ref I)) Q E s:=by
 refine wpAny_pyIter_slot (qV ho) bN (wpAny_call_entry bN (qV ho) Ov ?_ (NL _));exact zD1 ⟨_,rfl,"set_iterator",_,qV ho,pZ.lookup,h⟩
def vd.keep {h h':Heap}{a:Addr}{es:Array (Int×Value)}{ep:Nat}{t:SetTable}(S:vd w h a es ep t) (k:∀ o,h.get? a=some o->h'.get? a=some o):vd w h' a es ep t:=⟨k _ S.get,S.fits,S.wZ,S.led,S.plain⟩
def Wx (hh:A.handled=none) (I a:Addr) (hne:a≠I) (es:Array (Int×Value)) (ep:Nat) (t:SetTable):
  Walks prog w A I [I,a] [I] es.size (λ i v=>∃ e,(comes w a es ep)[i]?=some e/\v=e.2) (λ i h=>(∃ slot,(w.params.followText "set-order"=false->slot=slotAt t i)/\h.get? I=some (qb a slot i es.size ep))/\vd w h a es ep t) where
 sub:=λ b hb=>by simp at hb;simp[hb]
 frame:=λ _ _ _ st k=>by
  obtain⟨⟨slot,h1,h2⟩,S⟩:=st;exact⟨⟨slot,h1,k I (by simp) _ h2⟩,S.keep λ o e=>k a (by simp) o e⟩
 item:=λ i s Q E hi st hQ=>by
  obtain⟨⟨slot,h1,h2⟩,S⟩:=st;have hl:i<(comes w a es ep).size:=by
   have:=(oW w a es ep).length_eq;simp only[zD2] at this;omega
  refine V2 h2 S h1 (zB8 hl) hi λ h' slot' g1 g2 g3=>?_;exact hQ _ h' s.toks ⟨_,zB8 hl,rfl⟩ ⟨⟨slot',g1,g2⟩,S.keep λ o e=>(g3.2 a hne).trans e⟩ λ b o hb e=>(g3.2 b (λ z=>hb (by simp[z]))).trans e
 done:=λ s Q E st hQ=>by
  obtain⟨⟨slot,h1,h2⟩,S⟩:=st;exact V3 hh h2 S h1 λ h' g=>hQ h' s.toks λ b o hb e=>g b o (λ z=>hb (by simp[z])) e
 self:=λ _ _ _ _ st hQ=>by
  obtain⟨⟨slot,h1,h2⟩,S⟩:=st;exact V1 h2 hQ
end
section
variable {prog:Program}{w:World}{A:Around}{E:Value->Shared->Prop}{s:Shared}
def Q3:typeLookup (.type "set") "__len__"=pure (some (.builtin "set.__len__")):=F.slot_set_len.lookup
def split_len:splitId "set.__len__"=some ("set","__len__"):=by decide +kernel
def Qf {a:Addr}{es:Array (Int×Value)}{ep:Nat}{t:SetTable}{Q:Bool->Shared->Prop}(S:vd w s.heap a es ep t) (h:Q false s):wpAny (model prog w) A (setDrawn a) Q E s:=by
 unfold setDrawn setsByText;refine zWb (wpAny_setState_of S.get rfl S.fits ?_);dsimp only;refine zWb (zWb (wpAny_askSetting (zD1 (zD1 ?_))));show Q (!w.params.followText "set-order"&&(!t.plain&&decide (es.size>1))) s;rw[S.plain];simpa using h
set_option maxRecDepth 100000 in
set_option maxHeartbeats 4000000 in
def Qi {a:Addr}{es:Array (Int×Value)}{ep:Nat}{t:SetTable}{Q:Bool->Shared->Prop}(S:vd w s.heap a es ep t) (h:Q false s):wpAny (model prog w) A (Builtin.List.listLengthHint (.ref a)) Q E s:=by
 have Ty:s.TypeIs (.ref a) "set":=⟨_,S.get,rfl⟩
 unfold Builtin.List.listLengthHint;refine zWb (wpAny_specialOf Ty Q3 ?_);dsimp only;rw[split_len];dsimp only;refine zWb (wpAny_isInstance (b:=true) Ty sub_set_self ?_);rw[if_neg (by decide)];rw[if_pos (by decide +kernel)];refine zWb (wpAny_typeOf Ty ?_);exact zD1 h
set_option maxRecDepth 100000 in
set_option maxHeartbeats 4000000 in
def OX {a:Addr}{es:Array (Int×Value)}{ep:Nat}{t:SetTable}{Q:List Value->Shared->Prop}(hh:A.handled=none) (S:vd w s.heap a es ep t) (hn:es.size<=sizeLine)
  (h:∀ (h':Heap) (tk:Nat),(∀ b o,b<s.heap.objs.size->s.heap.get? b=some o->h'.get? b=some o)->s.heap.objs.size<=h'.objs.size->Q ((comes w a es ep).toList.map (·.2)) { s with heap:=h',toks:=tk }):wpAny (model prog w) A (collect (.ref a)) Q E s:=by
 have ha:a<s.heap.objs.size:=zA8 S.get;unfold collect;refine zWb (wpAny_runValue (codeAny_builtin F.entry_proto_collect ?_));rw[Around.under_plainId F.plain_proto_collect _];show wpAny _ A.in1 (newList [] >>= λ l=>again (.builtin "list.__iadd__" ⟨[l,.ref a],[]⟩)) _ _ s;refine zWb (wpAny_newObj_type (zD1 ⟨plainId_quiet F.plain_list_iadd _,codeAny_builtin F.entry_list_iadd ?_⟩));rw[Around.under_plainId F.plain_list_iadd _]
 let L0:Obj:={ cls:=.type "list",data:=.seq ([]:List Value).toArray }
 have S1:vd w (s.heap.push L0) a es ep t:=S.keep λ o e=>zHp _ e;have T1:Shared.TypeIs { s with heap:=s.heap.push L0 } (.ref a) "set":=⟨_,S1.get,rfl⟩
 show wpAny _ A.in1 (Builtin.List.listExtendWith (.ref s.heap.objs.size) (.ref a) (.ref s.heap.objs.size)) _ _ { s with heap:=s.heap.push L0 };unfold Builtin.List.listExtendWith;refine zWb (wpAny_typeOf T1 ?_);have hne:s.heap.objs.size≠a:=Nat.ne_of_gt ha;have c1:Builtin.List.listSameRef (.ref s.heap.objs.size) (.ref a)=false:=by simp[Builtin.List.listSameRef,hne]
 rw[if_neg (by rw[c1];decide)];refine zWb (wpAny_pyIter_slot T1 F.slot_set_iter (wpAny_call_entry F.slot_set_iter T1 Ow ?_ (F.args_set_iter_1 _)));refine zWb (zWb (zD1 (zD1 ?_)));refine zWb (zWb (zWb (wpAny_setState_of S1.get rfl S1.fits (zD1 (zD1 ?_)))));refine zWb (Qf S1 ?_);rw[if_neg (by decide)];refine zWb (zD1 ?_);refine zWb (wpAny_setEpoch_of S1.get rfl S1.fits ?_);refine zWb (wpAny_newObj_type (zD1 ⟨_,rfl,"set_iterator",_,⟨_,zA9 _ rfl,rfl⟩,pZ.lookup,?_⟩))
 let I:=(s.heap.push L0).objs.size
 let h2:=(s.heap.push L0).push (qb a 0 0 es.size ep)
 have S2:vd w h2 a es ep t:=S1.keep λ o e=>zHp _ e;have hI:h2.get? I=some (qb a 0 0 es.size ep):=zA9 _ rfl;have hL:h2.get? s.heap.objs.size=some L0:=zHp _ (zA9 _ rfl);have hsz:(s.heap.push L0).objs.size=s.heap.objs.size+1:=Heap.size_push _ _;show wpAny _ A.in1 _ _ _ { s with heap:=h2 };refine zWb (wpAny_holding (Qi (s:={ s with heap:=h2 }) S2 ?_));rw[if_pos (by decide +kernel)];refine zWb (wpAny_rule ?_);refine zWb ?_;show wpAny _ A.in1 (updateSeq s.heap.objs.size (·.push .none) >>= λ _=>updateSeq s.heap.objs.size (·.pop)) _ _ { s with heap:=h2 };refine zWb (wpAny_updateSeq hL rfl ?_);have hL2:=Heap.get?_update_self (Obj.mapSeq (·.push Value.none)) hL rfl;refine wpAny_updateSeq hL2 rfl ?_;have hL3:=Heap.get?_update_self (Obj.mapSeq (·.pop)) hL2 rfl
 let h3:=(h2.update s.heap.objs.size (Obj.mapSeq (·.push Value.none))).update s.heap.objs.size (Obj.mapSeq (·.pop))
 have oth:∀ b o,b≠s.heap.objs.size->h2.get? b=some o->h3.get? b=some o:=λ b o hb e=>(Heap.get?_update_other _ _ (Ne.symm hb)).trans ((Heap.get?_update_other _ _ (Ne.symm hb)).trans e);have haI:a≠I:=by show a≠(s.heap.push L0).objs.size;rw[hsz];exact zB3 (Nat.lt_succ_of_lt ha)
 have hIn:I≠s.heap.objs.size:=by show (s.heap.push L0).objs.size≠_;rw[hsz];exact Nat.ne_of_gt (zE2 _)
 refine zD1 ⟨plainId_quiet F.plain_extend_loop _,codeAny_extend_loopS ((Wx (A:=A.in1) hh I a haI es ep t).toS) hn s.heap.objs.size ?_ _ es.size 0 { s with heap:=h3 } #[] _ rfl (zD4 _) ⟨⟨0,λ _=>rfl,oth I _ hIn hI⟩,S2.keep λ o e=>oth a o (Ne.symm hne) e⟩ hL3 (ItemsOf.nil _) λ s' acc c' hm hS' hacc=>?_⟩
 .intro hm;rcases zA5.mp hm with q | q
  .exact hIn q.symm
  .exact hne (zB6.mp q)
 .refine zWb (wpAny_load hS' (zD1 ?_));obtain⟨h',g',d',tk',os'⟩:=s';obtain rfl:g'=s.gens:=hm.gens;obtain rfl:d'=s.drawn:=hm.drawn;obtain rfl:os'=s.os:=hm.os;have hcm:(comes w a es ep).size=es.size:=by
   have:=(oW w a es ep).length_eq;simpa using this
  have e:acc.toList=(comes w a es ep).toList.map (·.2):=by
   refine List.ext_getElem? λ j=>?_;rw[zA3];rcases Nat.lt_or_ge j es.size with q | q
   .have hjl:j<acc.size:=by rw[hacc.1];exact q
    have hj:acc[j]?=some acc[j]:=zB8 hjl;obtain⟨e,e1,e2⟩:=hacc.2 j _ hj;rw[zD3,zD3,hj,e1,e2];rfl
   .rw[zD3,zD3,Array.getElem?_eq_none (by rw[hacc.1];exact q),Array.getElem?_eq_none (by rw[hcm];exact q)];rfl
  rw[e];refine h h' tk' (λ b o hb e=>hm.heap b o (λ q=>?_) (oth b o (zB3 hb) (zHp _ (zHp _ e)))) ?_
  .rcases zA5.mp q with q | q
   .exact zB3 hb q
   .have q':b=(s.heap.push L0).objs.size:=zB6.mp q;rw[hsz] at q';exact zB3 (Nat.lt_succ_of_lt hb) q'
  .exact zE3 (zA8 hS')
end
end ST
namespace ST
open PySem PySem.SetTable PyProof.Rows L4
section
variable {prog:Program}{w:World}{A:Around}{E:Value->Shared->Prop}{s:Shared}
def bD {a:Addr}{es:Array (Int×Value)}{ep:Nat}{t:SetTable}{Q:Value->Shared->Prop}{Out:Array Value->Prop}(hh:A.handled=none) (S:vd w s.heap a es ep t) (hz:es.size<=sizeLine)
  (core:∀ s6:Shared,2<=es.size->(∀ b o,s.heap.get? b=some o->s6.heap.get? b=some o)->Core prog w A.in1.in1 E ((comes w a es ep).toList.map (·.2)) Out s6) (short:es.size<2->Out ((comes w a es ep).toList.map (·.2)).toArray)
  (fin:∀ (out:Array Value) (h':Heap) (tk l:Nat),Out out->out.size=es.size->s.heap.objs.size<=l->(∀ b o,s.heap.get? b=some o->h'.get? b=some o)->(∃ e,h'.get? l=some (seqObj "list" out e))->Q (.ref l) { s with heap:=h',toks:=tk }):
  wpAny (model prog w) A (call (.builtin "sorted") [.ref a]) Q E s:=by
 have hcl:((comes w a es ep).toList.map (·.2)).length=es.size:=by
  have:=(oW w a es ep).length_eq;rw[zA7,this,zD2]
 refine Calls.call_function_entry kind_sorted plain_sorted entry_sorted (args_sorted1 _) ?_;unfold Builtin.«sorted»;refine zWb (m:=checkCount "sorted" 1 1 _) (zD1 (zWb (OX (A:=A.in1) hh S hz λ h1 tk k1 k2=>zWb (wpAny_newList ?_ (by rw[hcl];exact hz)))));generalize hvs:(comes w a es ep).toList.map (·.2)=vs at *;have hoL:(h1.push (seqObj "list" vs.toArray 0)).get? h1.objs.size=some (seqObj "list" vs.toArray 0):=zA9 _ rfl;have k3:∀ b o,s.heap.get? b=some o->h1.get? b=some o:=λ b o q=>k1 b o (zA8 q) q;show wpAny _ _ _ _ _ { s with heap:=h1.push (seqObj "list" vs.toArray 0),toks:=tk };refine zWb (wpAny_holding (wpAny_call_entry slot_list_sort ⟨_,hoL,rfl⟩ entry_list_sort (fF hoL (by rw[hcl];exact hz) (λ h2 s6 k=>core s6 (by rw[<- hcl];exact h2) λ b o q=>k b o ?_ (zHp _ (k3 b o q))) (λ h2=>short (by rw[<- hcl];exact h2)) λ out g1 g2=>⟨_,rfl,?_⟩) (args_list_sort _)))
 .exact zB3 (zC3 (zA8 q) k2)
 .refine zD1 ⟨_,rfl,fin out _ tk h1.objs.size g1 (by rw[g2,hcl]) k2 (λ b o q=>?_) (sortedHeap_at (n:=0) hoL)⟩;have hlt:b<h1.objs.size:=zA8 (k3 b o q);rw[sortedHeap_old (zB3 hlt) (by rw[size_push'];exact Nat.lt_succ_of_lt hlt),Heap.get?_push_ne _ _ _ (zB3 hlt)];exact k3 b o q
end
end ST
namespace ST
open PySem PySem.SetTable PySem.Spec PyProof.Rows L2
def yX (w:World) (a:Addr) (us:List Value):Heap->Prop:=λ h=>∃ es ep t,vd w h a es ep t/\es.toList.map (·.2)=us
def yX.sr {w:World}{a:Addr}{us:List Value}{h1 h2:Heap}(S:yX w a us h1) (k:∀ o,h1.get? a=some o->h2.get? a=some o):yX w a us h2:=by
 obtain⟨es,ep,t,S,e⟩:=S;exact⟨es,ep,t,S.keep k,e⟩
def uc.at {prog:Program}{w:World}{h:Heap}{a:Addr}{xs:List (List Int×Addr)}(S:uc prog w h a xs (vT w)):yX w a (xs.map λ e=>Value.ref e.2) h:=by
 obtain⟨⟨es,ep,t,ho,X,h1,h2,h3⟩,_⟩:=S;exact⟨es,ep,t,⟨ho,X.fits,X.tab.wZ,h1,h2⟩,by rw[X.es,zD6];rfl⟩
section
variable {X:Cx}
abbrev j9 (K:zFr) (H:Hp) (ys:List V) (rows:List (List Int)):Prop:=Paired (λ v r=>r≠[]/\∃ b,v=V.ref b/\ya K H b (r.map V.int)) ys rows
theorem ZN:∀ {ns:List Int}{us:List Value},Vals (ns.map V.int) us->∀ {prog:Program}{w:World},ItemsAre (intKind prog w) ns us
 | [],_,.nil,_,_=>.nil
 | n::ns,_,.cons r t,prog,w=>by
  obtain⟨tk,rfl⟩:=r;exact .cons (intKind_is _ _ _ _) (ZN t)
structure pJ (ys:List V) (rows:List (List Int)) (vs:List V) (rs:List (List Int)):Prop where
 sub:∀ (i:Nat) v r,vs[i]?=some v->rs[i]?=some r->∃ (j:Nat),ys[j]?=some v/\rows[j]?=some r
 len:vs.length=rs.length
 nd:rs.Nodup
 all:∀ r∈rows,r∈rs
def Nn (hc:X.calm=true) (hu:X.A.units+64<cLine):yT X (.type "set") (λ xs H Q=>∃ p ys,∃ rows:List (List Int),xs=[.ref p]/\zV X.K H p ys/\j9 X.K H ys rows/\rows.length<64/\
  ∀ (l:Addr) (us:List Value) (vs:List V) (rs:List (List Int)),H l=none->Vals vs us->pJ ys rows vs rs->Q (.ref l) (upd H l (.ext (yX X.w l us)))):=by
 intro pins s B H xs us Q I r h;obtain⟨p,ys,rows,rfl,hq,hr,h64,q⟩:=h;obtain⟨u,rfl,ru⟩:=vals1 r;cases ru;obtain⟨its,rv,pl,hz⟩:=I.list hq;have hl:=rv.length;have hlr:ys.length=rows.length:=Paired.length hr;have t9:pF X.prog X.w s.heap its.toArray rows:=λ i v hv=>by
  have hv':its[i]?=some v:=by simpa using hv
  have hi:i<its.length:=(zA2.mp hv').1;obtain⟨hne,b,hb,hsq⟩:=L4.Paired.at' hr (i:=i) (by omega) V.zj ([]:List Int);have hy:ys[i]?=some (V.ref b):=by
   rw[zA1 (by omega)];have:ys.getD i V.zj=ys[i]'(by omega):=by simp[show i<ys.length by omega]
   rw[this] at hb;rw[hb]
  obtain⟨v',e1,e2⟩:=rv.get hy;rw[hv'] at e1;cases e1;cases (show v=Value.ref b from e2);obtain⟨its2,rv2,⟨o,e,hcl,n,hd⟩,_⟩:=I.tuple hsq;refine⟨b,rows.getD i [],rfl,?_,o,its2.toArray,n,e,hcl,hd,by simpa using ZN rv2⟩;simp[show i<rows.length by omega]
 have hh:X.A.handled=none:=I.ok.hd hc;refine Nr (A:=X.A) hh hu pl.isList t9 (by rw[zA0];omega) λ h' tk xs S U k=>?_;have kk:∀ b o,s.heap.get? b=some o->h'.get? b=some o:=λ b o e=>k b o (zA8 e) e;have hfr:H s.heap.objs.size=none:=I.zD.fresh (zA4 _);have hSO:=S.at;have vals:Vals (xs.map λ e=>V.ref e.2) (xs.map λ e=>Value.ref e.2):=by
  clear S U hSO
  induction xs with
  | nil=>exact .nil
  | cons e xs ih=>exact .cons rfl ih
 refine⟨.ref s.heap.objs.size,_,I.laid (t':=tk) (o:=.ext (yX X.w s.heap.objs.size (xs.map λ e=>Value.ref e.2))) kk (zA4 _) ?_,rfl,q _ _ (xs.map λ e=>V.ref e.2) (xs.map (·.1)) hfr vals ⟨λ i v r hv hr'=>?_,by simp,S.nd,λ r hr'=>?_⟩⟩
 .obtain⟨es,ep,t,St,e⟩:=id hSO;exact⟨hSO,⟨_,St.get⟩,λ h1 h2 S1 k=>S1.sr k⟩
 .rw[zA3] at hv hr';obtain⟨e,e1,rfl⟩:=zOm hv;rw[e1] at hr';cases hr';obtain⟨j,j1,j2,j3⟩:=U.own e (zB7 e1);refine⟨j,?_,j3⟩;have hj':its[j]?=some (Value.ref e.2):=by simpa using j2
  have hjl:j<ys.length:=by rw[hl];exact (zA2.mp hj').1
  obtain⟨v',e2,e3⟩:=rv.get (zA1 hjl);rw[hj'] at e2;cases e2;obtain⟨hne,b,hb,_⟩:=L4.Paired.at' hr (i:=j) (by omega) V.zj ([]:List Int);have:ys.getD j V.zj=ys[j]:=by simp[hjl]
  rw[this] at hb;rw[hb] at e3;cases (show Value.ref e.2=Value.ref b from e3);rw[zA1 hjl,hb]
 .obtain⟨j,hj⟩:=List.mem_iff_getElem?.mp hr';exact U.all j r (by have:=(zA2.mp hj).1;rw[zA0];omega) hj
theorem Paired.mk {α β:Type}{F:α->β->Prop}:∀ {l:List α}{m:List β},l.length=m.length->(∀ (i:Nat) a b,l[i]?=some a->m[i]?=some b->F a b)->Paired F l m
 | [],[],_,_=>.nil
 | a::l,b::m,h,f=>.cons (f 0 a b rfl rfl) (Paired.mk (by simpa using h) λ i x y hx hy=>f (i+1) x y (by simpa using hx) (by simpa using hy))
 | [],_::_,h,_=>by simp at h
 | _::_,[],h,_=>by simp at h
def Nl (hc:X.calm=true):yT X (.builtin "sorted") (λ xs H Q=>∃ l us vs,∃ rs:List (List Int),xs=[.ref l]/\H l=some (.ext (yX X.w l us))/\Vals vs us/\j9 X.K H vs rs/\rs.length<64/\
  ∀ (p:Addr) (idx:List Nat),H p=none->idx.Perm (List.range vs.length)->(idx.map λ i=>rs.getD i []).Pairwise (λ a b=>HT.lexLt b a=false)->Q (.ref p) (upd H p (.lst (idx.map λ i=>vs.getD i .zj)))):=by
 intro pins s B H xs us0 Q I r h;obtain⟨l,us,vs,rs,rfl,hl,hv,hr,h64,q⟩:=h;obtain⟨u,rfl,ru⟩:=vals1 r;cases ru;obtain⟨⟨es,ep,t,S,eu⟩,-,-⟩:=(show x8 X.prog X.w H s.heap l (.ext (yX X.w l us)) from I.zD l _ hl)
 have hlen:es.size=us.length:=by rw[<- eu];simp
 have hvl:=hv.length;have hrl:vs.length=rs.length:=Paired.length hr;have hh:X.A.handled=none:=I.ok.hd hc;obtain⟨ix,ix1,ix2⟩:∃ ix:List Nat,ix.Perm (List.range us.length)/\(comes X.w l es ep).toList.map (·.2)=ix.map λ i=>us.getD i Value.none:=by
  have hp:((comes X.w l es ep).toList.map (·.2)).Perm us:=by rw[<- eu];exact (oW X.w l es ep).map _
  generalize (comes X.w l es ep).toList.map (·.2)=cs at hp;clear eu hl hv hvl hlen
  induction hp with
  | nil=>exact⟨[],.refl _,rfl⟩
  | @cons x a b _ ih=>
   obtain⟨ix,i1,i2⟩:=ih;refine⟨0::ix.map (· + 1),?_,?_⟩
   .rw[zC0,List.range_succ_eq_map];exact (i1.map _).cons 0
   .rw[zA6,zD6,i2];rfl
  | @swap x y a=>
   refine⟨1::0::(List.range a.length).map (· + 2),?_,?_⟩
   .rw[zC0,zC0,List.range_succ_eq_map,List.range_succ_eq_map,zA6,zD6];exact .swap _ _ _
   .rw[zA6,zA6,zD6];refine congrArg _ (congrArg _ ?_);refine List.ext_getElem (by simp) λ i h1 h2=>?_;simp[h1]
  | @trans a b c _ _ ih1 ih2=>
   obtain⟨i1,p1,e1⟩:=ih1;obtain⟨i2,p2,e2⟩:=ih2;have hlb:b.length=c.length:=by rw[e2,zA7,p2.length_eq];simp
   refine⟨i1.map λ i=>i2.getD i 0,?_,?_⟩
   .refine (p1.map _).trans ?_;have e:(List.range b.length).map (λ i=>i2.getD i 0)=i2:=by
     have hl2:i2.length=b.length:=by rw[p2.length_eq,hlb];simp
     rw[<- hl2];refine List.ext_getElem (by simp) λ i h1 h2=>?_;simp[h2]
    rw[e];exact p2
   .rw[e1,zD6];refine List.map_congr_left λ i hi=>?_;have hi':i<b.length:=by simpa using p1.mem_iff.mp hi
    have hl2:i<i2.length:=by rw[p2.length_eq,<- hlb];simpa using hi'
    show b.getD i _=c.getD (i2.getD i 0) _;rw[e2];simp[hl2]
 have hix:∀ i∈ix,i<us.length:=λ i hi=>by simpa using ix1.mem_iff.mp hi
 have rows_at:∀ h6:Heap,(∀ b o,s.heap.get? b=some o->h6.get? b=some o)->L4.sY h6 ((comes X.w l es ep).toList.map (·.2)) (ix.map λ i=>rs.getD i []):=λ h6 k=>by
  rw[ix2];refine Paired.mk (by simp) λ j a b ha hb=>?_;rw[zA3] at ha hb;obtain⟨i,hi,rfl⟩:=zOm ha;rw[hi] at hb;cases hb;have hil:=hix i (zB7 hi);obtain⟨hne,b,hbv,hsq⟩:=L4.Paired.at' hr (i:=i) (by omega) V.zj ([]:List Int);obtain⟨u',e1,e2⟩:=hv.get (i:=i) (x:=vs.getD i V.zj) (by simp[show i<vs.length by omega]);rw[hbv] at e2;cases (show u'=Value.ref b from e2);obtain⟨its2,rv2,⟨o,e,hcl,n,hd⟩,_⟩:=I.tuple hsq;have eg:us.getD i Value.none=Value.ref b:=by simp[e1]
  refine⟨hne,b,o,its2.toArray,n,eg,k _ _ e,hcl,hd,by simpa using intsAre_of rv2⟩
 have hcl:((comes X.w l es ep).toList.map (·.2)).length=us.length:=by rw[ix2,zA7,ix1.length_eq];simp
 refine bD (Out:=L4.lG ((comes X.w l es ep).toList.map (·.2)) (ix.map λ i=>rs.getD i [])) hh S (by rw[hlen];have:sizeLine=16777216:=rfl;omega) (λ s6 h2 k=>L4.eQ (rows_at _ k) (by rw[hcl,<- hlen];exact h2) (by rw[hcl];omega)) (λ h1=>?_) λ out h' tk p ho hs hp k hat=>?_
 .refine⟨List.range ((comes X.w l es ep).toList.map (·.2)).length,.refl _,?_,?_⟩
  .refine List.ext_getElem (by simp) λ i h1 h2=>?_;simp at h2;simp[h2]
  .rw[List.pairwise_map,List.pairwise_iff_getElem];intro i j hi hj hij;rw[hcl] at hi hj;simp at hi hj;omega
 .obtain⟨idx,g1,g2,g3⟩:=ho;obtain⟨e,he⟩:=hat;rw[hcl] at g1;have hfr:H p=none:=I.zD.fresh hp;have hidx:∀ i∈idx,i<us.length:=λ i hi=>by simpa using g1.mem_iff.mp hi
  have hxl:ix.length=us.length:=by rw[ix1.length_eq];simp
  let jx:=idx.map λ i=>ix.getD i 0
  have hjp:jx.Perm (List.range vs.length):=by
   rw[hvl];refine (g1.map _).trans ?_;have e:(List.range us.length).map (λ i=>ix.getD i 0)=ix:=by
    rw[<- hxl];refine List.ext_getElem (by simp) λ i h1 h2=>?_;simp[h2]
   rw[e];exact ix1
  have hjr:(jx.map λ i=>rs.getD i [])=idx.map λ i=>(ix.map λ i=>rs.getD i []).getD i []:=by
   rw[zD6];refine List.map_congr_left λ i hi=>?_;have:=hidx i hi;simp[show i<ix.length by omega]
  refine⟨.ref p,_,I.laid (t':=tk) (o:=.lst (jx.map λ i=>vs.getD i .zj)) k hp ?_,rfl,q p jx hfr hjp (by rw[hjr];exact g3)⟩;refine⟨by rw[zA7,hjp.length_eq,zC5];have:sizeLine=16777216:=rfl;omega,out.toList,e,?_,by simpa using he⟩;rw[g2,ix2];refine Paired.mk (by simp[jx]) λ j a b ha hb=>?_;rw[zA3] at ha hb;obtain⟨i,hi,rfl⟩:=zOm hb;simp only[jx,zA3,hi,Option.map_some,Option.some.injEq] at ha;have hil:=hidx i (zB7 hi);have hx:ix.getD i 0<us.length:=by
   have:ix.getD i 0∈ix:=by simp[show i<ix.length by omega]
   exact hix _ this
  obtain⟨u',e1,e2⟩:=hv.get (i:=ix.getD i 0) (x:=vs.getD (ix.getD i 0) V.zj) (by
   have hx':ix.getD i 0<vs.length:=by omega
   generalize ix.getD i 0=q at hx';rw[zB1,zA1 hx'];rfl)
  subst ha;have e3:(ix.map λ i=>us.getD i Value.none).getD i Value.none=u':=by
   simp[show i<ix.length by omega] at e1 ⊢;simp[e1]
  rw[e3];exact e2
end
end ST
namespace L5
open PySem PySem.Spec L2 L3
open PyProof.Rows hiding St
noncomputable def wO:List (List Int)->List (List Int)
 | []=>[]
 | r::rs=>if r∈wO rs then wO rs else r::wO rs
theorem oD {r:List Int}:∀ {rs:List (List Int)},r∈wO rs↔r∈rs
 | []=>.rfl
 | x::rs=>by
  unfold wO;split
  .rename_i h;rw[oD,zA5];exact⟨.inr,λ h'=>h'.elim (λ e=>e▸oD.mp h) id⟩
  .rw[zA5,zA5,oD]
theorem fm:∀ rs:List (List Int),(wO rs).Nodup
 | []=>.nil
 | x::rs=>by
  unfold wO;split
  .exact fm rs
  .rename_i h;exact List.nodup_cons.mpr ⟨h,fm rs⟩
theorem kZ:∀ rs:List (List Int),(wO rs).length<=rs.length
 | []=>zA4 _
 | x::rs=>by
  unfold wO;have:=kZ rs;split <;> simp only[zC0] <;> omega
def uX:xT:=λ ds S Q=>match ds with
 | [.tup _]=>False
 | [d]=>∃ rows:List (List Int),zM d S=some (rows.map w6)/\rows.length<64/\(∀ r∈rows,r≠[])/\∀ l,S l=none->Q (.ref l) (ups S l (.lst ((L4.xW (wO rows)).map w6)))
 | _=>False
noncomputable def ky:List T->Option T
 | [.lst ts]=>(uq ts).bind λ rs=>if rs.length<64/\∀ r∈rs,r≠[] then some (.lst ((L4.xW (wO rs)).map yq)) else none
 | _=>none
def Pw:uh zJ ky uX:=λ S Z ys z ds Q hz hv e hq=>by
 unfold ky at e;split at e
 .obtain⟨d,rfl,h1⟩:=vM hv;obtain⟨rs,e1,e2⟩:=zOb e;split at e2
  .rename_i hc;cases e2;cases gr e1;obtain⟨es,h2,h3⟩:=h1.seq rfl;cases pY.mp h3;have key:∃ rows:List (List Int),zM d S=some (rows.map w6)/\rows.length<64/\(∀ r∈rows,r≠[])/\∀ l,S l=none->Q (.ref l) (ups S l (.lst ((L4.xW (wO rows)).map w6))):=
    ⟨rs,h2,hc.1,hc.2,λ l hl=>hq _ _ (.new hl _) (tF hz hl (pY.mpr rfl))⟩
   obtain⟨_,q | ⟨a,q,_⟩,_⟩:=h1.lst
   .subst q;exact key
   .subst q;exact key
  .cases e2
 .cases e
section
variable {X:Cx}{K:zFr}{e:Expr}{tA:yv}{pos pos2 p p2:Pos}
def uX.mo:ug uX:=λ ds S Q Q' hq h=>by
 unfold uX at h ⊢;split at h
 .exact h.elim
 .obtain⟨rows,h1,h2,h3,h4⟩:=h;exact⟨rows,h1,h2,h3,λ l hl=>hq _ _ (h4 l hl)⟩
 .exact h.elim
def zo.pick {H:Hp}{ys vs:List V}{rows rs:List (List Int)}(h:zo K H (rows.map w6) ys) (P:ST.pJ ys rows vs rs):zo K H (rs.map w6) vs:=by
 have key:∀ (vs:List V) (rs:List (List Int)),vs.length=rs.length->(∀ (i:Nat) v r,vs[i]?=some v->rs[i]?=some r->∃ (j:Nat),ys[j]?=some v/\rows[j]?=some r)->zo K H (rs.map w6) vs:=by
  intro vs
  induction vs with
  | nil=>intro rs hl _;cases rs with
   | nil=>exact .nil
   | cons _ _=>simp at hl
  | cons v vs ih=>intro rs hl hp;cases rs with
   | nil=>simp at hl
   | cons r rs=>
    refine .cons ?_ (ih rs (by simpa using hl) λ i v r hv hr=>hp (i+1) v r (by simpa using hv) (by simpa using hr));obtain⟨j,j1,j2⟩:=hp 0 v r rfl rfl;obtain⟨x,e1,e2⟩:=h.get (i:=j) (d:=w6 r) (by rw[zA3,j2];rfl);rw[j1] at e1;cases e1;exact e2
 exact key vs rs P.len P.sub
def pJ.mem {ys vs:List V}{rows rs:List (List Int)}(P:ST.pJ ys rows vs rs) {r:List Int}:r∈rs↔r∈rows:=by
 refine⟨λ h=>?_,P.all r⟩;obtain⟨i,hi⟩:=List.mem_iff_getElem?.mp h;have hl:i<vs.length:=by rw[P.len];exact (zA2.mp hi).1
 obtain⟨j,_,j2⟩:=P.sub i _ r (zA1 hl) hi;exact zB7 j2
def uX.fits {w:World}:tw K uX (λ xs H Q=>∃ p ys,∃ rows:List (List Int),xs=[.ref p]/\zV K H p ys/\ST.j9 K H ys rows/\rows.length<64/\
  ∀ (l:Addr) (us:List Value) (vs:List V) (rs:List (List Int)),H l=none->Vals vs us->ST.pJ ys rows vs rs->
   ∃ l' us' vs',∃ rs':List (List Int),[V.ref l]=[.ref l']/\(upd H l (.ext (ST.yX w l us))) l'=some (.ext (ST.yX w l' us'))/\Vals vs' us'/\ST.j9 K (upd H l (.ext (ST.yX w l us))) vs' rs'/\rs'.length<64/\
    ∀ (p:Addr) (idx:List Nat),(upd H l (.ext (ST.yX w l us))) p=none->idx.Perm (List.range vs'.length)->(idx.map λ i=>rs'.getD i []).Pairwise (λ a b=>HT.lexLt b a=false)->Q (.ref p) (upd (upd H l (.ext (ST.yX w l us))) p (.lst (idx.map λ i=>vs'.getD i .zj)))):=λ xs ds H S Q h0 h2 h=>by
 unfold uX at h;split at h
 .exact h.elim
 .rename_i d hn;obtain⟨x,hx,h1⟩:=h0.one;subst hx;obtain⟨rows,e,h64,hne,h⟩:=h;obtain⟨a,ys,rfl,g1,g2⟩:=rJ h1 h2 e (λ ts z=>hn ts z);refine⟨a,ys,rows,rfl,g1,nL g2 hne,h64,λ l us vs rs hf hv P=>?_⟩;have g3:=zo.pick g2 P;have x1:Ext H (upd H l (.ext (ST.yX w l us))):=.new hf _;have hper:rs.Perm (wO rows):=(List.perm_ext_iff_of_nodup P.nd (fm rows)).mpr λ r=>by rw[pJ.mem P,oD]
  refine⟨l,us,vs,rs,rfl,yS,hv,nL (zo.ext x1 _ g3) λ r hr=>hne r ((pJ.mem P).mp hr),by rw[hper.length_eq];have:=kZ rows;omega,λ p idx hp hi hs=>?_⟩;rw[P.len] at hi;have heq:=L4.bE ((Zy hi).trans hper) hs;have hpl:p≠l:=λ z=>by subst z;rw[yS] at hp;cases hp
  have hpH:H p=none:=by rw[yU hpl] at hp;exact hp
  have x2:Ext (upd H l (.ext (ST.yX w l us))) (upd (upd H l (.ext (ST.yX w l us))) p (.lst (idx.map λ i=>vs.getD i .zj))):=.new hp _;have r1:zO K (upd H l (.ext (ST.yX w l us))) S:=h2.new hf;refine h p (h2.none hpH) _ _ (by simp only[zi]) (x1.trans x2) (r1.ups x2 ⟨_,yS,?_⟩);rw[<- heq];exact zo.ext (x1.trans x2) _ (zo.perm g3 λ i h=>by simpa using hi.mem_iff.mp h)
 .exact h.elim
end
end L5
namespace ST
open PySem PySem.SetTable PyProof.Rows
theorem Yl {t:SetTable}{hs:List Int}(T:Tab t hs) (h:Int):∀ (f k K:Nat),k<=K->K<k+f->(way t.mask h K).j∉t.place.toList->(∀ m<K,(way t.mask h m).j∈t.place.toList)->probe.go t (λ _=>h+1) h f (way t.mask h k)=some (.empty (way t.mask h K).j none)
 | 0,k,K,h1,h2,_,_=>by omega
 | f+1,k,K,h1,h2,h3,h4=>by
  by_cases e:k=K
  .subst e;unfold probe.go;rw[T.empty h3,jZ]
  .obtain⟨i,g,p1,_⟩:=T.at (h4 k (by omega));have ih:=Yl T h f (k+1) K (by omega) (by omega) h3 h4
   conv=>lhs;unfold probe.go
   rw[T.live p1];dsimp only;rw[if_neg (by intro q;have:=eq_of_beq q;omega),du];exact ih
def PV {t:SetTable}{hs:List Int}(T:Tab t hs) (hl:hs.length<=t.mask) (h:Int):∃ j,t.freeSlot h=some (j,false)/\cn t h j:=by
 obtain⟨K,k1,k2,k3⟩:=T.first hl h;refine⟨(way t.mask h K).j,?_,⟨k2,K,rfl,k3⟩⟩;have g:=Yl T h (10*turns t.mask) 0 K (zD4 _) (by unfold turns;omega) k2 k3;unfold SetTable.freeSlot;have e:t.probe (λ _=>h+1) h (t.probeStart h)=some (.empty (way t.mask h K).j none):=g;rw[e];rfl
structure ud (prog:Program) (w:World) (h:Heap) (a:Addr) (xs:List (Int×Tok)) (led:Bool):Prop where
 ex:∃ es ep t,h.get? a=some { cls:=.type "set",dict:=none,data:=.set es ep t }/\es.toList=xs.map (λ e=>((intKind prog w).hash e.1,Value.int e.1 e.2))/\Tab t (xs.map λ e=>(intKind prog w).hash e.1)/\t.led=led/\t.plain=true/\xs.length*5<t.mask*3
 nd:(xs.map (·.1)).Nodup
section
variable {prog:Program}{w:World}{A:Around}{E:Value->Shared->Prop}{s:Shared}
def fits_of {es:Array (Int×Value)}{t:SetTable}{hs:List Int}{n:Nat}(h1:es.size=n) (T:Tab t hs) (h2:hs.length=n) (h3:n<=t.mask):t.fits es.size=true:=by
 have l:=T.len;unfold SetTable.fits SetTable.fill;rw[T.qk,h1,l,h2];simp;omega
def m9 {n m:Int}{t:Tok}:(intKind prog w).is n (.int m t)=true↔n=m:=by
 constructor
 .intro h;obtain⟨t',e⟩:=Value.isInt_shape (show Value.isInt n (.int m t)=true from h);cases e;rfl
 .rintro rfl;exact intKind_is _ _ _ _
def Ox {es:Array (Int×Value)}{xs:List (Int×Tok)}(h:es.toList=xs.map (λ e=>((intKind prog w).hash e.1,Value.int e.1 e.2))):ElemsOf (intKind prog w) es.toList:=λ e he=>by
 rw[h] at he;obtain⟨x,_,rfl⟩:=zB0.mp he;exact⟨⟨x.1,m9.mpr rfl,rfl⟩,rfl⟩
def VW {es:Array (Int×Value)}{t:SetTable}{xs:List (Int×Tok)}{M wanted:Nat}(he:es.toList=xs.map (λ e=>((intKind prog w).hash e.1,Value.int e.1 e.2))) (hM:vL M) (hw:sizeAbove wanted=M+1) (hfew:xs.length*5<M*3):
  ∃ es' t',∃ xs':List (Int×Tok),relayAll t es wanted=(es',t',false)/\es'.toList=xs'.map (λ e=>((intKind prog w).hash e.1,Value.int e.1 e.2))/\xs'.Perm xs/\Tab t' (xs'.map λ e=>(intKind prog w).hash e.1)/\t'.mask=M/\t'.led=t.led/\t'.plain=t.plain/\es'.size=es.size:=by
 have hlen:es.size=xs.length:=by have:=congrArg List.length he;simpa using this
 have hhs:(es.map (·.1)).toList=xs.map λ e=>(intKind prog w).hash e.1:=by rw[Array.toList_map,he,zD6];rfl
 have hsz:(es.map (·.1)).size=xs.length:=by rw[Array.size_map,hlen]
 obtain⟨t',order,h1,h2,h3,h4,h5,h6,h7⟩:=ZI hM t.finger (t.movedTo M) t.led t.plain (es.map (·.1)) (by rw[hsz];omega);rw[hsz] at h6;have hlt:∀ k∈order.toList,k<xs.length:=λ k hk=>by simpa using h6.mem_iff.mp hk
 have hr:t.relaid (es.map (·.1)) wanted=some (t',order):=by
  unfold SetTable.relaid;rw[hw,Nat.add_sub_cancel];exact h1
 have hes':(order.filterMap (es[·]?)).toList=(order.toList.filterMap λ k=>xs[k]?).map λ e=>((intKind prog w).hash e.1,Value.int e.1 e.2):=by
  rw[Array.toList_filterMap,List.map_filterMap];congr 1;funext k;rw[<- zD3,he,zA3]
 have hperm:(order.toList.filterMap λ k=>xs[k]?).Perm xs:=(h6.filterMap _).trans (by rw[List.filterMap_getElem?_range_length]);have hsz':(order.filterMap (es[·]?)).size=es.size:=by
  rw[<- zD2,hes',zA7,hperm.length_eq,hlen]
 have hT:Tab t' ((order.toList.filterMap λ k=>xs[k]?).map λ e=>(intKind prog w).hash e.1):=by
  rw[<- gI xs (λ e=>(intKind prog w).hash e.1) 0 order.toList hlt,<- hhs];exact h7
 refine⟨_,t',_,?_,hes',hperm,hT,h2,h4,h5,hsz'⟩;have zK:coversAll order es.size=true:=by
  unfold coversAll;rw[List.isPerm_iff,hlen];exact h6
 have fit:t'.fits (order.filterMap (es[·]?)).size=true:=fits_of (n:=xs.length) (by rw[hsz',hlen]) hT (by rw[zA7,hperm.length_eq]) (by rw[h2];omega);unfold relayAll;rw[hr];dsimp only;rw[zK,fit];rfl
def add_int {a:Addr}{xs:List (Int×Tok)}{n:Int}{tk:Tok}{led:Bool}{Q:Bool->Shared->Prop}(S:ud prog w s.heap a xs led) (hn:xs.length<70)
  (h:∀ h' xs' r,Heap.SameBut a s.heap h'->ud prog w h' a xs' led->(n∈xs.map (·.1)/\xs'=xs\/n∉xs.map (·.1)/\xs'.Perm (xs++[(n,tk)]))->Q r { s with heap:=h' }):
  wpAny (model prog w) A (setAddHashed a (.int n tk) ((intKind prog w).hash n)) Q E s:=by
 have S0:=S;obtain⟨⟨es,ep,t,ho,he,T,hled,hpl,hfew⟩,hnd⟩:=S;have hlen:es.size=xs.length:=by have:=congrArg List.length he;simpa using this
 have hm7:7<=t.mask/\t.mask<=127:=by rcases T.mask with e | e | e <;> omega
 have fit:t.fits es.size=true:=fits_of (n:=xs.length) hlen T (by simp) (by omega);have hel:=Ox (prog:=prog) (w:=w) he;unfold setAddHashed setAddHashedIn;refine wpAny_holding (zWb (wpAny_setState_of ho rfl fit ?_));dsimp only;have bs:byScan (.int n tk) es=true:=by
  have h1:decide (es.size<scanBound)=true:=decide_eq_true (by unfold scanBound;omega);have h2:es.all (·.2.scannable)=true:=by
   rw[Array.all_eq_true_iff_forall_mem];intro e hm;exact (hel e (by simpa using hm)).2
  unfold byScan;rw[h1,h2];rfl
 rw[if_pos bs];refine zWb ?_;unfold setAddByScan;refine zWb (wpAny_rule (zWb (wpAny_setScan_of (k:=n) (m9.mpr rfl) ho rfl fit hel ?_)));have hfind:(es.toList.findIdx? (λ e=>(intKind prog w).is n e.2)).isSome=true↔n∈xs.map (·.1):=by
  rw[he,List.findIdx?_isSome,zD0];constructor
  .rintro⟨e,hm,q⟩;obtain⟨x,hx,rfl⟩:=zB0.mp hm;exact zB0.mpr ⟨x,hx,(m9.mp q).symm⟩
  .intro hm;obtain⟨x,hx,rfl⟩:=zB0.mp hm;exact⟨_,zB0.mpr ⟨x,hx,rfl⟩,m9.mpr rfl⟩
 cases hc:es.toList.findIdx? (λ e=>(intKind prog w).is n e.2) with
 | some j=>
  dsimp only;have hm:=hfind.mp (by rw[hc];rfl);refine zD1 ?_;dsimp only;exact zD1 (h s.heap xs false ⟨rfl,λ _ _=>rfl⟩ S0 (.inl ⟨hm,rfl⟩))
 | none=>
  dsimp only;have hm:n∉xs.map (·.1):=λ q=>by have:=hfind.mpr q;rw[hc] at this;cases this
  obtain⟨j,fs,F⟩:=PV T (by rw[zA7];omega) ((intKind prog w).hash n);obtain⟨p1,p2,p3⟩:=T.put F;rw[zA7] at p1;have hpt:(t.put j).1.plain=true:=by rw[p2];exact hpl
  have hmt:(t.put j).1.mask=t.mask:=by rw[p2]
  have hlt:(t.put j).1.led=led:=by rw[p2];exact hled
  generalize hT:(t.put j)=P at *;obtain⟨t1,p⟩:=P;dsimp only at *
  let xs1:=xs.take p++(n,tk)::xs.drop p
  have hperm:xs1.Perm (xs++[(n,tk)]):=by
   have e:xs.take p++xs.drop p=xs:=List.take_append_drop p xs;have:xs1.Perm ((n,tk)::(xs.take p++xs.drop p)):=List.perm_middle;rw[e] at this;exact this.trans (List.perm_append_singleton _ _).symm
  have hl1:xs1.length=xs.length+1:=by rw[hperm.length_eq];simp
  have hes1:(insertAt es p ((intKind prog w).hash n,Value.int n tk)).toList=xs1.map λ e=>((intKind prog w).hash e.1,Value.int e.1 e.2):=by
   rw[toList_insertAt,he];simp[xs1,List.map_take,List.map_drop]
  have hsz1:(insertAt es p ((intKind prog w).hash n,Value.int n tk)).size=xs.length+1:=by rw[<- zD2,hes1,zA7,hl1]
  have T1:Tab t1 (xs1.map λ e=>(intKind prog w).hash e.1):=by
   have:xs1.map (λ e=>(intKind prog w).hash e.1)=(xs.map λ e=>(intKind prog w).hash e.1).take p++(intKind prog w).hash n::(xs.map λ e=>(intKind prog w).hash e.1).drop p:=by simp[xs1,List.map_take,List.map_drop]
   rw[this];exact p3
  have fit1:t1.fits (insertAt es p ((intKind prog w).hash n,Value.int n tk)).size=true:=fits_of (n:=xs.length+1) hsz1 T1 (by rw[zA7,hl1]) (by rw[hmt];omega);have hlay:layNew t es ((intKind prog w).hash n) (.int n tk)=(insertAt es p ((intKind prog w).hash n,Value.int n tk),t1,false,false):=by
   unfold layNew;rw[fs];dsimp only;rw[hT];dsimp only;unfold SetTable.orStandIn;rw[fit1];rfl
  have hsl:(insertAt es p ((intKind prog w).hash n,Value.int n tk)).size<=sizeLine:=by
   rw[hsz1];have:sizeLine=16777216:=rfl;omega
  have hnd1:(xs1.map (·.1)).Nodup:=by
   refine (hperm.map _).nodup_iff.mpr ?_;rw[zE7,List.nodup_append];refine⟨hnd,by simp,λ x hx y hy=>?_⟩;simp at hy;subst hy;exact λ e=>hm (e▸hx)
  have ho1:=kI (es':=insertAt es p ((intKind prog w).hash n,Value.int n tk)) (t':=t1) ho;have sb:=Heap.SameBut.update s.heap a (Obj.putSet (insertAt es p ((intKind prog w).hash n,Value.int n tk)) t1);have hfill:t1.fill=xs.length+1:=by
   have l:=T1.len;rw[zA7,hl1] at l;unfold SetTable.fill;rw[T1.qk,l];simp
  rw[hlay];dsimp only;refine zWb (m:=pure ()) (zD1 ?_);rw[hpt];simp only[if_true];refine zWb (m:=pure true) (zD1 ?_);simp only[if_true];refine zWb (wpAny_storeSet_of ho rfl ?_ hsl);by_cases hf:t1.tooFull=true
  .rw[hf];simp only[zB2,Bool.and_self,if_true];have hfull:t.mask*3<=(xs.length+1)*5:=by
    have:=hf;unfold SetTable.tooFull at this;rw[hfill,hmt] at this;simpa using this
   obtain⟨M',g1,g2,g3⟩:=bO xs.length t.mask T.mask hfew hfull hn;obtain⟨es2,t2,xs2,r1,r2,r3,r4,r5,r6,r7,r8⟩:=VW (prog:=prog) (w:=w) (t:=t1) hes1 g1 (wanted:=grown (insertAt es p ((intKind prog w).hash n,Value.int n tk)).size) (by rw[hsz1];exact g2) (by rw[hl1];exact g3);rw[r1];dsimp only;refine zWb (m:=pure ()) (zD1 (zWb (wpAny_storeSet_of ho1 rfl ?_ (by rw[r8];exact hsl))));refine zD1 ?_;dsimp only;refine zD1 (h _ xs2 true (sb.trans (Heap.SameBut.update _ a _)) ⟨⟨es2,ep+1+1,t2,kI ho1,r2,r4,by rw[r6];exact hlt,by rw[r7];exact hpt,by rw[r3.length_eq,hl1,r5];exact g3⟩,(r3.map _).nodup_iff.mpr hnd1⟩ (.inr ⟨hm,r3.trans hperm⟩))
  .have hf':t1.tooFull=false:=by simpa using hf
   rw[hf'];simp only[zB2,Bool.and_false,zC4,if_false];have hfull:(xs.length+1)*5<t.mask*3:=by
    have:=hf';unfold SetTable.tooFull at this;rw[hfill,hmt] at this;simpa using this
   refine zD1 ?_;dsimp only;exact zD1 (h _ xs1 true sb ⟨⟨_,ep+1,t1,ho1,hes1,T1,hlt,hpt,by rw[hl1,hmt];exact hfull⟩,hnd1⟩ (.inr ⟨hm,hperm⟩))
end
structure sV (its:Array Value) (ns:List Int) (i:Nat) (xs:List (Int×Tok)):Prop where
 own:∀ e∈xs,∃ j,j<i/\ns[j]?=some e.1
 all:∀ (j:Nat) r,j<i->ns[j]?=some r->r∈xs.map (·.1)
theorem fu:∀ (l m:List Int),l.Nodup->(∀ x∈l,x∈m)->l.length<=m.length
 | [],m,_,_=>zD4 _
 | x::l,m,hn,hs=>by
  have h1:=List.nodup_cons.mp hn;have hx:=hs x zMc;have:=fu l (m.erase x) h1.2 λ z hz=>(List.mem_erase_of_ne (λ e:z=x=>h1.1 (by rw[<- e];exact hz))).mpr (hs z (zMo _ hz));rw[List.length_erase_of_mem hx] at this;have:=List.length_pos_of_mem hx;simp only[zC0];omega
def sV.len {its:Array Value}{ns:List Int}{i:Nat}{xs:List (Int×Tok)}(U:sV its ns i xs) (nd:(xs.map (·.1)).Nodup):xs.length<=i:=by
 have:=fu (xs.map (·.1)) ((List.range i).map λ j=>ns.getD j 0) nd λ x hx=>by
  obtain⟨e,he,rfl⟩:=zB0.mp hx;obtain⟨j,h1,h3⟩:=U.own e he;exact zB0.mpr ⟨j,zC1.mpr h1,by rw[zB1,h3];rfl⟩
 simpa using this
def sV.step {its:Array Value}{ns:List Int}{i:Nat}{xs xs':List (Int×Tok)}{n:Int}{t:Tok}(U:sV its ns i xs) (hr:ns[i]?=some n)
  (h:n∈xs.map (·.1)/\xs'=xs\/n∉xs.map (·.1)/\xs'.Perm (xs++[(n,t)])):sV its ns (i+1) xs':=by
 have eqi:∀ j:Nat,j<i+1->¬ j<i->j=i:=λ j a b=>by omega
 rcases h with ⟨hm,rfl⟩ | ⟨_,hp⟩
 .refine⟨λ e he=>?_,λ j r hj hrj=>?_⟩
  .obtain⟨j,h1,h2⟩:=U.own e he;exact⟨j,Nat.lt_succ_of_lt h1,h2⟩
  .by_cases q:j<i
   .exact U.all j r q hrj
   .rw[eqi j hj q,hr] at hrj;cases hrj;exact hm
 .refine⟨λ e he=>?_,λ j r hj hrj=>?_⟩
  .rcases zB9.mp (hp.mem_iff.mp he) with q | q
   .obtain⟨j,h1,h2⟩:=U.own e q;exact⟨j,Nat.lt_succ_of_lt h1,h2⟩
   .cases zB6.mp q;exact⟨i,zE2 i,hr⟩
  .rw[(hp.map (·.1)).mem_iff,zE7];by_cases q:j<i
   .exact List.mem_append_left _ (U.all j r q hrj)
   .rw[eqi j hj q,hr] at hrj;cases hrj;exact zB4 _ zMc
def Nums (its:Array Value) (ns:List Int):Prop:=∀ (i:Nat) v,its[i]?=some v->∃ n t,v=.int n t/\ns[i]?=some n
section
variable {prog:Program}{w:World}{A:Around}{R:Result->Shared->Prop}{I:Addr}{fp wr:List Addr}{G:Array GenState->Array GenState->Prop}{n:Nat}{P:Nat->Value->Prop}{St:Nat->Shared->Prop}
def ud.keep {h h':Heap}{a:Addr}{xs:List (Int×Tok)}{led:Bool}(S:ud prog w h a xs led) (k:∀ o,h.get? a=some o->h'.get? a=some o):ud prog w h' a xs led:=
 let ⟨⟨es,ep,t,ho,r⟩,nd⟩:=S;⟨⟨es,ep,t,k _ ho,r⟩,nd⟩
def Q1 (W:WalksS prog w A.in1 I fp wr G n (λ i v=>P i v) St) (Sa:Addr) (hSf:Sa∉fp) {its:Array Value}{ns:List Int}(hP:∀ i v,P i v->its[i]?=some v) (hn:n<70) (led:Bool) (hN:Nums its ns):
  ∀ (k i:Nat) (s:Shared) (xs:List (Int×Tok)),n-i=k->i<=n->St i s->ud prog w s.heap Sa xs led->sV its ns i xs->
   (∀ s' xs',Moved (Sa::wr) G s s'->ud prog w s'.heap Sa xs' led->sV its ns n xs'->R (.ok (.ret .none)) s')->
   codeAny (model prog w) A (.builtin "set.update.loop" ⟨[.ref Sa,.ref I],[]⟩) R s:=by
 have hSw:Sa∉wr:=λ z=>hSf (W.sub _ z);have more:∀ b∈wr,b∈Sa::wr:=λ b hb=>zMo _ hb;intro k
 induction k with
 | zero=>
  intro i s xs hk hi hst hS hU hR;have e:i=n:=by omega
  subst e;refine codeAny_builtin F.entry_set_update_loop ?_;rw[Around.under_plainId F.plain_set_update_loop _];show wpAny _ A.in1 (pyNext (.ref I) >>= _) _ _ s;exact zWb (W.done s _ _ hst λ s' hm=>zD1 (hR s' xs (hm.mono more) (hS.keep λ o e=>hm.heap _ o hSw e) hU))
 | succ k ih=>
  intro i s xs hk hi hst hS hU hR;have hlt:i<n:=by omega
  refine codeAny_builtin F.entry_set_update_loop ?_;rw[Around.under_plainId F.plain_set_update_loop _];show wpAny _ A.in1 (pyNext (.ref I) >>= _) _ _ s;refine zWb (W.item i s _ _ hlt hst λ v s1 hPv hst1 hm=>?_);obtain⟨m,t,rfl,hr⟩:=hN i v (hP i v hPv);have S1:ud prog w s1.heap Sa xs led:=hS.keep λ o e=>hm.heap _ o hSw e;have hl:xs.length<70:=by have:=hU.len hS.nd;omega
  show wpAny _ A.in1 (holding [Value.int m t] (setAdd Sa (.int m t)) >>= _) _ _ s1;refine zWb (wpAny_holding ?_);unfold setAdd;refine wpAny_holding (zWb ((intKind prog w).pyHash (A:=A.in1) (k:=m) (m9.mpr rfl) ?_));refine add_int (s:={ s1 with toks:=s1.toks+1 }) (A:=A.in1) S1 hl λ h' xs' rr sb S' hx=>?_;have fr:=W.frame (i+1) s1 h' (s1.toks+1) hst1 (Nat.le_add_right _ _) λ c hc o e=>(sb.2 c (λ z:c=Sa=>hSf (z▸hc))).trans e;refine zD1 ⟨plainId_quiet F.plain_set_update_loop _,ih (i+1) _ xs' (by omega) hlt fr S' (hU.step hr hx) λ s2 xs2 hm2 S2 U2=>?_⟩;refine hR s2 xs2 (Moved.trans W.gtrans ((hm.mono more).then_heap (Nat.le_add_right _ _) λ c o hc e=>?_) hm2) S2 U2;exact (sb.2 c (λ z=>hc (z▸zMc))).trans e
end
section
variable {prog:Program}{w:World}{A:Around}{E:Value->Shared->Prop}{s:Shared}
def V6 {h:Heap}{a:Addr}(ho:h.get? a=some (xk w)):ud prog w h a [] (vT w):=
 ⟨⟨#[],0,_,ho,rfl,⟨.inl rfl,rfl,rfl,.nil,λ j hj=>(by cases hj),λ i g j hg=>(by cases hg)⟩,rfl,rfl,by show 0*5<7*3;omega⟩,.nil⟩
set_option maxRecDepth 100000 in
set_option maxHeartbeats 6400000 in
def Nq {l:Addr}{its:Array Value}{ns:List Int}{Q:Value->Shared->Prop}(hh:A.handled=none) (hl:s.heap.IsList l its) (hT:Nums its ns) (hn:its.size<70)
  (h:∀ (h':Heap) (tk:Nat) xs,ud prog w h' s.heap.objs.size xs (vT w)->sV its ns its.size xs->(∀ b o,b<s.heap.objs.size->s.heap.get? b=some o->h'.get? b=some o)->Q (.ref s.heap.objs.size) { s with heap:=h',toks:=tk }):
  wpAny (model prog w) A (call (.type "set") [.ref l]) Q E s:=by
 obtain⟨c,tl,hmro⟩:=F.called_set.mro;have made:=F.called_set.made;have subm:=F.called_set.sub;refine wpAny_call (codeAny_of_tree ?_);show wpAny _ _ (callAny (.type "set") _) _ _ _;refine zD1 ⟨Code.quiet_builtin _ (by decide +kernel),codeAny_builtin F.entry_type_call ?_⟩;rw[Around.under_plain (weight_type_call_type "set" [.ref l] []) rfl];have nt:=F.called_set.notType;have cc:=F.called_set.canCreate;have tc:=F.typeCall_set_1 (.ref l)
 repeat (any_goals (first | assumption | wp_step))
 refine codeAny_mono (Y_ (.ref l) (E:=E) (Q:=λ obj s₁=>obj=.ref s.heap.objs.size/\s₁={ s with heap:=s.heap.push (xk w) }) ⟨rfl,rfl⟩) λ r s₁ hr=>?_;cases r with
 | error e=>exact hr
 | ok fl=>
  cases fl with
  | ret obj=>
   obtain⟨rfl,rfl⟩:=hr;have hS:(s.heap.push (xk w)).get? s.heap.objs.size=some (xk w):=zA9 _ rfl;have hTy:Shared.TypeIs { s with heap:=s.heap.push (xk w) } (.ref s.heap.objs.size) "set":=⟨_,hS,rfl⟩
   have li:=F.called_set.init.lookup;have bi:=F.called_set.init.bind (.ref s.heap.objs.size)
   repeat (any_goals (first | assumption | wp_step))
   let s1:Shared:={ s with heap:=s.heap.push (xk w) }
   refine codeAny_mono (codeAny_call_builtin (R:=wants (λ r s₂=>r=.none/\∃ h' tk xs,s₂={ s with heap:=h',toks:=tk }/\ud prog w h' s.heap.objs.size xs (vT w)/\sV its ns its.size xs/\
     ∀ b o,b<s.heap.objs.size->s.heap.get? b=some o->h'.get? b=some o) E) F.called_set.init.plain F.entry_set_init (check_set_init_1 hTy ?_)) λ r₂ s₂ hr₂=>?_
   .obtain⟨⟨ocls,odict,odata,oslots⟩,hol,hcl,nl,hdl⟩:=id hl;simp only at hcl hdl;subst hcl hdl;have hol1:(s.heap.push (xk w)).get? l=some { cls:=.type "list",dict:=odict,data:=.seq its nl,slots:=oslots }:=zHp _ hol;have sls:=F.sub_list_set;have slf:=F.sub_list_frozenset;have nd:(Value.type "list" == Value.type "dict")=false:=by decide
    have hl1:(s.heap.push (xk w)).IsList l its:=⟨_,hol1,rfl,nl,rfl⟩
    unfold Builtin.«set.__init__» noKeywords Builtin.Frozenset.updateFrom;generalize hPI:pyIter=PI;unfold xk at *
    wp_walk
    subst hPI;refine wpAny_pyIter_list hl1 (zWb (wpAny_runValue ?_));have hlS:l<s.heap.objs.size:=zA8 hol;have hsz:(s.heap.push (xk w)).objs.size=s.heap.objs.size+1:=Heap.size_push _ _;have hneI:l≠(s.heap.push (xk w)).objs.size:=by rw[hsz];exact zB3 (Nat.lt_succ_of_lt hlS)
    have szne:s.heap.objs.size≠(s.heap.push (xk w)).objs.size:=by rw[hsz];exact zB3 (zE2 _)
    have low:∀ b:Addr,b<s.heap.objs.size->b≠(s.heap.push (xk w)).objs.size:=λ b hb=>by rw[hsz];exact zB3 (Nat.lt_succ_of_lt hb)
    refine Q1 (A:=A.in1.in1) (P:=λ i v=>its[i]?=some v) ((Walks.list (A:=A.in1.in1.in1) (by simp[hh]) _ l hneI its).toS) s.heap.objs.size ?_ (its:=its) (ns:=ns) (λ _ _ q=>q) hn (vT w) hT its.size 0 _ [] (by omega) (zD4 _)
     ⟨⟨_,zA9 _ rfl,rfl,rfl⟩,hl1.push _⟩ (V6 (w:=w) (zHp _ hS)) ⟨λ e he=>(by cases he),λ j r hj=>(by omega)⟩ ?_
    .intro hm;rcases zA5.mp hm with q | q
     .exact szne q
     .exact Nat.ne_of_gt hlS (zB6.mp q)
    .intro s' xs' hm S' U';obtain⟨h',g',d',tk',os'⟩:=s';obtain rfl:g'=s.gens:=hm.gens;obtain rfl:d'=s.drawn:=hm.drawn;obtain rfl:os'=s.os:=hm.os;refine zD1 (zD1 ⟨rfl,h',tk',xs',rfl,S',U',λ b o hb e=>?_⟩);refine hm.heap b o (λ q=>?_) (zHp _ (zHp _ e));rcases zA5.mp q with q | q
     .exact zB3 hb q
     .exact low b hb (zB6.mp q)
   .cases r₂ with
    | error e=>exact hr₂
    | ok fl₂=>
     cases fl₂ with
     | ret r=>
      obtain⟨rfl,h',tk,xs,rfl,g1,g2,g3⟩:=hr₂
      repeat (any_goals (first | assumption | wp_step))
      exact h h' tk xs g1 g2 g3
     | _=>exact hr₂.elim
  | _=>exact hr.elim
end
end ST
namespace L4
open PySem PyProof.Rows
def OV {prog:Program}{w:World}{A:Around}{E:Value->Shared->Prop}{s:Shared}{vs:List Value}{ns:List Int}(hI:IntsAre vs ns) (h2:2<=vs.length) (h64:vs.length<64):
  Core prog w A E vs (λ out=>∃ ns',IntsAre out.toList ns'/\ns'.Perm ns/\ns'.Pairwise (·<=·)) s:=by
 obtain⟨v1,v2,rest,rfl⟩:∃ v1 v2 rest,vs=v1::v2::rest:=by
  match vs,h2 with
  | v1::v2::rest,_=>exact⟨v1,v2,rest,rfl⟩
 unfold Core;rw[keyKind_ints hI];refine zD1 ⟨rfl,?_⟩;refine wpAny_mono (wpS_sortRuns (a₀:=pairsOf (v1::v2::rest)) (st:=SortSt.mk' oneType' ((v1::v2::rest).toArray.zip (v1::v2::rest).toArray) #[] 7 none)
   (Q:=λ _ st'=>(arrOf st').Perm (pairsOf (v1::v2::rest))/\failedOf st'=none/\SortedTo (arrOf st') (pairsOf (v1::v2::rest)).size)
   hI.intKeys ⟨Array.Perm.refl _,rfl,rfl,rfl⟩ (by rw[pairsOf_size];simp) (by rw[pairsOf_size];exact h64) λ st' a1 a2 a3=>⟨a1,a2,a3⟩) ?_ λ _ _ e=>e
 rintro⟨⟨⟩,st'⟩ s' ⟨rfl,hp,hf,hs⟩;exact⟨rfl,hf,sorted_out hI hp hs,by rw[hp.size_eq,pairsOf_size]⟩
end L4
namespace L5
open PySem PySem.Spec L2 L3
open PyProof.Rows hiding St
structure Bq (mg:Str->Option Value):Prop where
 set:mg "set"=none
 zip:mg "zip"=none
 enumerate:mg "enumerate"=none
section
variable {X:Cx}{K:zFr}{a b c e:Expr}{es:List Expr}{ta tb tc te:zu}{tA:yv}{pos p:Pos}{fa fb fc:Ev->Option T}
def oV (f g:yZ) (ta tb tc:zu):zu:=fun Y S Q=>ta Y S λ x S1=>tb Y S1 λ y S2=>f x y S2 λ z S3=>match z with
 | .bl k=>if k=true then tc Y S3 λ w S4=>g y w S4 Q else Q (.bl false) S3
 | _=>False
def oV.mo {f g:yZ}(hf:xU f) (hg:xU g) (ha:ym ta) (hb:ym tb) (hc:ym tc):ym (oV f g ta tb tc):=fun Y S Q Q' hq h=>
 ha Y S _ _ (λ x S1 h=>hb Y S1 _ _ (λ y S2 h=>hf x y S2 _ _ (λ z S3 h=>by
  cases z <;> first
   | exact wU (hc Y S3 _ _ λ w S4 h=>hg y w S4 _ _ hq h) (hq _ _) h
   | exact h) h) h) h
def W4 {f g:yZ}{r r':R2}(hr:xI K f r) (hr':xI K g r') (hf:xU f) (hg:xU g) (ha:ym ta) (hb:ym tb) (hc:ym tc) {B:St}{H:Hp}{Q:VK}(h:zS K (oV f g ta tb tc) B H Q):b8 r r' (zS K ta) (zS K tb) (zS K tc) B H Q:=by
 obtain⟨Y,S,r1,r2,h⟩:=h;refine zS.go ha r1 r2 h λ x S1 v H1 h1 q1 e1 p1=>?_;refine zS.go hb (r1.ext e1) p1 h1 λ y S2 w H2 h2 q2 e2 p2=>?_;refine hr v w x y H2 S2 _ (zi.ext e2 x q1) q2 p2 (hf x y S2 _ _ (λ d S3 z v3 H3 q3 e3 p3=>?_) h2);cases d with
 | bl k=>
  simp only[zi] at q3;refine⟨k,q3,wU (λ z=>?_) (λ z=>?_) z⟩
  .refine zS.go hc (r1.ext ((e1.trans e2).trans e3)) p3 z λ w4 S4 v4 H4 h4 q4 e4 p4=>?_;exact hr' w v4 y w4 H4 S4 Q (zi.ext (e3.trans e4) y q2) q4 p4 (hg y w4 S4 _ _ (λ d S' z=>z.ext (((e1.trans e2).trans e3).trans e4)) h4)
  .exact z _ H3 (by simp only[zi]) ((e1.trans e2).trans e3) p3
 | zj=>exact z.elim
 | int _=>exact z.elim
 | str _=>exact z.elim
 | tup _=>exact z.elim
 | yO _=>exact z.elim
 | ref _=>exact z.elim
@[simp] noncomputable def Xk (f g:T->T->Option T) (fa fb fc:Ev->Option T):Ev->Option T:=fun J=>(fa J).bind λ x=>(fb J).bind λ y=>(f x y).bind λ b=>match b with
 | .bl k=>if k=true then (fc J).bind λ z=>g y z else some (.bl false)
 | _=>none
def RV {f g:T->T->Option T}{F G:yZ}(hf:Good2 zJ f F) (hg:Good2 zJ g G) (ha:yf fa ta) (hb:yf fb tb) (hc:yf fc tc):xi (Xk f g fa fb fc) (oV F G ta tb tc):=λ S Z Y J y Q hE e hq=>by
 obtain⟨x1,e1,e⟩:=zOb e;obtain⟨x2,e2,e⟩:=zOb e;obtain⟨b,e3,e⟩:=zOb e;refine ha S Z Y J x1 _ hE e1 λ d1 S1 s1 r1=>?_;refine hb S1 Z Y J x2 _ (hE.grow s1) e2 λ d2 S2 s2 r2=>?_;refine hf S2 Z x1 x2 b d1 d2 _ (hE.grow (s1.trans s2)).zd (Vw.grow r1 s2) r2 e3 λ c S3 s3 r3=>?_;split at e
 .have:=r3.1;simp only[Sn] at this;subst this;split at e
  .rename_i hk;obtain⟨x4,e4,e5⟩:=zOb e;dsimp only;rw[if_pos hk];refine hc S3 Z Y J x4 _ (hE.grow ((s1.trans s2).trans s3)) e4 λ d4 S4 s4 r4=>?_;exact hg S4 Z x2 x4 y d2 d4 Q (hE.grow (((s1.trans s2).trans s3).trans s4)).zd (Vw.grow r2 (s3.trans s4)) r4 e5 λ c' S5 s5 r5=>hq c' S5 ((((s1.trans s2).trans s3).trans s4).trans s5) (Cl.cl (((s1.trans s2).trans s3).trans s4) r5)
  .rename_i hk;dsimp only;rw[if_neg hk];cases e;exact hq _ S3 ((s1.trans s2).trans s3) (Cl.of (λ _=>nofun) wc)
 .cases e
def TL {op op':CmpOp}{f g:yZ}{r r':R2}(ho:yp X (compareOp op) r) (ho':yp X (compareOp op') r') (hr:xI X.K f r) (hr':xI X.K g r') (hf:xU f) (hg:xU g) (ha:PD X a ta) (hb:PD X b tb) (hc:PD X c tc)
  (hm:lastMarks [op,op'] [b,c]=false:=by with_unfolding_all rfl):PD X (.Compare a [op,op'] [b,c] pos) (oV f g ta tb tc):=
 ⟨oV.mo hf hg ha.mo hb.mo hc.mo,PE.imp (Tn ho ho' ha.pe hb.pe hc.pe hm) λ _ _ _ h=>W4 hr hr' hf hg ha.mo hb.mo hc.mo h⟩
end
end L5
namespace L2
open PySem PySem.Spec PyProof.Rows
section
variable {X:Cx}
def Sq:yp X (compareOp .Is) (λ x y H Q=>∃ c d,x=.bl c/\y=.bl d/\Q (.bl (c == d)) H):=by
 intro pins s B H x y v u Q I rx ry h;obtain⟨c,d,rfl,rfl,q⟩:=h;cases rx;cases ry;exact is_bool ⟨.bl _,H,I,rfl,q⟩
def Sd:yp X (compareOp .IsNot) (λ x y H Q=>∃ c d,x=.bl c/\y=.bl d/\Q (.bl (c != d)) H):=by
 intro pins s B H x y v u Q I rx ry h;obtain⟨c,d,rfl,rfl,q⟩:=h;cases rx;cases ry;exact isnot_bool ⟨.bl _,H,I,rfl,q⟩
end
end L2
namespace L5
open PySem PySem.Spec L2 L3
open PyProof.Rows hiding St
section
variable {X:Cx}{K:zFr}{a b c e o i v:Expr}{es:List Expr}{ta tb tc te td ty tv:zu}{tA:yv}{pos p pos':Pos}{fa fb fc:Ev->Option T}
def vW:yZ:=λ x y S Q=>match x,y with
 | .int i,.int j=>Q (.bl (decide (i<j))) S
 | .tup ds,.tup es=>∃ ns ms:List Int,ds=ns.map D.int/\es=ms.map D.int/\Q (.bl (HT.lexLt ns ms)) S
 | _,_=>False
noncomputable def yQ:T->T->Option T
 | .int i,.int j=>some (.bl (decide (i<j)))
 | .tup ts,.tup us=>(u7 ts).bind λ ns=>(u7 us).map λ ms=>.bl (HT.lexLt ns ms)
 | _,_=>none
def vW.mo:xU vW:=λ x y S Q Q' hq h=>by
 unfold vW at h ⊢;split at h
 .exact hq _ _ h
 .obtain⟨ns,ms,h1,h2,h3⟩:=h;exact⟨ns,ms,h1,h2,hq _ _ h3⟩
 .exact h.elim
def vW.fits:xI K vW (λ x y H Q=>vi (λ i j=>.bl (decide (i<j))) x y H Q\/g9 K x y H Q):=λ x y d e H S Q h1 h2 h3 h=>by
 unfold vW at h;split at h
 .simp only[zi] at h1 h2;exact .inl ⟨_,_,h1,h2,h _ H (by simp only[zi]) (.refl H) h3⟩
 .obtain⟨ns,ms,rfl,rfl,h⟩:=h;simp only[zi] at h1 h2;obtain⟨a,xs,rfl,g1,g2⟩:=h1;obtain⟨b,ys,rfl,g3,g4⟩:=h2;rw[g2.ints] at g1;rw[g4.ints] at g3;exact .inr ⟨a,b,ns,ms,rfl,rfl,g1,g3,h _ H (by simp only[zi]) (.refl H) h3⟩
 .exact h.elim
def jl:Good2 zJ yQ vW:=λ S Z x y z d e Q hz hx hy ef hq=>by
 unfold yQ at ef;split at ef
 .cases ef;cases hx.int;cases hy.int;exact hq _ S (.refl S) (Cl.of (λ _=>nofun) wc)
 .obtain⟨ns,e1,e2⟩:=zOb ef;obtain⟨ms,e3,rfl⟩:=zOm e2;cases mC e1;cases mC e3;obtain⟨ds,rfl,h2⟩:=hx.tup;obtain⟨es,rfl,h4⟩:=hy.tup;exact⟨ns,ms,sC.mp h2,sC.mp h4,hq _ S (.refl S) (Cl.of (λ _=>nofun) wc)⟩
 .cases ef
def Za {k:Nat}(hr:yC k X.A):yp X (compareOp .Lt) (λ x y H Q=>vi (λ i j=>.bl (decide (i<j))) x y H Q\/g9 X.K x y H Q):=Sk.or (Sj (by have:=hr.units;omega))
def aQ {k:Nat}(hr:yC k X.A) (ha:PD X a ta) (hb:PD X b tb):PD X (.Compare a [.Lt] [b] pos) (yg vW ta tb):=kO (Za hr) vW.fits vW.mo ha hb (ux _)
def rR {k:Nat}(hr:yC k X.A) (ha:PD X a ta) (hb:PD X b tb):xP X (.Compare a [.Lt] [b] pos) (vF (yg vW ta tb)):=sD (Za hr) vW.fits vW.mo ha hb (ux _)
def wW (neg:Bool):yZ:=λ x y S Q=>match x,y with
 | .bl c,.bl d=>Q (.bl (cond neg (c != d) (c == d))) S
 | x,.zj=>Q (.bl (cond neg (!oK x) (oK x))) S
 | _,_=>False
noncomputable def uR (neg:Bool):T->T->Option T
 | .bl c,.bl d=>some (.bl (cond neg (c != d) (c == d)))
 | x,.zj=>some (.bl (cond neg (!isNone x) (isNone x)))
 | _,_=>none
def wW.mo {neg:Bool}:xU (wW neg):=λ x y S Q Q' hq h=>by
 unfold wW at h ⊢;split at h
 .exact hq _ _ h
 .exact hq _ _ h
 .exact h.elim
def wW.fits:xI K (wW false) (λ x y H Q=>(∃ c d,x=.bl c/\y=.bl d/\Q (.bl (c == d)) H)\/(y=.zj/\Q (.bl (decide (x=.zj))) H)):=λ x y d e H S Q h1 h2 h3 h=>by
 unfold wW at h;split at h
 .simp only[zi] at h1 h2;exact .inl ⟨_,_,h1,h2,h _ H (by simp only[zi,cond]) (.refl H) h3⟩
 .simp only[zi] at h2;refine .inr ⟨h2,?_⟩;rw[ZR h1];exact h _ H (by simp only[zi,cond]) (.refl H) h3
 .exact h.elim
def wW.Oc:xI K (wW true) (λ x y H Q=>(∃ c d,x=.bl c/\y=.bl d/\Q (.bl (c != d)) H)\/(y=.zj/\Q (.bl (!decide (x=.zj))) H)):=λ x y d e H S Q h1 h2 h3 h=>by
 unfold wW at h;split at h
 .simp only[zi] at h1 h2;exact .inl ⟨_,_,h1,h2,h _ H (by simp only[zi,cond]) (.refl H) h3⟩
 .simp only[zi] at h2;refine .inr ⟨h2,?_⟩;rw[ZR h1];exact h _ H (by simp only[zi,cond]) (.refl H) h3
 .exact h.elim
def QY {S:SS}{Z:Addr->Prop}{x:T}{d:D}(hx:Vw S Z x d):oK d=isNone x:=by
 cases x with
 | zj=>cases hx.zj;rfl
 | bl _=>cases hx.bl;rfl
 | int _=>cases hx.int;rfl
 | str _=>cases hx.str;rfl
 | tup _=>obtain⟨ds,rfl,_⟩:=hx.tup;rfl
 | lst _=>obtain⟨ds,rfl | ⟨a,rfl,h1⟩,h2⟩:=hx.lst <;> rfl
 | zN=>obtain⟨a,kvs,rfl,h1⟩:=hx.zN;rfl
def PH {neg:Bool}:Good2 zJ (uR neg) (wW neg):=λ S Z x y z d e Q hz hx hy ef hq=>by
 unfold uR at ef;split at ef
 .cases ef;cases hx.bl;cases hy.bl;exact hq _ S (.refl S) (Cl.of (λ _=>nofun) wc)
 .cases ef;cases hy.zj;have key:Q (.bl (cond neg (!oK d) (oK d))) S:=by
   rw[QY hx];exact hq _ S (.refl S) (Cl.of (λ _=>nofun) wc)
  unfold wW;cases d <;> exact key
 .cases ef
def aH (ha:PD X a ta) (hb:PD X b tb):xP X (.Compare a [.Is] [b] pos) (vF (yg (wW false) ta tb)):=sD (Sq.or So) wW.fits wW.mo ha hb (ux _)
def Tt (ha:PD X a ta) (hb:PD X b tb):xP X (.Compare a [.IsNot] [b] pos) (vF (yg (wW true) ta tb)):=sD (Sd.or Sb) wW.Oc wW.mo ha hb (ux _)
def YR (td ty tv:zu):yz:=λ E Y S=>tv Y S λ v S1=>td Y S1 λ x S2=>ty Y S2 λ y S3=>∃ p ds k j,x=.ref p/\y=.int k/\S3 p=some (.lst ds)/\wR ds.length k=some j/\E.nx Y (ups S3 p (.lst (ds.set j v)))
theorem zo.set {H:Hp}{d:D}{x:V}(h:zi K H d x):∀ {ds:List D}{xs:List V}(j:Nat),zo K H ds xs->zo K H (ds.set j d) (xs.set j x)
 | [],xs,j,r=>by simp only[zo] at r;subst r;exact .nil
 | c::ds,xs,0,r=>by
  simp only[zo] at r;obtain⟨y,ys,rfl,_,r2⟩:=r;exact .cons h r2
 | c::ds,xs,j+1,r=>by
  simp only[zo] at r;obtain⟨y,ys,rfl,r1,r2⟩:=r;exact .cons r1 (zo.set h j r2)
def gL (ho:PD X o td) (hi:PD X i ty) (hv:PD X v tv) (hs:swapsWithSole [.Subscript o i pos'] v pos.line X.env=pure false:=by rfl) (hw:swappedStores [.Subscript o i pos'] v X.env=pure none:=by rfl)
  (h1:(assignEach [.Subscript o i pos'] X.env).map (·.2)=[assign (.Subscript o i pos') X.env]:=by rfl)
  (ha:∀ v,assign (.Subscript o i pos') X.env v=(do
   let ov <- holding [v] (eval o X.env)
   let iv <- holding [v,ov] (eval i X.env)
   standAt pos'
   holding [v,ov,iv] (setItem ov iv v)
   release [v,ov,iv] []):=by intro _;rfl):uf X (.Assign [.Subscript o i pos'] v pos) (YR td ty tv):=by
 refine⟨λ E E' Y S hE z=>hv.mo Y S _ _ (λ w S1 z=>ho.mo Y S1 _ _ (λ x S2 z=>hi.mo Y S2 _ _ (λ y S3 ⟨p,ds,k,j,a,b,c,d,h⟩=>⟨p,ds,k,j,a,b,c,d,hE.nx _ _ h⟩) z) z) z,PS.imp (U1 hv.pe (UL ho.pe hi.pe set_list ha) hs hw h1) λ D B H hu=>?_⟩;obtain⟨Y,S,r1,r2,z⟩:=hu;refine zS.go hv.mo r1 r2 z λ w S1 w1 H1 h1 q1 e1 p1=>?_;refine zS.go ho.mo (r1.ext e1) p1 h1 λ x S2 w2 H2 h2 q2 e2 p2=>?_;refine zS.go hi.mo ((r1.ext e1).ext e2) p2 h2 λ y S3 w3 H3 h3 q3 e3 p3=>?_;obtain⟨p,ds,k,j,rfl,rfl,c1,c2,h⟩:=h3;simp only[zi] at q2 q3;subst q2 q3;obtain⟨xs,g1,g2⟩:=p3 _ _ c1;have e4:Ext H3 (upd H3 p (.lst (xs.set j w1))):=.lst g1 _;refine⟨p,xs,k,j,rfl,rfl,g1,by rw[<- g2.length];exact c2,?_⟩;exact h B _ ((((r1.ext e1).ext e2).ext e3).ext e4) (((e1.trans e2).trans e3).trans e4) (p3.ups e4 ⟨_,yS,zo.ext e4 _ (zo.set (zi.ext (e2.trans e3) w q1) j g2)⟩)
@[simp] noncomputable def je (n:Nat) (f v:Ev->Option T):Sm:=fun J=>(v J).bind λ z=>(f J).bind λ y=>match J[n]?,y with
 | some (some (.own (.lst ts))),.int k=>(wR ts.length k).map λ j=>.nx (J.set n (some (.own (.lst (ts.set j z)))))
 | _,_=>none
def SH {R:Rk}(n:Nat) {f v:Ev->Option T}(hf:yf f ty) (hv:vf v tv):yk R (je n f v) (YR (yr n) ty tv):=λ S0 Z0 S Z Y J o E F e P=>by
 obtain⟨z,e1,e⟩:=zOb e;obtain⟨x,e2,e3⟩:=zOb e;split at e3
 .rename_i ts k h;obtain⟨j,hj,rfl⟩:=zOm e3;refine hv S Z Y J z _ F.er e1 λ dz S1 s1 r1=>?_;have F1:=F.grow s1;obtain⟨p,ob,h1,h2,h3,h4⟩:=F1.er.ow n _ h;cases ob with
  | ye _=>exact h3.elim
  | lst ds=>
   show yr n Y S1 _;unfold yr;rw[h1];refine hf S1 Z Y J _ _ F1.er e2 λ d S2 s2 r2=>?_;cases Vw.int r2;have h5:zh (zF S2 Z) ts ds:=zh.sx (wD s2) ts h3;exact⟨p,ds,k,j,rfl,rfl,s2 _ _ h2,by rw[h5.len];exact hj,P _ Z Y ((F1.grow s2).mut (us:=.lst (ts.set j z)) (es:=.lst (ds.set j dz)) n h h1 (h5.bP j (Sn.sx (wD s2) z r1)))⟩
 .cases e3
def TC {x y:Str}{u:Value}(hm:X.mg x=some u) (r:RelV (.str y) u) (hg:Gl X x:=by rfl) (hd:(x == ("__debug__":Str))=false:=by decide):PD X (.Name x pos) (dC (.str y)):=n_ (Tf hg hm r hd) λ _=>by simp only[zi]
def Zk:vf (cS .zN) eN:=λ S Z Y J y Q hE e hq=>by
 cases e;intro p hp;refine hq _ _ (.new hp _) ?_;show Sn (zF _ Z) .zN _;simp only[Sn];exact⟨p,[],rfl,by rw[wV (λ z=>hE.zd p z hp),t7]⟩
end
end L5
namespace ZP
open PySem PyProof.Rows
noncomputable def fS (k:Bool):String:=cond k "tuple_iterator" "list_iterator"
def SI (h:Heap) (k:Bool) (it l:Addr) (i:Nat):Prop:=∃ o,h.get? it=some o/\o.cls=.type (fS k)/\o.data=.fields #[.ref l,.int i 0]
def SQ (h:Heap) (k:Bool) (l:Addr) (xs:Array Value):Prop:=match k with
 | true=>h.IsTuple l xs
 | false=>h.IsList l xs
def SI.on {h h':Heap}{k:Bool}{it l:Addr}{i:Nat}(x:SI h k it l i) (f:∀ o,h.get? it=some o->h'.get? it=some o):SI h' k it l i:=
 let ⟨o,ho,r⟩:=x;⟨o,f o ho,r⟩
def SQ.on {h h':Heap}{k:Bool}{l:Addr}{xs:Array Value}(x:SQ h k l xs) (f:∀ o,h.get? l=some o->h'.get? l=some o):SQ h' k l xs:=by
 cases k with
 | true=>obtain⟨o,ho,r⟩:=(show h.IsTuple l xs from x);exact⟨o,f o ho,r⟩
 | false=>obtain⟨o,ho,r⟩:=(show h.IsList l xs from x);exact⟨o,f o ho,r⟩
def SQ.lt {h:Heap}{k:Bool}{l:Addr}{xs:Array Value}(x:SQ h k l xs):l<h.objs.size:=by
 cases k with
 | true=>obtain⟨o,ho,_⟩:=(show h.IsTuple l xs from x);exact zA8 ho
 | false=>obtain⟨o,ho,_⟩:=(show h.IsList l xs from x);exact zA8 ho
theorem SQ.cls {h:Heap}{k:Bool}{l:Addr}{xs:Array Value}(x:SQ h k l xs):∃ o,h.get? l=some o/\o.cls=.type (cond k "tuple" "list"):=by
 cases k with
 | true=>obtain⟨o,ho,c,_⟩:=(show h.IsTuple l xs from x);exact⟨o,ho,c⟩
 | false=>obtain⟨o,ho,c,_⟩:=(show h.IsList l xs from x);exact⟨o,ho,c⟩
section
variable {prog:Program}{w:World}{A:Around}{E:Value->Shared->Prop}{s:Shared}
def made {k:Bool}{l:Addr}{xs:Array Value}{Q:Value->Shared->Prop}(hl:SQ s.heap k l xs)
  (hQ:Q (.ref s.heap.objs.size) { s with heap:=s.heap.push { cls:=.type (fS k),data:=.fields #[.ref l,.int 0 0] } }):wpAny (model prog w) A (pyIter (.ref l)) Q E s:=by
 cases k with
 | true=>exact wpAny_pyIter_tuple hl hQ
 | false=>exact wpAny_pyIter_list hl hQ
def O2 {it l:Addr}{i:Nat}{xs:Array Value}{x:Value}{Q:Value->Shared->Prop}(hit:s.heap.IsTupleIter it l i) (hl:s.heap.IsTuple l xs) (hx:xs[i]?=some x)
  (hQ:∀ h',h'.IsTupleIter it l (i+1)->Heap.SameBut it s.heap h'->Q x { s with heap:=h' }):wpAny (model prog w) A (Builtin.SmallTypes.nextOf (.ref it)) Q E s:=by
 have ht:=hit.typeIs;obtain⟨oi,e1,e2,e3⟩:=id hit;obtain⟨ol,g1,_,n,g2⟩:=hl;refine zWb (wpAny_callSpecial?_slot (name:=Str.ofString "__next__") ht F.slot_tuple_iterator_next (wpAny_call_entry F.slot_tuple_iterator_next ht F.entry_tuple_iterator_next ?_ (F.args_tuple_iterator_next_1 _)));refine zWb (m:=field (.ref it) 0) (wpAny_field e1 e3 (x:=.ref l) rfl ?_);dsimp only;rw[if_neg (show ¬ ((Value.ref l == Value.none)=true) from Bool.false_ne_true)];refine zWb (m:=field (.ref it) 1) (wpAny_field e1 e3 (x:=.int i 0) rfl ?_);dsimp only;refine zWb (m:=seqItems? (.ref l)) (wpAny_seqItems g1 g2 ?_);simp only[Int.toNat_natCast,hx];have there:=Heap.get?_update_self (Obj.mapFields λ y=>y.setIfInBounds 1 (rawInt ((i:Int)+1))) e1 (Obj.isFreed_of_fields (Obj.data_mapFields e3 _));refine zWb (wpAny_setField e1 e3 (by simp) (zD1 ⟨x,rfl,zD1 (hQ _ ⟨_,there,(Obj.cls_mapFields ..).trans e2,?_⟩ (Heap.SameBut.update ..))⟩));rw[Obj.data_mapFields e3];simp[rawInt]
def Ou {it l:Addr}{i:Nat}{xs:Array Value}{Q:Value->Shared->Prop}(hh:A.handled=none) (hit:s.heap.IsTupleIter it l i) (hl:s.heap.IsTuple l xs) (hx:xs[i]?=none)
  (hE:∀ h' e,Heap.ExtBut it s.heap h'->(∃ o,h'.get? e=some o/\o.cls=.type "StopIteration")->E (.ref e) { s with heap:=h' }):wpAny (model prog w) A (Builtin.SmallTypes.nextOf (.ref it)) Q E s:=by
 have ht:=hit.typeIs;obtain⟨oi,e1,e2,e3⟩:=id hit;obtain⟨ol,g1,_,n,g2⟩:=hl;refine zWb (wpAny_callSpecial?_slot (name:=Str.ofString "__next__") ht F.slot_tuple_iterator_next (wpAny_call_entry F.slot_tuple_iterator_next ht F.entry_tuple_iterator_next ?_ (F.args_tuple_iterator_next_1 _)));refine zWb (m:=field (.ref it) 0) (wpAny_field e1 e3 (x:=.ref l) rfl ?_);dsimp only;rw[if_neg (show ¬ ((Value.ref l == Value.none)=true) from Bool.false_ne_true)];refine zWb (m:=field (.ref it) 1) (wpAny_field e1 e3 (x:=.int i 0) rfl ?_);dsimp only;refine zWb (m:=seqItems? (.ref l)) (wpAny_seqItems g1 g2 ?_);simp only[Int.toNat_natCast,hx];refine zWb (wpAny_rule (zWb (wpAny_setField e1 e3 (by simp) ?_)));refine zWb (m:=newExc (.type "StopIteration") []) ?_;simp only[newExc,newTuple];refine zWb (wpAny_newObj_type (zWb (m:=firstArgMember _ _) (wpAny_of_eq (a:=Value.none) (by first | rfl | (simp only[firstArgMember];rfl)) (wpAny_newObj_type ?_ (by size_fits)))) (by size_fits));simp only[raiseNew];refine zWb (wpAny_handled ?_);rw[show A.in1.handled=none from hh];exact zWb (zD1 (wpAny_throw (hE _ _ (((Heap.SameBut.update ..).extBut.push _).push _) ⟨_,zA9 _ rfl,rfl⟩)))
def draw {k:Bool}{it l:Addr}{i:Nat}{xs:Array Value}{x:Value}{Q:Value->Shared->Prop}(hit:SI s.heap k it l i) (hl:SQ s.heap k l xs) (hx:xs[i]?=some x)
  (hQ:∀ h',SI h' k it l (i+1)->Heap.SameBut it s.heap h'->Q x { s with heap:=h' }):wpAny (model prog w) A (Builtin.SmallTypes.nextOf (.ref it)) Q E s:=by
 cases k with
 | true=>exact O2 hit hl hx hQ
 | false=>exact wpAny_nextOf_list_item hit hl hx hQ
def YB {k:Bool}{it l:Addr}{i:Nat}{xs:Array Value}{Q:Value->Shared->Prop}(hh:A.handled=none) (hit:SI s.heap k it l i) (hl:SQ s.heap k l xs) (hx:xs[i]?=none)
  (hE:∀ h' e,Heap.ExtBut it s.heap h'->(∃ o,h'.get? e=some o/\o.cls=.type "StopIteration")->E (.ref e) { s with heap:=h' }):wpAny (model prog w) A (Builtin.SmallTypes.nextOf (.ref it)) Q E s:=by
 cases k with
 | true=>exact Ou hh hit hl hx hE
 | false=>exact wpAny_nextOf_list_end hh hit hl hx hE
end
abbrev m7 (k:Bool) (l:Addr):Obj:={ cls:=.type (fS k),data:=.fields #[.ref l,.int 0 0] }
section
variable {prog:Program}{w:World}{A:Around}{E:Value->Shared->Prop}{s:Shared}
end
end ZP
namespace L2
open PySem PySem.Spec PyProof.Rows ZP
section
variable {X:Cx}{pins:List (Addr×Obj)}{B:St}{H:Hp}{s:Shared}
def Inv.bz {h':Heap}{t':Nat}{fp:List Addr}(I:Inv X pins B H s) (k:∀ b o,b∉fp->s.heap.get? b=some o->h'.get? b=some o) (hf:∀ b∈fp,ui X pins H b):Inv X pins B H { s with heap:=h',toks:=t' }:=by
 have nit:∀ b u,H b=some u->b∉fp:=λ b u e z=>by rw[(hf b z).1] at e;cases e
 refine I.step (g':=s.gens) (d':=s.drawn) (ch:=fp) (λ b hb=>?_) (λ b o _ _ hc e _=>k b o hc e) (λ b o _ _ hc e _=>⟨o.slots,k b o hc e⟩) (λ _ _ _ _ n=>n)
  (λ b o hc e=>⟨o,k b o hc e⟩) (λ _ _ e=>e) (λ _ _ _ e=>e) (λ b ps e=>⟨#[],by rw[e];simp⟩) (λ m hm=>?_) (λ b u e=>?_) I.bare
 .obtain⟨_,q1,_,q2,q3,q4⟩:=hf b hb;exact⟨q2,q1,q3,q4⟩
 .obtain⟨o,es,ep,ho,r⟩:=hm;exact⟨o,es,ep,k _ o (λ z=>(hf _ z).2.1 rfl) ho,r⟩
 .refine (I.zD b u e).sr (λ c v hc q=>k c v ?_ q) (λ _ q=>q) λ _ _ q=>q;rcases hc with z | z
  .rw[z];exact nit b u e
  .exact nit c _ z
def sd (K:zFr) (H:Hp) (k:Bool) (a:Addr) (xs:List V):Prop:=match k with
 | true=>ya K H a xs
 | false=>zV K H a xs
def sd.of (I:Inv X pins B H s) {k:Bool}{a:Addr}{xs:List V}(h:sd X.K H k a xs):∃ its:List Value,Vals xs its/\SQ s.heap k a its.toArray:=by
 cases k with
 | true=>obtain⟨its,rv,p,_⟩:=I.tuple h;exact⟨its,rv,p⟩
 | false=>obtain⟨its,rv,p,_⟩:=I.list h;exact⟨its,rv,p.isList⟩
def sd.inj (I:Inv X pins B H s) {k:Bool}{a:Addr}{xs ys:List V}(h:sd X.K H k a xs) (h':sd X.K H k a ys):xs=ys:=by
 cases k with
 | true=>exact I.ij h h'
 | false=>exact I.fG h h'
end
end L2
namespace L5
open PySem PySem.Spec L2 L3
open PyProof.Rows hiding St
section
variable {X:Cx}{K:zFr}{a b:Expr}{tA:yv}{pos p pos':Pos}
def ZK (t:yv):wH:=fun Y S R=>t Y S λ ds S1=>∃ d e xs ys,ds=[d,e]/\zM d S1=some xs/\zM e S1=some ys/\R ⟨List.zipWith (λ x y=>D.tup [x,y]) xs ys,λ S=>zM d S=some xs/\zM e S=some ys⟩ S1
noncomputable def fM:D->Bool
 | .tup _=>true
 | _=>false
def zM.k {H:Hp}{S:SS}{d:D}{v:V}{ds:List D}(r:zi K H d v) (p:zO K H S) (e:zM d S=some ds):∃ a xs,v=.ref a/\sd K H (fM d) a xs/\zo K H ds xs:=by
 by_cases q:∃ ts,d=.tup ts
 .obtain⟨ts,rfl⟩:=q;cases e;simp only[zi] at r;obtain⟨a,xs,h1,h2,h3⟩:=r;exact⟨a,xs,h1,h2,h3⟩
 .obtain⟨a,xs,h1,h2,h3⟩:=rJ r p e λ ts z=>q ⟨ts,z⟩;refine⟨a,xs,h1,?_,h3⟩;have:fM d=false:=by cases d <;> first | rfl | exact absurd ⟨_,rfl⟩ q
  rw[this];exact h2
end
section
variable {X:Cx}{K:zFr}{a b:Expr}{tA:yv}{pos p pos':Pos}{es:List Expr}{kk:Nat}
@[simp] noncomputable def kd:List T->Option (List T)
 | [x,y]=>(we x).bind λ xs=>(we y).map λ ys=>List.zipWith (λ a b=>T.tup [a,b]) xs ys
 | _=>none
theorem i5 {S:SS}:∀ {ts us:List T}{ds es:List D},zh S ts ds->zh S us es->zh S (List.zipWith (λ a b=>T.tup [a,b]) ts us) (List.zipWith (λ x y=>D.tup [x,y]) ds es)
 | [],us,ds,es,h,h'=>by simp only[zh] at h;subst h;simpa using zh.nil
 | t::ts,[],ds,es,h,h'=>by simp only[zh] at h';subst h';simpa using zh.nil
 | t::ts,u::us,ds,es,h,h'=>by
  simp only[zh] at h h';obtain⟨c,cs,rfl,h1,h2⟩:=h;obtain⟨c',cs',rfl,h3,h4⟩:=h';exact zh.cons (rH (zh.cons h1 (zh.cons h3 zh.nil))) (i5 h2 h4)
def zM.sx {S S':SS}{d:D}{ds:List D}(h:zM d S=some ds) (s:Sx S S'):zM d S'=some ds:=by
 unfold zM at h ⊢;split at h
 .exact h
 .exact h
 .split at h
  .rename_i q;cases h;rw[s _ _ q]
  .cases h
 .cases h
def SW {g:Ev->Option (List T)}(h:qy g tA):tu false (wq kd g) (ZK tA):=λ S Z Y J ts Q hE e hq=>by
 obtain⟨ys,e1,e2⟩:=zOb e;refine h S Z Y J ys _ hE e1 λ ds S1 s1 r1=>?_;unfold kd at e2;split at e2
 .obtain⟨xs,e3,e4⟩:=zOb e2;obtain⟨zs,e5,rfl⟩:=zOm e4;obtain⟨d,d',rfl,h1,h2⟩:=j_ r1;obtain⟨es,g1,g2⟩:=h1.seq e3;obtain⟨es',g3,g4⟩:=h2.seq e5;exact⟨d,d',es,es',rfl,g1,g3,hq _ S1 s1 (i5 g2 g4) λ S'' s=>⟨zM.sx g1 s,zM.sx g3 s⟩⟩
 .cases e2
theorem zM.zF {S:SS}{Z:Addr->Prop}{y:T}{d:D}{ts:List T}(h:Sn (zF S Z) y d) (e:we y=some ts):∃ ds,zM d (zF S Z)=some ds/\zh (zF S Z) ts ds:=by
 cases y with
 | tup us=>cases e;simp only[Sn] at h;obtain⟨ds,rfl,h2⟩:=h;exact⟨ds,rfl,h2⟩
 | lst us=>
  cases e;simp only[Sn] at h;obtain⟨ds,⟨rfl,_⟩ | ⟨a,rfl,h1⟩,h2⟩:=h
  .exact⟨ds,rfl,h2⟩
  .exact⟨ds,by unfold zM;dsimp only;rw[h1],h2⟩
 | zj=>cases e
 | bl _=>cases e
 | int _=>cases e
 | str _=>cases e
 | zN=>cases e
def SX {g:Ev->Option (List T)}(h:qx g tA):tu true (wq kd g) (ZK tA):=λ S Z Y J ts Q hE e hq=>by
 obtain⟨ys,e1,e2⟩:=zOb e;refine h S Z Y J ys _ hE e1 λ ds S1 s1 r1=>?_;unfold kd at e2;split at e2
 .obtain⟨xs,e3,e4⟩:=zOb e2;obtain⟨zs,e5,rfl⟩:=zOm e4;simp only[zh] at r1;obtain⟨d,_,rfl,h1,d',_,rfl,h2,rfl⟩:=r1;obtain⟨es,g1,g2⟩:=zM.zF h1 e3;obtain⟨es',g3,g4⟩:=zM.zF h2 e5;exact⟨d,d',es,es',rfl,zM.sx g1 (tM S1 Z),zM.sx g3 (tM S1 Z),hq _ S1 s1 (i5 g2 g4) λ S'' s=>⟨zM.sx g1 s,zM.sx g3 s⟩⟩
 .cases e2
end
end L5
namespace HT
open PySem PyProof.Rows
section
variable {prog:Program}{w:World}{A:Around}{E:Value->Shared->Prop}{s:Shared}
def OL {t sl:Addr}{items:Array Value}{vl vu:Value}{lo hi:Option Int}{Q:Value->Shared->Prop}(ht:IsTup s.heap t items) (hs:s.heap.IsSliceOf sl vl vu .none) (pl:IsPart vl lo) (pu:IsPart vu hi)
  (hw:zI items.size 0 lo=0/\zI items.size items.size hi=items.size) (h:Q (.ref t) s):wpAny (model prog w) A (getItem (.ref t) (.ref sl)) Q E s:=by
 have hT:=ht.typeIs;obtain⟨os,e1,e2,e3⟩:=id hs;have hS:s.TypeIs (.ref sl) "slice":=⟨os,e1,e2⟩
 unfold getItem
 try with_reducible refine wpAny_holding ?_
 first | refine zWb (zD1 ?_) | skip
 refine zWb (wpAny_sequenceKey hT (by decide) (zWb (wpAny_callSpecial?_slot (name:=Str.ofString "__getitem__") hT PyProof.Rows.slot_tuple_getitem (wpAny_call_entry PyProof.Rows.slot_tuple_getitem hT entry_tuple_getitem ?_ (args_tuple_getitem _ _)))));refine zWb (m:=Builtin.Tuple.tupleItemsOf (.ref t)) (tupleItemsOf_ ht (zWb (wpAny_typeOf hS ?_)));rw[if_pos (by decide)];refine zWb (bM hs pl pu ?_);have yes:(((zI items.size 0 lo:Nat):Int) == 0&&(1:Int) == 1&&(zI items.size items.size hi-zI items.size 0 lo) == items.size)=true:=by rw[hw.1,hw.2];simp
 show wpAny _ _ (if (((zI items.size 0 lo:Nat):Int) == 0&&(1:Int) == 1&&(zI items.size items.size hi-zI items.size 0 lo) == items.size)=true then _ else _) _ _ s;rw[if_pos yes];refine zWb (m:=Builtin.Tuple.tupleIsExact (.ref t)) (zWb (wpAny_typeOf hT (zD1 ?_)));rw[if_pos (by decide)]
 first
  | exact zWb (wpAny_rule (zD1 ⟨_,rfl,zD1 h⟩))
  | exact zWb (wpAny_rule (zWb (zD1 (zD1 ⟨_,rfl,zD1 h⟩))))
end
end HT
namespace L2
open PySem PySem.Spec PyProof.Rows
section
variable {X:Cx}
def ag (K:zFr):V->Option Int->Option Int->Hp->VK->Prop:=λ x lo hi H Q=>∃ a xs,x=.ref a/\ya K H a xs/\(HT.zI xs.length 0 lo=0/\HT.zI xs.length xs.length hi=xs.length)/\Q (.ref a) H
def Vy:qu X (ag X.K):=by
 intro pins s B H x v vl vu lo hi sl Q I rx hs pl pu h;obtain⟨a,xs,rfl,hx,hw,q⟩:=h;cases rx;obtain⟨its,r,ht,hz⟩:=I.tuple hx;have hlen:its.toArray.size=xs.length:=by rw[zA0];exact r.length.symm
 exact⟨"tuple",_,PyProof.Rows.slot_tuple_getitem.lookup,ht.typeIs,HT.OL ht hs pl pu (by rw[hlen];exact hw) ⟨.ref a,H,I,rfl,q⟩⟩
end
end L2
namespace L5
open PySem PySem.Spec L2 L3
open PyProof.Rows hiding St
noncomputable def vG {α:Type}(xs:List α) (lo hi:Option Int):List α:=(xs.drop (HT.zI xs.length 0 lo)).take (HT.zI xs.length xs.length hi-HT.zI xs.length 0 lo)
section
variable {X:Cx}{K:zFr}{e:Expr}{lo hi:Option Expr}{te:zu}{tl th:Option zu}{pos p2:Pos}
def uZ (t:Option zu):yn->SS->(Option Int->SS->Prop)->Prop:=fun Y S Q=>match t with
 | none=>Q none S
 | some t=>t Y S λ d S1=>match d with
  | .int i=>Q (some i) S1
  | _=>False
def X8 (t:Option zu):Prop:=∀ u,t=some u->ym u
def uZ.mo (h:X8 tl):∀ Y S (Q Q':Option Int->SS->Prop),(∀ d S',Q d S'->Q' d S')->uZ tl Y S Q->uZ tl Y S Q':=fun Y S Q Q' hq z=>by
 cases tl with
 | none=>exact hq _ _ z
 | some t=>exact h t rfl Y S _ _ (λ d S1 z=>by cases d <;> first | exact hq _ _ z | exact z) z
noncomputable def W3 (K:zFr) (t:Option zu):TO:=fun B H Q=>∃ Y S,yY K H Y B/\zO K H S/\uZ t Y S λ o S1=>∀ H1,Ext H H1->zO K H1 S1->Q o H1
structure jA (X:Cx) (e:Option Expr) (t:Option zu):Prop where
 mo:X8 t
 po:PO X e (W3 X.K t)
def aJ:jA X none none:=⟨nofun,λ pins s B H Q I h=>by
 obtain⟨Y,S,r1,r2,z⟩:=h;exact U6 pins s B H Q I (z H (.refl H) r2)⟩
def aI (h:PD X e te):jA X (some e) (some te):=⟨λ u q=>by cases q;exact h.mo,λ pins s B H Q I hu=>by
 refine U5 h.pe pins s B H Q I ?_;obtain⟨Y,S,r1,r2,z⟩:=hu;refine zS.go h.mo r1 r2 z λ d S1 v H1 h1 q1 e1 p1=>?_;cases d with
 | int i=>simp only[zi] at q1;exact⟨i,q1,h1 H1 e1 p1⟩
 | zj=>exact h1.elim
 | bl _=>exact h1.elim
 | str _=>exact h1.elim
 | tup _=>exact h1.elim
 | yO _=>exact h1.elim
 | ref _=>exact h1.elim⟩
def uY (d:D) (lo hi:Option Int) (S:SS) (Q:DK):Prop:=match d with
 | .tup ds=>Q (.tup (vG ds lo hi)) S
 | d=>∃ ds,zM d S=some ds/\∀ p,S p=none->Q (.ref p) (ups S p (.lst (vG ds lo hi)))
def uY.mo {d:D}{lo hi:Option Int}{S:SS}{Q Q':DK}(hq:∀ d S',Q d S'->Q' d S') (h:uY d lo hi S Q):uY d lo hi S Q':=by
 unfold uY at h ⊢;split at h
 .exact hq _ _ h
 .obtain⟨ds,h1,h2⟩:=h;exact⟨ds,h1,λ p hp=>hq _ _ (h2 p hp)⟩
def zo.cut {H:Hp}{ds:List D}{xs:List V}(h:zo K H ds xs) (lo hi:Option Int):zo K H (vG ds lo hi) (tZ xs lo hi):=by
 have hd:∀ {ds:List D}{xs:List V}(n:Nat),zo K H ds xs->zo K H (ds.drop n) (xs.drop n):=by
  intro ds
  induction ds with
  | nil=>intro xs n h;simp only[zo] at h;subst h;simpa using zo.nil
  | cons d ds ih=>
   intro xs n h;simp only[zo] at h;obtain⟨y,ys,rfl,h1,h2⟩:=h;cases n with
   | zero=>exact .cons h1 h2
   | succ n=>exact ih n h2
 have ht:∀ {ds:List D}{xs:List V}(n:Nat),zo K H ds xs->zo K H (ds.take n) (xs.take n):=by
  intro ds
  induction ds with
  | nil=>intro xs n h;simp only[zo] at h;subst h;simpa using zo.nil
  | cons d ds ih=>
   intro xs n h;simp only[zo] at h;obtain⟨y,ys,rfl,h1,h2⟩:=h;cases n with
   | zero=>exact .nil
   | succ n=>exact .cons h1 (ih n h2)
 unfold vG tZ;rw[h.length];exact ht _ (hd _ h)
def OM {xs:List V}{lo hi:Option Int}(h:HT.zI xs.length 0 lo=0/\HT.zI xs.length xs.length hi=xs.length):tZ xs lo hi=xs:=by
 unfold tZ;rw[h.1,h.2];simp
abbrev Ub (K:zFr):V->Option Int->Option Int->Hp->VK->Prop:=λ x lo hi H Q=>ai K x lo hi H Q\/(ah K x lo hi H Q\/ag K x lo hi H Q)
def uY.fits {d:D}{v:V}{lo hi:Option Int}{H:Hp}{S:SS}{Q:VK}(h1:zi K H d v) (h2:zO K H S) (h:uY d lo hi S (wX K H Q)):Ub K v lo hi H Q:=by
 unfold uY at h;split at h
 .simp only[zi] at h1;obtain⟨a,xs,rfl,g1,g2⟩:=h1;by_cases hw:HT.zI xs.length 0 lo=0/\HT.zI xs.length xs.length hi=xs.length
  .refine .inr (.inr ⟨a,xs,rfl,g1,hw,h _ H ?_ (.refl H) h2⟩);simp only[zi];refine⟨a,xs,rfl,g1,?_⟩;have:=zo.cut g2 lo hi;rw[OM hw] at this;exact this
  .refine .inr (.inl ⟨a,xs,rfl,g1,hw,λ p hp=>h _ _ ?_ (.new hp _) (h2.new hp)⟩);simp only[zi];exact⟨p,_,rfl,ya.of yS,zo.ext (.new hp _) _ (zo.cut g2 lo hi)⟩
 .rename_i hn;obtain⟨ds,e,h⟩:=h;obtain⟨a,xs,rfl,g1,g2⟩:=rJ h1 h2 e (λ ts z=>hn ts z);exact .inl ⟨a,xs,rfl,g1,λ p hp=>h p (h2.none hp) _ _ (by simp only[zi]) (.new hp _) (h2.ups (.new hp _) ⟨_,yS,zo.ext (.new hp _) _ (zo.cut g2 lo hi)⟩)⟩
def YL (te:zu) (tl th:Option zu):zu:=fun Y S Q=>te Y S λ x S1=>uZ tl Y S1 λ l S2=>uZ th Y S2 λ u S3=>uY x l u S3 Q
def aN (he:PD X e te) (hl:jA X lo tl) (hh:jA X hi th):PD X (.Subscript e (.Slice lo hi none p2) pos) (YL te tl th):=by
 refine⟨fun Y S Q Q' hq z=>he.mo Y S _ _ (λ x S1 z=>uZ.mo hl.mo Y S1 _ _ (λ l S2 z=>uZ.mo hh.mo Y S2 _ _ (λ u S3 z=>uY.mo hq z) z) z) z,
  PE.imp (UU (V0.or (Vz.or Vy)) he.pe hl.po hh.po) fun B H Q hu=>?_⟩
 obtain⟨Y,S,r1,r2,z⟩:=hu;refine zS.go he.mo r1 r2 z λ x S1 v H1 h1 q1 e1 p1=>?_;refine⟨Y,S1,r1.ext e1,p1,uZ.mo hl.mo Y S1 _ _ (λ l S2 h2 H2 e2 p2=>?_) h1⟩;refine⟨Y,S2,(r1.ext e1).ext e2,p2,uZ.mo hh.mo Y S2 _ _ (λ u S3 h3 H3 e3 p3=>?_) h2⟩;exact uY.fits (zi.ext (e2.trans e3) x q1) p3 (uY.mo (λ d S' z=>z.ext ((e1.trans e2).trans e3)) h3)
@[simp] noncomputable def de:Option (Ev->Option T)->Ev->Option (Option Int)
 | none,_=>some none
 | some f,J=>(f J).bind λ x=>match x with
  | .int i=>some (some i)
  | _=>none
def jG (f:Option (Ev->Option T)) (t:Option zu):Prop:=∀ S Z Y J y Q,ER S Z Y J->de f J=some y->(∀ S',Sx S S'->Q y S')->uZ t Y S Q
def gY:jG none none:=λ S Z Y J y Q hE e hq=>by cases e;exact hq S (.refl S)
def gX {f:Ev->Option T}(h:yf f te):jG (some f) (some te):=λ S Z Y J y Q hE e hq=>by
 obtain⟨x,e1,e2⟩:=zOb e;refine h S Z Y J x _ hE e1 λ d S1 s1 r1=>?_;split at e2
 .cases e2;cases Vw.int r1;exact hq S1 s1
 .cases e2
@[simp] noncomputable def YY (lo hi:Option Int):T->Option T
 | .tup ts=>some (.tup (vG ts lo hi))
 | .lst ts=>some (.lst (vG ts lo hi))
 | _=>none
@[simp] noncomputable def i8 (f:Ev->Option T) (lo hi:Option (Ev->Option T)):Ev->Option T:=fun J=>(f J).bind λ x=>(de lo J).bind λ l=>(de hi J).bind λ u=>YY l u x
def zh.cut {S:SS}{ts:List T}{ds:List D}(h:zh S ts ds) (lo hi:Option Int):zh S (vG ts lo hi) (vG ds lo hi):=by
 unfold vG;rw[h.len];exact zh.take' _ (zh.drop' _ h)
def g_ {f:Ev->Option T}{l u:Option (Ev->Option T)}(h:yf f te) (hl:jG l tl) (hu:jG u th):xi (i8 f l u) (YL te tl th):=λ S Z Y J y Q hE e hq=>by
 obtain⟨x,e1,e⟩:=zOb e;obtain⟨l',e2,e⟩:=zOb e;obtain⟨u',e3,e⟩:=zOb e;refine h S Z Y J x _ hE e1 λ d S1 s1 r1=>?_;refine hl S1 Z Y J l' _ (hE.grow s1) e2 λ S2 s2=>?_;refine hu S2 Z Y J u' _ (hE.grow (s1.trans s2)) e3 λ S3 s3=>?_;have r3:Vw S3 Z x d:=Vw.grow r1 (s2.trans s3);have hz:=(hE.grow ((s1.trans s2).trans s3)).zd;unfold YY at e;split at e
 .cases e;obtain⟨ds,rfl,h2⟩:=r3.tup;exact hq _ S3 ((s1.trans s2).trans s3) (Cl.of (λ _=>nofun) (rH (zh.cut h2 _ _)))
 .cases e;obtain⟨ds,h1,h2⟩:=r3.seq rfl;have key:∃ ds,zM d S3=some ds/\∀ p,S3 p=none->Q (.ref p) (ups S3 p (.lst (vG ds l' u'))):=⟨ds,h1,λ p hp=>hq _ _ (((s1.trans s2).trans s3).trans (.new hp _)) (Cl.cl ((s1.trans s2).trans s3) (tF hz hp (zh.cut h2 _ _)))⟩
  obtain⟨_,q | ⟨a,q,_⟩,_⟩:=r3.lst
  .subst q;exact key
  .subst q;exact key
 .cases e
end
end L5
namespace TM
open PySem PyProof.Rows
set_option maxRecDepth 100000
def noFill:fillsNumberSlot (.type "tuple") "mul"=pure false:=
 PySem.fillsNumberSlot_seq (id:="tuple.__mul__") (r:=some (.builtin "tuple.__rmul__")) F.slot_tuple_mul.lookup (by decide +kernel) F.slot_tuple_rmul.lookup (by decide +kernel)
def rep:seqRepeat? (.type "tuple")=pure (some (.builtin "tuple.__mul__")):=by
 have a:=PySem.seqSlot_of (T:="tuple") (name:="__mul__") (id:="tuple.__mul__") F.slot_tuple_mul.lookup (by decide +kernel);have b:=PySem.seqSlot_of (T:="tuple") (name:="__rmul__") (id:="tuple.__rmul__") F.slot_tuple_rmul.lookup (by decide +kernel);unfold seqRepeat?;rw[a,b];rfl
def declines (i:Int) (t:Tok) (l:Addr) (items:Array Value) (n:Nat) (dd:Option Addr) (sl:Array (Option Value)):
  Meets (Builtin.«int.__rmul__» ⟨[.int i t,.ref l],[]⟩) (λ _ R s=>s.heap.get? l=some { cls:=.type "tuple",dict:=dd,data:=.seq items n,slots:=sl }/\R (.ok (.ret Value.notImplemented)) s):=
 .of_wp λ prog w A R s h=>by
  obtain⟨hp,g,d,tk,os⟩:=s;obtain⟨hl,h⟩:=h
  wp_walk
  exact⟨_,rfl,h⟩
theorem e9 {α:Type}(xs:List α):∀ (m:Nat) (acc:Array α),(List.replicate m xs.toArray).foldl (·++·) acc=acc++(List.replicate m xs).flatten.toArray
 | 0,acc=>by simp
 | m+1,acc=>by
  rw[List.replicate_succ,List.foldl_cons,e9 xs m,List.replicate_succ,List.flatten_cons,Array.append_assoc];simp
def Qp (k:Int) (t:Tok) (l:Addr) (items:Array Value) (n:Nat) (dd:Option Addr) (sl:Array (Option Value)) (h1:¬ (decide (k < -(2 ^ 63))||decide (k≥2 ^ 63))=true) (h2:¬ (items.isEmpty||k == 1)=true) (h3:¬ (decide (k<=0)||items.isEmpty)=true)
  (h4:¬ (items.size*k>(2 ^ 63-1)/8)) (h5:¬ Builtin.Tuple.tupleTooMany (items.size*k)=true) (h6:((List.replicate k.toNat items).foldl (·++·) #[]).size<=sizeLine):
  Meets (Builtin.«tuple.__mul__» ⟨[.ref l,.int k t],[]⟩) (λ _ R s=>s.heap.get? l=some { cls:=.type "tuple",dict:=dd,data:=.seq items n,slots:=sl }/\
   R (.ok (.ret (.ref s.heap.objs.size))) { s with heap:=s.heap.push { cls:=.type "tuple",data:=.seq ((List.replicate k.toNat items).foldl (·++·) #[]) } }):=
 .of_wp λ prog w A R s h=>by
  obtain⟨hp,g,d,tk,os⟩:=s;obtain⟨hl,h⟩:=h;have e0:IsTup (Shared.heap ⟨hp,g,d,tk,os⟩) l items:=⟨_,hl,rfl,n,rfl⟩
  wp_walk
  rw[if_neg h1];refine zWb (m:=Builtin.Tuple.tupleItemsOf (.ref l)) (tupleItemsOf_ e0 ?_);dsimp only;rw[if_neg h2,if_neg h3,if_neg h4,if_neg h5];exact zWb (m:=Builtin.Tuple.tupleExact _) (wpAny_newObj_type (zD1 ⟨_,rfl,h⟩) h6)
def Qq (t:Tok) (l:Addr) (items:Array Value) (n:Nat) (dd:Option Addr) (sl:Array (Option Value)):
  Meets (Builtin.«tuple.__mul__» ⟨[.ref l,.int 1 t],[]⟩) (λ _ R s=>s.heap.get? l=some { cls:=.type "tuple",dict:=dd,data:=.seq items n,slots:=sl }/\R (.ok (.ret (.ref l))) s):=
 .of_wp λ prog w A R s h=>by
  obtain⟨hp,g,d,tk,os⟩:=s;obtain⟨hl,h⟩:=h;have c:(items.isEmpty||(1:Int) == 1)=true:=by simp
  wp_walk
  exact⟨_,rfl,h⟩
section
variable {prog:Program}{w:World}{A:Around}{E:Value->Shared->Prop}{s:Shared}
def times {l:Addr}{its:List Value}{k:Int}{t:Tok}{Q:Value->Shared->Prop}(ht:IsTup s.heap l its.toArray) (hne:its≠[]) (h0:1<=k) (hz:its.length*k.toNat<=sizeLine)
  (one:k=1->Q (.ref l) s) (more:k≠1->Q (.ref s.heap.objs.size) { s with heap:=s.heap.push { cls:=.type "tuple",data:=.seq (List.replicate k.toNat its).flatten.toArray } }):
  wpAny (model prog w) A (binaryOp .Mult (.ref l) (.int k t)) Q E s:=by
 have hT:=ht.typeIs;obtain⟨⟨cls,dd,data,sl⟩,ho,hc,n,hd⟩:=id ht;simp only at hc hd;subst hc hd;refine wpAny_binaryOp_repeat_ref (T:="tuple") (U:="int") (by decide) hT (λ s'=>typeIs_int s' k t) noFill F.fills_int_mul F.slot_int_rmul rep F.slot_int_index.lookup
  (call_meets F.slot_int_rmul (typeIs_int s k t) F.entry_int_rmul (F.args_int_rmul_2 _ _) (declines k t l its.toArray n dd sl) ⟨ho,rfl,hT,?_⟩)
 have hlen:0<its.length:=List.length_pos_iff.mpr hne;have hem:its.toArray.isEmpty=false:=by cases its with
  | nil=>exact absurd rfl hne
  | cons a r=>rfl
 by_cases h1:k=1
 .subst h1;exact call_meets F.slot_tuple_mul hT F.entry_tuple_mul (F.args_tuple_mul_2 _ _) (Qq t l its.toArray n dd sl) ⟨ho,one rfl⟩
 .have hks:k.toNat<=sizeLine:=zE0 (Nat.le_mul_of_pos_left _ hlen) hz;have hl:sizeLine=16777216:=rfl;have hk2:k<=16777216:=by omega
  have hcast:((its.toArray.size:Nat):Int)*k=((its.length*k.toNat:Nat):Int):=by
   rw[zA0,Int.natCast_mul,zF2 (by omega)]
  have hf:(List.replicate k.toNat its.toArray).foldl (·++·) #[]=(List.replicate k.toNat its).flatten.toArray:=by rw[e9];simp
  have hfl:(List.replicate k.toNat its).flatten.length=k.toNat*its.length:=by simp
  refine call_meets F.slot_tuple_mul hT F.entry_tuple_mul (F.args_tuple_mul_2 _ _) (Qp k t l its.toArray n dd sl ?_ ?_ ?_ ?_ ?_ ?_) ⟨ho,?_⟩
  .simp only[Bool.or_eq_true,decide_eq_true_eq,not_or];exact⟨by omega,by omega⟩
  .rw[hem];simpa using h1
  .rw[hem];simp;omega
  .rw[hcast];omega
  .rw[hcast];intro q;unfold Builtin.Tuple.tupleTooMany at q;have:=of_decide_eq_true q;omega
  .rw[hf,zA0,hfl,Nat.mul_comm];exact hz
  .rw[hf];exact more h1
end
end TM
namespace L2
open PySem PySem.Spec PyProof.Rows
def g7 (K:zFr):R2:=λ x y H Q=>∃ a k xs,x=.ref a/\y=.int k/\ya K H a xs/\xs≠[]/\1<=k/\xs.length*k.toNat<=sizeLine/\(k=1->Q (.ref a) H)/\(k≠1->∀ p,H p=none->Q (.ref p) (upd H p (.tup (List.replicate k.toNat xs).flatten)))
def Sf {X:Cx}:yp X (binaryOp .Mult) (g7 X.K):=by
 intro pins s B H x y v u Q I rx ry h;obtain⟨a,k,xs,rfl,rfl,hx,hne,h1,hz,q1,q2⟩:=h;cases rx;obtain⟨t,rfl⟩:=ry;obtain⟨its,r,ht,_⟩:=I.tuple hx;have hl:=r.length;refine TM.times ht (λ z=>hne (r.mx.mp z)) h1 (by rw[<- hl];exact hz) (λ e=>⟨.ref a,H,I,rfl,q1 e⟩) λ e=>?_;have hlen:(List.replicate k.toNat xs).flatten.length<=sizeLine:=by
  have:(List.replicate k.toNat xs).flatten.length=k.toNat*xs.length:=by simp
  rw[this,Nat.mul_comm];exact hz
 exact⟨.ref _,_,I.laid (t':=s.toks) (o:=.tup (List.replicate k.toNat xs).flatten) (λ b ob q=>zHp _ q) (zA4 _) ⟨hlen,_,r.rep k.toNat,IsTup.new _ _⟩,rfl,q2 e _ (I.zD.fresh (zA4 _))⟩
end L2
namespace L5
open PySem PySem.Spec L2 L3
open PyProof.Rows hiding St
section
variable {X:Cx}{K:zFr}{a b:Expr}{ta tb:zu}{pos:Pos}
def tQ:yZ:=λ x y S Q=>match x,y with
 | .int i,.int j=>wI i j/\Q (.int (i*j)) S
 | .tup ds,.int k=>(ds≠[]/\1<=k/\ds.length*k.toNat<=sizeLine)/\Q (.tup (List.replicate k.toNat ds).flatten) S
 | _,_=>False
noncomputable def f7:T->T->Option T
 | .int i,.int j=>if wI i j then some (.int (i*j)) else none
 | .tup ts,.int k=>if ts≠[]/\1<=k/\ts.length*k.toNat<=sizeLine then some (.tup (List.replicate k.toNat ts).flatten) else none
 | _,_=>none
def tQ.mo:xU tQ:=λ x y S Q Q' hq h=>by
 unfold tQ at h ⊢;split at h
 .exact⟨h.1,hq _ _ h.2⟩
 .exact⟨h.1,hq _ _ h.2⟩
 .exact h.elim
theorem zo.rep {H:Hp}{ds:List D}{xs:List V}(h:zo K H ds xs):∀ n:Nat,zo K H (List.replicate n ds).flatten (List.replicate n xs).flatten
 | 0=>.nil
 | n+1=>by
  rw[List.replicate_succ,List.replicate_succ,List.flatten_cons,List.flatten_cons];exact h.append (zo.rep h n)
def tQ.fits:xI K tQ (λ x y H Q=>rI wI (λ i j=>.int (i*j)) x y H Q\/g7 K x y H Q):=λ x y d e H S Q h1 h2 h3 h=>by
 unfold tQ at h;split at h
 .simp only[zi] at h1 h2;exact .inl ⟨_,_,h1,h2,h.1,h.2 _ H (by simp only[zi]) (.refl H) h3⟩
 .rename_i ds k;obtain⟨⟨c1,c2,c3⟩,h⟩:=h;have h1':=h1;simp only[zi] at h1 h2;obtain⟨a,xs,rfl,g1,g2⟩:=h1;have hl:=g2.length;refine .inr ⟨a,k,xs,rfl,h2,g1,λ z=>c1 (by subst z;cases ds with | nil=>rfl | cons _ _=>simp at hl),c2,by rw[<- hl];exact c3,λ e=>?_,λ e p hp=>?_⟩
  .subst e;refine h _ H ?_ (.refl H) h3;have:(List.replicate (1:Int).toNat ds).flatten=ds:=by simp
   rw[this];exact h1'
  .refine h _ _ ?_ (.new hp _) (h3.new hp);simp only[zi];exact⟨p,_,rfl,ya.of yS,zo.ext (.new hp _) _ (zo.rep g2 _)⟩
 .exact h.elim
theorem zh.rep {S:SS}{ts:List T}{ds:List D}(h:zh S ts ds):∀ n:Nat,zh S (List.replicate n ts).flatten (List.replicate n ds).flatten
 | 0=>.nil
 | n+1=>by
  rw[List.replicate_succ,List.replicate_succ,List.flatten_cons,List.flatten_cons];exact h.append (zh.rep h n)
def Yg:Good2 zJ f7 tQ:=λ S Z x y z d e Q hz hx hy ef hq=>by
 unfold f7 at ef;split at ef
 .split at ef
  .rename_i hc;cases ef;cases hx.int;cases hy.int;exact⟨hc,hq _ S (.refl S) (Cl.of (λ _=>nofun) wN)⟩
  .cases ef
 .split at ef
  .rename_i hc;cases ef;obtain⟨ds,rfl,h2⟩:=hx.tup;cases hy.int;have hl:=h2.len;exact⟨⟨λ q=>hc.1 (by subst q;simpa using hl.symm),hc.2.1,by rw[hl];exact hc.2.2⟩,hq _ S (.refl S) (Cl.of (λ _=>nofun) (rH (zh.rep h2 _)))⟩
  .cases ef
 .cases ef
end
end L5
namespace L4
open PySem PyProof.Rows
section
variable {prog:Program}{w:World}{A:Around}{E:Value->Shared->Prop}{s:Shared}
def OY {l:Addr}{vs:List Value}{Q:List Value->Shared->Prop}(hl:IsTup s.heap l vs.toArray) (hz:vs.length<=sizeLine)
  (h:Q vs { s with heap:=(s.heap.push (seqObj "list" #[] 0)).update s.heap.objs.size (Obj.mapSeq (·++vs.toArray)) }):wpAny (model prog w) A (collect (.ref l)) Q E s:=by
 obtain⟨o,ho,hc,n,hd⟩:=id hl;have new:(s.heap.push (seqObj "list" #[] 0)).get? s.heap.objs.size=some (seqObj "list" #[] 0):=zA9 _ rfl;have ho':(s.heap.push (seqObj "list" #[] 0)).get? l=some o:=zHp _ ho;unfold collect;refine zWb (wpAny_runValue (codeAny_builtin entry_proto_collect' (zWb (m:=newList []) (wpAny_newList (zD1 ⟨Code.quiet_builtin _ (by decide +kernel),codeAny_builtin entry_list_iadd' ?_⟩)))));show wpAny _ _ (Builtin.List.listExtendWith (.ref s.heap.objs.size) (.ref l) (.ref s.heap.objs.size)) _ _ { s with heap:=s.heap.push (seqObj "list" #[] 0) };unfold Builtin.List.listExtendWith;refine zWb (wpAny_typeOf (T:="tuple") ⟨o,ho',hc⟩ ?_);rw[if_pos (by rw[show (Value.type "tuple" == Value.type "tuple")=true from rfl];simp)];refine zWb (listItems_at ho' hd (zWb (listItems_at (xs:=#[]) (n:=0) new rfl ?_)));rw[if_neg (by simp)];refine zWb (listUpdate_at (xs:=#[]) (n:=0) new rfl (zD1 ?_) (zD4 _) (by show (#[]++vs.toArray).size<=sizeLine+1;simp only[Array.size_append,zA0,List.length_nil];omega));refine zWb (m:=load s.heap.objs.size) (wpAny_load (get?_update_seq new _) ?_);show wpAny _ _ (pure ((#[]:Array Value)++vs.toArray).toList) Q E _;have e:((#[]:Array Value)++vs.toArray).toList=vs:=by simp
 rw[e];exact zD1 h
def Vr {l:Addr}{vs:List Value}{Q:Value->Shared->Prop}{Out:Array Value->Prop}(hl:IsTup s.heap l vs.toArray) (hz:vs.length<=sizeLine)
  (core:2<=vs.length->∀ s6:Shared,(∀ b o,s.heap.get? b=some o->s6.heap.get? b=some o)->Core prog w A.in1.in1 E vs Out s6) (short:vs.length<2->Out vs.toArray)
  (fin:∀ out:Array Value,Out out->out.size=vs.length->Q (.ref (s.heap.objs.size+1)) { s with heap:=sortedAll s.heap vs out }):
  wpAny (model prog w) A (call (.builtin "sorted") [.ref l]) Q E s:=by
 let h1:=(s.heap.push (seqObj "list" #[] 0)).update s.heap.objs.size (Obj.mapSeq (·++vs.toArray))
 have sz:h1.objs.size=s.heap.objs.size+1:=by show (Heap.update _ _ _).objs.size=_;rw[Heap.size_update,size_push']
 have there:(h1.push (seqObj "list" vs.toArray 0)).get? (s.heap.objs.size+1)=some (seqObj "list" vs.toArray 0):=sz▸zA9 _ rfl;have keep:∀ b o,s.heap.get? b=some o->(h1.push (seqObj "list" vs.toArray 0)).get? b=some o:=λ b o q=>by
  refine zHp _ ?_;show (Heap.update _ _ _).get? b=_;rw[Heap.get?_update_ne _ _ _ _ (zB3 (zA8 q))];exact zHp _ q
 refine Calls.call_function_entry kind_sorted plain_sorted entry_sorted (args_sorted1 _) ?_;unfold Builtin.«sorted»;refine zWb (m:=checkCount "sorted" 1 1 _) (zD1 (zWb (OY hl hz (zWb (wpAny_newList ?_ hz)))));show wpAny _ _ _ _ _ { s with heap:=h1.push (seqObj "list" vs.toArray 0) };rw[show (Heap.update (s.heap.push (seqObj "list" #[] 0)) s.heap.objs.size (Obj.mapSeq (·++vs.toArray))).objs.size=s.heap.objs.size+1 from sz];refine zWb (wpAny_holding (wpAny_call_entry slot_list_sort ⟨_,there,rfl⟩ entry_list_sort (fF there hz (λ h2 s6 k=>core h2 s6 λ b o q=>k b o (zB3 (Nat.lt_succ_of_lt (zA8 q))) (keep b o q)) short λ out g1 g2=>⟨_,rfl,?_⟩) (args_list_sort _)));exact zD1 ⟨_,rfl,fin out g1 g2⟩
end
section
open L2 PySem.Spec
variable {X:Cx}
def Nj:yT X (.builtin "sorted") (λ xs H Q=>∃ p ys,∃ rows:List (List Int),xs=[.ref p]/\ya X.K H p ys/\Paired (λ v r=>r≠[]/\∃ b,v=V.ref b/\ya X.K H b (r.map V.int)) ys rows/\rows.length<64/\
  ∀ (l:Addr) (idx:List Nat),H l=none->idx.Perm (List.range ys.length)->(idx.map λ i=>rows.getD i []).Pairwise (λ a b=>HT.lexLt b a=false)->Q (.ref l) (upd H l (.lst (idx.map λ i=>ys.getD i .zj)))):=by
 intro pins s B H xs us Q I r h;obtain⟨p,ys,rows,rfl,hq,hr,h64,q⟩:=h;obtain⟨u,rfl,ru⟩:=vals1 r;cases ru;obtain⟨its,rv,pl,hz⟩:=I.tuple hq;have hl:=rv.length;have hlr:ys.length=rows.length:=Paired.length hr;have rows_at:∀ h6:Heap,(∀ b o,s.heap.get? b=some o->h6.get? b=some o)->sY h6 its rows:=λ h6 k=>by
  refine ST.Paired.mk (by omega) λ i a b ha hb=>?_;have hi:i<ys.length:=by have:=(zA2.mp hb).1;omega
  obtain⟨hne,c,hc,hsq⟩:=L4.Paired.at' hr (i:=i) hi V.zj ([]:List Int);obtain⟨u,e1,e2⟩:=rv.get (i:=i) (x:=ys.getD i V.zj) (by simp[hi]);rw[ha] at e1;cases e1;rw[hc] at e2;cases (show a=Value.ref c from e2);obtain⟨its2,rv2,⟨o,e,hcl,n,hd⟩,_⟩:=I.tuple hsq;have eb:rows.getD i []=b:=by simp[hb]
  rw[eb] at hne rv2;exact⟨hne,c,o,_,n,rfl,k _ _ e,hcl,hd,by simpa using intsAre_of rv2⟩
 refine Vr (Out:=lG its rows) pl (by rw[<- hl];exact hz) (λ h2 s6 k=>eQ (rows_at _ k) h2 (by omega)) (λ h1=>?_) λ out ho hs=>?_
 .refine⟨List.range its.length,.refl _,?_,?_⟩
  .refine List.ext_getElem (by simp) λ i h1 h2=>?_;simp at h1;simp[h1]
  .rw[List.pairwise_map,List.pairwise_iff_getElem];intro i j hi hj hij;simp at hi hj;omega
 .obtain⟨idx,g1,g2,g3⟩:=ho;obtain⟨e,ho⟩:=sortedAll_at s.heap its out;have g1':idx.Perm (List.range ys.length):=by rw[hl];exact g1
  refine⟨.ref (s.heap.objs.size+1),_,I.laid (t':=s.toks) (o:=.lst (idx.map λ i=>ys.getD i .zj)) (λ b o q=>sortedAll_old q) (Nat.le_succ _) ?_,rfl,q _ idx (I.zD.fresh (Nat.le_succ _)) g1' g3⟩;refine⟨by rw[zA7,g1'.length_eq,zC5];exact hz,out.toList,e,?_,by simpa using ho⟩;rw[g2];refine ST.Paired.mk (by simp) λ j a b ha hb=>?_;rw[zA3] at ha hb;obtain⟨i,hi,rfl⟩:=zOm ha;rw[hi] at hb;cases hb;have hil:i<ys.length:=by simpa using g1'.mem_iff.mp (zB7 hi)
  obtain⟨u,e1,e2⟩:=rv.get (i:=i) (x:=ys.getD i V.zj) (by simp[hil]);have e3:its.getD i Value.none=u:=by simp[e1]
  show L2.RelV (ys.getD i V.zj) (its.getD i Value.none);rw[e3];exact e2
end
end L4
namespace L5
open PySem PySem.Spec L2 L3
open PyProof.Rows hiding St
section
variable {X:Cx}{K:zFr}{e:Expr}{es:List Expr}{tA:yv}{pos p pos2 p2:Pos}
def qf:xT:=λ ds S Q=>∃ d,∃ rows:List (List Int),ds=[d]/\zM d S=some (rows.map w6)/\rows.length<64/\(∀ r∈rows,r≠[])/\∀ l,S l=none->Q (.ref l) (ups S l (.lst ((L4.xW rows).map w6)))
noncomputable def pX:List T->Option T
 | [y]=>(we y).bind λ ts=>(uq ts).bind λ rs=>if rs.length<64/\∀ r∈rs,r≠[] then some (.lst ((L4.xW rs).map yq)) else none
 | _=>none
def Px:uh zJ pX qf:=λ S Z ys z ds Q hz hv e hq=>by
 unfold pX at e;split at e
 .obtain⟨d,rfl,h1⟩:=vM hv;obtain⟨ts,e0,e⟩:=zOb e;obtain⟨rs,e1,e2⟩:=zOb e;split at e2
  .rename_i hc;cases e2;cases gr e1;obtain⟨es,h2,h3⟩:=h1.seq e0;cases pY.mp h3;exact⟨d,rs,rfl,h2,hc.1,hc.2,λ l hl=>hq _ _ (.new hl _) (tF hz hl (pY.mpr rfl))⟩
  .cases e2
 .cases e
def qf.mo:ug qf:=λ ds S Q Q' hq ⟨d,rows,h0,h1,h2,h3,h4⟩=>⟨d,rows,h0,h1,h2,h3,λ l hl=>hq _ _ (h4 l hl)⟩
abbrev af (K:zFr) (sq:Hp->Addr->List V->Prop):List V->Hp->VK->Prop:=λ xs H Q=>∃ p ys,∃ rows:List (List Int),xs=[.ref p]/\sq H p ys/\Paired (λ v r=>r≠[]/\∃ b,v=V.ref b/\ya K H b (r.map V.int)) ys rows/\rows.length<64/\
  ∀ (l:Addr) (idx:List Nat),H l=none->idx.Perm (List.range ys.length)->(idx.map λ i=>rows.getD i []).Pairwise (λ a b=>HT.lexLt b a=false)->Q (.ref l) (upd H l (.lst (idx.map λ i=>ys.getD i .zj)))
def yT.or {f:Value}{r r':List V->Hp->VK->Prop}(h:yT X f r) (h':yT X f r'):yT X f (λ xs H Q=>r xs H Q\/r' xs H Q):=λ pins s B H xs us Q I rv q=>
 q.elim (λ q=>h pins s B H xs us Q I rv q) λ q=>h' pins s B H xs us Q I rv q
def qf.fits:tw K qf (λ xs H Q=>af K (zV K) xs H Q\/af K (ya K) xs H Q):=λ xs ds H S Q h0 h2 h=>by
 obtain⟨d,rows,rfl,e,h64,hne,h⟩:=h;obtain⟨x,hx,h1⟩:=h0.one;subst hx;obtain⟨a,ys,rfl,g1,g2⟩:=zM.sq h1 h2 e;have hl:=g2.length;rw[zA7] at hl;have key:∀ (l:Addr) (idx:List Nat),H l=none->idx.Perm (List.range ys.length)->(idx.map λ i=>rows.getD i []).Pairwise (λ a b=>HT.lexLt b a=false)->Q (.ref l) (upd H l (.lst (idx.map λ i=>ys.getD i .zj))):=λ l idx hf hp hs=>by
  rw[<- hl] at hp;have heq:=L4.bE (Zy hp) hs;have hx:Ext H (upd H l (.lst (idx.map λ i=>ys.getD i .zj))):=.new hf _;refine h l (h2.none hf) _ _ (by simp only[zi]) hx (h2.ups hx ⟨_,yS,?_⟩);rw[<- heq];exact zo.ext hx _ (g2.perm λ i hi=>by simpa using hp.mem_iff.mp hi)
 rcases g1 with g1 | g1
 .exact .inl ⟨_,ys,rows,rfl,g1,nL g2 hne,h64,key⟩
 .exact .inr ⟨_,ys,rows,rfl,g1,nL g2 hne,h64,key⟩
def aM (hm:X.mg "sorted"=none) (ha:wa X (e::es) tA) (hg:Gl X "sorted":=by rfl) (he:starEach (e::es) X.env=(false,eval e X.env)::starEach es X.env:=by rfl) (hpl:(backTo pos (starEach es X.env)).any (·.1)=false:=by rfl):PD X (.Call (.Name "sorted" p) (e::es) [] pos) (xY qf tA):=
 sF (rO (yT.or L4.Nm L4.Nj) hg hm boot_sorted ha.pa (by decide) (by decide) he hpl) qf.mo qf.fits ha.mo
end
end L5
namespace L2
open PySem PySem.Spec PyProof.Rows
section
variable {X:Cx}
def uL (r:Addr) (j:Int):Heap->Prop:=λ h=>∃ t u v,IsRange h r 0 j 1 t u v
def Nt:yT X (.type "range") (λ xs H Q=>∃ j,xs=[.int j]/\∀ r,H r=none->Q (.ref r) (upd H r (.ext (uL r j)))):=by
 intro pins s B H xs us Q I r h;obtain⟨j,rfl,q⟩:=h;obtain⟨u,rfl,ru⟩:=vals1 r;obtain⟨t,rfl⟩:=ru;refine call_range_1 ⟨.ref s.heap.objs.size,_,I.laid (o:=.ext (uL s.heap.objs.size j)) (λ b o e=>zHp _ e) (zA4 _) ?_,rfl,q _ (I.zD.fresh (zA4 _))⟩;have here:uL s.heap.objs.size j (s.heap.push { cls:=.type "range",data:=.fields #[.int 0 s.toks,.int j t,.int 1 (s.toks+1)] }):=⟨_,_,_,IsRange.new ..⟩
 refine⟨here,⟨_,zA9 _ rfl⟩,λ h1 h2 S k=>?_⟩;obtain⟨a,b,c,e⟩:=S;exact⟨a,b,c,k _ e⟩
def Nx (hc:X.calm=true):yT X (.type "list") (λ xs H Q=>∃ r j,xs=[.ref r]/\H r=some (.ext (uL r j))/\0<=j/\j<=16777216/\∀ l,H l=none->Q (.ref l) (upd H l (.lst ((List.range j.toNat).map λ(k:Nat)=>V.int (k:Int))))):=by
 intro pins s B H xs us Q I r h;obtain⟨a,j,rfl,hr,h0,h1,q⟩:=h;obtain⟨u,rfl,ru⟩:=vals1 r;cases ru;obtain⟨⟨t,u,v,hR⟩,-,-⟩:=(show x8 X.prog X.w H s.heap a (.ext (uL a j)) from I.zD a _ hr)
 have hsz:Builtin.Range.rangeSize 0 j 1=((j.toNat:Nat):Int):=by rw[rangeSize_one];split <;> omega
 refine call_list_range (n:=j.toNat) (I.ok.hd hc) hR (small_one (by decide) (by decide) (by omega) (by omega)) hsz (by omega) λ h' tk acc c k e hi=>?_;refine⟨.ref s.heap.objs.size,_,I.laid (o:=.lst ((List.range j.toNat).map λ(k:Nat)=>V.int (k:Int))) k (zA4 _) ⟨?_,acc.toList,c,?_,by simpa using e⟩,rfl,q _ (I.zD.fresh (zA4 _))⟩
 .have:sizeLine=16777216:=rfl;simp;omega
 .obtain⟨hn,hi⟩:=hi;refine ST.Paired.mk (by simp[hn]) λ i a b ha hb=>?_;rw[zA3] at ha;obtain⟨k',hk,rfl⟩:=zOm ha;obtain⟨hk1,hk2⟩:=zA2.mp hk;simp at hk2;subst hk2;obtain⟨w,hw⟩:=hi i b (by simpa using hb);subst hw;exact⟨w,by simp⟩
end
end L2
namespace L5
open PySem PySem.Spec L2 L3
open PyProof.Rows hiding St
section
variable {X:Cx}{K:zFr}{e:Expr}{tA:yv}{pos p pos2 p2:Pos}
def sR:xT:=λ ds S Q=>∃ j:Int,ds=[.int j]/\0<=j/\j<=16777216/\∀ l,S l=none->Q (.ref l) (ups S l (.lst (vy 0 j.toNat)))
noncomputable def m4:List T->Option T
 | [.int j]=>if 0<=j/\j<=16777216 then some (.lst (rangeT 0 j.toNat)) else none
 | _=>none
def PC:uh zJ m4 sR:=λ S Z ys z ds Q hz hv e hq=>by
 unfold m4 at e;split at e
 .obtain⟨d,rfl,h1⟩:=vM hv;split at e
  .rename_i hc;cases e;cases h1.int;exact⟨_,rfl,hc.1,hc.2,λ l hl=>hq _ _ (.new hl _) (tF hz hl (i6 _ _))⟩
  .cases e
 .cases e
def sR.mo:ug sR:=λ ds S Q Q' hq ⟨j,h0,h1,h2,h3⟩=>⟨j,h0,h1,h2,λ l hl=>hq _ _ (h3 l hl)⟩
def VU {H:Hp}(n:Nat):zo K H (vy 0 n) ((List.range n).map λ(k:Nat)=>V.int (k:Int)):=by
 unfold vy
 induction List.range n with
 | nil=>exact .nil
 | cons k l ih=>exact .cons (by simp only[zi];rw[Int.zero_add]) ih
def sR.fits:tw K sR (λ xs H Q=>∃ j,xs=[.int j]/\∀ r,H r=none->∃ r' j',[V.ref r]=[.ref r']/\(upd H r (.ext (uL r j))) r'=some (.ext (uL r' j'))/\0<=j'/\j'<=16777216/\
  ∀ l,(upd H r (.ext (uL r j))) l=none->Q (.ref l) (upd (upd H r (.ext (uL r j))) l (.lst ((List.range j'.toNat).map λ(k:Nat)=>V.int (k:Int))))):=λ xs ds H S Q h0 h2 h=>by
 obtain⟨j,rfl,c1,c2,h⟩:=h;obtain⟨x,hx,h1⟩:=h0.one;subst hx;simp only[zi] at h1;subst h1;refine⟨j,rfl,λ r hr=>⟨r,j,rfl,yS,c1,c2,λ l hl=>?_⟩⟩;have x1:Ext H (upd H r (.ext (uL r j))):=.new hr _;have hlr:l≠r:=λ z=>by subst z;rw[yS] at hl;cases hl
 have hlH:H l=none:=by rw[yU hlr] at hl;exact hl
 have x2:Ext (upd H r (.ext (uL r j))) (upd (upd H r (.ext (uL r j))) l (.lst ((List.range j.toNat).map λ(k:Nat)=>V.int (k:Int)))):=.new hl _;exact h l (h2.none hlH) _ _ (by simp only[zi]) (x1.trans x2) ((h2.new hr).ups x2 ⟨_,yS,VU _⟩)
def T8 (hm:X.mg "list"=none) (hm2:X.mg "range"=none) (ha:wa X [e] tA) (hc:X.calm=true:=by rfl) (hg:Gl X "list":=by rfl) (hg2:Gl X "range":=by rfl)
  (he2:starEach [e] X.env=(false,eval e X.env)::starEach [] X.env:=by rfl)
  (he:starEach [.Call (.Name "range" p2) [e] [] pos2] X.env=(false,eval (.Call (.Name "range" p2) [e] [] pos2) X.env)::starEach [] X.env:=by rfl) (hpl:(backTo pos (starEach [] X.env)).any (·.1)=false:=by rfl) (hpl2:(backTo pos2 (starEach [] X.env)).any (·.1)=false:=by rfl):
  PD X (.Call (.Name "list" p) [.Call (.Name "range" p2) [e] [] pos2] [] pos) (xY sR tA):=by
 have h:=oq (p:=p) (Nx hc) hg hm PyProof.Rows.boot_list (qN (oq Nt hg2 hm2 boot_range ha.pa (by decide) (by decide) he2 hpl2) o5 he) (by decide) (by decide) he hpl;exact⟨xY.mo sR.mo ha.mo,PE.imp h λ _ _ _ hu=>bu sR.mo sR.fits ha.mo hu⟩
end
end L5
namespace ST
open PySem PySem.SetTable PySem.Spec PyProof.Rows L2
def Pf {us us':List Value}(p:us'.Perm us):∀ {ms:List Int},IntsAre us ms->∃ ms',IntsAre us' ms'/\ms'.Perm ms:=by
 induction p with
 | nil=>intro ms h;exact⟨ms,h,.refl _⟩
 | cons x _ ih=>
  intro ms h;cases h with
  | cons n t h=>
   obtain⟨ms',h1,h2⟩:=ih h;exact⟨n::ms',.cons n t h1,h2.cons n⟩
 | swap x y l=>
  intro ms h;cases h with
  | cons n t h=>
   cases h with
   | cons m u h=>exact⟨m::n::_,.cons m u (.cons n t h),.swap _ _ _⟩
 | trans _ _ ih1 ih2=>
  intro ms h;obtain⟨m1,h1,h2⟩:=ih2 h;obtain⟨m2,h3,h4⟩:=ih1 h1;exact⟨m2,h3,h4.trans h2⟩
def ud.at {prog:Program}{w:World}{h:Heap}{a:Addr}{xs:List (Int×Tok)}(S:ud prog w h a xs (vT w)):yX w a (xs.map λ e=>Value.int e.1 e.2) h:=by
 obtain⟨⟨es,ep,t,ho,he,T,h1,h2,h3⟩,_⟩:=S;have hm:7<=t.mask/\t.mask<=127:=by rcases T.mask with e | e | e <;> omega
 have hlen:es.size=xs.length:=by have:=congrArg List.length he;simpa using this
 exact⟨es,ep,t,⟨ho,fits_of (n:=xs.length) hlen T (by simp) (by omega),T.wZ,h1,h2⟩,by rw[he,zD6];rfl⟩
theorem Z_:∀ xs:List (Int×Tok),IntsAre (xs.map λ e=>Value.int e.1 e.2) (xs.map (·.1))
 | []=>.nil
 | e::xs=>.cons e.1 e.2 (Z_ xs)
theorem bc:∀ {us:List Value}{ns:List Int},IntsAre us ns->Vals (ns.map V.int) us
 | _,_,.nil=>.nil
 | _,_,.cons n t h=>.cons ⟨t,rfl⟩ (bc h)
section
variable {X:Cx}
def Np (hc:X.calm=true):yT X (.type "set") (λ xs H Q=>∃ p,∃ ns:List Int,xs=[.ref p]/\zV X.K H p (ns.map V.int)/\ns.length<64/\
  ∀ (l:Addr) (us:List Value) (ms:List Int),H l=none->IntsAre us ms->ms.Nodup->(∀ n,n∈ms↔n∈ns)->Q (.ref l) (upd H l (.ext (yX X.w l us)))):=by
 intro pins s B H xs us Q I r h;obtain⟨p,ns,rfl,hq,h64,q⟩:=h;obtain⟨u,rfl,ru⟩:=vals1 r;cases ru;obtain⟨its,rv,pl,hz⟩:=I.list hq;have hl:=rv.length;rw[zA7] at hl;have iA:IntsAre its ns:=intsAre_of rv;have nums:Nums its.toArray ns:=λ i v hv=>by
  have hv':its[i]?=some v:=by simpa using hv
  have hi:i<ns.length:=by rw[hl];exact (zA2.mp hv').1
  obtain⟨u,e1,t,e2⟩:=rv.get (i:=i) (x:=V.int ns[i]) (by simp[hi]);rw[hv'] at e1;cases e1;exact⟨ns[i],t,e2,by simp[hi]⟩
 have hh:X.A.handled=none:=I.ok.hd hc;refine Nq (A:=X.A) hh pl.isList nums (by rw[zA0];omega) λ h' tk xs S U k=>?_;have kk:∀ b o,s.heap.get? b=some o->h'.get? b=some o:=λ b o e=>k b o (zA8 e) e;have hSO:=S.at;refine⟨.ref s.heap.objs.size,_,I.laid (t':=tk) (o:=.ext (yX X.w s.heap.objs.size (xs.map λ e=>Value.int e.1 e.2))) kk (zA4 _) ?_,rfl,q _ _ (xs.map (·.1)) (I.zD.fresh (zA4 _)) (Z_ xs) S.nd λ n=>⟨λ hn=>?_,λ hn=>?_⟩⟩
 .obtain⟨es,ep,t,St,e⟩:=id hSO;exact⟨hSO,⟨_,St.get⟩,λ h1 h2 S1 k=>S1.sr k⟩
 .obtain⟨e,he,rfl⟩:=zB0.mp hn;obtain⟨j,_,hj⟩:=U.own e he;exact zB7 hj
 .obtain⟨j,hj⟩:=List.mem_iff_getElem?.mp hn;exact U.all j n (by have:=(zA2.mp hj).1;rw[zA0];omega) hj
def Nk (hc:X.calm=true):yT X (.builtin "sorted") (λ xs H Q=>∃ l us,∃ ms:List Int,xs=[.ref l]/\H l=some (.ext (yX X.w l us))/\IntsAre us ms/\ms.length<64/\
  ∀ (p:Addr) (ns:List Int),H p=none->ns.Perm ms->ns.Pairwise (·<=·)->Q (.ref p) (upd H p (.lst (ns.map V.int)))):=by
 intro pins s B H xs us0 Q I r h;obtain⟨l,us,ms,rfl,hl,hm,h64,q⟩:=h;obtain⟨u,rfl,ru⟩:=vals1 r;cases ru;obtain⟨⟨es,ep,t,S,eu⟩,-,-⟩:=(show x8 X.prog X.w H s.heap l (.ext (yX X.w l us)) from I.zD l _ hl)
 have hlen:es.size=us.length:=by rw[<- eu];simp
 have hml:=hm.length;have hh:X.A.handled=none:=I.ok.hd hc;have hp:((comes X.w l es ep).toList.map (·.2)).Perm us:=by rw[<- eu];exact (oW X.w l es ep).map _
 obtain⟨ms',i1,i2⟩:=Pf hp hm;have hcl:=hp.length_eq;have hl24:sizeLine=16777216:=rfl;refine bD (Out:=λ out=>∃ ns',IntsAre out.toList ns'/\ns'.Perm ms'/\ns'.Pairwise (·<=·)) hh S (by rw[hlen,hml];omega) (λ s6 h2 k=>L4.OV i1 (by rw[hcl,<- hlen];exact h2) (by rw[hcl,hml];exact h64)) (λ h1=>⟨ms',by simpa using i1,.refl _,?_⟩) λ out h' tk p ho hs hp' k hat=>?_
 .have:ms'.length<2:=by rw[<- i1.length,hcl,<- hlen];exact h1
  match ms',this with
  | [],_=>exact .nil
  | [_],_=>exact List.pairwise_singleton _ _
 .obtain⟨ns,g1,g2,g3⟩:=ho;obtain⟨e,he⟩:=hat;refine⟨.ref p,_,I.laid (t':=tk) (o:=.lst (ns.map V.int)) k hp' ?_,rfl,q p ns (I.zD.fresh hp') (g2.trans i2) g3⟩;exact⟨by rw[zA7,g2.length_eq,i2.length_eq];omega,out.toList,e,bc g1,by simpa using he⟩
end
end ST
namespace L5
open PySem PySem.Spec L2 L3
open PyProof.Rows hiding St
noncomputable def insI (n:Int):List Int->List Int
 | []=>[n]
 | m::l=>if n<m then n::m::l else if n=m then m::l else m::insI n l
noncomputable def wY:List Int->List Int
 | []=>[]
 | n::ns=>insI n (wY ns)
theorem fA {n k:Int}:∀ {l:List Int},k∈insI n l↔k=n\/k∈l
 | []=>by simp[insI]
 | m::l=>by
  unfold insI;split
  .simp
  .split
   .rename_i h;subst h;simp
   .rw[zA5,fA,zA5];constructor
    .rintro (h | h | h)
     .exact .inr (.inl h)
     .exact .inl h
     .exact .inr (.inr h)
    .rintro (h | h | h)
     .exact .inr (.inl h)
     .exact .inl h
     .exact .inr (.inr h)
theorem ja {k:Int}:∀ {l:List Int},k∈wY l↔k∈l
 | []=>.rfl
 | n::l=>by unfold wY;rw[fA,ja,zA5]
theorem Yc {n:Int}:∀ {l:List Int},l.Pairwise (· < ·)->(insI n l).Pairwise (· < ·)
 | [],_=>List.pairwise_singleton _ _
 | m::l,h=>by
  have h':=List.pairwise_cons.mp h;unfold insI;split
  .rename_i c;refine List.pairwise_cons.mpr ⟨λ x hx=>?_,h⟩;rcases zA5.mp hx with e | e
   .rw[e];exact c
   .exact Int.lt_trans c (h'.1 x e)
  .split
   .exact h
   .rename_i c1 c2;refine List.pairwise_cons.mpr ⟨λ x hx=>?_,Yc h'.2⟩;rcases fA.mp hx with e | e
    .rw[e];omega
    .exact h'.1 x e
theorem bq:∀ l:List Int,(wY l).Pairwise (· < ·)
 | []=>.nil
 | n::l=>Yc (bq l)
def W2 {l m:List Int}(h1:l.Nodup) (h2:l.Pairwise (·<=·)) (h3:m.Pairwise (· < ·)) (h:∀ k,k∈l↔k∈m):l=m:=by
 have nm:m.Nodup:=h3.imp λ h e=>by omega
 refine L4.gJ (r:=λ a b:Int=>a<=b) (λ a b p q=>by omega) ((List.perm_ext_iff_of_nodup h1 nm).mpr h) h2 (h3.imp λ h=>by omega)
section
variable {X:Cx}{K:zFr}{e:Expr}{tA:yv}{pos pos2 p p2:Pos}
def mK:xT:=λ ds S Q=>uX ds S Q\/∃ d,∃ ns:List Int,ds=[d]/\(∀ ts,d≠.tup ts)/\zM d S=some (ns.map D.int)/\ns.length<64/\∀ l,S l=none->Q (.ref l) (ups S l (.lst ((wY ns).map D.int)))
noncomputable def qE:List T->Option T
 | [.lst ts]=>match u7 ts with
  | some ns=>if ns.length<64 then some (.lst ((wY ns).map T.int)) else none
  | none=>ky [.lst ts]
 | _=>none
def Pu:uh zJ qE mK:=λ S Z ys z ds Q hz hv e hq=>by
 unfold qE at e;split at e
 .split at e
  .rename_i ns hns;split at e
   .rename_i hc;cases e;cases mC hns;obtain⟨d,rfl,h1⟩:=vM hv;obtain⟨es,h2,h3⟩:=h1.seq rfl;cases sC.mp h3;refine .inr ⟨d,ns,rfl,?_,h2,hc,λ l hl=>hq _ _ (.new hl _) (tF hz hl (sC.mpr rfl))⟩;obtain⟨_,q | ⟨a,q,_⟩,_⟩:=h1.lst <;> subst q <;> exact λ _=>nofun
   .cases e
  .exact .inl (Pw S Z _ z ds Q hz hv e hq)
 .cases e
theorem mK.mo:ug mK:=λ ds S Q Q' hq h=>by
 rcases h with h | ⟨d,ns,h1,h2,h3,h4,h5⟩
 .exact .inl (uX.mo ds S Q Q' hq h)
 .exact .inr ⟨d,ns,h1,h2,h3,h4,λ l hl=>hq _ _ (h5 l hl)⟩
def Ob {w:World}{xs:List V}{H:Hp}{S:SS}{Q:VK}{d:D}{ns:List Int}(h0:zo K H [d] xs) (h2:zO K H S) (hn:∀ ts,d≠.tup ts) (e:zM d S=some (ns.map D.int)) (h64:ns.length<64) (h:∀ l,S l=none->wX K H Q (.ref l) (ups S l (.lst ((wY ns).map D.int)))):
  ∃ p,∃ ns':List Int,xs=[.ref p]/\zV K H p (ns'.map V.int)/\ns'.length<64/\
   ∀ (l:Addr) (us:List Value) (ms:List Int),H l=none->IntsAre us ms->ms.Nodup->(∀ n,n∈ms↔n∈ns')->
    ∃ l' us',∃ ms':List Int,[V.ref l]=[.ref l']/\(upd H l (.ext (ST.yX w l us))) l'=some (.ext (ST.yX w l' us'))/\IntsAre us' ms'/\ms'.length<64/\
     ∀ (p:Addr) (ns:List Int),(upd H l (.ext (ST.yX w l us))) p=none->ns.Perm ms'->ns.Pairwise (·<=·)->Q (.ref p) (upd (upd H l (.ext (ST.yX w l us))) p (.lst (ns.map V.int))):=by
 obtain⟨x,hx,h1⟩:=h0.one;subst hx;obtain⟨a,ys,rfl,g1,g2⟩:=rJ h1 h2 e hn;rw[g2.ints] at g1;refine⟨a,ns,rfl,g1,h64,λ l us ms hf hi nd hmem=>⟨l,us,ms,rfl,yS,hi,?_,λ p ns2 hp pm srt=>?_⟩⟩
 .have:=ST.fu ms ns nd λ x hx=>(hmem x).mp hx;omega
 .have x1:Ext H (upd H l (.ext (ST.yX w l us))):=.new hf _;have hpl:p≠l:=λ z=>by subst z;rw[yS] at hp;cases hp
  have hpH:H p=none:=by rw[yU hpl] at hp;exact hp
  have x2:Ext (upd H l (.ext (ST.yX w l us))) (upd (upd H l (.ext (ST.yX w l us))) p (.lst (ns2.map V.int))):=.new hp _;have heq:ns2=wY ns:=W2 (pm.nodup_iff.mpr nd) srt (bq ns) λ k=>by rw[pm.mem_iff,hmem,ja]
  refine h p (h2.none hpH) _ _ (by simp only[zi]) (x1.trans x2) ((h2.new hf).ups x2 ⟨_,yS,?_⟩);rw[<- heq];exact zo.fk ns2
def aL {k:Nat}(hr:yC k X.A) (hm:X.mg "sorted"=none) (hm2:X.mg "set"=none) (ha:wa X [e] tA) (hc:X.calm=true:=by rfl) (hg:Gl X "sorted":=by rfl) (hg2:Gl X "set":=by rfl)
  (he2:starEach [e] X.env=(false,eval e X.env)::starEach [] X.env:=by rfl)
  (he:starEach [.Call (.Name "set" p2) [e] [] pos2] X.env=(false,eval (.Call (.Name "set" p2) [e] [] pos2) X.env)::starEach [] X.env:=by rfl) (hpl:(backTo pos (starEach [] X.env)).any (·.1)=false:=by rfl) (hpl2:(backTo pos2 (starEach [] X.env)).any (·.1)=false:=by rfl):
  PD X (.Call (.Name "sorted" p) [.Call (.Name "set" p2) [e] [] pos2] [] pos) (xY mK tA):=by
 have h:=rO (p:=p) (yT.or (ST.Nl hc) (ST.Nk hc)) hg hm boot_sorted (qN (oq (yT.or (ST.Nn hc hr.units) (ST.Np hc)) hg2 hm2 PyProof.Rows.boot_set ha.pa (by decide) (by decide) he2 hpl2) o5 he) (by decide) (by decide) he hpl;refine⟨xY.mo mK.mo ha.mo,PE.imp h fun B H Q hu=>?_⟩;obtain⟨Y,S,r1,r2,z⟩:=hu;refine wL.go ha.mo r1 r2 z λ ds S1 xs H1 h1 q1 e1 p1=>?_;rcases h1 with h1 | ⟨d,ns,rfl,c1,c2,c3,h1⟩
 .obtain⟨p,ys,rows,a1,a2,a3,a4,a5⟩:=uX.fits (w:=X.w) xs ds H1 S1 Q q1 p1 (uX.mo ds S1 _ _ (λ d S' z=>z.ext e1) h1);exact .inl ⟨p,ys,rows,a1,a2,a3,a4,λ l us vs rs b1 b2 b3=>.inl (a5 l us vs rs b1 b2 b3)⟩
 .obtain⟨p,ns',a1,a2,a3,a4⟩:=Ob (w:=X.w) q1 p1 c1 c2 c3 (λ l hl=>(h1 l hl).ext e1);exact .inr ⟨p,ns',a1,a2,a3,λ l us ms b1 b2 b3 b4=>.inr (a4 l us ms b1 b2 b3 b4)⟩
end
end L5
namespace HT
open PySem PyProof.Rows
section
variable {prog:Program}{w:World}{A:Around}{E:Value->Shared->Prop}{s:Shared}
end
end HT
namespace L2
open PySem PySem.Spec PyProof.Rows
section
variable {X:Cx}{e st:Expr}{te:TE}{pos p2:Pos}
end
end L2
namespace L5
open PySem PySem.Spec L2 L3
open PyProof.Rows hiding St
section
variable {X:Cx}{K:zFr}{e st:Expr}{te:zu}{pos p2 p3 p4:Pos}
def OH (te:zu):zu:=fun Y S Q=>te Y S λ x S1=>match x with
 | .tup ds=>Q (.tup ds.reverse) S1
 | _=>False
@[simp] noncomputable def VT (f:Ev->Option T):Ev->Option T:=fun J=>(f J).bind λ x=>match x with
 | .tup ts=>some (.tup ts.reverse)
 | _=>none
theorem zh.rev {S:SS}:∀ {ts:List T}{ds:List D},zh S ts ds->zh S ts.reverse ds.reverse
 | [],ds,h=>by simp only[zh] at h;subst h;exact .nil
 | t::ts,ds,h=>by
  simp only[zh] at h;obtain⟨c,cs,rfl,h1,h2⟩:=h;rw[List.reverse_cons,List.reverse_cons];exact (zh.rev h2).append (zh.cons h1 zh.nil)
def Rr {f:Ev->Option T}(h:yf f te):xi (VT f) (OH te):=λ S Z Y J y Q hE e hq=>by
 obtain⟨x,e1,e2⟩:=zOb e;refine h S Z Y J x _ hE e1 λ d S1 s1 r1=>?_;split at e2
 .cases e2;obtain⟨ds,rfl,h2⟩:=Vw.tup r1;exact hq _ S1 s1 (Cl.of (λ _=>nofun) (rH (zh.rev h2)))
 .cases e2
noncomputable def Zn:Sm:=λ _=>none
def YN:yz:=λ _ _ _=>False
def Tw {st:Stmt}:uf X st YN:=⟨λ _ _ _ _ _ h=>h.elim,λ _ _ _ _ _ _ ⟨_,_,_,_,h⟩=>h.elim⟩
def SG {R:Rk}:yk R Zn YN:=λ S0 Z0 S Z Y J o E F e P=>by cases e
end
end L5
namespace L5
open PySem L2 L3
def f_:Good2 zJ r_ ju:=qd (λ _ _ _=>wc) λ _ _ _=>nofun
def ea:Good2 zJ uU mL:=qd (λ _ _ _=>wc) λ _ _ _=>nofun
def eh:Good2 zJ uV mM:=qd (λ _ _ _=>wc) λ _ _ _=>nofun
end L5
namespace L5
open PySem PySem.Spec L2 L3
open PyProof.Rows hiding St
section
variable {X:Cx}{e:Expr}{te:zu}{pos p q:Pos}
def aU (T:Bt X.mg) (he:PD X e te) (hg:Gl X "isinstance":=by rfl) (hg2:Gl X "list":=by rfl) (h1:starEach (e::[.Name "list" q]) X.env=(false,eval e X.env)::starEach [.Name "list" q] X.env:=by rfl) (h2:(backTo pos (starEach [.Name "list" q] X.env)).any (·.1)=false:=by rfl) (h3:starEach [.Name "list" q] X.env=(false,eval (.Name "list" q) X.env)::starEach [] X.env:=by rfl):
  PD X (.Call (.Name "isinstance" p) [e,.Name "list" q] [] pos) (oU "list" te):=kN (by simp) T.isinstance T.list PyProof.Rows.boot_list hg2 (by decide) (by decide) he hg h1 h2 h3
end
end L5
namespace L3
open PySem PyProof.Rows L2
section
variable {X:Cx}{pos:Pos}
noncomputable def wE (E:rq) (W:Nat->yn->SS->Prop) (m:Nat):rq:={ E with nx:=fun Y' S'=>∃ m',m'<m/\W m' Y' S',ct:=fun Y' S'=>∃ m',m'<m/\W m' Y' S',bk:=E.nx }
def mW (c:yN) (tb:yz):yz:=λ E Y S=>∃ W:Nat->yn->SS->Prop,(∃ m,W m Y S)/\∀ m Y S,W m Y S->
 c Y S λ b S1=>if b=true then tb (wE E W m) Y S1 else E.nx Y S1
def mW.mo {c:yN}{tb:yz}(hc:vg c) (hb:sg tb):sg (mW c tb):=λ E E' Y S hE ⟨W,w0,ws⟩=>
 ⟨W,w0,λ m Y S hw=>hc Y S _ _ (λ b S1 z=>wU (λ z=>hb (wE E W m) (wE E' W m) Y S1 ⟨λ _ _ q=>q,hE.rt,hE.nx,λ _ _ q=>q⟩ z) (λ z=>hE.nx _ _ z) z) (ws m Y S hw)⟩
def gK {c:Expr}{body:List Stmt}{tc:yN}{tb:yz}(hp:PassesOwn (model X.prog X.w) X.A X.env X.xe) (hc:xP X c tc) (hb:ue X body tb):uf X (.While c body [] pos) (mW tc tb):=by
 refine⟨mW.mo hc.mo hb.mo,PS.imp (Ut hp hc.pt hb.ps) λ D B H hu=>?_⟩;obtain⟨Y,S,r1,r2,W,⟨m0,w0⟩,ws⟩:=hu;refine⟨λ m B' H'=>Ext H H'/\∃ Y S,yY X.K H' Y B'/\zO X.K H' S/\W m Y S,⟨m0,.refl _,Y,S,r1,r2,w0⟩,?_⟩;rintro m B2 H2 ⟨x2,Y2,S2,q1,q2,w2⟩;refine wK.go hc.mo q1 q2 (ws m Y2 S2 w2) λ k S3 H3 h3 e3 p3=>wU (λ z=>?_) (λ z=>?_) h3
 .refine⟨fun B' H'=>Ext H H'/\∃ Y S m',m'<m/\yY X.K H' Y B'/\zO X.K H' S/\W m' Y S,fun B' H' ⟨a,Y',S',m',b,c,d,e⟩=>⟨m',b,a,Y',S',c,d,e⟩,Y2,S3,q1.ext e3,p3,?_⟩;exact hb.mo (wE (tW X.K H D) W m) _ Y2 S3 ⟨fun Y5 S5 ⟨m',b,w5⟩ B5 H5 b1 b2 b3=>⟨(x2.trans e3).trans b2,Y5,S5,m',b,b1,b3,w5⟩,λ _ _ q=>wX.ext (x2.trans e3) q,λ _ _ q=>vE.ext (x2.trans e3) q,fun Y5 S5 ⟨m',b,w5⟩ B5 H5 b1 b2 b3=>⟨(x2.trans e3).trans b2,Y5,S5,m',b,b1,b3,w5⟩⟩ z
 .exact z B2 H3 (q1.ext e3) (x2.trans e3) p3
end
end L3
namespace L5
open PySem PyProof.Rows L2 L3
noncomputable def xK (is:List Nat) (c:Ev->Option Bool) (b:Sm):Nat->Ev->Option Out
 | 0,_=>none
 | n+1,J=>(c (yM is J)).bind λ k=>if k=true then (b (yM is J)).bind λ o=>match o with
   | .nx J2=>xK is c b n J2
   | .ct J2=>xK is c b n J2
   | .bk J2=>some (.nx (yM is J2))
   | .rt t=>some (.rt t)
  else some (.nx (yM is J))
noncomputable def qA (n:Nat) (is:List Nat) (c:Ev->Option Bool) (b:Sm):Sm:=xK is c b n
def SD {R:Rk} [Lo R] {n:Nat}{is:List Nat}{c:Ev->Option Bool}{tc:yN}{b:Sm}{tb:yz}(hc:ve c tc) (hb:yk R b tb):yk R (qA n is c b) (mW tc tb):=λ S0 Z0 S Z Y J o E F e P=>by
 obtain⟨SB,b1,FB,b2⟩:=F.rebase;have lo:∀ S' d y,R SB S' Z0 y d->R S0 S' Z0 y d:=λ S' d y r=>Lo.lo b1 (λ _ z=>z) r;refine⟨λ m Y' S'=>∃ Z' J',FR SB Z0 S' Z' Y' J'/\xK is c b m J'=some o,⟨n,Z,J,FB,e⟩,λ m Y' S' ⟨Z',J',F',e'⟩=>?_⟩;cases m with
 | zero=>cases e'
 | succ m=>
  unfold xK at e';obtain⟨k,c1,e'⟩:=zOb e';have G:=F'.yM is;refine hc S' Z' Y' _ k _ G.er c1 λ S3 s3=>?_;cases k with
  | true=>
   rw[if_pos rfl] at e' ⊢;obtain⟨o1,g2,e'⟩:=zOb e';refine hb SB Z0 S3 Z' Y' _ o1 _ (G.grow s3) g2 ?_;cases o1 with
   | nx J2=>exact λ S3 Z3 Y3 F3=>⟨m,zE2 m,Z3,J2,F3,e'⟩
   | ct J2=>exact λ S3 Z3 Y3 F3=>⟨m,zE2 m,Z3,J2,F3,e'⟩
   | bk J2=>cases e';exact λ S3 Z3 Y3 F3=>P S3 Z3 Y3 ((F3.yM is).back b1 F.z0)
   | rt y=>cases e';exact λ d S3 s3 r3=>P d S3 (b1.trans s3) (lo _ _ _ r3)
  | false=>
   rw[if_neg (by decide)] at e' ⊢;cases e';exact P S3 Z' Y' ((G.grow s3).back b1 F.z0)
end L5
namespace ZP
open PySem PyProof.Rows
set_option maxRecDepth 100000
def Qw (k:Bool) (l:Addr) (xs:Array Value):Meets (Builtin.«enumerate.__new__» ⟨[.type "enumerate",.ref l],[]⟩) (λ _ R s=>SQ s.heap k l xs/\
   R (.ok (.ret (.ref (s.heap.push (m7 k l)).objs.size))) { s with heap:=(s.heap.push (m7 k l)).push { cls:=.type "enumerate",data:=.fields #[.none,.bool false,.ref s.heap.objs.size,rawInt 0,.none,.none] } }):=
 .of_wp λ prog w A R s h=>by
  obtain⟨hp,g,d,tk,os⟩:=s;obtain⟨q,h⟩:=h;have hsub:=sub_enumerate;have hL:SQ (Shared.heap ⟨hp,g,d,tk,os⟩) k l xs:=q;obtain⟨⟨c,ye,dt,sl⟩,hl,hc⟩:=q.cls;replace hc:c=.type (cond k "tuple" "list"):=hc;subst hc
  wp_walk using AutoSeq1.wpAny_loadPart' hl
  refine wpAny_stack_any λ st=>zD1 ?_;split
  .rename_i c _ _ _ _ _;cases (c == Value.type "enumerate")
   .wp_walk using AutoSeq1.wpAny_loadPart' hl,made hL
    exact⟨_,rfl,h⟩
   .wp_walk using AutoSeq1.wpAny_loadPart' hl,made hL
    exact⟨_,rfl,h⟩
  .wp_walk using AutoSeq1.wpAny_loadPart' hl,made hL
   exact⟨_,rfl,h⟩
section
variable {prog:Program}{w:World}{A:Around}{E:Value->Shared->Prop}{s:Shared}
def Ot {k:Bool}{l:Addr}{xs:Array Value}{Q:Value->Shared->Prop}(hL:SQ s.heap k l xs)
  (h:∀ h',IsEnum h' (s.heap.objs.size+1) s.heap.objs.size 0 .none->SI h' k s.heap.objs.size l 0->(∀ b o,s.heap.get? b=some o->h'.get? b=some o)->Q (.ref (s.heap.objs.size+1)) { s with heap:=h' }):
  wpAny (model prog w) A (call (.type "enumerate") [.ref l]) Q E s:=by
 refine callType_new F.called_enumerate (by decide) (F.typeCall_enumerate_1 _) (F.newCall_enumerate_1 _) (λ obj=>F.args_object_init_2 obj _) F.entry_enumerate_new (Qw k l xs) ⟨hL,?_⟩;have hz:(s.heap.push (m7 k l)).objs.size=s.heap.objs.size+1:=Heap.size_push ..;show _/\_;rw[hz];have he:IsEnum ((s.heap.push (m7 k l)).push { cls:=.type "enumerate",data:=.fields #[.none,.bool false,.ref s.heap.objs.size,rawInt 0,.none,.none] }) (s.heap.objs.size+1) s.heap.objs.size 0 .none:=by
  have:=zA9 (s.heap.push (m7 k l)) (o:={ cls:=.type "enumerate",data:=.fields #[.none,.bool false,.ref s.heap.objs.size,rawInt 0,.none,.none] }) rfl;rw[hz] at this;exact this
 exact⟨⟨_,he,rfl⟩,h _ he ⟨_,zHp _ (zA9 _ rfl),rfl,rfl⟩ λ b o x=>zHp _ (zHp _ x)⟩
def O1 (hh:A.handled=none) (k:Bool) (it l:Addr) (hne:l≠it) (xs:Array Value):Draws prog w A it [it,l] xs.size (λ i v=>xs[i]?=some v) (λ i h=>SI h k it l i/\SQ h k l xs) where
 live:=λ _ _ st=>let ⟨o,ho,_⟩:=st.1;⟨o,ho⟩
 frame:=λ _ _ _ st hk=>⟨st.1.on λ o e=>hk it (by simp) o e,st.2.on λ o e=>hk l (by simp) o e⟩
 item:=λ i s Q E hi st hQ=>draw st.1 st.2 (x:=xs[i]) (by simp[hi]) λ h' hit' hs'=>hQ _ h' s.toks (by simp[hi]) ⟨hit',st.2.on λ o e=>(hs'.2 l hne).trans e⟩ hs'
 done:=λ s Q E st hE=>YB hh st.1 st.2 (by simp) hE
end
end ZP
namespace L2
open PySem PySem.Spec PyProof.Rows ZP
section
variable {X:Cx}{pins:List (Addr×Obj)}{B:St}{H:Hp}{s:Shared}
def XC (K:zFr) (k:Bool) (a:Addr):It:=
 ⟨λ i H=>∃ xs x,sd K H k a xs/\xs[i]?=some x,
   λ i H v H'=>∃ p x,v=.ref p/\H p=none/\H'=upd H p (.tup [.int i,x])/\∀ xs,sd K H k a xs->xs[i]?=some x,
   λ i H=>∃ xs,sd K H k a xs/\xs.length<=i⟩
def WD {P:Program}{w:World}{K:zFr}{es:List Expr}{kk} {pos:Pos}{k:Bool}{e it a:Addr}(hei:e≠it) (hea:e≠a) (hai:a≠it):
  Turn P w K (.Tuple es kk pos) (XC K k a) [e,it] e (λ i h=>(∃ old,IsEnum h e it i old)/\SI h k it a i) where
 mem:=by simp
 obj:=λ i h st b hb=>by
  obtain⟨⟨old,q1⟩,o1,q2,_,d1⟩:=st;simp only[zA5,List.not_mem_nil,or_false] at hb;rcases hb with e | e <;> subst e
  .exact⟨_,q1,λ v z=>by cases z⟩
  .exact⟨_,q2,λ v z=>by rw[d1] at z;cases z⟩
 keep:=λ i h h' st k=>⟨let ⟨old,q⟩:=st.1;⟨old,k e (by simp) _ q⟩,st.2.on λ o q=>k it (by simp) o q⟩
 item:=by
  intro X hP hw hK hc i pins s B H E I hf st hg;subst hP hw hK;obtain⟨xs,x,g1,hx⟩:=hg;obtain⟨its,rv,q1⟩:=g1.of I;obtain⟨u1,e1,r1⟩:=rv.get hx;obtain⟨⟨old,he⟩,si⟩:=st;have hlt:i<its.toArray.size:=by have:=(zA2.mp e1).1;simpa using this
  have D:=O1 (prog:=X.prog) (w:=X.w) (A:=X.A.in1) (show X.A.in1.handled=none from I.ok.hd hc) k it a hai its.toArray;refine wpAny_pyNext_enum_itemD D he ⟨si,q1⟩ hlt hei (by simp[hei,hea]) λ u h' tk hP ho hs' hT hsz hk=>⟨_,rfl,?_⟩;have hu:u=u1:=by simp only[List.getElem?_toArray,e1] at hP;exact (zD5 hP).symm
  subst hu;have nT:s.heap.objs.size∉[e,it]:=λ hb=>by
   simp only[zA5,List.not_mem_nil,or_false] at hb;obtain⟨oi,qi,_⟩:=si;rcases hb with z | z
   .exact absurd (zA8 he) (by rw[<- z];exact zE1 _)
   .exact absurd (zA8 qi) (by rw[<- z];exact zE1 _)
  have ne:s.heap.objs.size≠e:=λ z=>nT (by simp[z]);refine wpAny_letOwnedTupleGo_enum ho λ h2 he2 sb=>?_;have fr:H s.heap.objs.size=none:=I.zD.fresh (zA4 _);have I1:Inv X pins B (upd H s.heap.objs.size (.tup [.int i,x])) { s with heap:=s.heap.push { cls:=.type "tuple",data:=.seq [.int i tk,u].toArray },toks:=s.toks }:=
   I.laid (o:=.tup [.int i,x]) (λ b u q=>zHp _ q) (zA4 _) ⟨by show 2<=sizeLine;decide,[.int i tk,u],.cons ⟨tk,rfl⟩ (.cons r1 .nil),IsTup.new _ _⟩
  have hf':∀ b∈[e,it],upd H s.heap.objs.size (.tup [.int i,x]) b=none:=λ b hb=>by
   rw[yU (λ z=>nT (by rw[<- z];exact hb))];exact (hf b hb).1
  have kk:∀ b o,b∉[e,it]->(s.heap.push { cls:=.type "tuple",data:=.seq [.int i tk,u].toArray }).get? b=some o->h2.get? b=some o:=λ b o hb q=>by
   have hbe:b≠e:=λ z=>hb (by simp[z]);have hbi:b≠it:=λ z=>hb (by simp[z]);by_cases hbs:b=s.heap.objs.size
   .subst hbs;rw[zA9 _ rfl] at q;cases q;exact sb.extBut _ _ hbe hT
   .have q':s.heap.get? b=some o:=by rw[Heap.get?_push_ne _ _ _ hbs] at q;exact q
    exact sb.extBut _ _ hbe (hk b o hbe hbi q')
  have I2:=Inv.bz (h':=h2) (t':=tk+1) (fp:=[e,it]) I1 kk λ b hb=>⟨hf' b hb,(hf b hb).2⟩;refine⟨.ref s.heap.objs.size,_,I2,rfl,⟨_,x,rfl,fr,rfl,λ zs hz=>by rw[hz.inj I g1];exact hx⟩,⟨⟨_,by simpa using he2⟩,hs'.1.on λ o q=>(sb.2 it (Ne.symm hei)).trans q⟩,hf'⟩
 done:=by
  intro X hP hw hK hc i pins s B H E I hf st hg;subst hP hw hK;obtain⟨xs,g1,hx⟩:=hg;obtain⟨its,rv,q1⟩:=g1.of I;have l1:=rv.length;obtain⟨⟨old,he⟩,si⟩:=st;have hT:s.TypeIs (.ref e) "enumerate":=⟨_,he,rfl⟩
  unfold pyNext;refine zWb (wpAny_attempt (wpAny_callSpecial?_slot (name:=Str.ofString "__next__") hT F.slot_enumerate_next
   (wpAny_call_entry F.slot_enumerate_next hT F.entry_enumerate_next ?_ (F.args_enumerate_next_1 _))))
  show wpAny _ _ (field (.ref e) 2 >>= _) _ _ _;refine zWb (wpAny_field he rfl (x:=.ref it) rfl ?_);refine zWb (YB (show X.A.in1.handled=none from I.ok.hd hc) si q1 (by simp;omega) λ h' x he' hx'=>?_);obtain⟨o,ho,hc⟩:=hx';refine zWb (wpAny_isInstance (T:="StopIteration") (b:=true) ⟨o,ho,hc⟩ isSubtype_stop ?_);exact zD1 ⟨rfl,I.bz (t':=s.toks) (fp:=[e,it]) (λ b o hb q=>he' b o (λ z=>hb (by simp[z])) q) hf⟩
 self:=λ _ _ _ _ _ st h=>let ⟨_,q⟩:=st.1;wpAny_pyIter_enum q h
def Pj (K:zFr) (ta:TA):TI:=fun B H R=>ta B H λ vs H1=>∃ a k,vs=[.ref a]/\(∃ xs,sd K H1 k a xs)/\R (XC K k a) H1
def UH {a:Expr}{ta:TA}{p pos pos':Pos}{es:List Expr}{kk} (hg:Gl X "enumerate") (hm:X.mg "enumerate"=none) (ha:PA X [a] ta) (hs:starEach [a] X.env=[(false,eval a X.env)]:=by rfl):
  PI X (.Tuple es kk pos') (.Call (.Name "enumerate" p) [a] [] pos) (Pj X.K ta):=by
 intro pins s B H R I h;refine Call_ (oH I hg hm boot_enumerate (PyProof.Rows.callWith_type1 (zH (ha pos pins s B H _ I h) λ us s1 ⟨vs,H1,I1,r1,q1⟩=>?_) (by rw[hs];rfl) rfl));obtain⟨a1,k,rfl,⟨xs,g1⟩,q⟩:=q1;cases r1 with
 | cons r rr=>
  cases rr;cases r;obtain⟨it1,_,q1⟩:=g1.of I1;have la:=q1.lt;refine ZP.Ot q1 λ h' E S up=>wpAny_pyIter_enum E ?_;have nw:∀ b∈[s1.heap.objs.size+1,s1.heap.objs.size],s1.heap.objs.size<=b:=λ b hb=>by
   simp only[zA5,List.not_mem_nil,or_false] at hb;rcases hb with z | z <;> rw[z]
   .exact Nat.le_succ _
   .exact zA4 _
  exact⟨_,[s1.heap.objs.size+1,s1.heap.objs.size],_,_,H1,rfl,I1.kept (t':=s1.toks) up,WD (Nat.succ_ne_self _) (Nat.ne_of_gt (Nat.lt_succ_of_lt la)) (zB3 la),⟨⟨_,E⟩,S⟩,λ b hb=>I1.e7 (nw b hb) (I1.zD.fresh (nw b hb)),q⟩
end
end L2
namespace L5
open PySem PySem.Spec L2 L3
open PyProof.Rows hiding St
noncomputable def tV (k:Nat):List D->List D
 | []=>[]
 | d::ds=>.tup [.int k,d]::tV (k+1) ds
noncomputable def qj (k:Nat):List T->List T
 | []=>[]
 | d::ds=>.tup [.int k,d]::qj (k+1) ds
theorem Y8:∀ (ds:List D) (k i:Nat),(tV k ds)[i]?=(ds[i]?).map λ d=>D.tup [.int ((k+i:Nat):Int),d]
 | [],k,i=>by simp[tV]
 | d::ds,k,0=>by simp[tV]
 | d::ds,k,i+1=>by
  unfold tV;rw[List.getElem?_cons_succ,List.getElem?_cons_succ,Y8 ds (k+1) i,show k+1+i=k+(i+1) from by omega]
theorem Y7:∀ (ds:List D) (k:Nat),(tV k ds).length=ds.length
 | [],k=>rfl
 | d::ds,k=>by unfold tV;rw[zC0,Y7 ds];rfl
theorem i7 {S:SS}:∀ {ts:List T}{ds:List D}(k:Nat),zh S ts ds->zh S (qj k ts) (tV k ds)
 | [],ds,k,h=>by simp only[zh] at h;subst h;exact zh.nil
 | t::ts,ds,k,h=>by
  simp only[zh] at h;obtain⟨c,cs,rfl,h1,h2⟩:=h;exact zh.cons (rH (zh.cons (by simp only[Sn]) (zh.cons h1 zh.nil))) (i7 (k+1) h2)
section
variable {X:Cx}{K:zFr}{a:Expr}{tA:yv}{pos p pos':Pos}{es:List Expr}{kk:Nat}
def fQ (t:yv):wH:=fun Y S R=>t Y S λ ds S1=>∃ d xs,ds=[d]/\zM d S1=some xs/\R ⟨tV 0 xs,λ S=>zM d S=some xs⟩ S1
def aK (hm:X.mg "enumerate"=none) (ha:wa X [a] tA) (hg:Gl X "enumerate":=by rfl) (hs:starEach [a] X.env=[(false,eval a X.env)]:=by rfl):
  sZ X (.Tuple es kk pos') (.Call (.Name "enumerate" p) [a] [] pos) (fQ tA):=by
 refine⟨fun Y S Q Q' hq z=>ha.mo Y S _ _ (λ ds S1 ⟨d,xs,h1,h2,h4⟩=>⟨d,xs,h1,h2,hq _ _ h4⟩) z,PI.imp (UH hg hm ha.pa hs) fun B H R hu=>?_⟩;obtain⟨Y,S,r1,r2,z⟩:=hu;refine wL.go ha.mo r1 r2 z λ ds S1 vs H1 h1 q1 e1 p1=>?_;obtain⟨d,xs,rfl,s1,h⟩:=h1;obtain⟨v,rfl,d1⟩:=q1.one;obtain⟨a1,us,rfl,g1,g2⟩:=zM.k d1 p1 s1;refine⟨a1,fM d,rfl,⟨us,g1⟩,h _ H1 e1 p1 λ i H2 S2 x1 x2 hk=>?_⟩;obtain⟨b1,us2,q1,m1,m2⟩:=zM.k (zi.ext x1 d d1) x2 hk;cases q1;have l1:=m2.length;refine⟨λ dd hd=>?_,λ hl=>⟨us2,m1,?_⟩⟩
 .rw[Y8,Nat.zero_add] at hd;obtain⟨dx,hx,rfl⟩:=zOm hd;obtain⟨x,hx',rx⟩:=m2.get hx;refine⟨⟨us2,x,m1,hx'⟩,λ v H' q=>?_⟩;obtain⟨pp,x',rfl,hp,rfl,f1⟩:=q;have ex:x'=x:=by have:=f1 _ m1;rw[hx'] at this;exact (zD5 this).symm
  subst ex;refine⟨.new hp _,x2.new hp,?_⟩;simp only[zi];exact⟨pp,_,rfl,ya.of yS,zo.ext (.new hp _) _ (.cons (by simp only[zi]) (.cons rx .nil))⟩
 .have hl':(tV 0 xs).length<=i:=hl;rw[Y7] at hl';omega
@[simp] noncomputable def tU:List T->Option (List T)
 | [x]=>(we x).map λ xs=>qj 0 xs
 | _=>none
def Ra {g:Ev->Option (List T)}(h:qy g tA):tu false (wq tU g) (fQ tA):=λ S Z Y J ts Q hE e hq=>by
 obtain⟨ys,e1,e2⟩:=zOb e;refine h S Z Y J ys _ hE e1 λ ds S1 s1 r1=>?_;unfold tU at e2;split at e2
 .obtain⟨xs,e3,rfl⟩:=zOm e2;obtain⟨d,rfl,h1⟩:=vM r1;obtain⟨es,g1,g2⟩:=h1.seq e3;exact⟨d,es,rfl,g1,hq _ S1 s1 (i7 0 g2) λ S'' s=>zM.sx g1 s⟩
 .cases e2
def Rb {g:Ev->Option (List T)}(h:qx g tA):tu true (wq tU g) (fQ tA):=λ S Z Y J ts Q hE e hq=>by
 obtain⟨ys,e1,e2⟩:=zOb e;refine h S Z Y J ys _ hE e1 λ ds S1 s1 r1=>?_;unfold tU at e2;split at e2
 .obtain⟨xs,e3,rfl⟩:=zOm e2;simp only[zh] at r1;obtain⟨d,_,rfl,h1,rfl⟩:=r1;obtain⟨es,g1,g2⟩:=zM.zF h1 e3;exact⟨d,es,rfl,zM.sx g1 (tM S1 Z),hq _ S1 s1 (i7 0 g2) λ S'' s=>zM.sx g1 s⟩
 .cases e2
end
end L5
namespace TM
open PySem PyProof.Rows
set_option maxRecDepth 100000
def OA (i:Int) (t:Tok) (l:Addr) (items:Array Value) (n:Nat) (dd:Option Addr) (sl:Array (Option Value)):
  Meets (Builtin.«int.__rmul__» ⟨[.int i t,.ref l],[]⟩) (λ _ R s=>s.heap.get? l=some { cls:=.type "list",dict:=dd,data:=.seq items n,slots:=sl }/\R (.ok (.ret Value.notImplemented)) s):=
 .of_wp λ prog w A R s h=>by
  obtain⟨hp,g,d,tk,os⟩:=s;obtain⟨hl,h⟩:=h
  wp_walk
  exact⟨_,rfl,h⟩
def mulL (l:Addr) (items:Array Value) (n:Nat) (x:Int) (u:Tok) (dd:Option Addr) (sl:Array (Option Value)) (hc0:¬(!Builtin.List.listFitsIndex x)=true) (hc1:¬items.size*x.toNat>(2 ^ 63-1)/8) (hc2:¬Builtin.List.listTooLong (items.size*x.toNat)=true):
  Meets (Builtin.«list.__mul__» ⟨[.ref l,.int x u],[]⟩) (λ _ R s=>s.heap.get? l=some { cls:=.type "list",dict:=dd,data:=.seq items n,slots:=sl }/\R (.ok (.ret (Value.ref s.heap.objs.size))) { s with heap:=s.heap.push { cls:=.type "list",data:=.seq (List.foldl (λ x1 x2=>x1++x2) #[] (List.replicate (if items.isEmpty=true then 0 else x.toNat) items)) } }):=
 .of_wp λ prog w A R s h=>by
  obtain⟨hp,g,d,tk,os⟩:=s;obtain⟨hl,h⟩:=h;have hsz:=AutoListH.joined_fits hc2
  wp_walk;refine wpAny_ite_false (decide_eq_false (Nat.not_lt.mpr hsz)) ?_;wp_walk;exact⟨_,rfl,h⟩
section
variable {prog:Program}{w:World}{A:Around}{E:Value->Shared->Prop}{s:Shared}
def WI {l:Addr}{its:List Value}{k:Int}{t:Tok}{Q:Value->Shared->Prop}(ht:PlainL s.heap l its.toArray) (hne:its≠[]) (h0:0<=k) (hz:its.length*k.toNat<=sizeLine)  (hk:k<=1000000)
  (more:Q (.ref s.heap.objs.size) { s with heap:=s.heap.push { cls:=.type "list",data:=.seq (List.replicate k.toNat its).flatten.toArray } }):
  wpAny (model prog w) A (binaryOp .Mult (.ref l) (.int k t)) Q E s:=by
 obtain⟨⟨cls,dd,data,sl⟩,n,ho,hc,he,hd⟩:=id ht;simp only at hc hd he;subst hc hd he;have hl:sizeLine=16777216:=rfl;have hem:its.toArray.isEmpty=false:=by cases its with
  | nil=>exact absurd rfl hne
  | cons a r=>rfl
 have hf:List.foldl (λ x1 x2=>x1++x2) #[] (List.replicate (if its.toArray.isEmpty=true then 0 else k.toNat) its.toArray)=(List.replicate k.toNat its).flatten.toArray:=by
  rw[hem,if_neg (by decide)];have:=e9 its k.toNat #[];simpa using this
 refine wpAny_binaryOp_repeat_ref (T:="list") (U:="int") (by decide) ⟨_,ho,rfl⟩ (λ s'=>typeIs_int s' k t) noFill_list_mul F.fills_int_mul F.slot_int_rmul repeat_list F.slot_int_index.lookup
  (call_meets F.slot_int_rmul (typeIs_int s k t) F.entry_int_rmul (F.args_int_rmul_2 _ _) (OA k t l its.toArray n none sl)
   ⟨ho,rfl,⟨_,ho,rfl⟩,call_meets F.slot_list_mul ⟨_,ho,rfl⟩ F.entry_list_mul (F.args_list_mul_2 _ _)
    (mulL l its.toArray n k t none sl (by simp[Builtin.List.listFitsIndex];omega) (by simp;omega) (by simp[Builtin.List.listTooLong];omega)) ⟨ho,?_⟩⟩)
 rw[hf];exact more
end
end TM
namespace L2
open PySem PySem.Spec PyProof.Rows
def g8 (K:zFr):R2:=λ x y H Q=>∃ a k xs,x=.ref a/\y=.int k/\zV K H a xs/\xs≠[]/\0<=k/\k<=1000000/\xs.length*k.toNat<=sizeLine/\∀ p,H p=none->Q (.ref p) (upd H p (.lst (List.replicate k.toNat xs).flatten))
def Sg {X:Cx}:yp X (binaryOp .Mult) (g8 X.K):=by
 intro pins s B H x y v u Q I rx ry h;obtain⟨a,k,xs,rfl,rfl,hx,hne,h1,h2,hz,q⟩:=h;cases rx;obtain⟨t,rfl⟩:=ry;obtain⟨its,r,ht,_⟩:=I.list hx;have hl:=r.length;refine TM.WI ht (λ z=>hne (r.mx.mp z)) h1 (by rw[<- hl];exact hz) h2 ?_;have hlen:(List.replicate k.toNat xs).flatten.length<=sizeLine:=by
  have:(List.replicate k.toNat xs).flatten.length=k.toNat*xs.length:=by simp
  rw[this,Nat.mul_comm];exact hz
 exact⟨.ref _,_,I.laid (t':=s.toks) (o:=.lst (List.replicate k.toNat xs).flatten) (λ b ob q=>zHp _ q) (zA4 _) ⟨hlen,_,0,r.rep k.toNat,zA9 _ rfl⟩,rfl,q _ (I.zD.fresh (zA4 _))⟩
end L2
namespace L5
open PySem PySem.Spec L2 L3
open PyProof.Rows hiding St
section
variable {X:Cx}{K:zFr}{a b:Expr}{ta tb:zu}{pos:Pos}
noncomputable def ZQ:D->Bool
 | .tup _=>true
 | _=>false
def jt:yZ:=λ x y S Q=>∃ k ds,y=.int k/\ZQ x=false/\zM x S=some ds/\(ds≠[]/\0<=k/\k<=1000000/\ds.length*k.toNat<=sizeLine)/\∀ p,S p=none->Q (.ref p) (ups S p (.lst (List.replicate k.toNat ds).flatten))
def qg:yZ:=λ x y S Q=>tQ x y S Q\/jt x y S Q
noncomputable def wB:T->T->Option T
 | .lst ts,.int k=>if ts≠[]/\0<=k/\k<=1000000/\ts.length*k.toNat<=sizeLine then some (.lst (List.replicate k.toNat ts).flatten) else none
 | x,y=>f7 x y
theorem qg.mo:xU qg:=λ x y S Q Q' hq h=>by
 rcases h with h | ⟨k,ds,h1,h2,h3,h4,h5⟩
 .exact .inl (tQ.mo x y S Q Q' hq h)
 .exact .inr ⟨k,ds,h1,h2,h3,h4,λ p hp=>hq _ _ (h5 p hp)⟩
def jt.fits:xI K jt (g8 K):=λ x y d e H S Q h1 h2 h3 h=>by
 obtain⟨k,ds,rfl,ht,hs,⟨c1,c2,c3,c4⟩,h⟩:=h;simp only[zi] at h2;obtain⟨a,xs,rfl,g1,g2⟩:=rJ h1 h3 hs λ ts z=>by subst z;cases ht
 have hl:=g2.length;refine⟨a,k,xs,rfl,h2,g1,λ z=>c1 (by subst z;cases ds with | nil=>rfl | cons _ _=>simp at hl),c2,c3,by rw[<- hl];exact c4,λ p hp=>?_⟩;exact h p (h3.none hp) _ _ (by simp only[zi]) (.new hp _) (h3.ups (.new hp _) ⟨_,yS,zo.ext (.new hp _) _ (zo.rep g2 _)⟩)
theorem qg.fits:xI K qg (λ x y H Q=>(rI wI (λ i j=>.int (i*j)) x y H Q\/g7 K x y H Q)\/g8 K x y H Q):=λ x y d e H S Q h1 h2 h3 h=>by
 rcases h with h | h
 .exact .inl (tQ.fits x y d e H S Q h1 h2 h3 h)
 .exact .inr (jt.fits x y d e H S Q h1 h2 h3 h)
def Py:Good2 zJ wB qg:=λ S Z x y z d e Q hz hx hy ef hq=>by
 unfold wB at ef;split at ef
 .rename_i ts k;split at ef
  .rename_i hc;cases ef;obtain⟨ds,g1,g2⟩:=hx.seq (ts:=ts) rfl;cases hy.int;have hl:=g2.len;refine .inr ⟨_,ds,rfl,?_,g1,⟨λ q=>hc.1 (by subst q;simpa using hl.symm),hc.2.1,hc.2.2.1,by rw[hl];exact hc.2.2.2⟩,λ p hp=>hq _ _ (.new hp _) (tF hz hp (zh.rep g2 _))⟩;cases d with
   | tup es=>exact absurd hx (by
     intro q;rcases q with q | ⟨us,p,es',_,q,_⟩
     .simp only[Sn] at q;obtain⟨_,⟨q,_⟩ | ⟨_,q,_⟩,_⟩:=q <;> cases q
     .cases q)
   | _=>rfl
  .cases ef
 .exact .inl (Yg S Z x y z d e Q hz hx hy ef hq)
def o3 (ha:PD X a ta) (hb:PD X b tb):PD X (.BinOp a .Mult b pos) (yg qg ta tb):=oz ((Sh.or Sf).or Sg) qg.fits qg.mo ha hb
end
end L5
namespace L3
open PySem PySem.Spec PyProof.Rows L2
section
variable {X:Cx}{K:zFr}{e o:Expr}{te to:zu}{apos cpos:Pos}
def qm (to te:zu):zu:=fun Y S Q=>to Y S λ x S1=>match x with
 | .ref p=>(∃ ds,S1 p=some (.lst ds))/\te Y S1 λ y S2=>∃ q ds es,y=.ref q/\S2 p=some (.lst ds)/\S2 q=some (.lst es)/\ds.length+es.length<=sizeLine/\Q .zj (ups S2 p (.lst (ds++es)))
 | _=>False
def qm.mo (h:ym to) (h':ym te):ym (qm to te):=fun Y S Q Q' hq z=>h Y S _ _ (λ x S1 z=>by
 cases x with
 | ref p=>exact⟨z.1,h' Y S1 _ _ (λ y S2 ⟨q,ds,es,a,b,c,d,w⟩=>⟨q,ds,es,a,b,c,d,hq _ _ w⟩) z.2⟩
 | _=>exact z) z
def TF {e0:Expr}(hpe:PE X e0 (iy X.K "list" au (zS X.K to) (iw (zS X.K te) ir))) (h:ym to) (h':ym te):PD X e0 (qm to te):=by
 refine⟨qm.mo h h',PE.imp hpe fun B H Q hu=>?_⟩;obtain⟨Y,S,r1,r2,z⟩:=hu;refine zS.go h r1 r2 z λ x S1 v H1 h1 q1 e1 p1=>?_;cases x with
 | ref p=>
  obtain⟨⟨ds,hd⟩,h1⟩:=h1;simp only[zi] at q1;subst q1;obtain⟨xs,g1,g2⟩:=p1 _ _ hd;refine⟨.inl ⟨rfl,xs,zV.of g1⟩,?_⟩;refine zS.go h' (r1.ext e1) p1 h1 λ y S2 w H2 h2 q2 e2 p2=>?_;obtain⟨q,ds',es,rfl,b1,b2,b3,b4⟩:=h2;simp only[zi] at q2;subst q2;obtain⟨xs',g3,g4⟩:=p2 _ _ b1;obtain⟨ys',g5,g6⟩:=p2 _ _ b2;refine⟨p,q,xs',ys',rfl,rfl,g3,g5,by rw[<- g4.length,<- g6.length];exact b3,?_⟩;have e4:Ext H2 (upd H2 p (.lst (xs'++ys'))):=.lst g3 _;exact b4 _ _ (by simp only[zi]) ((e1.trans e2).trans e4) (p2.ups e4 ⟨_,yS,zo.ext e4 _ (g4.append g6)⟩)
 | zj=>exact h1.elim
 | bl _=>exact h1.elim
 | int _=>exact h1.elim
 | str _=>exact h1.elim
 | tup _=>exact h1.elim
 | yO _=>exact h1.elim
def aP (ho:PD X o to) (he:PD X e te)
  (hbase:attributeBase o "extend" X.env (eval o X.env)=eval o X.env:=by rfl)
  (hfew:((backTo cpos (starEach [e] X.env)).all (λ x=>!x.1)&&(backToKw cpos (keywordEach [] X.env)).all (λ x=>x.1.isSome)
   && decide ([e].length+([]:List Keyword).length+(if ([]:List Keyword).isEmpty then 0 else 1)<30))=true:=by rfl)
  (hline:(apos.endLine == cpos.line)=true:=by rfl) (hs:starEach [e] X.env=(false,eval e X.env)::starEach [] X.env:=by rfl) (hplain:(backTo cpos (starEach [] X.env)).any (·.1)=false:=by rfl):
  PD X (.Call (.Attribute o "extend" apos) [e] [] cpos) (qm to te):=
 TF (aF PySem.F.plainAttrs_list PySem.F.slot_list_extend PySem.F.type_list_extend Qt ho.pe (qN he.pe o5 hs) hbase hfew hline hs hplain) ho.mo he.mo
def eO (to:zu):zu:=fun Y S Q=>to Y S λ x S1=>match x with
 | .ref p=>(∃ ds,S1 p=some (.lst ds))/\Q .zj (ups S1 p (.lst []))
 | _=>False
end
end L3
namespace L5
open PySem L2 L3
@[simp] noncomputable def jv (i:Nat) (f:Ev->Option T):Sm:=fun J=>match J[i]? with
 | some (some (.own (.lst ts)))=>(f J).bind λ y=>match y with
  | .lst us=>if ts.length+us.length<=sizeLine then some (.nx (J.set i (some (.own (.lst (ts++us)))))) else none
  | _=>none
 | _=>none
@[simp] noncomputable def Xa (i:Nat):Sm:=fun J=>match J[i]? with
 | some (some (.own (.lst _)))=>some (.nx (J.set i (some (.own (.lst [])))))
 | _=>none
section
variable {R:Rk}{f:Ev->Option T}{te:zu}
def Zf (i:Nat) (hf:xi f te):yk R (jv i f) (pd (qm (yr i) te)):=λ S0 Z0 S Z Y J o E F e P=>by
 unfold jv at e;split at e
 .rename_i ts h;obtain⟨y,e1,e2⟩:=zOb e;split at e2
  .rename_i us;split at e2
   .rename_i hl;cases e2;obtain⟨p,ob,h1,h2,h3,h4⟩:=F.er.ow i _ h;obtain⟨ds,rfl⟩:∃ ds,ob=.lst ds:=by
     cases ob with
     | lst ds=>exact⟨ds,rfl⟩
     | ye _=>exact h3.elim
    replace h3:zh (zF S Z) ts ds:=h3;show qm (yr i) te Y S _;unfold qm yr;rw[h1];refine⟨⟨ds,h2⟩,hf S Z Y J _ _ F.er e1 λ d S1 s1 r1=>?_⟩;obtain⟨q,es,rfl,g1,g2,g3⟩:=r1.2 us rfl;have F1:=F.grow s1;have g4:zh (zF S1 Z) us es:=zh.sx (tN λ a z=>.inl z) us g3;refine⟨q,ds,es,rfl,s1 _ _ h2,g2,by rw[h3.len,g4.len];exact hl,P _ Z Y (F1.mut (us:=.lst (ts++us)) (es:=.lst (ds++es)) i h h1 ((zh.sx (wD s1) ts h3).append g4))⟩
   .cases e2
  .cases e2
 .cases e
def SR (i:Nat):yk R (Xa i) (pd (eO (yr i))):=λ S0 Z0 S Z Y J o E F e P=>by
 unfold Xa at e;split at e
 .rename_i ts h;cases e;obtain⟨p,ob,h1,h2,h3,h4⟩:=F.er.ow i _ h;obtain⟨ds,rfl⟩:∃ ds,ob=.lst ds:=by
   cases ob with
   | lst ds=>exact⟨ds,rfl⟩
   | ye _=>exact h3.elim
  show eO (yr i) Y S _;unfold eO yr;rw[h1];exact⟨⟨ds,h2⟩,P _ Z Y (F.mut (us:=.lst []) (es:=.lst []) i h h1 (show zh (zF S Z) [] [] from zh.nil))⟩
 .cases e
end
end L5
namespace L5
open PySem PySem.Spec L2 L3
open PyProof.Rows hiding St
section
variable {X:Cx}{K:zFr}{e:Expr}{es:List Expr}{tA:yv}{pos p:Pos}
def tR:xT:=λ ds S Q=>match ds with
 | [.int i]=>Q (.int i) S
 | [.bl k]=>Q (.int (if k then 1 else 0)) S
 | _=>False
def tR.mo:ug tR:=λ ds S Q Q' hq h=>by
 unfold tR at h ⊢;split at h
 .exact hq _ _ h
 .exact hq _ _ h
 .exact h.elim
def tR.fits:tw K tR (λ xs H Q=>(∃ i,xs=[.int i]/\Q (.int i) H)\/∃ k,xs=[.bl k]/\Q (.int (if k then 1 else 0)) H):=λ xs ds H S Q h0 h2 h=>by
 unfold tR at h;split at h
 .obtain⟨x,rfl,h1⟩:=h0.one;simp only[zi] at h1;subst h1;exact .inl ⟨_,rfl,h _ H (by simp only[zi]) (.refl H) h2⟩
 .obtain⟨x,rfl,h1⟩:=h0.one;simp only[zi] at h1;subst h1;exact .inr ⟨_,rfl,h _ H (by simp only[zi]) (.refl H) h2⟩
 .exact h.elim
def T9 (hm:X.mg "int"=none) (ha:wa X (e::es) tA) (hg:Gl X "int":=by rfl) (he:starEach (e::es) X.env=(false,eval e X.env)::starEach es X.env:=by rfl) (hpl:(backTo pos (starEach es X.env)).any (·.1)=false:=by rfl):PD X (.Call (.Name "int" p) (e::es) [] pos) (xY tR tA):=
 sF (oq N1 hg hm PyProof.Rows.boot_int ha.pa (by decide) (by decide) he hpl) tR.mo tR.fits ha.mo
@[simp] noncomputable def fU:List T->Option T
 | [.int i]=>some (.int i)
 | [.bl k]=>some (.int (if k then 1 else 0))
 | _=>none
def good_int:uh zJ fU tR:=λ S Z ys z ds Q hz hv e hq=>by
 unfold fU at e;split at e
 .cases e;obtain⟨d,rfl,h1⟩:=vM hv;cases h1.int;exact hq _ S (.refl S) (Cl.of (λ _=>nofun) wN)
 .cases e;obtain⟨d,rfl,h1⟩:=vM hv;cases h1.bl;exact hq _ S (.refl S) (Cl.of (λ _=>nofun) wN)
 .cases e
end
end L5
namespace L2
open PySem PySem.Spec PyProof.Rows
noncomputable def Vm (n:Nat) (k:Int):List Nat:=sliceRange (sliceBounds none none (some k) n).1 (sliceBounds none none (some k) n).2.1 (sliceBounds none none (some k) n).2.2
noncomputable def qD {α:Type}(xs:List α) (k:Int):List α:=(Vm xs.length k).filterMap (xs[·]?)
section
variable {X:Cx}{e st:Expr}{te ts:TE}{pos p2:Pos}
end
end L2
namespace L5
open PySem PySem.Spec L2 L3
open PyProof.Rows hiding St
section
variable {X:Cx}{K:zFr}{e st:Expr}{te ts:zu}{pos p2:Pos}
def OG (te ts:zu):zu:=fun Y S Q=>te Y S λ x S1=>ts Y S1 λ y S2=>∃ ds k,y=.int k/\1<=k/\ZQ x=false/\zM x S2=some ds/\(qD ds k).length<=sizeLine/\∀ p,S2 p=none->Q (.ref p) (ups S2 p (.lst (qD ds k)))
@[simp] noncomputable def bA (f g:Ev->Option T):Ev->Option T:=fun J=>(f J).bind λ x=>(g J).bind λ y=>match x,y with
 | .lst ts,.int k=>if 1<=k/\(qD ts k).length<=sizeLine then some (.lst (qD ts k)) else none
 | _,_=>none
theorem gH {S:SS}{ts:List T}{ds:List D}(r:zh S ts ds):∀ is:List Nat,zh S (is.filterMap (ts[·]?)) (is.filterMap (ds[·]?))
 | []=>.nil
 | i::is=>by
  cases h:ds[i]? with
  | none=>
   have:ts[i]?=none:=by
    have:=r.len;rw[List.getElem?_eq_none_iff] at h ⊢;omega
   simpa [List.filterMap_cons,h,this] using gH r is
  | some x=>
   obtain⟨u,h1,h2⟩:=r.mH h;simp only[List.filterMap_cons,h,h1];exact .cons h2 (gH r is)
end
end L5
namespace L5
section
variable {α:Type}{P:List α->Prop}
def tm (h:∀ a,P [a]) (us:List α) (hl:us.length=1):P us:=match us,hl with | [a],_=>h a
def ua (h:∀ a b,P [a,b]) (us:List α) (hl:us.length=2):P us:=match us,hl with | [a,b],_=>h a b
def sU (h:∀ a b c,P [a,b,c]) (us:List α) (hl:us.length=3):P us:=match us,hl with | [a,b,c],_=>h a b c
def NM (h:∀ a b c d,P [a,b,c,d]) (us:List α) (hl:us.length=4):P us:=match us,hl with | [a,b,c,d],_=>h a b c d
def ar5 (h:∀ a b c d e,P [a,b,c,d,e]) (us:List α) (hl:us.length=5):P us:=match us,hl with | [a,b,c,d,e],_=>h a b c d e
def ar6 (h:∀ a b c d e f,P [a,b,c,d,e,f]) (us:List α) (hl:us.length=6):P us:=match us,hl with | [a,b,c,d,e,f],_=>h a b c d e f
def ar7 (h:∀ a b c d e f g,P [a,b,c,d,e,f,g]) (us:List α) (hl:us.length=7):P us:=match us,hl with | [a,b,c,d,e,f,g],_=>h a b c d e f g
def ar8 (h:∀ a b c d e f g i,P [a,b,c,d,e,f,g,i]) (us:List α) (hl:us.length=8):P us:=match us,hl with | [a,b,c,d,e,f,g,i],_=>h a b c d e f g i
end
end L5
namespace L5
open PySem PySem.Spec L2 L3
open PyProof.Rows hiding St
section
variable {P:Program}{w:World}{K:zFr}{mg:Str->Option Value}{base h:Heap}{x:Str}{st:Stmt}
def Fx (K:zFr) (x:Str) (st:Stmt):Prop:=∃ (f:Addr) (oc:Value) (od:Option Addr) (kV dc pm:Value) (an:Option Addr) (cd ct:Value) (sl:Array (Option Value)),
 PySem.W.nsIn K mainGlobals x=some (some (.ref f))/\K.lookup f=some ⟨oc,od,.func (PySem.W.fnOf x x (sS st) (vt st) (zE st) .none kV dc pm an cd ct),sl⟩/\PySem.W.codeIn K cd x=true/\PySem.W.keepIn K (.ref f)=true
def Fx.i {f:Addr}{oc:Value}{od:Option Addr}{kV dc pm:Value}{an:Option Addr}{cd ct:Value}{sl:Array (Option Value)}(a:PySem.W.nsIn K mainGlobals x=some (some (.ref f))) (l:K.lookup f=some ⟨oc,od,.func (PySem.W.fnOf x x (sS st) (vt st) (zE st) .none kV dc pm an cd ct),sl⟩) (c:PySem.W.codeIn K cd x=true) (k:PySem.W.keepIn K (.ref f)=true):Fx K x st:=⟨f,oc,od,kV,dc,pm,an,cd,ct,sl,a,l,c,k⟩
def Fy (K:zFr) (mg:Str->Option Value) (x:Str) (st:Stmt):Prop:=∃ (f:Addr) (fd:FuncData),uN K x x st f fd/\mg x=some (.ref f)
def Fx.mk (H:Fx K x st) (X:K.In h) (G:h.Ns mainGlobals mg):Fy K mg x st:=by
 obtain⟨f,oc,od,kV,dc,pm,an,cd,ct,sl,a,l,c,k⟩:=H;exact⟨f,_,Yp l c k,PySem.W.mg_of X G a⟩
theorem Fx.law {fa:Addr}{p:Str}(H:Fx K "law" st) (X:K.In h) (G:h.Ns mainGlobals mg) (hfa:mg "law"=some (.ref fa)) (hb:∀ (kV dc pm:Value) (an:Option Addr) (cd ct:Value) (s:Shared) (v:Value),BindsTo s (PySem.W.fnOf "law" "law" (sS st) (vt st) (zE st) .none kV dc pm an cd ct) ⟨[v],[]⟩ [(p,v)]):∃ fd:FuncData,uN K "law" "law" st fa fd/\∀ (s:Shared) (v:Value),BindsTo s fd ⟨[v],[]⟩ [(p,v)]:=by
 obtain⟨f,oc,od,kV,dc,pm,an,cd,ct,sl,a,l,c,k⟩:=H;have e:=hfa.symm.trans (PySem.W.mg_of X G a);cases e;exact⟨_,Yp l c k,hb kV dc pm an cd ct⟩
def Cn (K:zFr) (x:Str) (t:V):Prop:=∃ u,PySem.W.nsIn K mainGlobals x=some (some u)/\L2.RelV t u
def Cn.i {t:V}{u:Value}(a:PySem.W.nsIn K mainGlobals x=some (some u)) (r:L2.RelV t u):Cn K x t:=⟨u,a,r⟩
def Cn.mk {t:V}(H:Cn K x t) (X:K.In h) (G:h.Ns mainGlobals mg):∃ u,mg x=some u/\L2.RelV t u:=by
 obtain⟨u,a,r⟩:=H;exact⟨u,PySem.W.mg_of X G a,r⟩
def yD {R:Rk} [Lo R] {N ps:List Str}{k n:Nat}{g:Sm}(F:Fy K mg x st) (Sc:yo N ps (zE st)) (hn:n=ps.length)
  (hb:∀ (kV doc pm:Value) (an:Option Addr) (cdv ct:Value) (us:List Value),us.length=ps.length->bindArgs (PySem.W.fnOf x x (sS st) (vt st) (zE st) .none kV doc pm an cdv ct) ⟨us,[]⟩=pure (ps.zip us))
  (hbody:∀ (f:Addr) (cdv:Value) (A:Around) (outer:List Env) (s:Shared) (H:Hp) (E:XK),yC k (A.deeper (envOfC x (zE st) s.heap.objs.size f cdv))->
   ∃ t,ue (u_ vh P w K mg base N x (zE st) f cdv A outer s H E).sJ (vt st) t/\yk R g t):FD P w K mg base x (k+1) ps (yi R (yc N n g)):=by
 obtain⟨f,fd,F,hm⟩:=F;exact Oe F hm Sc hn hb (hbody f)
end
def NW (o:Out) (E:rq):Prop:=match o with
 | .nx J=>∀ S0 Z0 S Z Y,FR S0 Z0 S Z Y J->E.nx Y S
 | .rt y=>∀ d S,Sn S y d->E.rt d S
 | _=>False
def qw (g:Sm) (t:yz):Prop:=∀ S0 Z0 S Z Y J o E,FR S0 Z0 S Z Y J->g J=some o->NW o E->t E Y S
@[simp] noncomputable def gE:Option W->Bool
 | some (.im t)=>plainT t
 | some (.own (.lst ts))=>va ts
 | _=>false
@[simp] noncomputable def nE (J:Ev):Ev:=J.map λ w=>if gE w=true then w else none
section
variable {R:Rk}{g h:Sm}{t u:yz}{S0 S:SS}{Z0 Z:Addr->Prop}{Y:yn}{J:Ev}
def yk.z [Sr R] (h:yk R g t):qw g t:=λ S0 Z0 S Z Y J o E F e P=>h S0 Z0 S Z Y J o E F e (by
 cases o with
 | nx J'=>exact λ S' Z' Y' F'=>P S0 Z0 S' Z' Y' F'
 | rt y=>exact λ d S' _ r=>P d S' (Sn.sx (tM S' Z0) y (Sr.sn r))
 | bk _=>exact False.elim P
 | ct _=>exact False.elim P)
def o6 (hg:qw g t) (hh:qw h u):qw (zt g h) (ql t u):=λ S0 Z0 S Z Y J o E F e P=>by
 obtain⟨o1,e1,e2⟩:=zOb e;refine hg S0 Z0 S Z Y J o1 _ F e1 ?_;cases o1 with
 | nx J'=>exact λ S0' Z0' S' Z' Y' F'=>hh S0' Z0' S' Z' Y' J' o E F' e2 P
 | rt y=>cases e2;exact P
 | bk _=>cases e2;exact P
 | ct _=>cases e2;exact P
def jX {i:Nat}{w:W}(h:(nE J)[i]?=some (some w)):J[i]?=some (some w)/\gE (some w)=true:=by
 unfold nE at h;rw[zA3] at h;cases q:J[i]? with
 | none=>rw[q] at h;cases h
 | some x=>
  rw[q] at h;replace h:(if gE x=true then x else none)=some w:=zD5 h;split at h
  .rename_i hp;subst h;exact⟨rfl,hp⟩
  .cases h
def su (F:List T->Option T):sX:=λ ds S Q=>∃ Z ys y,(∀ a,Z a->S a≠none)/\zh (zF S Z) ys ds/\F ys=some y/\∀ d S',Sn S' y d->Q d S'
theorem su.len {N:List Str}{n:Nat}{ds:List D}{Q:DK}(hs:su (yc N n g) ds S Q):ds.length=n:=by
 obtain⟨Z,ys,y,hz,r,e,hq⟩:=hs;unfold yc at e;split at e
 .rename_i h;rw[r.len];exact h
 .cases e
def NC {N:List Str}{n:Nat}(h:qw g t) {ds:List D}{Q:DK}(hs:su (yc N n g) ds S Q):t { nx:=λ _ S'=>Q .zj S',rt:=Q } (uO N ds) S:=by
 obtain⟨Z,ys,y,hz,r,e,hq⟩:=hs;unfold yc at e;split at e
 case isFalse=>cases e
 obtain⟨o,e1,e2⟩:∃ o,g (tB N ys)=some o/\gO (some o)=some y:=by
  cases q:g (tB N ys) with
  | none=>rw[q] at e;cases e
  | some o=>exact⟨o,rfl,by rw[<- q];exact e⟩
 refine h S Z S Z _ _ o _ ⟨⟨hz,λ i t e=>?_,λ i ts e=>?_⟩,?_,.refl S,hz,λ _ z=>z,λ _ z=>.inl z,λ i ts p e _=>?_,λ i j ts us p _ e _ _ _=>?_⟩ e1 ?_
 .obtain⟨y',h1,h2⟩:=rG e;cases h2;obtain⟨d,h3,h4⟩:=r.jn h1;exact⟨d,bC h3,h4⟩
 .obtain⟨y',h1,h2⟩:=rG e;cases h2
 .unfold uO tB;have:=r.len;simp[this]
 .obtain⟨y',h1,h2⟩:=rG e;cases h2
 .obtain⟨y',h1,h2⟩:=rG e;cases h2
 .cases o with
  | rt y'=>cases e2;exact hq
  | nx J'=>
   cases e2;exact λ _ _ S' _ _ _=>hq .zj S' kz
  | bk _=>cases e2
  | ct _=>cases e2
end
section
variable {P:Program}{w:World}{K:zFr}{mg:Str->Option Value}{base:Heap}{f:Addr}{fd:FuncData}
def PY {x:Str}{st:Stmt}{N ps:List Str}{k n:Nat}{g:Sm}(F:uN K x x st f fd) (Sc:yo N ps (zE st)) (hn:n=ps.length)
  (hbody:∀ (cdv:Value) (A:Around) (outer:List Env) (s:Shared) (H:Hp) (E:XK),yC k (A.deeper (envOfC x (zE st) s.heap.objs.size f cdv))->
   ∃ t,ue (u_ vh P w K mg base N x (zE st) f cdv A outer s H E).sJ (vt st) t/\qw g t):uj P w K mg base vh (k+1) f fd ps (t8 K (su (yc N n g))):=
 Yo F Sc (λ ds S Q h=>by rw[h.len,hn]) λ cdv A outer s H E hr=>by
  obtain⟨t,h1,h2⟩:=hbody cdv A outer s H E hr;exact⟨t,h1,λ ds S Q h=>NC h2 h⟩
def QI {F:List T->Option T}(hF:∀ ns:List Int,ns.length<=63->F [.lst (ns.map T.int)]=some (.bl true)) {H:Hp}{a:Addr}{ns:List Int}{E:XK}(hO:jD H) (hS:zV K H a (ns.map V.int)) (hl:ns.length<=63):t8 K (su F) [.ref a] H (λ v _=>v=.bl true) E:=by
 have hFz:nr K H a (ns.map V.int):=by
  rcases hS with (h | h) | h
  .rcases hO a with z | ⟨o,xs,z⟩
   .rw[h] at z;cases z
   .rw[h] at z;cases z
  .exact .inl h
  .exact .inr h
 refine⟨[.yO (ns.map D.int)],λ _=>none,.cons ?_ .nil,(λ a o z=>nomatch z),λ _=>False,[.lst (ns.map T.int)],.bl true,nofun,.cons ?_ .nil,hF ns hl,λ d S' r v H' rv _ _=>?_⟩
 .simp only[zi];exact⟨a,_,rfl,hFz,zo.fk ns⟩
 .simp only[Sn];exact⟨_,.inl ⟨rfl,S9 ns⟩,sC.mpr rfl⟩
 .simp only[Sn] at r;subst r;simpa only [zi] using rv
end
mutual
theorem U8 {S S':SS}:∀ (t u:T) {d:D},plainT t=true->plainT u=true->Sn S t d->Sn S' u d->t=u
 | .zj,u,d,_,hu,q,r=>by
  simp only[Sn] at q;subst q;cases u with
  | zj=>rfl
  | tup us=>simp only[Sn] at r;obtain⟨_,r,_⟩:=r;cases r
  | lst us=>simp only[plainT] at hu;cases hu
  | zN=>simp only[plainT] at hu;cases hu
  | bl _=>simp only[Sn] at r;cases r
  | int _=>simp only[Sn] at r;cases r
  | str _=>simp only[Sn] at r;cases r
 | .bl b,u,d,_,hu,q,r=>by
  simp only[Sn] at q;subst q;cases u with
  | bl _=>simp only[Sn] at r;cases r;rfl
  | tup us=>simp only[Sn] at r;obtain⟨_,r,_⟩:=r;cases r
  | lst us=>simp only[plainT] at hu;cases hu
  | zN=>simp only[plainT] at hu;cases hu
  | zj=>simp only[Sn] at r;cases r
  | int _=>simp only[Sn] at r;cases r
  | str _=>simp only[Sn] at r;cases r
 | .int b,u,d,_,hu,q,r=>by
  simp only[Sn] at q;subst q;cases u with
  | int _=>simp only[Sn] at r;cases r;rfl
  | tup us=>simp only[Sn] at r;obtain⟨_,r,_⟩:=r;cases r
  | lst us=>simp only[plainT] at hu;cases hu
  | zN=>simp only[plainT] at hu;cases hu
  | zj=>simp only[Sn] at r;cases r
  | bl _=>simp only[Sn] at r;cases r
  | str _=>simp only[Sn] at r;cases r
 | .str b,u,d,_,hu,q,r=>by
  simp only[Sn] at q;subst q;cases u with
  | str _=>simp only[Sn] at r;cases r;rfl
  | tup us=>simp only[Sn] at r;obtain⟨_,r,_⟩:=r;cases r
  | lst us=>simp only[plainT] at hu;cases hu
  | zN=>simp only[plainT] at hu;cases hu
  | zj=>simp only[Sn] at r;cases r
  | bl _=>simp only[Sn] at r;cases r
  | int _=>simp only[Sn] at r;cases r
 | .tup ts,u,d,ht,hu,q,r=>by
  simp only[Sn] at q;obtain⟨ds,rfl,q⟩:=q;cases u with
  | tup us=>
   simp only[Sn] at r;obtain⟨es,r1,r⟩:=r;cases r1;rw[gB ts us (by simpa only [plainT] using ht) (by simpa only [plainT] using hu) q r]
  | lst us=>simp only[plainT] at hu;cases hu
  | zN=>simp only[plainT] at hu;cases hu
  | zj=>simp only[Sn] at r;cases r
  | bl _=>simp only[Sn] at r;cases r
  | int _=>simp only[Sn] at r;cases r
  | str _=>simp only[Sn] at r;cases r
 | .lst ts,u,d,ht,_,_,_=>by simp only[plainT] at ht;cases ht
 | .zN,u,d,ht,_,_,_=>by simp only[plainT] at ht;cases ht
theorem gB {S S':SS}:∀ (ts us:List T) {ds:List D},va ts=true->va us=true->zh S ts ds->zh S' us ds->ts=us
 | [],us,ds,_,_,q,r=>by
  simp only[zh] at q;subst q;cases us with
  | nil=>rfl
  | cons _ _=>simp only[zh] at r;obtain⟨_,_,r,_⟩:=r;cases r
 | t::ts,us,ds,ht,hu,q,r=>by
  simp only[zh] at q;obtain⟨c,cs,rfl,q1,q2⟩:=q;cases us with
  | nil=>simp only[zh] at r;cases r
  | cons u us=>
   simp only[zh] at r;obtain⟨c',cs',r0,r1,r2⟩:=r;cases r0;simp only[va,zE5] at ht hu;rw[U8 t u ht.1 hu.1 q1 r1,gB ts us ht.2 hu.2 q2 r2]
end
noncomputable def rg (S:SS):List T->List D->Prop
 | t::ts,d::ds=>((∃ vs,t=.lst vs)->∃ b,d=.ref b/\S b=none)/\rg S ts ds
 | _,_=>True
theorem rg.app {S:SS}:∀ {ts:List T}{ds:List D}{t:T}{d:D},ts.length=ds.length->rg S ts ds->((∃ vs,t=.lst vs)->∃ b,d=.ref b/\S b=none)->rg S (ts++[t]) (ds++[d])
 | [],[],t,d,_,_,h=>⟨h,trivial⟩
 | [],_::_,t,d,hl,_,_=>by cases hl
 | _::_,[],t,d,hl,_,_=>by cases hl
 | _::ts,_::ds,t,d,hl,⟨h1,h2⟩,h=>⟨h1,rg.app (by simpa using hl) h2 h⟩
def X3:Rk:=λ S S' Z y d=>∃ ts p ds,y=.lst ts/\d=.ref p/\S p=none/\S' p=some (.lst ds)/\zh (zF S' λ a=>Z a\/a=p) ts ds/\rg S ts ds
def R3 {pick:List (Option Nat)}{it:Ev->Option (List T)}{ti:wH}{g:T->Ev->Option Ev}{tg:xG}{c:Ev->Option Bool}{tc:yN}{f:Ev->Option T}{te:zu}{b:Bool}(hi:tu b it ti) (hg:lI pick g tg) (hc:ve c tc) (hf:xi f te):
  xy X3 (xE pick it g c f) (tX pick ti tg tc te):=λ S Z Y J y Q hE e hq=>by
 obtain⟨ts,e1,e2⟩:=zOb e;split at e2
 case isFalse=>cases e2
 rename_i hlen;obtain⟨zs,e3,rfl⟩:=zOm e2;refine hi S Z Y J ts _ hE e1 λ I S1 s1 r1 hk=>⟨by rw[r1.len];exact hlen,λ S' s'=>hk S' ?_,λ p hp=>?_⟩
 .cases b
  .exact s'
  .exact (tM _ _).trans s'
 have E1:=hE.grow s1;refine⟨λ i S' acc=>∃ us ws,zh (zF S' λ a=>Z a\/a=p) us acc/\sT (qa pick g c f J) (ts.drop i)=some ws/\zs=us++ws/\rg S us acc,⟨[],zs,.nil,e3,rfl,trivial⟩,λ i S' S'' acc hh ⟨us,ws,h1,h2⟩=>⟨us,ws,zh.sx (λ a o q=>?_) us h1,h2⟩,λ i d S2 acc hd s2 hacc ⟨us,ws,h1,h2,h3,h4⟩=>?_,λ S2 acc s2 hacc ⟨us,ws,h1,h2,h3,h4⟩=>?_⟩
 .obtain⟨q1,q2⟩:=vA q;rw[wV q1];exact hh a o (λ z=>q1 (.inr z)) q2
 .obtain⟨x,hx,rx⟩:=r1.mH hd;have hlt:=(zA2.mp hx).1;have hdt:ts.drop i=x::ts.drop (i+1):=by rw[List.drop_eq_getElem_cons hlt,(zA2.mp hx).2]
  rw[hdt] at h2;unfold sT at h2;obtain⟨o,o1,h2⟩:=zOb h2;obtain⟨ws',o2,rfl⟩:=zOm h2;have E2:=(E1.hide s2 hp (by rw[hacc];nofun)).aC (pick:=pick);unfold qa at o1;obtain⟨J2,g1,o1⟩:=zOb o1;obtain⟨bb,g2,o1⟩:=zOb o1;refine hg (vj pick Y) S2 _ _ _ J2 x d _ (λ j hj=>?_) ⟨rfl,λ _ _ q=>q⟩ (by unfold vj oj;simp) E2 (Sn.sx (qX s2 hp) x rx) g1 fun Y2 E3 l3 _=>⟨l3,?_⟩
  .unfold vj;rw[zA3,hj];rfl
  refine hc S2 _ Y2 J2 bb _ E3 g2 λ S3 s3=>?_;split at o1
  .rename_i hb;rw[if_pos hb];obtain⟨z,g3,rfl⟩:=zOm o1;refine hf S3 _ Y2 J2 z _ (E3.grow s3) g3 λ dz S4 s4 r4=>⟨s3.trans s4,us++[z],ws',?_,o2,by rw[h3];simp,?_⟩
   .exact (zh.sx (wD (s3.trans s4)) us h1).append (.cons r4.1 .nil)
   .refine rg.app h1.len.symm h4 λ⟨vs,hv⟩=>?_;obtain⟨pp,_,k1,k2,_⟩:=r4.2 vs hv;exact⟨pp,k1,((s1.trans s2).trans s3).none k2⟩
  .rename_i hb;rw[if_neg hb];cases o1;exact⟨s3,us,ws',zh.sx (wD s3) us h1,o2,h3,h4⟩
 .rw[show I.items.length=ts.length from r1.len,List.drop_length] at h2;cases h2;rw[List.append_nil] at h3;subst h3;exact hq _ S2 (s1.trans s2) ⟨zs,p,acc,rfl,rfl,s1.none hp,hacc,h1,h4⟩
noncomputable def fT:T->Bool
 | .lst vs=>va vs
 | _=>false
noncomputable def kY (us:List T):T->Bool
 | .lst vs=>va vs&&!eqT (.lst vs) (.lst us)
 | _=>false
noncomputable def oI (i j:Nat) (F:Ev->Option T) (xv:T):Sm:=fun J=>(F J).bind λ y=>match y,J[i]? with
 | .lst ys,some (some (.own (.lst ts)))=>match ts.getLast? with
  | some (.lst us)=>if mf us=false/\va us=true/\us.length<sizeLine/\ts.dropLast.all (kY us)=true/\ys.all fT=true/\plainT xv=true/\i≠j/\j < J.length then some (.nx (((nE J).set i (some (.own (.lst (ts.dropLast++[.lst (us++[xv])]))))).set j (some (.own (.lst ys))))) else none
  | _=>none
 | _,_=>none
section
variable {S S' S3:SS}{Z:Addr->Prop}{a q:Addr}{o:O}
theorem bJ {S:SS}:∀ {ts us:List T}{ds:List D},zh S (ts++us) ds->∃ d1 d2,ds=d1++d2/\zh S ts d1/\zh S us d2
 | [],us,ds,h=>⟨[],ds,rfl,.nil,h⟩
 | t::ts,us,ds,h=>by
  rw[List.cons_append] at h;simp only[zh] at h;obtain⟨c,cs,rfl,h1,h2⟩:=h;obtain⟨d1,d2,rfl,h3,h4⟩:=bJ h2;exact⟨c::d1,d2,rfl,.cons h1 h3,h4⟩
theorem bH (s:Sx S' S3) (ha:S a≠none):∀ {ys:List T}{acc:List D},zh (zF S' Z) ys acc->ys.all fT=true->rg S ys acc->zh (zF (ups S3 a o) Z) ys acc
 | [],acc,h,_,_=>by simp only[zh] at h;subst h;exact .nil
 | y::ys,acc,h,hy,hf=>by
  simp only[zh] at h;obtain⟨c,cs,rfl,h1,h2⟩:=h;rw[List.all_cons,zE5] at hy;refine .cons ?_ (bH s ha h2 hy.2 hf.2);cases y with
  | lst vs=>
   obtain⟨b,rfl,hb⟩:=hf.1 ⟨vs,rfl⟩;simp only[Sn] at h1 ⊢;obtain⟨ds,⟨k,_⟩ | ⟨b',k,h3⟩,h4⟩:=h1
   .cases k
   .cases k;obtain⟨n1,n2⟩:=vA h3;refine⟨ds,.inr ⟨b,rfl,?_⟩,qL vs hy.1 h4⟩;rw[wV n1,um (λ e=>ha (by rw[<- e];exact hb))];exact s _ _ n2
  | _=>cases hy.1
theorem bI {us:List T}{vsa:List D}(s:Sx S S3) (hq:S q=none) (ha:S a=some (.lst vsa)) (hu:va us=true) (hua:zh (zF S Z) us vsa):∀ {ts:List T}{ds:List D},zh (zF S Z) ts ds->ts.all (kY us)=true->zh (zF (ups S3 a o) λ b=>Z b\/b=q) ts ds
 | [],ds,h,_=>by simp only[zh] at h;subst h;exact .nil
 | t::ts,ds,h,ht=>by
  simp only[zh] at h;obtain⟨c,cs,rfl,h1,h2⟩:=h;rw[List.all_cons,zE5] at ht;refine .cons ?_ (bI s hq ha hu hua h2 ht.2);cases t with
  | lst vs=>
   have hv:=ht.1;simp only[kY,zE5] at hv;simp only[Sn] at h1 ⊢;obtain⟨es,k | ⟨b,rfl,h3⟩,h4⟩:=h1
   .exact⟨es,.inl k,qL vs hv.1 h4⟩
   .obtain⟨n1,n2⟩:=vA h3;refine⟨es,.inr ⟨b,rfl,?_⟩,qL vs hv.1 h4⟩;have hba:b≠a:=λ e=>by
     subst e;rw[ha] at n2;cases n2;have:=gB vs us hv.1 hu h4 hua;subst this;have h9:=hv.2;rw[mO] at h9;cases h9
    rw[wV,um hba]
    .exact s _ _ n2
    .rintro (z | z)
     .exact n1 z
     .subst z;rw[hq] at n2;cases n2
  | _=>cases ht.1
end
def SA {pick:List (Option Nat)}{i j:Nat}{Fk:Ev->Option T}{tk tn tx:zu}{fn fx:Ev->Option T}{xv:T}{g3:Sm}{u:yz}(hk:xy X3 Fk tk) (hn:yf fn tn) (hnv:∀ J,fn J=some (.int (-1))) (hx:vf fx tx) (hxv:∀ J,fx J=some xv) (h3:qw g3 u):
  qw (zt (oI i j Fk xv) g3) (ql (uG tk (hName j)) (ql (pd (tY (yg xX (yr i) tn) tx)) u)):=λ S0 Z0 S Z Y J o E F e P=>by
 obtain⟨o1,e1,e2⟩:=zOb e;unfold oI at e1;obtain⟨y,e3,e1⟩:=zOb e1;split at e1
 .rename_i ys ts hi;split at e1
  .rename_i us hlast;split at e1
   .rename_i hcd;obtain⟨c1,c2,c3,c4,c5,c6,c7,c8⟩:=hcd;cases e1;show tk Y S _;refine hk S Z Y J _ _ F.er e3 λ d S' s' r=>?_;obtain⟨ys',q,acc,ry,rfl,hq,hq',rs,rf⟩:=r;cases ry;show pd (tY (yg xX (yr i) tn) tx) _ (Y.set j (some (.ref q))) S';obtain⟨P0,ob,p1,p2,p3,p4⟩:=F.er.ow i _ hi;obtain⟨ds,rfl⟩:∃ ds,ob=.lst ds:=by
     cases ob with
     | lst ds=>exact⟨ds,rfl⟩
     | ye _=>exact p3.elim
    replace p3:zh (zF S Z) ts ds:=p3;have hts:ts=ts.dropLast++[.lst us]:=by
     have hne:ts≠[]:=λ h=>by rw[h] at hlast;cases hlast
     have:=List.dropLast_concat_getLast hne;rw[List.getLast?_eq_some_getLast hne] at hlast;rw[zD5 hlast] at this;exact this.symm
    rw[hts] at p3;obtain⟨d1,d2,rfl,p5,p6⟩:=bJ p3;simp only[zh] at p6;obtain⟨c,cs,rfl,p6,p7⟩:=p6;subst p7;simp only[Sn] at p6;obtain⟨vsa,⟨_,k⟩ | ⟨a,rfl,p8⟩,p9⟩:=p6
    .rw[c1] at k;cases k
    obtain⟨na,pa⟩:=vA p8;have haq:a≠q:=λ h=>by rw[h,hq] at pa;cases pa
    have F1:=F.i9 (ts:=.lst ys) (ds:=.lst acc) s' j hq hq' rs;have hdi:(Y.set j (some (.ref q)))[i]?=some (some (.ref P0)):=by rw[xM (λ h=>c7 h.symm)];exact p1
    show yg xX (yr i) tn (Y.set j (some (.ref q))) S' _;unfold yg yr;rw[hdi];refine hn S' _ _ _ _ _ F1.er (hnv _) λ dn S'' s'' rn=>?_;cases Vw.int rn;refine Yz (s'' _ _ (s' _ _ p2)) nj ?_;have pa2:S'' a=some (.lst vsa):=s'' _ _ (s' _ _ pa);refine⟨⟨vsa,pa2⟩,?_⟩;refine hx S'' _ _ _ _ _ (F1.er.grow s'') (hxv _) λ dx S3 s3 rx=>?_;rw[s3 _ _ pa2];refine⟨by rw[p9.len];exact c3,?_⟩;have sA:Sx S' S3:=s''.trans s3;have sB:Sx S S3:=s'.trans sA;have nz1:¬ (Z a\/a=q):=λ h=>h.elim na haq;refine h3 (zF (ups S3 a (.lst (vsa++[dx]))) λ b=>Z b\/b=q) (λ _=>False) _ (λ b=>Z b\/b=q) _ _ _ _ ?_ e2 P;have ne:∀ b,(Z b\/b=q)->ups S3 a (.lst (vsa++[dx])) b=S3 b:=λ b z=>um (λ e=>nz1 (by rw[<- e];exact z));have hjl:j < Y.length:=by rw[F.len];exact c8
    have ow:∀ (k:Nat) c,(((nE J).set i (some (.own (.lst (ts.dropLast++[.lst (us++[xv])]))))).set j (some (.own (.lst ys))))[k]?=some (some (.own c))->∃ p o,(Y.set j (some (.ref q)))[k]?=some (some (.ref p))/\(ups S3 a (.lst (vsa++[dx]))) p=some o/\tq (zF (ups S3 a (.lst (vsa++[dx]))) λ b=>Z b\/b=q) c o/\(Z p\/p=q):=λ k c ek=>by
     rcases y7 ek with ⟨rfl,hl,ek⟩ | ⟨n1,ek⟩
     .cases ek;exact⟨q,.lst acc,sP hjl,by rw[ne q (.inr rfl)];exact sA _ _ hq',bH sA (by rw[pa];nofun) rs c5 rf,.inr rfl⟩
     .rw[xM n1];rcases y7 ek with ⟨rfl,hl,ek⟩ | ⟨n2,ek⟩
      .cases ek;refine⟨P0,.lst (d1++[.ref a]),p1,by rw[ne P0 (.inl p4)];exact sB _ _ p2,?_,.inl p4⟩;refine zh.append (bI sB hq pa c2 p9 p5 c4) (.cons ?_ .nil);simp only[Sn];refine⟨vsa++[dx],.inr ⟨a,rfl,by rw[wV nz1,t7]⟩,(qL us c2 p9).append (.cons (gC xv c6 rx) .nil)⟩
      .obtain⟨w1,w2⟩:=jX ek;obtain⟨p',o',h1,h2,h3',h4⟩:=F.er.ow k c w1;refine⟨p',o',h1,by rw[ne p' (.inl h4)];exact sB _ _ h2,?_,.inl h4⟩;cases c with
       | ye _=>cases w2
       | lst vs=>
        cases o' with
        | ye _=>exact h3'.elim
        | lst es=>exact qL vs w2 h3'
    have old:∀ (k:Nat) c,k≠j->(((nE J).set i (some (.own (.lst (ts.dropLast++[.lst (us++[xv])]))))).set j (some (.own (.lst ys))))[k]?=some (some (.own c))->∃ c',J[k]?=some (some (.own c')):=λ k c nk ek=>by
     rcases y7 ek with ⟨h,_,_⟩ | ⟨n1,ek⟩
     .exact absurd h.symm nk
     .rcases y7 ek with ⟨rfl,hl,_⟩ | ⟨n2,ek⟩
      .exact⟨_,hi⟩
      .exact⟨_,(jX ek).1⟩
    refine⟨⟨λ b z=>by rw[ne b z];exact (F1.er.grow sA).zd b z,λ k t ek=>?_,ow⟩,by simp[F.len],tM _ _,nofun,nofun,λ b z=>.inr (mD z),λ k c p ek ed=>?_,λ k k' c c' p nk ek1 ek2 ed1 ed2=>?_⟩
    .rcases y7 ek with ⟨rfl,hl,ek⟩ | ⟨n1,ek⟩
     .cases ek
     .rw[xM n1];rcases y7 ek with ⟨rfl,hl,ek⟩ | ⟨n2,ek⟩
      .cases ek
      .obtain⟨w1,w2⟩:=jX ek;obtain⟨d',h1,h2⟩:=F.er.im k t w1;exact⟨d',h1,gC t w2 h2⟩
    .obtain⟨p',o',h1,_,_,h4⟩:=ow k c ek;rw[ed] at h1;cases h1;exact mD h4
    .by_cases hkj:k=j
     .subst hkj;obtain⟨c2',hc2⟩:=old k' c' (λ h=>nk h.symm) ek2;rw[sP hjl] at ed1;cases ed1;rw[xM nk] at ed2;obtain⟨p',o',h1,h2,_⟩:=F.er.ow k' c2' hc2;rw[ed2] at h1;cases h1;rw[hq] at h2;cases h2
     .by_cases hkj':k'=j
      .subst hkj';obtain⟨c2',hc2⟩:=old k c hkj ek1;rw[sP hjl] at ed2;cases ed2;rw[xM (λ h=>hkj h.symm)] at ed1;obtain⟨p',o',h1,h2,_⟩:=F.er.ow k c2' hc2;rw[ed1] at h1;cases h1;rw[hq] at h2;cases h2
      .obtain⟨c2',hc2⟩:=old k c hkj ek1;obtain⟨c3',hc3⟩:=old k' c' hkj' ek2;rw[xM (λ h=>hkj h.symm)] at ed1;rw[xM (λ h=>hkj' h.symm)] at ed2;exact F.dj k k' c2' c3' p nk hc2 hc3 ed1 ed2
   .cases e1
  .cases e1
 .cases e1
end L5
namespace L5
open L2 L3
def yL {R:Rk}{g:Sm}{t:yz}(h:yk R g t:=by
 repeat' first
  | (with_reducible first | exact yV _ | apply Zm | apply kW | apply Rw | apply RO)
  | (with_reducible first | exact uw _ | refine y8 (R:=vw) vB ?_ ?_ | refine tK (R:=vw) ?_ | apply Zj | apply Zl | exact Zk)
  | ((try first | refine xy.fr ?_ | refine xy.fe ?_);with_reducible first | exact xq _ | refine y8 (R:=zJ) (by with_reducible first | exact good_add | exact jl | exact qY | exact PJ | exact PH | exact f_ | exact ea | exact eh | exact Py | exact Yg) ?_ ?_ | refine tK (R:=zJ) ?_ | refine qQ (R:=zJ) (by with_reducible first | exact mF | exact Pt | exact Yh | exact PB | exact Pz | exact Yj | exact Px | exact Pu | exact PC | exact good_int) ?_ | apply ml | apply gZ | apply fg | apply RQ | apply R1 | apply fh | apply RP | apply Zg | exact oB _ | exact Rm _ | exact Rx | apply kX | apply Zh | apply oA | refine RV (by with_reducible first | exact jl | exact f_ | exact ea | exact eh) (by with_reducible first | exact jl | exact f_ | exact ea | exact eh) ?_ ?_ ?_ | apply Rt | apply g_ | apply Rr | exact RT _ | apply Rp | apply Qa)
  | (refine xy.er ?_;with_reducible first | exact uw _ | refine y8 (R:=vw) vB ?_ ?_ | refine tK (R:=vw) ?_ | apply Zj | apply Zl | exact Zk)
  | (with_reducible first | apply mh | apply gU | apply o8 | exact o7 | apply qP | apply SV | apply gT | apply gS | apply SD | exact gR _ | exact SF | apply SK | exact SG | exact SU | exact SO | apply SJ | apply SE | apply Zf | exact SR _ | exact SN _ | apply SM | apply SH)
  | (with_reducible first | exact tI | apply tJ | exact vR | apply wo | apply kU | apply o9 | apply mr | apply fj | apply Zi | exact mq | exact gW _ | exact Rc | apply Rf | exact Rh | apply Ri | apply kT | apply S_ | apply kS | apply SY | apply Ra | apply Rb | apply SW | apply SX | exact gY | apply gX)
  | (first | exact mj _ | apply Rg | apply Rj)
  | exact (gR _).fv):yk R g t:=h
end L5
namespace RN
open L5
abbrev Bd:=List (Int×Int)
def yH (b c:Bd):Prop:=∀ q,zK b q=true->zK c q=true
def yH.refl (b:Bd):yH b b:=λ _ h=>h
def yH.trans {a b c:Bd}(h:yH a b) (h':yH b c):yH a c:=λ q x=>h' q (h q x)
def yH.of {b c:Bd}(h:∀ p∈b,∃ r∈c,r.1<=p.1/\r.2<=p.2):yH b c:=λ q x=>by
 obtain⟨p,hp,h1,h2⟩:=yE.mp x;obtain⟨r,hr,h3,h4⟩:=h p hp;exact yE.mpr ⟨r,hr,by omega,by omega⟩
def yH.at {b c:Bd}(h:yH b c) {p:Int×Int}(hp:p∈b):∃ r∈c,r.1<=p.1/\r.2<=p.2:=yE.mp (h p (yE.mpr ⟨p,hp,zC6 _,zC6 _⟩))
structure Gd (A B:Int) (b:Bd):Prop where
 mB:vx b
 xS:∀ p∈b,(0<=p.1/\p.1<=A)/\0<=p.2/\p.2<=B
noncomputable def xw:Bd:=[(0,0)]
def OT {q:Int×Int}:zK xw q=true↔0<=q.1/\0<=q.2:=by
 rw[yE];unfold xw;simp
theorem Gd.xw {A B:Int}(hA:0<=A) (hB:0<=B):Gd A B xw:=⟨by unfold RN.xw vx;simp,λ p hp=>by
 unfold RN.xw at hp;cases zB6.mp hp;exact⟨⟨zC6 _,hA⟩,zC6 _,hB⟩⟩
def Gd.ZE {A B:Int}{b:Bd}(h:Gd A B b):yH b RN.xw:=yH.of λ p hp=>⟨(0,0),by unfold RN.xw;simp,(h.xS p hp).1.1,(h.xS p hp).2.1⟩
theorem Gd.eq {A B:Int}{b c:Bd}(h:Gd A B b) (h':Gd A B c) (x:yH b c) (y:yH c b):b=c:=vx.eq h.mB h'.mB λ q=>by
 rw[zC7];exact⟨x q,y q⟩
def Gd.least {A B:Int}{ps:Bd}(h:∀ p∈ps,(0<=p.1/\p.1<=A)/\0<=p.2/\p.2<=B):Gd A B (vo ps):=⟨fK ps,λ p hp=>h p (Q9 hp)⟩
def ZA {ps qs:Bd}(h:∀ p∈ps,∃ r∈qs,r.1<=p.1/\r.2<=p.2):yH (vo ps) (vo qs):=λ q x=>by
 rw[oE] at x ⊢;exact yH.of h q x
theorem ZU:∀ {b:Bd}{lo hi:Int},vx b->(∀ p∈b,lo<=p.1/\p.1<=hi)->(b.length:Int)<=hi+1-lo\/b=[]
 | [],_,_,_,_=>.inr rfl
 | p::b,lo,hi,h,hb=>by
  have h1:=List.pairwise_cons.mp h;have hp:=hb p zMc;refine .inl ?_;rcases ZU (lo:=p.1+1) (hi:=hi) h1.2 (λ q hq=>⟨by have:=(h1.1 q hq).1;omega,(hb q (zMo _ hq)).2⟩) with x | x
  .rw[zC0];omega
  .subst x;simp;omega
theorem ZT:∀ {b:Bd}{lo hi:Int},vx b->(∀ p∈b,lo<=p.2/\p.2<=hi)->(b.length:Int)<=hi+1-lo\/b=[]
 | [],_,_,_,_=>.inr rfl
 | p::b,lo,hi,h,hb=>by
  have h1:=List.pairwise_cons.mp h;have hp:=hb p zMc;refine .inl ?_;rcases ZT (lo:=lo) (hi:=p.2-1) h1.2 (λ q hq=>⟨(hb q (zMo _ hq)).1,by have:=(h1.1 q hq).2;omega⟩) with x | x
  .rw[zC0];omega
  .subst x;simp;omega
def Gd.qU {A B:Int}{b:Bd}(h:Gd A B b) (hA:0<=A):(b.length:Int)<=A+1:=by
 rcases ZU (lo:=0) (hi:=A) h.mB (λ p hp=>(h.xS p hp).1) with x | x
 .omega
 .subst x;simp;omega
def Gd.Q8 {A B:Int}{b:Bd}(h:Gd A B b) (hB:0<=B):(b.length:Int)<=B+1:=by
 rcases ZT (lo:=0) (hi:=B) h.mB (λ p hp=>(h.xS p hp).2) with x | x
 .omega
 .subst x;simp;omega
noncomputable def yP (x:Int):Int:=if x>0 then x else 0
def k_ (x:Int):0<=yP x:=by unfold yP;split <;> omega
def fy {x y:Int}(h:x<=y):yP x<=yP y:=by unfold yP;split <;> split <;> omega
def Qo {x g:Int}(h:0<=x) (hg:0<=g):yP (x-g)<=x:=by unfold yP;split <;> omega
noncomputable def xu (a b:Int) (p:Int×Int):Int×Int:=(yP (p.1-a),yP (p.2-b))
noncomputable def vC (A B:Int) (p:Int×Int):Bool:=decide (p.1<=A)&&decide (p.2<=B)
noncomputable def qt (A B a b:Int) (bd:Bd):Bd:=vo ((bd.map (xu a b)).filter (vC A B))
def NP (A B a b:Int) (bd:Bd):Gd A B (qt A B a b bd):=Gd.least λ p hp=>by
 obtain⟨h1,h2⟩:=zC8.mp hp;obtain⟨q,_,rfl⟩:=zB0.mp h1;have h3:(xu a b q).1<=A/\(xu a b q).2<=B:=by simpa [vC] using h2
 exact⟨⟨k_ _,h3.1⟩,k_ _,h3.2⟩
def Xz (A B a b:Int) {bd bd':Bd}(h:yH bd bd'):yH (qt A B a b bd) (qt A B a b bd'):=ZA λ p hp=>by
 obtain⟨h1,h2⟩:=zC8.mp hp;obtain⟨q,hq,rfl⟩:=zB0.mp h1;obtain⟨r,hr,r1,r2⟩:=h.at hq;have h3:(xu a b q).1<=A/\(xu a b q).2<=B:=by simpa [vC] using h2
 have m1:(xu a b r).1<=(xu a b q).1:=fy (by omega);have m2:(xu a b r).2<=(xu a b q).2:=fy (by omega);exact⟨xu a b r,zC8.mpr ⟨zB0.mpr ⟨r,hr,rfl⟩,by simp[vC];omega⟩,m1,m2⟩
noncomputable def uE (b c:Bd):Bd:=vo (b++c)
def Oz (b c:Bd) (q:Int×Int):zK (uE b c) q=(zK b q||zK c q):=by unfold uE;rw[oE,OQ]
def Oy {A B:Int}{b c:Bd}(h:Gd A B b) (h':Gd A B c):Gd A B (uE b c):=Gd.least λ p hp=>by
 rcases zB9.mp hp with x | x
 .exact h.xS p x
 .exact h'.xS p x
noncomputable def jc (p q:Int×Int):Int×Int:=(if q.1>p.1 then q.1 else p.1,if q.2>p.2 then q.2 else p.2)
noncomputable def v_ (b c:Bd):Bd:=vo (b.flatMap λ p=>c.map (jc p))
def Xm (b c:Bd) (q:Int×Int):zK (v_ b c) q=(zK b q&&zK c q):=by
 unfold v_;rw[oE,zC7,zE5,yE,yE,yE];constructor
 .rintro⟨p,hp,h1,h2⟩;obtain⟨x,hx,hp⟩:=List.mem_flatMap.mp hp;obtain⟨y,hy,rfl⟩:=zB0.mp hp;unfold jc at h1 h2;dsimp only at h1 h2;refine⟨⟨x,hx,?_,?_⟩,⟨y,hy,?_,?_⟩⟩ <;> (first | (split at h1 <;> omega) | (split at h2 <;> omega))
 .rintro⟨⟨x,hx,h1,h2⟩,⟨y,hy,h3,h4⟩⟩;refine⟨jc x y,List.mem_flatMap.mpr ⟨x,hx,zB0.mpr ⟨y,hy,rfl⟩⟩,?_,?_⟩
  .show (if y.1>x.1 then y.1 else x.1)<=q.1;split <;> omega
  .show (if y.2>x.2 then y.2 else x.2)<=q.2;split <;> omega
def N9 {A B:Int}{b c:Bd}(h:Gd A B b) (h':Gd A B c):Gd A B (v_ b c):=Gd.least λ p hp=>by
 obtain⟨x,hx,hp⟩:=List.mem_flatMap.mp hp;obtain⟨y,hy,rfl⟩:=zB0.mp hp;have a1:=h.xS x hx;have a2:=h'.xS y hy;unfold jc;dsimp only;refine⟨⟨?_,?_⟩,?_,?_⟩ <;> split <;> omega
noncomputable def uF (bs:List Bd):Bd:=bs.foldl uE []
noncomputable def o_ (bs:List Bd):Bd:=bs.foldl v_ xw
theorem eI:∀ (bs:List Bd) (b:Bd) (q:Int×Int),zK (bs.foldl uE b) q=true↔zK b q=true\/∃ c∈bs,zK c q=true
 | [],b,q=>by simp
 | c::bs,b,q=>by
  rw[List.foldl_cons,eI bs,Oz,Bool.or_eq_true];constructor
  .rintro ((h | h) | ⟨d,hd,h⟩)
   .exact .inl h
   .exact .inr ⟨c,zMc,h⟩
   .exact .inr ⟨d,zMo _ hd,h⟩
  .rintro (h | ⟨d,hd,h⟩)
   .exact .inl (.inl h)
   .rcases zA5.mp hd with e | e
    .subst e;exact .inl (.inr h)
    .exact .inr ⟨d,e,h⟩
theorem mP {A B:Int}:∀ (bs:List Bd) (b:Bd),Gd A B b->(∀ c∈bs,Gd A B c)->Gd A B (bs.foldl uE b)
 | [],b,h,_=>h
 | c::bs,b,h,hb=>mP bs _ (Oy h (hb c zMc)) λ d hd=>hb d (zMo _ hd)
def Gd.nil {A B:Int}:Gd A B []:=⟨by unfold vx;simp,λ p hp=>by cases hp⟩
theorem da:∀ (bs:List Bd) (b:Bd) (q:Int×Int),zK (bs.foldl v_ b) q=true↔zK b q=true/\∀ c∈bs,zK c q=true
 | [],b,q=>by simp
 | c::bs,b,q=>by
  rw[List.foldl_cons,da bs,Xm,zE5];constructor
  .rintro⟨⟨h1,h2⟩,h3⟩;exact⟨h1,λ d hd=>by
    rcases zA5.mp hd with e | e
    .subst e;exact h2
    .exact h3 d e⟩
  .rintro⟨h1,h2⟩;exact⟨⟨h1,h2 c zMc⟩,λ d hd=>h2 d (zMo _ hd)⟩
theorem e_ {A B:Int}:∀ (bs:List Bd) (b:Bd),Gd A B b->(∀ c∈bs,Gd A B c)->Gd A B (bs.foldl v_ b)
 | [],b,h,_=>h
 | c::bs,b,h,hb=>e_ bs _ (N9 h (hb c zMc)) λ d hd=>hb d (zMo _ hd)
noncomputable def xl (pu:Bool) (g t:Int):Int×Int:=if pu=true then (t,g) else (g,t)
noncomputable def zZ (pu:Bool) (p:Int×Int):Int:=if pu=true then p.2 else p.1
noncomputable def yB (pu:Bool) (p:Int×Int):Int:=if pu=true then p.1 else p.2
noncomputable def xZ (pu:Bool) (zY give get:Int):Nat->Int->Int->Bd
 | 0,_,_=>[]
 | n+1,g,t=>if g<=zY then xl pu g t::xZ pu zY give get n (g+give) (yP (t-get)) else []
def U3 {pu:Bool}{g t g' t':Int}(h:g'<=g) (h':t'<=t):(xl pu g' t').1<=(xl pu g t).1/\(xl pu g' t').2<=(xl pu g t).2:=by
 cases pu
 .exact⟨h,h'⟩
 .exact⟨h',h⟩
theorem Xg (pu:Bool) (zY give get:Int):∀ (n:Nat) (g t g' t':Int),g'<=g->t'<=t->∀ e∈xZ pu zY give get n g t,∃ r∈xZ pu zY give get n g' t',r.1<=e.1/\r.2<=e.2
 | 0,_,_,_,_,_,_,e,he=>by cases he
 | n+1,g,t,g',t',h1,h2,e,he=>by
  unfold xZ at he ⊢;split at he
  .rw[if_pos (by omega)];rcases zA5.mp he with x | x
   .subst x;exact⟨_,zMc,U3 h1 h2⟩
   .obtain⟨r,hr,r1⟩:=Xg pu zY give get n _ _ (g' + give) (yP (t'-get)) (by omega) (fy (by omega)) e x;exact⟨r,zMo _ hr,r1⟩
  .cases he
theorem eU (pu:Bool) (zY give get most:Int) (hg:1<=give) (hgt:0<=get):∀ (n:Nat) (g t:Int),0<=g->0<=t->t<=most->∀ e∈xZ pu zY give get n g t,(0<=zZ pu e/\zZ pu e<=zY)/\0<=yB pu e/\yB pu e<=most
 | 0,_,_,_,_,_,e,he=>by cases he
 | n+1,g,t,h1,h2,h3,e,he=>by
  unfold xZ at he;split at he
  .rcases zA5.mp he with x | x
   .subst x;cases pu <;> exact⟨⟨h1,by assumption⟩,h2,h3⟩
   .exact eU pu zY give get most hg hgt n _ _ (by omega) (k_ _) (Int.le_trans (Qo h2 hgt) h3) e x
  .cases he
theorem Xh (pu:Bool) (zY give get:Int) (hg:1<=give):∀ (n:Nat) (g t:Int),g<=zY+1->((xZ pu zY give get n g t).length:Int)<=zY+1-g
 | 0,g,t,h=>by simp[xZ];omega
 | n+1,g,t,h=>by
  unfold xZ;split
  .rw[zC0];by_cases hh:g+give<=zY+1
   .have:=Xh pu zY give get hg n (g+give) (yP (t-get)) hh;omega
   .have e:xZ pu zY give get n (g+give) (yP (t-get))=[]:=by
     cases n with
     | zero=>rfl
     | succ n=>unfold xZ;rw[if_neg (by omega)]
    rw[e];simp;omega
  .simp;omega
structure Wy where
 f:Nat
 t:Nat
 a:Int
 b:Int
structure Sl where
 p:Nat
 pu:Bool
 gv:Int
 gt:Int
structure zA where
 A:Int
 B:Int
 os:List Bool
 ws:List Wy
 ss:List Sl
structure zA.Ok (F:zA):Prop where
 a0:0<=F.A
 a1:F.A<=12
 b0:0<=F.B
 b1:F.B<=12
 n1:1<=F.os.length
 n8:F.os.length<=8
 ws:∀ w∈F.ws,w.f<F.os.length/\w.t<F.os.length
 pW:F.ws.length<=60
 ss:∀ s∈F.ss,1<=s.gv/\0<=s.gt
 sl:F.ss=[]\/(F.A+1)*(F.B+1)<64
 s8:F.ss.length<=60
noncomputable def zA.zY (F:zA) (pu:Bool):Int:=if pu=true then F.B else F.A
noncomputable def xo (F:zA) (s:Sl) (p:Int×Int):Bd:=xZ s.pu (F.zY s.pu) s.gv s.gt 100 (zZ s.pu p) (yB s.pu p)
noncomputable def px (F:zA) (s:Sl) (bd:Bd):Bd:=vo (bd.flatMap (xo F s))
def Nb (F:zA) (s:Sl) {b c:Bd}(h:yH b c):yH (px F s b) (px F s c):=ZA λ p hp=>by
 obtain⟨x,hx,hp⟩:=List.mem_flatMap.mp hp;obtain⟨r,hr,r1,r2⟩:=h.at hx;obtain⟨e,he,e1⟩:=Xg s.pu (F.zY s.pu) s.gv s.gt 100 (zZ s.pu x) (yB s.pu x) (zZ s.pu r) (yB s.pu r) (by unfold zZ;split <;> assumption) (by unfold yB;split <;> assumption) p hp;exact⟨e,List.mem_flatMap.mpr ⟨r,hr,he⟩,e1⟩
def Na {F:zA}{s:Sl}(hs:1<=s.gv/\0<=s.gt) {p:Int×Int}(hp:(0<=p.1/\p.1<=F.A)/\0<=p.2/\p.2<=F.B):∀ e∈xo F s p,(0<=e.1/\e.1<=F.A)/\0<=e.2/\e.2<=F.B:=λ e he=>by
 obtain⟨p,pu,gv,gt⟩:=s;unfold xo zA.zY at he;cases pu with
 | true=>exact (eU true F.B gv gt F.A hs.1 hs.2 100 _ _ hp.2.1 hp.1.1 hp.1.2 e he).symm
 | false=>exact eU false F.A gv gt F.B hs.1 hs.2 100 _ _ hp.1.1 hp.2.1 hp.2.2 e he
def Nc {F:zA}{s:Sl}(hs:1<=s.gv/\0<=s.gt) {b:Bd}(h:Gd F.A F.B b):Gd F.A F.B (px F s b):=Gd.least λ p hp=>by
 obtain⟨x,hx,hp⟩:=List.mem_flatMap.mp hp;exact Na hs (h.xS x hx) p hp
noncomputable def x_ (F:zA) (last:List Bd) (p:Nat):List Bd:=(F.ws.filter λ w=>decide (w.f=p)).map λ w=>qt F.A F.B w.a w.b (last.getD w.t [])
noncomputable def zA.stall (F:zA) (p:Nat):Option Sl:=F.ss.find? λ s=>decide (s.p=p)
noncomputable def y9 (F:zA) (last:List Bd) (p:Nat):Bd:=
 if F.os.getD p false=true then match F.stall p with
  | none=>uF (x_ F last p)
  | some s=>px F s (uF (x_ F last p))
 else o_ (x_ F last p)
def j8 (F:zA) (last:List Bd) (p:Nat):∀ c∈x_ F last p,Gd F.A F.B c:=λ c hc=>by
 obtain⟨w,_,rfl⟩:=zB0.mp hc;exact NP ..
def fw {F:zA}(ok:F.Ok) (last:List Bd) (p:Nat):Gd F.A F.B (y9 F last p):=by
 unfold y9;have h1:Gd F.A F.B (uF (x_ F last p)):=mP _ _ Gd.nil (j8 F last p);split
 .split
  .exact h1
  .rename_i s e;exact Nc (ok.ss s (List.mem_of_find?_eq_some e)) h1
 .exact e_ _ _ (Gd.xw ok.a0 ok.b0) (j8 F last p)
def Zu (F:zA) {l m:List Bd}(p:Nat) (h:∀ w∈F.ws,w.f=p->yH (l.getD w.t []) (m.getD w.t [])):yH (y9 F l p) (y9 F m p):=by
 have h1:yH (uF (x_ F l p)) (uF (x_ F m p)):=λ q hq=>by
  unfold uF at hq ⊢;rw[eI] at hq ⊢;rcases hq with x | ⟨c,hc,x⟩
  .exact .inl x
  .obtain⟨w,hw,rfl⟩:=zB0.mp hc;obtain⟨w1,w2⟩:=zC8.mp hw;exact .inr ⟨_,zB0.mpr ⟨w,hw,rfl⟩,Xz _ _ _ _ (h w w1 (by simpa using w2)) q x⟩
 unfold y9;split
 .split
  .exact h1
  .exact Nb F _ h1
 .intro q hq;unfold o_ at hq ⊢;rw[da] at hq ⊢;refine⟨hq.1,λ c hc=>?_⟩;obtain⟨w,hw,rfl⟩:=zB0.mp hc;obtain⟨w1,w2⟩:=zC8.mp hw;exact Xz _ _ _ _ (h w w1 (by simpa using w2)) q (hq.2 _ (zB0.mpr ⟨w,hw,rfl⟩))
def Ql (F:zA) {l m:List Bd}(p:Nat) (h:∀ w∈F.ws,w.f=p->l.getD w.t []=m.getD w.t []):y9 F l p=y9 F m p:=by
 have:x_ F l p=x_ F m p:=by
  unfold x_;refine List.map_congr_left λ w hw=>?_;obtain⟨w1,w2⟩:=zC8.mp hw;rw[h w w1 (by simpa using w2)]
 unfold y9;rw[this]
noncomputable def box:List (Int×Int):=(List.range 13).flatMap λ(i:Nat)=>(List.range 13).map λ(j:Nat)=>((i:Int),(j:Int))
noncomputable def mu (b:Bd):Nat:=box.countP (zK b)
def N7 {p:Int×Int}(h:(0<=p.1/\p.1<=12)/\0<=p.2/\p.2<=12):p∈box:=by
 obtain⟨x,y⟩:=p;dsimp only at h;refine List.mem_flatMap.mpr ⟨x.toNat,zC1.mpr (by omega),zB0.mpr ⟨y.toNat,zC1.mpr (by omega),?_⟩⟩;rw[zF2 h.1.1,zF2 h.2.1]
theorem YZ {α:Type}{p q:α->Bool}:∀ {l:List α},(∀ x,q x=true->p x=true)->(∃ x∈l,p x=true/\q x=false)->l.countP q<l.countP p
 | [],_,⟨x,hx,_⟩=>by cases hx
 | a::l,h,⟨x,hx,h1,h2⟩=>by
  have hle:l.countP q<=l.countP p:=List.countP_mono_left λ y _=>h y;rw[List.countP_cons,List.countP_cons];rcases zA5.mp hx with e | e
  .subst e;rw[if_neg (by rw[h2];decide),if_pos h1];omega
  .have:=YZ h ⟨x,e,h1,h2⟩;by_cases c:q a=true
   .rw[if_pos c,if_pos (h a c)];omega
   .rw[if_neg c];split <;> omega
def Qr {A B:Int}(hA:A<=12) (hB:B<=12) {b c:Bd}(hb:Gd A B b) (hc:Gd A B c) (h:yH b c) (hne:b≠c):mu b<mu c:=by
 refine YZ h ?_;by_cases x:∃ p∈c,zK b p=false
 .obtain⟨p,hp,e⟩:=x;have q:=hc.xS p hp;exact⟨p,N7 ⟨⟨q.1.1,by omega⟩,q.2.1,by omega⟩,yE.mpr ⟨p,hp,zC6 _,zC6 _⟩,e⟩
 .exact absurd (hb.eq hc h (yH.of λ p hp=>by
   cases e:zK b p with
   | true=>exact yE.mp e
   | false=>exact absurd ⟨p,hp,e⟩ x)) hne
def Qs (b:Bd):mu b<=169:=by
 have:box.length=169:=by decide
 rw[<- this];exact List.countP_le_length
noncomputable def vS (l:List Bd):Nat:=(l.map mu).sum
theorem Zw:∀ (l:List Bd),vS l<=169*l.length
 | []=>by simp[vS]
 | b::l=>by
  have h1:=Zw l;have h2:=Qs b;unfold vS at h1 ⊢;rw[zA6,List.sum_cons,zC0];omega
theorem f9 {A B:Int}(hA:A<=12) (hB:B<=12):∀ {l m:List Bd},l.length=m.length->(∀ b∈l,Gd A B b)->(∀ b∈m,Gd A B b)->(∀ i,yH (l.getD i []) (m.getD i []))->l≠m->vS l<vS m
 | [],[],_,_,_,_,h=>absurd rfl h
 | [],_::_,h,_,_,_,_=>by simp at h
 | _::_,[],h,_,_,_,_=>by simp at h
 | b::l,c::m,hl,gb,gc,h,hne=>by
  have hl':l.length=m.length:=by simpa using hl
  have h0:yH b c:=h 0;have hs:∀ i,yH (l.getD i []) (m.getD i []):=λ i=>by simpa using h (i+1)
  have key:vS l<=vS m:=by
   by_cases e:l=m
   .rw[e];exact zA4 _
   .exact zE3 (f9 hA hB hl' (λ x hx=>gb x (zMo _ hx)) (λ x hx=>gc x (zMo _ hx)) hs e)
  show (List.map mu (b::l)).sum<(List.map mu (c::m)).sum;rw[zA6,List.sum_cons,zA6,List.sum_cons];by_cases e:b=c
  .subst e;have:l≠m:=λ q=>hne (by rw[q]);have:=f9 hA hB hl' (λ x hx=>gb x (zMo _ hx)) (λ x hx=>gc x (zMo _ hx)) hs this;unfold vS at this;omega
  .have:=Qr hA hB (gb b zMc) (gc c zMc) h0 e;unfold vS at key;omega
noncomputable def uS (F:zA) (fresh:List Nat) (p:Nat):Bool:=F.ws.any λ w=>decide (w.f=p)&&fresh.contains w.t
noncomputable def yj (F:zA) (last:List Bd) (fresh:List Nat):List Bd:=(List.range last.length).map λ p=>if uS F fresh p=true then y9 F last p else last.getD p []
noncomputable def xN (last following:List Bd):List Nat:=(List.range following.length).filter λ p=>decide (following.getD p []≠last.getD p [])
noncomputable def rL (F:zA):Nat->List (List Bd)->List Bd->List Nat->Option (List (List Bd))
 | 0,_,_,_=>none
 | n+1,told,last,fresh=>if fresh=[] then some (told++[last]) else
   let fo:=yj F last fresh
   let fr:=xN last fo
   if fr=[] then some (told++[last]) else rL F n (told++[last]) fo fr
structure St (F:zA) (last:List Bd) (fresh:List Nat):Prop where
 len:last.length=F.os.length
 gd:∀ b∈last,Gd F.A F.B b
 fr:∀ p<F.os.length,uS F fresh p=false->(∃ w∈F.ws,w.f=p)->y9 F last p=last.getD p []
 le:∀ p<F.os.length,(∃ w∈F.ws,w.f=p)->yH (y9 F last p) (last.getD p [])
def oP {α:Type}(f:Nat->α) (n p:Nat) (d:α) (h:p<n):((List.range n).map f).getD p d=f p:=by
 rw[zB1,zA3,List.getElem?_range h];rfl
def rX (F:zA) (last:List Bd) (fresh:List Nat):(yj F last fresh).length=last.length:=by unfold yj;simp
def St.at {F:zA}{last:List Bd}{fresh:List Nat}(s:St F last fresh) {p:Nat}(hp:p<F.os.length) (hw:∃ w∈F.ws,w.f=p):(yj F last fresh).getD p []=y9 F last p:=by
 unfold yj;rw[oP _ _ _ _ (by rw[s.len];exact hp)];split
 .rfl
 .rename_i h;exact (s.fr p hp (by simpa using h) hw).symm
def Pp {F:zA}{fresh:List Nat}{p:Nat}(h:uS F fresh p=true):∃ w∈F.ws,w.f=p:=by
 unfold uS at h;obtain⟨w,h1,h2⟩:=zD0.mp h;exact⟨w,h1,by simp at h2;exact h2.1⟩
def St.no {F:zA}{last:List Bd}{fresh:List Nat}(s:St F last fresh) {p:Nat}(hp:p<F.os.length) (hw:¬ ∃ w∈F.ws,w.f=p):(yj F last fresh).getD p []=last.getD p []:=by
 unfold yj;rw[oP _ _ _ _ (by rw[s.len];exact hp),if_neg (λ h=>hw (Pp h))]
def St.Xd {F:zA}{last:List Bd}{fresh:List Nat}(s:St F last fresh) (p:Nat):yH ((yj F last fresh).getD p []) (last.getD p []):=by
 by_cases hp:p<F.os.length
 .by_cases hw:∃ w∈F.ws,w.f=p
  .rw[s.at hp hw];exact s.le p hp hw
  .rw[s.no hp hw];exact yH.refl _
 .have h1:(yj F last fresh).getD p []=[]:=by
   rw[zB1,List.getElem?_eq_none (by rw[rX,s.len];omega)];rfl
  rw[h1];intro q x;cases x
def St.next {F:zA}(ok:F.Ok) {last:List Bd}{fresh:List Nat}(s:St F last fresh):St F (yj F last fresh) (xN last (yj F last fresh)) where
 len:=by rw[rX,s.len]
 gd:=λ b hb=>by
  unfold yj at hb;obtain⟨p,hp,rfl⟩:=zB0.mp hb;split
  .exact fw ok last p
  .have hlt:=zC1.mp hp;rw[zB1,zA1 hlt];exact s.gd _ (zD8 hlt)
 fr:=λ p hp hn hw=>by
  rw[s.at hp hw];refine Ql F p λ w w1 w2=>?_;have hwt:=(ok.ws w w1).2;by_cases e:(yj F last fresh).getD w.t []=last.getD w.t []
  .exact e
  .have:uS F (xN last (yj F last fresh)) p=true:=by
    unfold uS;refine zD0.mpr ⟨w,w1,?_⟩;have:w.t∈xN last (yj F last fresh):=by
     unfold xN;exact zC8.mpr ⟨zC1.mpr (by rw[rX,s.len];exact hwt),by simpa using e⟩
    simp[w2,this]
   rw[this] at hn;cases hn
 le:=λ p hp hw=>by
  rw[s.at hp hw];exact Zu F p λ w w1 w2=>s.Xd w.t
def Yq {last fo:List Bd}(hl:fo.length=last.length) (h:xN last fo≠[]):fo≠last:=λ e=>h (by
 subst e;unfold xN;simp)
noncomputable def start (F:zA):List Bd:=List.replicate F.os.length xw
theorem St.start {F:zA}(ok:F.Ok):St F (start F) (List.range F.os.length) where
 len:=by unfold RN.start;simp
 gd:=λ b hb=>by rw[List.eq_of_mem_replicate hb];exact Gd.xw ok.a0 ok.b0
 fr:=λ p hp hn ⟨w,w1,w2⟩=>by
  have:uS F (List.range F.os.length) p=true:=by
   unfold uS;refine zD0.mpr ⟨w,w1,?_⟩;have:=(ok.ws w w1).2;simp[w2,this]
  rw[this] at hn;cases hn
 le:=λ p hp hw=>by
  have e:(RN.start F).getD p []=xw:=by
   unfold RN.start;rw[zB1,List.getElem?_replicate,if_pos hp];rfl
  rw[e];exact (fw ok _ p).ZE
theorem bX {F:zA}(ok:F.Ok):∀ (n:Nat) (told:List (List Bd)) (last:List Bd) (fresh:List Nat),St F last fresh->vS last<n->
  ∃ more last',rL F n told last fresh=some (told++last::more)/\(∀ r∈last::more,r.length=F.os.length/\∀ b∈r,Gd F.A F.B b)/\(last::more).getLast?=some last'/\more.length<=vS last
 | 0,_,_,_,_,h=>by omega
 | n+1,told,last,fresh,s,h=>by
  unfold rL;split
  .exact⟨[],last,rfl,λ r hr=>by cases zB6.mp hr;exact⟨s.len,s.gd⟩,rfl,zD4 _⟩
  .dsimp only;split
   .exact⟨[],last,rfl,λ r hr=>by cases zB6.mp hr;exact⟨s.len,s.gd⟩,rfl,zD4 _⟩
   .rename_i hf;have s':=s.next ok;have hlt:vS (yj F last fresh)<vS last:=f9 ok.a1 ok.b1 (rX ..) s'.gd s.gd s.Xd (Yq (rX ..) hf);obtain⟨more,last',e1,e2,e3,e4⟩:=bX ok n (told++[last]) _ _ s' (by omega);refine⟨yj F last fresh::more,last',by rw[e1];simp,λ r hr=>?_,by rw[List.getLast?_cons_cons];exact e3,by rw[zC0];omega⟩;rcases zA5.mp hr with e | e
    .subst e;exact⟨s.len,s.gd⟩
    .exact e2 r e
def NQ {A B a b:Int}{bd:Bd}(h0:∀ p∈bd,0<=p.1/\0<=p.2) {q:Int×Int}(hq:(0<=q.1/\q.1<=A)/\0<=q.2/\q.2<=B):zK (qt A B a b bd) q=true↔zK bd (q.1+a,q.2+b)=true:=by
 unfold qt;rw[oE,yE,yE];constructor
 .rintro⟨p,hp,h1,h2⟩;obtain⟨hp,_⟩:=zC8.mp hp;obtain⟨r,hr,rfl⟩:=zB0.mp hp;refine⟨r,hr,?_,?_⟩
  .unfold xu yP at h1;dsimp only at h1 ⊢;split at h1 <;> omega
  .unfold xu yP at h2;dsimp only at h2 ⊢;split at h2 <;> omega
 .rintro⟨r,hr,h1,h2⟩;dsimp only at h1 h2;have e1:(xu a b r).1<=q.1:=by unfold xu yP;dsimp only;split <;> omega
  have e2:(xu a b r).2<=q.2:=by unfold xu yP;dsimp only;split <;> omega
  refine⟨xu a b r,zC8.mpr ⟨zB0.mpr ⟨r,hr,rfl⟩,?_⟩,e1,e2⟩;unfold vC;rw[decide_eq_true (by omega),decide_eq_true (by omega)];rfl
theorem eV (pu:Bool) (zY give get:Int) (hg:1<=give) (hgt:0<=get):∀ (n:Nat) (g t:Int),0<=t->zY-g<n->∀ (G T:Int),G<=zY->
  ((∃ e∈xZ pu zY give get n g t,zZ pu e<=G/\yB pu e<=T)↔∃ k:Nat,g+k*give<=G/\yP (t-k*get)<=T)
 | 0,g,t,ht,hn,G,T,hG=>by
  constructor
  .rintro⟨e,he,_⟩;cases he
  .rintro⟨k,h1,_⟩;exfalso;have:0<=(k:Int)*give:=Int.mul_nonneg (by omega) (by omega);omega
 | n+1,g,t,ht,hn,G,T,hG=>by
  have gv:∀ x y,zZ pu (xl pu x y)=x:=λ x y=>by cases pu <;> rfl
  have gt:∀ x y,yB pu (xl pu x y)=y:=λ x y=>by cases pu <;> rfl
  have ih:=eV pu zY give get hg hgt n (g+give) (yP (t-get)) (k_ _) (by omega) G T hG;have mm:∀ k:Nat,yP (yP (t-get)-k*get)=yP (t-(k+1:Nat)*get):=λ k=>by
   have:0<=(k:Int)*get:=Int.mul_nonneg (by omega) hgt;have e:((k+1:Nat):Int)*get=k*get+get:=by rw[Int.natCast_succ,Int.add_mul];omega
   rw[e];unfold yP;split <;> split <;> (try split) <;> omega
  have gg:∀ k:Nat,g+give+k*give=g+(k+1:Nat)*give:=λ k=>by
   rw[Int.natCast_succ,Int.add_mul];omega
  unfold xZ;split
  .rename_i hgb;constructor
   .rintro⟨e,he,h1,h2⟩;rcases zA5.mp he with rfl | he
    .rw[gv] at h1;rw[gt] at h2;refine⟨0,by simpa using h1,?_⟩;unfold yP;split <;> simp at * <;> omega
    .obtain⟨k,k1,k2⟩:=ih.mp ⟨e,he,h1,h2⟩;exact⟨k+1,by rw[<- gg];exact k1,by rw[<- mm];exact k2⟩
   .rintro⟨k,k1,k2⟩;cases k with
    | zero=>
     refine⟨_,zMc,by rw[gv];simpa using k1,?_⟩;rw[gt];unfold yP at k2;split at k2 <;> simp at * <;> omega
    | succ k=>
     obtain⟨e,he,h1⟩:=ih.mpr ⟨k,by rw[gg];exact k1,by rw[mm];exact k2⟩;exact⟨e,zMo _ he,h1⟩
  .rename_i hgb;constructor
   .rintro⟨e,he,_⟩;cases he
   .rintro⟨k,h1,_⟩;exfalso;have:0<=(k:Int)*give:=Int.mul_nonneg (by omega) (by omega);omega
def sO {pu:Bool}{p q:Int×Int}:(p.1<=q.1/\p.2<=q.2)↔zZ pu p<=zZ pu q/\yB pu p<=yB pu q:=by
 cases pu
 .exact Iff.rfl
 .exact And.comm
def Nd {F:zA}{s:Sl}(hs:1<=s.gv/\0<=s.gt) (hA:F.A<=12) (hB:F.B<=12) {b:Bd}(hb:∀ p∈b,0<=p.1/\0<=p.2) {q:Int×Int}(hq:(0<=q.1/\q.1<=F.A)/\0<=q.2/\q.2<=F.B):
  zK (px F s b) q=true↔∃ k:Nat,zK b (xl s.pu (zZ s.pu q-k*s.gv) (yB s.pu q+k*s.gt))=true:=by
 have hbr:F.zY s.pu<=12:=by unfold zA.zY;split <;> assumption
 have hqb:zZ s.pu q<=F.zY s.pu:=by unfold zZ zA.zY;split <;> omega
 have hq0:0<=zZ s.pu q/\0<=yB s.pu q:=by unfold zZ yB;split <;> omega
 have gv:∀ x y,zZ s.pu (xl s.pu x y)=x:=λ x y=>by cases s.pu <;> rfl
 have gt:∀ x y,yB s.pu (xl s.pu x y)=y:=λ x y=>by cases s.pu <;> rfl
 unfold px;rw[oE,yE];constructor
 .rintro⟨e,he,h12⟩;obtain⟨p,hp,he⟩:=List.mem_flatMap.mp he;obtain⟨h1,h2⟩:=sO (pu:=s.pu).mp h12;have p0:=hb p hp;have g0:0<=zZ s.pu p/\0<=yB s.pu p:=by unfold zZ yB;split <;> omega
  obtain⟨k,k1,k2⟩:=(eV s.pu (F.zY s.pu) s.gv s.gt hs.1 hs.2 100 _ _ g0.2 (by omega) _ _ hqb).mp ⟨e,he,h1,h2⟩;refine⟨k,yE.mpr ⟨p,hp,sO (pu:=s.pu).mpr ⟨by rw[gv];omega,?_⟩⟩⟩;rw[gt];unfold yP at k2;split at k2 <;> omega
 .rintro⟨k,hk⟩;obtain⟨p,hp,h12⟩:=yE.mp hk;obtain⟨h1,h2⟩:=sO (pu:=s.pu).mp h12;rw[gv] at h1;rw[gt] at h2;have p0:=hb p hp;have g0:0<=zZ s.pu p/\0<=yB s.pu p:=by unfold zZ yB;split <;> omega
  obtain⟨e,he,h3⟩:=(eV s.pu (F.zY s.pu) s.gv s.gt hs.1 hs.2 100 (zZ s.pu p) (yB s.pu p) g0.2 (by omega) (zZ s.pu q) (yB s.pu q) hqb).mpr ⟨k,by omega,by unfold yP;split <;> omega⟩;exact⟨e,List.mem_flatMap.mpr ⟨p,hp,he⟩,sO (pu:=s.pu).mpr h3⟩
noncomputable def zC (F:zA):Nat->List Bd
 | 0=>start F
 | k+1=>(List.range F.os.length).map λ p=>y9 F (zC F k) p
theorem u6 (F:zA):∀ k,(zC F k).length=F.os.length
 | 0=>by unfold zC start;simp
 | k+1=>by unfold zC;simp
def Qk {F:zA}{last:List Bd}{fresh:List Nat}(s:St F last fresh) (hw:∀ p<F.os.length,∃ w∈F.ws,w.f=p):yj F last fresh=(List.range F.os.length).map λ p=>y9 F last p:=by
 refine List.ext_getElem (by rw[rX,s.len];simp) λ i h1 h2=>?_;have hi:i<F.os.length:=by simpa using h2
 have e:=s.at hi (hw i hi);rw[zB1,zA1 h1] at e;simpa using e
def PR {last fo:List Bd}(hl:fo.length=last.length) (h:xN last fo=[]):fo=last:=by
 refine List.ext_getElem hl λ i h1 h2=>?_;have:i∉xN last fo:=by rw[h];simp
 unfold xN at this;rw[zC8] at this;have e:fo.getD i []=last.getD i []:=Classical.byContradiction λ hne=>this ⟨zC1.mpr h1,by simpa using hne⟩;rw[zB1,zA1 h1,zB1,zA1 h2] at e;simpa using e
def xV (F:zA) (q:Int×Int):Prop:=(0<=q.1/\q.1<=F.A)/\0<=q.2/\q.2<=F.B
noncomputable def rF (F:zA) (q:Int×Int) (w:Wy):Option (Int×Int):=if q.1+w.a<0\/q.2+w.b<0 then none else some (min (q.1+w.a) F.A,min (q.2+w.b) F.B)
noncomputable def wC (F:zA) (last:List Bd) (q:Int×Int) (w:Wy):Bool:=match rF F q w with
 | none=>false
 | some r=>zK (last.getD w.t []) r
noncomputable def xC (F:zA) (p:Nat):List Wy:=F.ws.filter λ w=>decide (w.f=p)
noncomputable def uH (F:zA) (s:Sl):Nat->Int×Int->List (Int×Int)
 | 0,q=>[q]
 | n+1,q=>q::if s.gv<=zZ s.pu q then uH F s n (xl s.pu (zZ s.pu q-s.gv) (min (yB s.pu q+s.gt) (F.zY (!s.pu)))) else []
noncomputable def qo (F:zA) (p:Nat) (q:Int×Int):List (Int×Int):=match F.stall p with
 | none=>[q]
 | some s=>uH F s 20 q
noncomputable def qe (F:zA) (last:List Bd) (p:Nat) (q:Int×Int):Bool:=
 if F.os.getD p false=true then (qo F p q).any λ r=>(xC F p).any (wC F last r) else (xC F p).all (wC F last q)
def OP {A B:Int}{b:Bd}(hb:Gd A B b) (x y:Int):zK b (min x A,min y B)=zK b (x,y):=by
 rw[zC7,yE,yE];constructor
 .rintro⟨p,hp,h1,h2⟩;dsimp only at h1 h2;exact⟨p,hp,by dsimp only;omega,by dsimp only;omega⟩
 .rintro⟨p,hp,h1,h2⟩;have:=hb.xS p hp;dsimp only at h1 h2;exact⟨p,hp,by dsimp only;omega,by dsimp only;omega⟩
def QB {F:zA}{last:List Bd}{w:Wy}(hb:Gd F.A F.B (last.getD w.t [])) (q:Int×Int):wC F last q w=zK (last.getD w.t []) (q.1+w.a,q.2+w.b):=by
 unfold wC rF;by_cases h:q.1+w.a<0\/q.2+w.b<0
 .rw[if_pos h]
  symm
  rw[<- zE9,yE];rintro⟨p,hp,h1,h2⟩;have:=hb.xS p hp;dsimp only at h1 h2;omega
 .rw[if_neg h];exact OP hb _ _
def jf {F:zA}{last:List Bd}{w:Wy}(hb:Gd F.A F.B (last.getD w.t [])) {q:Int×Int}(hq:xV F q):zK (qt F.A F.B w.a w.b (last.getD w.t [])) q=wC F last q w:=by
 rw[QB hb,zC7];exact NQ (λ p hp=>⟨(hb.xS p hp).1.1,(hb.xS p hp).2.1⟩) hq
def eG {F:zA}{last:List Bd}(hg:∀ p,Gd F.A F.B (last.getD p [])) {p:Nat}{q:Int×Int}(hq:xV F q):zK (uF (x_ F last p)) q=(xC F p).any (wC F last q):=by
 rw[zC7,uF,eI,zD0];constructor
 .rintro (h | ⟨c,hc,h⟩)
  .cases h
  .unfold x_ at hc;obtain⟨w,hw,rfl⟩:=zB0.mp hc;exact⟨w,hw,by rw[<- jf (hg w.t) hq];exact h⟩
 .rintro⟨w,hw,h⟩;exact .inr ⟨_,zB0.mpr ⟨w,hw,rfl⟩,by rw[jf (hg w.t) hq];exact h⟩
def N8 {F:zA}{last:List Bd}(hg:∀ p,Gd F.A F.B (last.getD p [])) {p:Nat}{q:Int×Int}(hq:xV F q):zK (o_ (x_ F last p)) q=(xC F p).all (wC F last q):=by
 rw[zC7,o_,da,zE4];constructor
 .rintro⟨_,h⟩ w hw;rw[<- jf (hg w.t) hq];exact h _ (zB0.mpr ⟨w,hw,rfl⟩)
 .intro h;refine⟨OT.mpr ⟨hq.1.1,hq.2.1⟩,λ c hc=>?_⟩;unfold x_ at hc;obtain⟨w,hw,rfl⟩:=zB0.mp hc;rw[jf (hg w.t) hq];exact h w hw
def uT (pu:Bool) (x y:Int):zZ pu (xl pu x y)=x:=by cases pu <;> rfl
def qc (pu:Bool) (x y:Int):yB pu (xl pu x y)=y:=by cases pu <;> rfl
def kJ (pu:Bool) (q:Int×Int):xl pu (zZ pu q) (yB pu q)=q:=by cases pu <;> rfl
def u9 {F:zA}{pu:Bool}{q:Int×Int}:xV F q↔(0<=zZ pu q/\zZ pu q<=F.zY pu)/\0<=yB pu q/\yB pu q<=F.zY (!pu):=by
 unfold xV zA.zY;cases pu
 .exact Iff.rfl
 .exact And.comm
theorem eT {F:zA}{s:Sl}(hs:1<=s.gv/\0<=s.gt):∀ (n:Nat) {q:Int×Int},xV F q->∀ r∈uH F s n q,xV F r
 | 0,q,h,r,hr=>by cases zB6.mp hr;exact h
 | n+1,q,h,r,hr=>by
  unfold uH at hr;rcases zA5.mp hr with rfl | hr
  .exact h
  .split at hr
   .rename_i hg;refine eT hs n ?_ r hr;have h':=u9 (pu:=s.pu).mp h;rw[u9 (pu:=s.pu),uT,qc];omega
   .cases hr
theorem Xf {F:zA}{s:Sl}(hs:1<=s.gv/\0<=s.gt) {b:Bd}(hb:Gd F.A F.B b):∀ (n:Nat) {q:Int×Int},xV F q->zZ s.pu q<n->
  ((∃ k:Nat,zK b (xl s.pu (zZ s.pu q-k*s.gv) (yB s.pu q+k*s.gt))=true)↔(uH F s n q).any (zK b)=true)
 | 0,q,h,hn=>by
  have:=(u9 (pu:=s.pu).mp h).1.1;omega
 | n+1,q,h,hn=>by
  have h':=u9 (pu:=s.pu).mp h;have cut:∀ x y,zK b (xl s.pu x y)=zK b (xl s.pu x (min y (F.zY (!s.pu)))):=λ x y=>by
   rw[zC7,yE,yE];constructor
   .rintro⟨p,hp,h1⟩;have h2:=sO (pu:=s.pu).mp h1;have h3:=u9 (pu:=s.pu).mp (show xV F p from hb.xS p hp);rw[uT,qc] at h2;exact⟨p,hp,sO (pu:=s.pu).mpr (by rw[uT,qc];omega)⟩
   .rintro⟨p,hp,h1⟩;have h2:=sO (pu:=s.pu).mp h1;rw[uT,qc] at h2;exact⟨p,hp,sO (pu:=s.pu).mpr (by rw[uT,qc];omega)⟩
  unfold uH;rw[List.any_cons,Bool.or_eq_true];by_cases hg:s.gv<=zZ s.pu q
  .rw[if_pos hg];have hi:xV F (xl s.pu (zZ s.pu q-s.gv) (min (yB s.pu q+s.gt) (F.zY (!s.pu)))):=by
    rw[u9 (pu:=s.pu),uT,qc];omega
   have ih:=Xf hs hb n hi (by rw[uT];omega);rw[uT,qc] at ih;have sh:∀ k:Nat,zK b (xl s.pu (zZ s.pu q-s.gv-k*s.gv) (min (yB s.pu q+s.gt) (F.zY (!s.pu))+k*s.gt))=zK b (xl s.pu (zZ s.pu q-(k+1:Nat)*s.gv) (yB s.pu q+(k+1:Nat)*s.gt)):=λ k=>by
    have e1:((k+1:Nat):Int)*s.gv=k*s.gv+s.gv:=by rw[Int.natCast_succ,Int.add_mul];omega
    have e2:((k+1:Nat):Int)*s.gt=k*s.gt+s.gt:=by rw[Int.natCast_succ,Int.add_mul];omega
    have k0:0<=(k:Int)*s.gt:=Int.mul_nonneg (by omega) hs.2;rw[e1,e2,cut,cut (zZ s.pu q-(k*s.gv+s.gv))];congr 2
    .omega
    .omega
   rw[<- ih];constructor
   .rintro⟨k,hk⟩;cases k with
    | zero=>exact .inl (by simpa [kJ] using hk)
    | succ k=>exact .inr ⟨k,by rw[sh];exact hk⟩
   .rintro (hk | ⟨k,hk⟩)
    .exact⟨0,by simpa [kJ] using hk⟩
    .exact⟨k+1,by rw[<- sh];exact hk⟩
  .rw[if_neg hg];constructor
   .rintro⟨k,hk⟩;cases k with
    | zero=>exact .inl (by simpa [kJ] using hk)
    | succ k=>
     exfalso;obtain⟨p,hp,h1⟩:=yE.mp hk;have h2:=sO (pu:=s.pu).mp h1;have h3:=u9 (pu:=s.pu).mp (show xV F p from hb.xS p hp);rw[uT] at h2;have e1:((k+1:Nat):Int)*s.gv=k*s.gv+s.gv:=by rw[Int.natCast_succ,Int.add_mul];omega
     have k0:0<=(k:Int)*s.gv:=Int.mul_nonneg (by omega) (by omega);rw[e1] at h2;omega
   .rintro (hk | hk)
    .exact⟨0,by simpa [kJ] using hk⟩
    .cases hk
def Qj {F:zA}(ok:F.Ok) {last:List Bd}(hg:∀ p,Gd F.A F.B (last.getD p [])) (p:Nat) {q:Int×Int}(hq:xV F q):zK (y9 F last p) q=qe F last p q:=by
 have ge:Gd F.A F.B (uF (x_ F last p)):=mP _ _ Gd.nil (j8 F last p);unfold y9 qe qo;by_cases ho:F.os.getD p false=true
 .rw[if_pos ho,if_pos ho];cases hs:F.stall p with
  | none=>simp only[List.any_cons,List.any_nil,Bool.or_false];exact eG hg hq
  | some s=>
   have hs':=ok.ss s (List.mem_of_find?_eq_some hs);have hgv:zZ s.pu q<20:=by
    have:=u9 (pu:=s.pu).mp hq;have:F.zY s.pu<=12:=by have:=ok.a1;have:=ok.b1;unfold zA.zY;split <;> assumption
    omega
   rw[zC7];dsimp only;rw[Nd hs' ok.a1 ok.b1 (λ p hp=>⟨(ge.xS p hp).1.1,(ge.xS p hp).2.1⟩) hq,Xf hs' ge 20 hq (by omega),zD0,zD0];constructor
   .rintro⟨r,hr,h⟩;exact⟨r,hr,by rw[<- eG hg (eT hs' 20 hq r hr)];exact h⟩
   .rintro⟨r,hr,h⟩;exact⟨r,hr,by rw[eG hg (eT hs' 20 hq r hr)];exact h⟩
 .rw[if_neg ho,if_neg ho];exact N8 hg hq
theorem fR {F:zA}(ok:F.Ok):∀ (k p:Nat),p<F.os.length->yH ((zC F (k+1)).getD p []) ((zC F k).getD p [])
 | 0,p,hp=>by
  have e1:(zC F 1).getD p []=y9 F (zC F 0) p:=oP (λ p=>y9 F (zC F 0) p) F.os.length p [] hp;have e0:(zC F 0).getD p []=xw:=by
   show (start F).getD p []=xw;unfold start;rw[zB1,List.getElem?_replicate,if_pos hp];rfl
  rw[e1,e0];exact (fw ok _ p).ZE
 | k+1,p,hp=>by
  have e1:(zC F (k+1+1)).getD p []=y9 F (zC F (k+1)) p:=oP (λ p=>y9 F (zC F (k+1)) p) F.os.length p [] hp;have e0:(zC F (k+1)).getD p []=y9 F (zC F k) p:=oP (λ p=>y9 F (zC F k) p) F.os.length p [] hp;rw[e1,e0];exact Zu F p λ w hw _=>fR ok k w.t (ok.ws w hw).2
theorem ZM {F:zA}(ok:F.Ok) (k:Nat):∀ (d p:Nat),p<F.os.length->yH ((zC F (k+d)).getD p []) ((zC F k).getD p [])
 | 0,p,_=>yH.refl _
 | d+1,p,hp=>(fR ok (k+d) p hp).trans (ZM ok k d p hp)
def QW {F:zA}(ok:F.Ok) {m:Nat}(hg:∀ k,k<=m->∀ b∈zC F k,Gd F.A F.B b) (hne:∀ j<m,zC F (j+1)≠zC F j) {k:Nat}(hk:k<m):zC F k≠zC F m:=λ h=>hne k hk (by
 refine List.ext_getElem (by rw[u6,u6]) λ i h1 h2=>?_;have hi:i<F.os.length:=by rw[u6] at h2;exact h2
 have g1:=hg (k+1) (by omega) _ (zD8 h1);have g2:=hg k (by omega) _ (zD8 h2);have c1:=fR ok k i hi;have c2:=ZM ok (k+1) (m-(k+1)) i hi;rw[show k+1+(m-(k+1))=m by omega,<- h] at c2;rw[zB1,zA1 h1,zB1,zA1 h2] at c1;rw[zB1,zA1 h2,zB1,zA1 h1] at c2;exact Gd.eq g1 g2 c1 c2)
theorem bZ {F:zA}(ok:F.Ok) (hw:∀ p<F.os.length,∃ w∈F.ws,w.f=p):∀ (n:Nat) (told:List (List Bd)) (k:Nat) (fresh:List Nat) (res:List (List Bd)),St F (zC F k) fresh->fresh≠[]->told=(List.range k).map (zC F)->
  rL F n told (zC F k) fresh=some res->(∀ j<k,zC F (j+1)≠zC F j)->∃ m,res=(List.range (m+1)).map (zC F)/\zC F (m+1)=zC F m/\∀ j<m,zC F (j+1)≠zC F j
 | 0,_,_,_,_,_,_,_,h,_=>by cases h
 | n+1,told,k,fresh,res,s,hf,ht,h,hj=>by
  unfold rL at h;rw[if_neg hf] at h;dsimp only at h;have e:yj F (zC F k) fresh=zC F (k+1):=Qk s hw;have et:told++[zC F k]=(List.range (k+1)).map (zC F):=by rw[ht,List.range_succ,zE7];rfl
  rw[e,et] at h;split at h
  .rename_i hfr;cases h;exact⟨k,rfl,PR (by rw[u6,u6]) hfr,hj⟩
  .rename_i hfr;have s':=s.next ok;rw[e] at s';refine bZ ok hw n _ (k+1) _ res s' hfr rfl h λ j hjk=>?_;rcases Nat.lt_or_ge j k with q | q
   .exact hj j q
   .have:j=k:=by omega
    subst this;exact Yq (by rw[u6,u6]) hfr
end RN
namespace yt
open PySem L2 L3 L5
def cR:Sm:=
 (retS (nq (instS "int" (zc 0)) (fq (instS "bool" (zc 0)))))
def jQ:List T->Option T:=yc ["thing"] 1 cR
def c9:Sm:=
 (retS (zv xb (ze (zb zl (zc 0) (cS (.int 1))) zm)))
def pO:List T->Option T:=yc ["floor"] 1 c9
def cZ:Sm:=
 (retS (nq (zb uV (zb zl (zc 0) (cS (.int 0))) (zb zl (zc 1) (cS (.int 0)))) (zb uV (zb zl (zc 0) (cS (.int 1))) (zb zl (zc 1) (cS (.int 1))))))
def lY:List T->Option T:=yc ["pair","other"] 2 cZ
def nh:Sm:=
 (yA (vp (vq (xj (zc 1))) (zP (zb yQ (zb zl (zc 2) (cS (.int 1))) (zb zl (zb zl (zc 1) (uz (cS (.int 1)))) (cS (.int 1)))))) (uI 1 (zr 2)) y6)
def cD:Sm:=
 (zt (vJ 1 (xJ zm))
 (zt (xt [2] (yx (zv pX (ze (zc 0) zm))) (zy 2) nh)
 (retS (zv rC (ze (zc 1) zm)))))
def rh:List T->Option T:=yc ["pairs","least","pair"] 1 cD
def qq:Sm:=
 (zt (uI 4 (Yd (zP (zb (zG false) (zc 3) (cS (.int 0)))) (tupS (ze (zr 5) (ze (zr 6) zm))) (tupS (ze (zr 6) (ze (zr 5) zm)))))
 (zt (zU 5 (zb yR (zc 5) (zb zl (zc 1) (cS (.int 2)))))
 (zU 6 (zv mz (ze (cS (.int 0)) (ze (zb wz (zc 6) (zb zl (zc 1) (cS (.int 3)))) zm))))))
def cA:Sm:=
 (zt (zU 3 (zb zl (zc 1) (cS (.int 1))))
 (zt (vJ 4 (xJ zm))
 (zt (zU 5 (zb zl (zc 2) (zc 3)))
 (zt (zU 6 (zb zl (zc 2) (zb wz (cS (.int 1)) (zc 3))))
 (zt (qA 1000000 [] (zP (zb r_ (zc 5) (zb zl (zc 0) (zc 3)))) qq)
 (qK 4))))))
def lM:List T->Option T:=yc ["brims","stall","pair","purse","pairs","given","got"] 3 cA
def cM:Sm:=
 (zt (yA (zP (zb yQ (zc 1) (zv xb (ze (zc 0) zm)))) (retS (zb zX (zb zl (zc 0) (zc 1)) (zb a9 (cS (.int 10)) (cS (.int 40))))) y6)
 (retS (cS (.int 0))))
def xh:List T->Option T:=yc ["_law_script","_law_k"] 2 cM
def jU:Sm:=
 (zt (yA (zP (zb (zG false) (zb zX (zc 0) (cS (.int 5))) (cS (.int 1)))) (retS (zb wz (zb zX (zb xc (zc 0) (cS (.int 5))) (cS (.int 25))) (cS (.int 12)))) y6)
 (retS (zb wz (zb zX (zb zX (zb xc (zc 0) (cS (.int 5))) (cS (.int 25))) (cS (.int 7))) (cS (.int 3)))))
def rj:List T->Option T:=yc ["_law_number"] 1 jU
def cO:Sm:=
 (zt (zU 3 (zb yR (zb zl (zc 1) (cS (.int 0))) (zb zl (zc 2) (cS (.int 2)))))
 (zt (zU 4 (zb yR (zb zl (zc 1) (cS (.int 1))) (zb zl (zc 2) (cS (.int 3)))))
 (zt (yA (vp (zP (zb yQ (zc 3) (cS (.int 0)))) (zP (zb yQ (zc 4) (cS (.int 0))))) (retS (cS .zj)) y6)
 (retS (tupS (ze (zv qR (ze (zc 3) (ze (zb zl (zb zl (zc 0) (cS (.int 0))) (cS (.int 0))) zm))) (ze (zv qR (ze (zc 4) (ze (zb zl (zb zl (zc 0) (cS (.int 0))) (cS (.int 1))) zm))) zm)))))))
def rp:List T->Option T:=yc ["_law_floor_here","_law_pair","_law_way","_law_first","_law_second"] 3 cO
def pE:Sm:=
 (zt (vJ 8 (zv listS (ze (zb zl (zc 3) (uz (cS (.int 1)))) zm)))
 (zt (je 8 (zc 5) (zb wz (zb zl (zc 8) (zc 5)) (zc 6)))
 (zt (je 8 (zb wz (cS (.int 1)) (zc 5)) (zv qR (ze (zb yR (zb zl (zc 8) (zb wz (cS (.int 1)) (zc 5))) (zc 7)) (ze (zb zl (zb zl (zc 0) (cS (.int 0))) (zb wz (cS (.int 1)) (zc 5))) zm))))
 (uI 3 (zv rC (ze (zc 8) zm))))))
def pB:Sm:=
 (qA 1000000 [8] (vY (zP (zb (zG false) (zc 4) (zc 1))) (zP (zb uV (zb zl (zb zl (zc 3) (uz (cS (.int 1)))) (zc 5)) (zc 6)))) pE)
def cL:Sm:=
 (zt (vJ 3 (xJ (ze (zr 2) zm)))
 (zt (xt [4,5,6,7,8] (yx (zb zl (zc 0) (cS (.int 3)))) (wM 4 (yy (zy 4) (yy (zy 5) (yy (zy 6) (yy (zy 7) vn))))) pB)
 (qK 3)))
def lQ:List T->Option T:=yc ["_law_floor_here","_law_place","_law_pair","_law_found","_law_home","_law_purse","_law_give","_law_get","_law_coins_here"] 3 cL
def j7:Sm:=
 (yA (vY (zP (zb uV (zb zl (zc 1) (cS (.int 0))) (zc 2))) (zP (zb uV (zb zl (zc 1) (cS (.int 1))) (zc 3)))) (retS (cS (.bl true))) y6)
def cJ:Sm:=
 (zt (xt [2,3] (yx (zr 0)) (wM 2 (yy (zy 2) (yy (zy 3) vn))) j7)
 (retS (cS (.bl false))))
def t4:List T->Option T:=yc ["_law_border","_law_pair","_law_x","_law_y"] 2 cJ
def cE:Sm:=
 (retS (nq (instS "int" (zc 0)) (fq (instS "bool" (zc 0)))))
def ny:List T->Option T:=yc ["_law_found"] 1 cE
def j0:Ev->Option T:=
 xE [none,some 2] (wq uQ (ze (zb yR (zb zl (zb zl (zc 0) (cS (.int 0))) (cS (.int 1))) (cS (.int 1))) zm)) (zy 0) vZ (tupS (ze (zr 1) (ze (zr 0) zm)))
def j6:Sm:=
 (jv 1 j0)
def Wr:Sm:=
 (zt (vJ 1 (xJ zm))
 (zt (xt [2] (wq uQ (ze (zb yR (zb zl (zb zl (zc 0) (cS (.int 0))) (cS (.int 0))) (cS (.int 1))) zm)) (zy 2) j6)
 (qK 1)))
def lO:List T->Option T:=yc ["_law_floor_here","_law_found","_law_x"] 1 Wr
def cQ:Sm:=
 (retS (nq (zv jQ (ze (zr 0) zm)) (Xk r_ r_ (zc 1) (zc 0) (zc 2))))
def jP:List T->Option T:=yc ["thing","least","most"] 3 cQ
def eY:Ev->Option T:=
 xE [none] (yx (zc 0)) (zy 0) vZ (tupS (ze (zb zl (zc 0) (cS (.int 0))) (ze (cS (.int 0)) (ze (zb zl (zc 0) (cS (.int 1))) zm))))
def eX:Ev->Option T:=
 xE [none] (yx (zc 1)) (zy 0) vZ (tupS (ze (zb zl (zc 0) (cS (.int 0))) (ze (cS (.int 1)) (ze (zb zl (zc 0) (cS (.int 1))) zm))))
def lB:Sm:=
 (zt (YC 3 (zc 6) (zv qR (ze (zc 7) (ze (YE 3 (zc 6) (zr 7)) zm))))
 (yA (zP (zb (zG false) (eK 3) (cS (.int 2)))) (uI 4 (tupS (ze (zr 5) (ze (zv mz (ze (eL 3 (cS (.int 0))) (ze (eL 3 (cS (.int 1))) zm))) zm)))) y6))
def cV:Sm:=
 (zt (zU 2 (zb yR eY eX))
 (zt (YD 3)
 (zt (vJ 4 (xJ zm))
 (zt (xt [5,6,7] (yx (zv pX (ze (zc 2) zm))) (wM 3 (yy (zy 5) (yy (zy 6) (yy (zy 7) vn)))) lB)
 (el 4 (retS (zv rh (ze (zr 4) zm))))))))
def lU:List T->Option T:=yc ["border","other","steps","lows","shared","first","side","second"] 2 cV
def cT:Sm:=
 (retS (zv rh (ze (zb yR (zv listS (ze (zc 0) zm)) (zv listS (ze (zc 1) zm))) zm)))
def lS:List T->Option T:=yc ["border","other"] 2 cT
def lu:Ev->Option T:=
 xE [none,some 1] (yx (zc 2)) (zy 0) vZ (tupS (ze (zv mz (ze (cS (.int 0)) (ze (zb wz (zb zl (zc 0) (cS (.int 0))) (zb zl (zc 1) (cS (.int 2)))) zm))) (ze (zv mz (ze (cS (.int 0)) (ze (zb wz (zb zl (zc 0) (cS (.int 1))) (zb zl (zc 1) (cS (.int 3)))) zm))) zm)))
def lj:Ev->Option T:=
 xE [none,some 0] (yx (zc 3)) (zy 0) (xj (zv lY (ze (zr 1) (ze (zr 0) zm)))) (zr 0)
def cY:Sm:=
 (zt (zU 3 lu)
 (retS (zv rh (ze lj zm))))
def lX:List T->Option T:=yc ["brims","way","border","pairs"] 3 cY
def cN:Sm:=
 (zt (zU 2 (zv xh (ze (zr 0) (ze (cS (.int 1)) zm))))
 (zt (zU 3 (xJ (ze (zb zl (xJ (ze (cS (.int 3)) (ze (cS (.int 2)) (ze (cS (.int 4)) (ze (cS (.int 1)) (ze (cS (.int 5)) (ze (cS (.int 2)) (ze (cS (.int 3)) (ze (cS (.int 0)) zm))))))))) (zb zX (zc 2) (cS (.int 8)))) (ze (zb zl (xJ (ze (cS (.int 2)) (ze (cS (.int 3)) (ze (cS (.int 1)) (ze (cS (.int 4)) (ze (cS (.int 2)) (ze (cS (.int 5)) (ze (cS (.int 3)) (ze (cS (.int 0)) zm))))))))) (zb zX (zb xc (zc 2) (cS (.int 8))) (cS (.int 8)))) zm))))
 (zt (yA (zP (zb uU (zc 1) (cS (.int 4)))) (retS (tupS (ze (zv qR (ze (zb zl (zc 3) (cS (.int 0))) (ze (cS (.int 2)) zm))) (ze (zv qR (ze (zb zl (zc 3) (cS (.int 1))) (ze (cS (.int 2)) zm))) zm)))) y6)
 (zt (yA (zP (zb (zG false) (zb zX (zb xc (zc 2) (cS (.int 64))) (cS (.int 10))) (cS (.int 1)))) (retS (tupS (ze (cS (.int 12)) (ze (zb zX (zb zl (zc 3) (cS (.int 1))) (cS (.int 3))) zm)))) y6)
 (zt (yA (zP (zb (zG false) (zb zX (zb xc (zc 2) (cS (.int 64))) (cS (.int 10))) (cS (.int 2)))) (retS (tupS (ze (zb zX (zb zl (zc 3) (cS (.int 0))) (cS (.int 3))) (ze (cS (.int 12)) zm)))) y6)
 (zt (yA (vY (zP (zb (zG false) (zb zX (zb xc (zc 2) (cS (.int 64))) (cS (.int 10))) (cS (.int 3)))) (zP (zb yQ (zc 1) (cS (.int 3))))) (retS (tupS (ze (cS (.int 12)) (ze (cS (.int 12)) zm)))) y6)
 (retS (zv rC (ze (zc 3) zm)))))))))
def nB:List T->Option T:=yc ["_law_script","_law_many","_law_number","_law_found"] 2 cN
def l6:Sm:=
 (zt (uI 3 (zb zl (xJ (ze (cS (.str "keeper")) (ze (cS (.str "taker")) zm))) (zb zX (zc 2) (cS (.int 2)))))
 (zU 2 (zb xc (zc 2) (cS (.int 2)))))
def cH:Sm:=
 (zt (zU 2 (zv xh (ze (zr 0) (ze (cS (.int 2)) zm))))
 (zt (vJ 3 (xJ zm))
 (zt (xt [4] (wq uQ (ze (zc 1) zm)) (zy 4) l6)
 (retS (zv rC (ze (zc 3) zm))))))
def n6:List T->Option T:=yc ["_law_script","_law_many","_law_number","_law_found","_law_place"] 2 cH
def pC:Sm:=
 (zt (zU 8 (zb yR (zb wB (zc 3) (zc 5)) (zc 7)))
 (zt (zU 9 (zb zX (zb yR (zb yR (zb wB (zv xh (ze (zr 0) (ze (zb yR (cS (.int 4)) (zc 8)) zm))) (cS (.int 2957))) (zb wB (cS (.int 61)) (zc 8))) (cS (.int 17))) (cS (.int 999983))))
 (zt (zU 10 (zb xc (zc 9) (cS (.int 8))))
 (uI 4 (tupS (ze (zr 5) (ze (zb zX (zb zX (zc 9) (cS (.int 8))) (zc 1)) (ze (zv rj (ze (zr 10) zm)) (ze (zv rj (ze (zb xc (zc 10) (cS (.int 125))) zm)) zm)))))))))
def lx:Sm:=
 (zt (zU 6 (zb yR (cS (.int 1)) (zb zX (zc 2) (cS (.int 3)))))
 (zt (yA (vY (zP (zb yQ (zc 1) (cS (.int 3)))) (zP (zb (zG false) (zb zX (zb xc (zc 2) (cS (.int 3))) (cS (.int 8))) (cS (.int 1))))) (zU 6 (zb yR (cS (.int 9)) (zc 6))) y6)
 (zt (xt [7,8,9,10] (wq uQ (ze (zc 6) zm)) (zy 7) pC)
 (zU 2 (zb xc (zc 2) (cS (.int 24)))))))
def cF:Sm:=
 (zt (zU 2 (zv xh (ze (zr 0) (ze (cS (.int 3)) zm))))
 (zt (zU 3 (zb zl (xJ (ze (cS (.int 3)) (ze (cS (.int 12)) zm))) (zv fU (ze (zb yQ (zc 1) (cS (.int 3))) zm))))
 (zt (vJ 4 (xJ zm))
 (zt (xt [5,6,7,8,9,10] (wq uQ (ze (zc 1) zm)) (zy 5) lx)
 (retS (zv rC (ze (zv qE (ze (zc 4) zm)) zm)))))))
def n4:List T->Option T:=yc ["_law_script","_law_many","_law_number","_law_wide","_law_found","_law_place","_law_size","_law_k","_law_at","_law_drawn","_law_rest"] 2 cF
def ni:Sm:=
 (zt (zU 4 (zb zX (zb yR (zb yR (zb wB (zv xh (ze (zr 0) (ze (zb yR (cS (.int 28)) (zc 3)) zm))) (cS (.int 3571))) (zb wB (cS (.int 29)) (zc 3))) (cS (.int 5))) (cS (.int 999979))))
 (yA (vY (zP (zb (zG false) (zb zl (zc 1) (zc 3)) (cS (.str "keeper")))) (zP (zb (zG false) (zb zX (zc 4) (cS (.int 3))) (cS (.int 1))))) (zt (zU 5 (zb xc (zc 4) (cS (.int 6))))
 (zt (zU 6 (zb yR (cS (.int 1)) (zb zl (xJ (ze (zb zX (zc 5) (cS (.int 3))) (ze (zb zX (zc 5) (cS (.int 3))) (ze (zb zX (zc 5) (cS (.int 12))) zm)))) (zb zX (zb xc (zc 5) (cS (.int 12))) (cS (.int 3))))))
 (zt (zU 7 (zb zl (xJ (ze (zb zX (zb xc (zc 5) (cS (.int 36))) (cS (.int 4))) (ze (zb zX (zb xc (zc 5) (cS (.int 36))) (cS (.int 4))) (ze (zb zX (zb xc (zc 5) (cS (.int 36))) (cS (.int 13))) zm)))) (zb zX (zb xc (zc 5) (cS (.int 468))) (cS (.int 3)))))
 (uI 2 (tupS (ze (zr 3) (ze (zb zX (zb xc (zc 4) (cS (.int 3))) (cS (.int 2))) (ze (zr 6) (ze (zr 7) zm))))))))) y6))
def cG:Sm:=
 (zt (vJ 2 (xJ zm))
 (zt (xt [3,4,5,6,7] (wq uQ (ze (zv xb (ze (zc 1) zm)) zm)) (zy 3) ni)
 (retS (zv rC (ze (zc 2) zm)))))
def n5:List T->Option T:=yc ["_law_script","_law_owners_here","_law_found","_law_place","_law_drawn","_law_rest","_law_give","_law_get"] 2 cG
def l7:Sm:=
 (yA (vp (vq (xj (instS "tuple" (zc 1)))) (vp (zP (zb (zG true) (zv xb (ze (zc 1) zm)) (cS (.int 2)))) (vp (vq (xj (zv ny (ze (zb zl (zc 1) (cS (.int 0))) zm)))) (vq (xj (zv ny (ze (zb zl (zc 1) (cS (.int 1))) zm))))))) (retS (cS (.bl false))) y6)
def ly:Sm:=
 (yA (vp (zP (zb uV (zb zl (zb zl (zc 0) (zb wz (zc 2) (cS (.int 1)))) (cS (.int 0))) (zb zl (zb zl (zc 0) (zc 2)) (cS (.int 0))))) (zP (zb r_ (zb zl (zb zl (zc 0) (zb wz (zc 2) (cS (.int 1)))) (cS (.int 1))) (zb zl (zb zl (zc 0) (zc 2)) (cS (.int 1)))))) (retS (cS (.bl false))) y6)
def cI:Sm:=
 (zt (yA (vq (xj (instS "tuple" (zc 0)))) (retS (cS (.bl false))) y6)
 (zt (xt [1] (yx (zr 0)) (zy 1) l7)
 (zt (xt [2] (wq nN (ze (cS (.int 1)) (ze (zv xb (ze (zc 0) zm)) zm))) (zy 2) ly)
 (retS (cS (.bl true))))))
def lP:List T->Option T:=yc ["_law_found","_law_pair","_law_k"] 1 cI
def oY:Ev->Option T:=
 xE [none,some 1] (yx (zb zl (zc 0) (cS (.int 2)))) (zy 0) (zP (zb (zG false) (zb zl (zc 0) (cS (.int 0))) (zc 1))) (zr 0)
def pD:Sm:=
 (zt (zU 6 (zv rp (ze (zr 0) (ze (zr 2) (ze (zr 5) zm)))))
 (yA (vp (zP (zb (uR false) (zc 6) (cS .zj))) (vq (xj (zv t4 (ze (zb zl (zc 3) (zb zl (zc 5) (cS (.int 1)))) (ze (zr 6) zm)))))) (retS (cS (.bl false))) y6))
def qp:Sm:=
 (zt (zU 6 (zv rp (ze (zr 0) (ze (zr 7) (ze (zr 5) zm)))))
 (yA (vY (zP (zb (uR true) (zc 6) (cS .zj))) (xj (zv t4 (ze (zb zl (zc 3) (zb zl (zc 5) (cS (.int 1)))) (ze (zr 6) zm))))) (retS (cS (.bl true))) y6))
def nc:Sm:=
 (xt [5,6] (yx (zr 4)) (zy 5) qp)
def jS:Sm:=
 (zt (zU 4 oY)
 (zt (yA (zP (zb (zG false) (zb zl (zb zl (zc 0) (cS (.int 1))) (zc 1)) (cS (.str "taker")))) (zt (xt [5,6] (yx (zr 4)) (zy 5) pD)
 (retS (cS (.bl true)))) y6)
 (zt (xt [5,6,7] (yx (zv lQ (ze (zr 0) (ze (zr 1) (ze (zr 2) zm))))) (zy 7) nc)
 (retS (cS (.bl false))))))
def n9:List T->Option T:=yc ["_law_floor_here","_law_place","_law_pair","_law_told","_law_ways_here","_law_way","_law_behind_here","_law_held_here"] 4 jS
def cU:Sm:=
 (yA (vq (xj (zv jP (ze (zr 1) (ze (cS (.int 0)) (ze (zb wz (zv pO (ze (zr 0) zm)) (cS (.int 1))) zm)))))) Zn y6)
def lT:List T->Option T:=yc ["floor","place"] 2 cU
def lC:Sm:=
 (zU 1 (zv lS (ze (zr 1) (ze (zr 2) zm))))
def cW:Sm:=
 (zt (zU 1 (tupS zm))
 (zt (xt [2] (yx (zr 0)) (zy 2) lC)
 (retS (zr 1))))
def lV:List T->Option T:=yc ["borders","joined","border"] 1 cW
def lD:Sm:=
 (zU 1 (zv lU (ze (zr 1) (ze (zr 2) zm))))
def cX:Sm:=
 (zt (zU 1 (tupS (ze (tupS (ze (cS (.int 0)) (ze (cS (.int 0)) zm))) zm)))
 (zt (xt [2] (yx (zr 0)) (zy 2) lD)
 (retS (zr 1))))
def lW:List T->Option T:=yc ["borders","joined","border"] 1 cX
def jT:Sm:=
 (zt (zU 1 (zv xh (ze (zr 0) (ze (cS (.int 0)) zm))))
 (zt (zU 2 (zb zl (xJ (ze (cS (.int 2)) (ze (cS (.int 3)) (ze (cS (.int 1)) (ze (cS (.int 4)) (ze (cS (.int 3)) (ze (cS (.int 2)) (ze (cS (.int 4)) (ze (zb yR (cS (.int 5)) (zb zX (zb xc (zc 1) (cS (.int 8))) (cS (.int 4)))) zm))))))))) (zb zX (zc 1) (cS (.int 8)))))
 (zt (zU 3 (zv n6 (ze (zr 0) (ze (zr 2) zm))))
 (zt (zU 4 (zv nB (ze (zr 0) (ze (zr 2) zm))))
 (zt (zU 5 (zv n4 (ze (zr 0) (ze (zr 2) zm))))
 (zt (zU 6 (zv n5 (ze (zr 0) (ze (zr 3) zm))))
 (zt (yA (vY (zP (zb (zG false) (zc 4) (tupS (ze (cS (.int 12)) (ze (cS (.int 12)) zm))))) (vp (zP (zb uU (zv xb (ze (zc 5) zm)) (cS (.int 6)))) (zP (zb uU (zv xb (ze (zc 6) zm)) (cS (.int 0)))))) (zU 4 (tupS (ze (cS (.int 12)) (ze (cS (.int 3)) zm)))) y6)
 (retS (tupS (ze (zr 4) (ze (zr 3) (ze (zr 5) (ze (zr 6) zm)))))))))))))
def nA:List T->Option T:=yc ["_law_script","_law_number","_law_many","_law_owners_here","_law_brims_here","_law_ways_here","_law_stalls_here"] 1 jT
def l8:Sm:=
 (yA (zP (zb (zG true) (zv t4 (ze (zb zl (zc 2) (zc 3)) (ze (zr 4) zm))) (zv n9 (ze (zr 0) (ze (zr 3) (ze (zr 4) (ze (zr 1) zm))))))) (retS (cS (.bl false))) y6)
def lz:Sm:=
 (xt [4] (yx (zv lO (ze (zr 0) zm))) (zy 4) l8)
def cK:Sm:=
 (zt (xt [3,4] (wq uQ (ze (zv xb (ze (zb zl (zc 0) (cS (.int 1))) zm)) zm)) (zy 3) lz)
 (retS (cS (.bl true))))
def pP:List T->Option T:=yc ["_law_floor_here","_law_told","_law_more","_law_place","_law_pair"] 3 cK
def l9:Sm:=
 (yA (vp (zP (zb yQ (zc 3) (cS (.int 0)))) (vp (zP (zb yQ (zc 4) (cS (.int 0)))) (vp (zP (zb uU (zc 3) (zb zl (zb zl (zc 0) (cS (.int 0))) (cS (.int 0))))) (zP (zb uU (zc 4) (zb zl (zb zl (zc 0) (cS (.int 0))) (cS (.int 1)))))))) (retS (cS (.bl false))) y6)
def l4:Sm:=
 (zt (yA (vq (xj (zv lP (ze (zr 2) zm)))) (retS (cS (.bl false))) y6)
 (xt [3,4] (yx (zr 2)) (wM 2 (yy (zy 3) (yy (zy 4) vn))) l9))
def cP:Sm:=
 (zt (yA (vp (vq (xj (instS "list" (zc 1)))) (zP (zb (zG true) (zv xb (ze (zc 1) zm)) (zv xb (ze (zb zl (zc 0) (cS (.int 1))) zm))))) (retS (cS (.bl false))) y6)
 (zt (xt [2,3,4] (yx (zr 1)) (zy 2) l4)
 (retS (cS (.bl true)))))
def lR:List T->Option T:=yc ["_law_floor_here","_law_some","_law_found","_law_x","_law_y"] 2 cP
def ll:Ev->Option T:=
 xE [none,none,some 1] (wq tU (ze (zb zl (zc 0) (cS (.int 2))) zm)) (wM 2 (yy (zy 0) (yy (zy 1) vn))) (zP (zb (zG false) (zb zl (zc 1) (cS (.int 0))) (zc 2))) (zr 0)
def cx:Sm:=
 (zt (eJ (zv lT (ze (zr 0) (ze (zr 1) zm))))
 (retS ll))
def lL:List T->Option T:=yc ["floor","place"] 2 cx
def ng:Sm:=
 (yA (zP (zb (zG false) (zb zl (zc 2) (cS (.int 0))) (zc 1))) (retS (zr 2)) y6)
def cy:Sm:=
 (zt (eJ (zv lT (ze (zr 0) (ze (zr 1) zm))))
 (zt (xt [2] (yx (zb zl (zc 0) (cS (.int 3)))) (zy 2) ng)
 (retS (cS .zj))))
def pM:List T->Option T:=yc ["floor","place","stall"] 2 cy
def lE:Sm:=
 (jv 4 (zv lM (ze (zb zl (zc 0) (cS (.int 0))) (ze (zr 3) (ze (zr 5) zm)))))
def jV:Sm:=
 (zt (zU 3 (zv pM (ze (zr 0) (ze (zr 1) zm))))
 (zt (yA (zP (zb (uR false) (zc 3) (cS .zj))) (retS (zr 2)) y6)
 (zt (vJ 4 (xJ zm))
 (zt (xt [5] (yx (zr 2)) (zy 5) lE)
 (el 4 (retS (zv rh (ze (zr 4) zm))))))))
def nD:List T->Option T:=yc ["floor","place","border","stall","pairs","pair"] 3 jV
def lq:Ev->Option T:=
 xE [none,some 0] (yx (zv lL (ze (zr 0) (ze (zr 1) zm)))) (zy 0) vZ (zb zl (zb zl (zc 1) (cS (.int 2))) (zc 0))
def lh:Ev->Option T:=
 xE [none,some 0,some 2] (yx (zc 3)) (zy 0) vZ (zv lX (ze (zb zl (zc 1) (cS (.int 0))) (ze (zr 0) (ze (zb zl (zc 2) (zb zl (zc 0) (cS (.int 1)))) zm))))
def cC:Sm:=
 (zt (zU 3 lq)
 (zt (zU 4 lh)
 (zt (yA (zP (zb (zG false) (zb zl (zb zl (zc 0) (cS (.int 1))) (zc 1)) (cS (.str "keeper")))) (retS (zv nD (ze (zr 0) (ze (zr 1) (ze (zv lV (ze (zr 4) zm)) zm))))) y6)
 (retS (zv lW (ze (zr 4) zm))))))
def lN:List T->Option T:=yc ["floor","place","last","ways","ahead"] 3 cC
def lp:Ev->Option T:=
 xE [none,some 2] (yx (zb zl (zc 0) (cS (.int 2)))) (zy 0) (zP (zb (oM false) (zb zl (zc 0) (cS (.int 1))) (zc 1))) (zb zl (zc 0) (cS (.int 0)))
def l5:Sm:=
 (je 3 (zc 4) (zv lN (ze (zr 0) (ze (zr 4) (ze (zr 1) zm)))))
def cB:Sm:=
 (zt (vJ 3 (zv listS (ze (zc 1) zm)))
 (zt (xt [4] (yx (zv qE (ze lp zm))) (zy 4) l5)
 (qK 3)))
def nv:List T->Option T:=yc ["floor","last","fresh","following","place"] 3 cB
def oX:Ev->Option T:=
 xE [none,none,some 3] (wq tU (ze (zc 4) zm)) (wM 2 (yy (zy 0) (yy (zy 1) vn))) (zP (zb (zG true) (zc 1) (zb zl (zc 2) (zc 0)))) (zr 0)
def tj:Sm:=
 (zt (zU 3 (zb zl (zc 1) (uz (cS (.int 1)))))
 (zt (zU 4 (zv nv (ze (zr 0) (ze (zr 3) (ze (zr 2) zm)))))
 (zt (zU 2 oX)
 (yA (xj (zc 2)) (uI 1 (zr 4)) y6))))
def cz:Sm:=
 (zt (vJ 1 (xJ (ze (zb wB (xJ (ze (tupS (ze (tupS (ze (cS (.int 0)) (ze (cS (.int 0)) zm))) zm)) zm)) (zv pO (ze (zr 0) zm))) zm)))
 (zt (zU 2 (zv m4 (ze (zv pO (ze (zr 0) zm)) zm)))
 (zt (qA 1000000 [3,4] (xj (zc 2)) tj)
 (qK 1))))
def pN:List T->Option T:=yc ["floor","told","fresh","last","following"] 1 cz
def j4:Ev->Option T:=
 xE [none,some 1] (yx (zc 2)) (zy 0) vZ (zv lR (ze (zr 1) (ze (zr 0) zm)))
def jz:Ev->Option T:=
 xE [none] (yx (zb zl (zc 1) (cS (.int 1)))) (zy 0) vZ (tupS (ze (tupS (ze (cS (.int 0)) (ze (cS (.int 0)) zm))) zm))
def lA:Sm:=
 (zt (yA (zP (zb (zG false) (zb zl (zc 2) (zb yR (zc 3) (cS (.int 1)))) (zb zl (zc 2) (zc 3)))) (retS (cS (.bl false))) y6)
 (zt (zU 4 (rW (zb yQ (zc 3) (cS (.int 8))) (rW (zb uU (zc 3) (zb wz (zv xb (ze (zc 2) zm)) (cS (.int 4)))) (zb (zG false) (zb zX (zc 3) (cS (.int 29))) (zb zX (zv xh (ze (zr 0) (ze (cS (.int 36)) zm))) (cS (.int 29)))))))
 (yA (vY (xj (zc 4)) (vq (xj (zv pP (ze (zr 1) (ze (zb zl (zc 2) (zc 3)) (ze (zb zl (zc 2) (zb yR (zc 3) (cS (.int 1)))) zm))))))) (retS (cS (.bl false))) y6)))
def Ws:Sm:=
 (zt (zU 1 (zv nA (ze (zr 0) zm)))
 (zt (vJ 2 (zv pN (ze (zr 1) zm)))
 (zt (yA (vp (vq (xj (instS "list" (zc 2)))) (vq (xj (zv (eZ λ bs=>bs.all id) (ze j4 zm))))) (retS (cS (.bl false))) y6)
 (zt (yA (vp (zP (zb (zG false) (zv xb (ze (zc 2) zm)) (cS (.int 0)))) (zP (zb (zG true) (zb zl (zc 2) (cS (.int 0))) jz))) (retS (cS (.bl false))) y6)
 (zt (xt [3,4] (wq uQ (ze (zb wz (zv xb (ze (zc 2) zm)) (cS (.int 1))) zm)) (zy 3) lA)
 (zt (yA (vq (xj (zv pP (ze (zr 1) (ze (zb zl (zc 2) (uz (cS (.int 1)))) (ze (zb zl (zc 2) (uz (cS (.int 1)))) zm)))))) (retS (cS (.bl false))) y6)
 (zt (oI 2 5 (xE [none] (yx (zc 2)) (zy 0) vZ (zv listS (ze (zc 0) zm))) (.tup []))
 (retS (nq (zb (zG false) (i8 (zc 2) none (some (uz (cS (.int 1))))) (i8 (zc 5) none (some (uz (cS (.int 1)))))) (rW (zb uU (zv xb (ze (zc 5) zm)) (cS (.int 60))) (zb (zG false) (zv pN (ze (zr 1) zm)) (zc 5))))))))))))
def nC:List T->Option T:=yc ["_law_script","_law_floor_here","_law_found","_law_k","_law_asked","_law_kept"] 1 Ws
def Vu (ps:List (Int×Int)) (h:ps.length<64):pX [.lst (ps.map zk)]=some (.lst ((sy ps).map zk)):=by
 show (uq (ps.map zk)).bind _=_;rw[VP,zC9,if_pos ⟨by simpa using h,λ r hr=>by obtain⟨p,_,rfl⟩:=zB0.mp hr;simp[vO]⟩,<- bG,zD6];rfl
noncomputable def cell (ns:List Int) (k:Nat):Int:=if k<ns.length then ns.getD k 0%10 ^ 40 else 0
def pQ (ns:List Int) (k:Nat):xh [zR ns,.int (k:Int)]=some (.int (cell ns k)):=by
 unfold xh cM cell zR;by_cases h:k<ns.length
 .have e:L2.z_ (ns.map T.int) (k:Int)=some (.int (ns.getD k 0)):=vv (by simp[h]);simp[h,e,pT,yQ]
 .simp[h,yQ]
def cp (b:T) (ps:List (Int×Int)) (q:Int×Int) (hb:we b=some (ps.map zk)):t4 [b,zk q]=some (.bl (zK ps q)):=by
 have h:=u5 (is:=[2,3]) (g:=wM 2 (yy (zy 2) (yy (zy 3) vn))) (b:=j7) zk (wF q) (.bl true) [some (.im b),some (.im (zk q)),none,none] ps [some (.im b),some (.im (zk q)),none,none] (by simp) λ p hp=>⟨[some (.im b),some (.im (zk q)),some (.im (.int p.1)),some (.im (.int p.2))],by simp,by
  by_cases h1:p.1<=q.1 <;> by_cases h2:p.2<=q.2 <;> simp[turn,j7,zk,wF,h1,h2]⟩
 unfold t4 cJ;simp only[xt,yx,zr,yc,zt,tB] at h ⊢;simp[hb,h];unfold zK;cases ps.any (wF q) <;> simp
def Pq {qs p:List (Int×Int)}{x:Int×Int}(hr:∀ r,qs++yW r (qs.getLast?.map (·.2))=yW (p++r) none) (hb:t_ (qs.getLast?.map (·.2)) x.2=true) (r:List (Int×Int)):
  (qs++[x])++yW r ((qs++[x]).getLast?.map (·.2))=yW (p++[x]++r) none:=by
 have:=hr (x::r);rw[show yW (x::r) (qs.getLast?.map (·.2))=x::yW r (some x.2) by rw[yW,if_pos hb]] at this;simpa using this
def Pr {qs p:List (Int×Int)}{x:Int×Int}(hr:∀ r,qs++yW r (qs.getLast?.map (·.2))=yW (p++r) none) (hb:t_ (qs.getLast?.map (·.2)) x.2=false) (r:List (Int×Int)):
  qs++yW r (qs.getLast?.map (·.2))=yW (p++[x]++r) none:=by
 have:=hr (x::r);rw[show yW (x::r) (qs.getLast?.map (·.2))=yW r (qs.getLast?.map (·.2)) by rw[yW,if_neg (by rw[hb];nofun)]] at this;simpa using this
def jO (ps:List (Int×Int)) (hl:ps.length<64):rh [.lst (ps.map zk)]=some (.tup ((vo ps).map zk)):=by
 obtain⟨J',h1,qs,h2,h3,h4⟩:=u0 (is:=[2]) (g:=zy 2) (b:=nh) zk (λ p J=>∃ qs:List (Int×Int),J=[some (.im (.lst (ps.map zk))),some (.own (.lst (qs.map zk))),none]/\qs.length<=p.length/\
   ∀ r,qs++yW r (qs.getLast?.map (·.2))=yW (p++r) none) (sy ps) [some (.im (.lst (ps.map zk))),some (.own (.lst [])),none] ⟨[],by simp,by simp,λ r=>by simp⟩ (by
  rintro p x q e J ⟨qs,rfl,hq,hr⟩;have hlen:p.length<64:=by
   have:=congrArg List.length e;rw[(i4 ps).length_eq] at this;simp at this;omega
  have app:t_ (qs.getLast?.map (·.2)) x.2=true->∃ qs':List (Int×Int),yM [2] [some (.im (.lst (ps.map zk))),some (.own (.lst (qs.map zk++[zk x]))),some (.im (zk x))]=[some (.im (.lst (ps.map zk))),some (.own (.lst (qs'.map zk))),none]/\qs'.length<=(p++[x]).length/\∀ r,qs'++yW r (qs'.getLast?.map (·.2))=yW (p++[x]++r) none:=λ hb=>
   ⟨qs++[x],by simp,by simp;omega,Pq hr hb⟩
  rcases List.eq_nil_or_concat qs with rfl | ⟨init,l,rfl⟩
  .refine⟨_,?_,app (by simp[t_])⟩;simp[turn,nh]
  .simp only[List.concat_eq_append] at *;by_cases hb:x.2<l.2
   .refine⟨_,?_,app (by simp[t_,hb])⟩;simp at hq;simp[turn,nh,zk,hb,yQ];omega
   .refine⟨[some (.im (.lst (ps.map zk))),some (.own (.lst ((init++[l]).map zk))),some (.im (zk x))],?_,init++[l],by simp,by simp at hq ⊢;omega,Pr hr (by simp[t_];omega)⟩;simp[turn,nh,zk,hb,yQ])
 have h5:=h4 [];simp[yW] at h5;unfold rh cD;simp[Vu ps hl,h1,h2,h5,vo]
def Mo (b o:List (Int×Int)) (hl:b.length+o.length<64):lS [.tup (b.map zk),.tup (o.map zk)]=some (.tup ((vo (b++o)).map zk)):=by
 have h:=jO (b++o) (by simpa using hl);rw[zE7] at h;have:b.length+o.length<=16777216:=by omega
 unfold lS cT;simp[h,this]
noncomputable def r0 (p:Int×Int):List Int:=[p.1,0,p.2]
noncomputable def r1 (p:Int×Int):List Int:=[p.1,1,p.2]
noncomputable def xr (l:Option Int) (v:Int):Int:=match l with
 | none=>v
 | some m=>if m<v then m else v
noncomputable def uu (l:Option Int) (sh:List (Int×Int)) (f:Int->Int×Int):List (Int×Int):=match l with
 | some m=>sh++[f m]
 | none=>sh
structure Sw (b o:List (Int×Int)) (p:List (List Int)) (l0 l1:Option Int) (sh:List (Int×Int)):Prop where
 fD:∀ x,r0 x∈p->∃ m,l0=some m/\m<=x.2
 fC:∀ x,r1 x∈p->∃ m,l1=some m/\m<=x.2
 dk:∀ m,l0=some m->∃ x,r0 x∈p/\x.2=m
 di:∀ m,l1=some m->∃ x,r1 x∈p/\x.2=m
 len:sh.length<=p.length
 snd:∀ s∈sh,(∃ x,r0 x∈p/\x.1<=s.1/\x.2<=s.2)/\∃ x,r1 x∈p/\x.1<=s.1/\x.2<=s.2
 all:∀ x y,r0 x∈p->r1 y∈p->∃ s∈sh,(s.1<=x.1\/s.1<=y.1)/\(s.2<=x.2\/s.2<=y.2)
def kH {x y:Int×Int}(h:r0 x=r0 y):x=y:=by
 unfold r0 at h;injection h with h1 h2;injection h2 with _ h2;injection h2 with h2 _;exact Prod.ext h1 h2
def kG {x y:Int×Int}(h:r1 x=r1 y):x=y:=by
 unfold r1 at h;injection h with h1 h2;injection h2 with _ h2;injection h2 with h2 _;exact Prod.ext h1 h2
def oh {x y:Int×Int}(h:r0 x=r1 y):False:=by
 unfold r0 r1 at h;injection h with h1 h2;injection h2 with h2 _;omega
def tL {p:List (List Int)}{a x:List Int}(h:a∈p++[x]):a∈p\/a=x:=by simpa using h
def Sw.Vn {b o:List (Int×Int)}{p:List (List Int)}{l0 l1:Option Int}{sh:List (Int×Int)}(h:Sw b o p l0 l1 sh) (x:Int×Int) (hx:∀ y,r0 y∈p->y.1<=x.1) (hy:∀ y,r1 y∈p->y.1<=x.1):
  Sw b o (p++[r0 x]) (some (xr l0 x.2)) l1 (uu l1 sh λ m=>(x.1,if m>xr l0 x.2 then m else xr l0 x.2)):=by
 have lo:xr l0 x.2<=x.2/\∀ m,l0=some m->xr l0 x.2<=m:=by
  unfold xr;cases l0 with
  | none=>exact⟨zC6 _,nofun⟩
  | some m=>dsimp only;split <;> refine⟨by omega,λ m' e=>?_⟩ <;> cases e <;> omega
 have la:∃ y,r0 y∈p++[r0 x]/\y.2=xr l0 x.2:=by
  unfold xr;cases l0 with
  | none=>exact⟨x,by simp,rfl⟩
  | some m=>
   dsimp only;split
   .obtain⟨y,h1,h2⟩:=h.dk m rfl;exact⟨y,by simp[h1],h2⟩
   .exact⟨x,by simp,rfl⟩
 have snd':∀ s∈sh,(∃ x',r0 x'∈p++[r0 x]/\x'.1<=s.1/\x'.2<=s.2)/\∃ x',r1 x'∈p++[r0 x]/\x'.1<=s.1/\x'.2<=s.2:=λ s hs=>by
  obtain⟨⟨a,a1,a2⟩,c,c1,c2⟩:=h.snd s hs;exact⟨⟨a,by simp[a1],a2⟩,c,by simp[c1],c2⟩
 refine⟨λ y hm=>?_,λ y hm=>?_,λ m e=>?_,λ m e=>?_,?_,λ s hs=>?_,λ y z hm hz=>?_⟩
 .rcases tL hm with q | q
  .obtain⟨m,e,q2⟩:=h.fD y q;exact⟨_,rfl,by have:=lo.2 m e;omega⟩
  .cases kH q;exact⟨_,rfl,lo.1⟩
 .rcases tL hm with q | q
  .exact h.fC y q
  .exact (oh q.symm).elim
 .cases e;exact la
 .obtain⟨y,q1,q2⟩:=h.di m e;exact⟨y,by simp[q1],q2⟩
 .have:=h.len;cases l1 <;> simp[uu] <;> omega
 .cases l1 with
  | none=>exact snd' s hs
  | some m=>
   rcases zB9.mp hs with q | q
   .exact snd' s q
   .obtain rfl:s=_:=by simpa using q
    obtain⟨y,y1,y2⟩:=la;obtain⟨z,z1,z2⟩:=h.di m rfl;have hzx:=hy z z1;refine⟨⟨y,y1,?_,by dsimp only;split <;> omega⟩,z,by simp[z1],hzx,by dsimp only;split <;> omega⟩;rcases tL y1 with w | w
    .exact hx y w
    .cases kH w;exact zC6 _
 .have hz':r1 z∈p:=by
   rcases tL hz with q | q
   .exact q
   .exact (oh q.symm).elim
  rcases tL hm with q | q
  .obtain⟨s,s1,s2⟩:=h.all y z q hz';refine⟨s,?_,s2⟩;cases l1 <;> simp[uu,s1]
  .cases kH q;obtain⟨m,e,hm⟩:=h.fC z hz';subst e;refine⟨_,zB4 _ zMc,.inl (zC6 _),?_⟩;have:=lo.1;dsimp only;split <;> omega
def Sw.swap {b o:List (Int×Int)}{p:List (List Int)}{l0 l1:Option Int}{sh:List (Int×Int)}(x:Int×Int) (h:Sw b o p l0 l1 sh) (hx:∀ y,r0 y∈p->y.1<=x.1) (hy:∀ y,r1 y∈p->y.1<=x.1):
  Sw b o (p++[r1 x]) l0 (some (xr l1 x.2)) (uu l0 sh λ m=>(x.1,if xr l1 x.2>m then xr l1 x.2 else m)):=by
 have lo:xr l1 x.2<=x.2/\∀ m,l1=some m->xr l1 x.2<=m:=by
  unfold xr;cases l1 with
  | none=>exact⟨zC6 _,nofun⟩
  | some m=>dsimp only;split <;> refine⟨by omega,λ m' e=>?_⟩ <;> cases e <;> omega
 have la:∃ y,r1 y∈p++[r1 x]/\y.2=xr l1 x.2:=by
  unfold xr;cases l1 with
  | none=>exact⟨x,by simp,rfl⟩
  | some m=>
   dsimp only;split
   .obtain⟨y,h1,h2⟩:=h.di m rfl;exact⟨y,by simp[h1],h2⟩
   .exact⟨x,by simp,rfl⟩
 have snd':∀ s∈sh,(∃ x',r0 x'∈p++[r1 x]/\x'.1<=s.1/\x'.2<=s.2)/\∃ x',r1 x'∈p++[r1 x]/\x'.1<=s.1/\x'.2<=s.2:=λ s hs=>by
  obtain⟨⟨a,a1,a2⟩,c,c1,c2⟩:=h.snd s hs;exact⟨⟨a,by simp[a1],a2⟩,c,by simp[c1],c2⟩
 refine⟨λ y hm=>?_,λ y hm=>?_,λ m e=>?_,λ m e=>?_,?_,λ s hs=>?_,λ y z hm hz=>?_⟩
 .rcases tL hm with q | q
  .exact h.fD y q
  .exact (oh q).elim
 .rcases tL hm with q | q
  .obtain⟨m,e,q2⟩:=h.fC y q;exact⟨_,rfl,by have:=lo.2 m e;omega⟩
  .cases kG q;exact⟨_,rfl,lo.1⟩
 .obtain⟨y,q1,q2⟩:=h.dk m e;exact⟨y,by simp[q1],q2⟩
 .cases e;exact la
 .have:=h.len;cases l0 <;> simp[uu] <;> omega
 .cases l0 with
  | none=>exact snd' s hs
  | some m=>
   rcases zB9.mp hs with q | q
   .exact snd' s q
   .obtain rfl:s=_:=by simpa using q
    obtain⟨y,y1,y2⟩:=la;obtain⟨z,z1,z2⟩:=h.dk m rfl;have hzx:=hx z z1;refine⟨⟨z,by simp[z1],hzx,by dsimp only;split <;> omega⟩,y,y1,?_,by dsimp only;split <;> omega⟩;rcases tL y1 with w | w
    .exact hy y w
    .cases kG w;exact zC6 _
 .have hm':r0 y∈p:=by
   rcases tL hm with q | q
   .exact q
   .exact (oh q).elim
  rcases tL hz with q | q
  .obtain⟨s,s1,s2⟩:=h.all y z hm' q;refine⟨s,?_,s2⟩;cases l0 <;> simp[uu,s1]
  .cases kG q;obtain⟨m,e,hm⟩:=h.fD y hm';subst e;refine⟨_,zB4 _ zMc,.inr (zC6 _),?_⟩;have:=lo.1;dsimp only;split <;> omega
structure Lw (d:List (Key×T)) (l0 l1:Option Int):Prop where
 v0:xD d (.inl 0)=l0.map T.int
 v1:xD d (.inl 1)=l1.map T.int
 len:d.length=(if l0.isSome then 1 else 0)+if l1.isSome then 1 else 0
def Lw.Uk {d:List (Key×T)}{l0 l1:Option Int}(h:Lw d l0 l1) (v:Int):Lw (ur d (.inl 0) (.int v)) (some v) l1:=by
 refine⟨by rw[ke];simp,by rw[ke];simpa using h.v1,?_⟩;rw[Z9,h.v0,h.len];cases l0 <;> cases l1 <;> simp
def Lw.Uj {d:List (Key×T)}{l0 l1:Option Int}(h:Lw d l0 l1) (v:Int):Lw (ur d (.inl 1) (.int v)) l0 (some v):=by
 refine⟨by rw[ke];simpa using h.v0,by rw[ke];simp,?_⟩;rw[Z9,h.v1,h.len];cases l0 <;> cases l1 <;> simp
def js {rows p q:List (List Int)}{x:List Int}(e:L4.xW rows=p++x::q) {a:List Int}(ha:a∈p) {i j:Int}{as xs:List Int}(h1:a=i::as) (h2:x=j::xs):i<=j:=by
 have h:=L4.i3 rows;rw[e,List.pairwise_append] at h;have:=h.2.2 a ha x zMc;subst h1 h2;rw[HT.rZ] at this;by_cases c:j=i
 .omega
 .rw[if_neg c] at this;have:=of_decide_eq_false this;omega
def Mv (b o:List (Int×Int)) (hl:b.length+o.length<64):∃ sh:List (Int×Int),lU [.tup (b.map zk),.tup (o.map zk)]=some (.tup ((vo sh).map zk))/\sh.length<64/\∀ q,zK sh q=(zK b q&&zK o q):=by
 let a0:W:=.im (.tup (b.map zk))
 let a1:W:=.im (.tup (o.map zk))
 let rows:=b.map r0++o.map r1
 let a2:W:=.im (.lst (rows.map yq))
 have hlen:rows.length<64:=by simp[rows];exact hl
 have hs:pX [.lst (rows.map yq)]=some (.lst ((L4.xW rows).map yq)):=by
  show ((uq (rows.map yq)).bind λ rs=>_)=_;rw[gs,zC9,if_pos ⟨hlen,λ r hr=>by
   rcases zB9.mp hr with h | h <;> obtain⟨_,_,rfl⟩:=zB0.mp h <;> simp[r0,r1]⟩]
 have plen:(L4.xW rows).length=rows.length:=(L4.uP rows).length_eq;obtain⟨J1,h1,d,l0,l1,sh,e1,w1,s1⟩:=u0 (is:=[5,6,7]) (g:=wM 3 (yy (zy 5) (yy (zy 6) (yy (zy 7) vn)))) (b:=lB) yq (λ p J=>∃ d l0 l1 sh,J=[some a0,some a1,some a2,some (.own (.ye d)),some (.own (.lst (sh.map zk))),none,none,none]/\Lw d l0 l1/\Sw b o p l0 l1 sh) (L4.xW rows) [some a0,some a1,some a2,some (.own (.ye [])),some (.own (.lst [])),none,none,none]
  ⟨[],none,none,[],by simp,⟨rfl,rfl,rfl⟩,⟨nofun,nofun,nofun,nofun,by simp,nofun,nofun⟩⟩ (by
  rintro p x q e J ⟨d,l0,l1,sh,rfl,hw,hsw⟩;have hx:x∈rows:=(L4.uP rows).mem_iff.mp (by rw[e];simp);have hpl:p.length<64:=by
   have:=congrArg List.length e;rw[plen] at this;simp at this;omega
  have hsl:sh.length<16777216:=by have:=hsw.len;omega
  have hdl:d.length<16777216:=by rw[hw.len];split <;> split <;> omega
  rcases zB9.mp hx with hm | hm
  .obtain⟨y,_,rfl⟩:=zB0.mp hm;have st:=hsw.Vn y (λ z hz=>js e hz rfl rfl) (λ z hz=>js e hz rfl rfl);have hw':=hw.Uk (xr l0 y.2);refine⟨[some a0,some a1,some a2,some (.own (.ye (ur d (.inl 0) (.int (xr l0 y.2))))),some (.own (.lst ((uu l1 sh λ m=>(y.1,if m>xr l0 y.2 then m else xr l0 y.2)).map zk))),some (.im (.int y.1)),some (.im (.int 0)),some (.im (.int y.2))],?_,_,_,_,_,(by simp),hw',st⟩;have hr:yq (r0 y)=.tup [.int y.1,.int 0,.int y.2]:=rfl;have v0:=hw'.v0;have v1:=hw'.v1;have ln:=hw'.len;cases l0 <;> cases l1 <;> simp[turn,lB,hr,hw.v0,hdl,hsl,xr,uu,zG,dep,eqT] at v0 v1 ln ⊢ <;> simp[v0,v1,ln,zk,uu]
  .obtain⟨y,_,rfl⟩:=zB0.mp hm;have st:=hsw.swap y (λ z hz=>js e hz rfl rfl) (λ z hz=>js e hz rfl rfl);have hw':=hw.Uj (xr l1 y.2);refine⟨[some a0,some a1,some a2,some (.own (.ye (ur d (.inl 1) (.int (xr l1 y.2))))),some (.own (.lst ((uu l0 sh λ m=>(y.1,if xr l1 y.2>m then xr l1 y.2 else m)).map zk))),some (.im (.int y.1)),some (.im (.int 1)),some (.im (.int y.2))],?_,_,_,_,_,(by simp),hw',st⟩;have hr:yq (r1 y)=.tup [.int y.1,.int 1,.int y.2]:=rfl;have v0:=hw'.v0;have v1:=hw'.v1;have ln:=hw'.len;cases l0 <;> cases l1 <;> simp[turn,lB,hr,hw.v1,hdl,hsl,xr,uu,zG,dep,eqT] at v0 v1 ln ⊢ <;> simp[v0,v1,ln,zk,uu])
 have hsh:sh.length<64:=by have:=s1.len;omega
 refine⟨sh,?_,hsh,λ q=>?_⟩
 .subst e1;have hc1:eY [some a0,some a1,none,none,none,none,none,none]=some (.lst ((b.map r0).map yq)):=by
   rw[zD6];exact sL zk (yq ∘ r0) b (by simp[a0]) (by omega) λ y _=>by simp[zk,yq,r0]
  have hc2:eX [some a0,some a1,none,none,none,none,none,none]=some (.lst ((o.map r1).map yq)):=by
   rw[zD6];exact sL zk (yq ∘ r1) o (by simp[a1]) (by omega) λ y _=>by simp[zk,yq,r1]
  have hF:=jO sh hsh;have z:b.length+o.length<=16777216:=by omega
  simp only[a0,a1,a2,rows,zE7] at hc1 hc2 hs h1;unfold lU cV;simp[hc1,hc2,z,hs,h1,hF] at hc1 hc2 hs h1 ⊢;simp[hc1,hc2,z,hs,h1,hF]
 .have m0:∀ x,r0 x∈L4.xW rows↔x∈b:=λ x=>by
   rw[(L4.uP rows).mem_iff];constructor
   .intro h;rcases zB9.mp h with h | h <;> obtain⟨y,hy,e⟩:=zB0.mp h
    .cases kH e;exact hy
    .exact (oh e.symm).elim
   .exact λ h=>List.mem_append_left _ (List.mem_map_of_mem h)
  have m1:∀ x,r1 x∈L4.xW rows↔x∈o:=λ x=>by
   rw[(L4.uP rows).mem_iff];constructor
   .intro h;rcases zB9.mp h with h | h <;> obtain⟨y,hy,e⟩:=zB0.mp h
    .exact (oh e).elim
    .cases kG e;exact hy
   .exact λ h=>zB4 _ (List.mem_map_of_mem h)
  rw[zC7,zE5,yE,yE,yE];constructor
  .rintro⟨s,hs,g1,g2⟩;obtain⟨⟨x,x1,x2,x3⟩,y,y1,y2,y3⟩:=s1.snd s hs;exact⟨⟨x,(m0 x).mp x1,by omega,by omega⟩,y,(m1 y).mp y1,by omega,by omega⟩
  .rintro⟨⟨x,x1,x2,x3⟩,y,y1,y2,y3⟩;obtain⟨s,s1,g1,g2⟩:=s1.all x y ((m0 x).mpr x1) ((m1 y).mpr y1);exact⟨s,s1,by omega,by omega⟩
theorem pb {α:Type}(enc:α->T) (n:Nat) (h:∀ x,dep (enc x)<=n):∀ xs:List α,yw (xs.map enc)<=n
 | []=>by simp[yw]
 | x::xs=>by
  have:=h x;have:=pb enc n h xs;simp only[zA6,yw];omega
def YI (p:Int×Int):dep (zk p)<=1:=by simp[zk,dep,yw]
def YH (ps:List (Int×Int)):dep (.tup (ps.map zk))<=60:=by
 have:=pb zk 1 YI ps;simp only[dep];omega
end yt
namespace yt
open PySem L2 L3 L5 RN
noncomputable def bT (b:Bd):T:=.tup (b.map zk)
noncomputable def rT (r:List Bd):T:=.lst (r.map bT)
noncomputable def kt (b:Bool):T:=if b=true then .str "keeper" else .str "taker"
noncomputable def zL (w:Wy):T:=.tup [.int w.f,.int w.t,.int w.a,.int w.b]
noncomputable def w_ (b:Bool):Int:=if b=true then 1 else 0
noncomputable def y4 (s:Sl):T:=.tup [.int s.p,.int (w_ s.pu),.int s.gv,.int s.gt]
noncomputable def zq (F:zA):T:=.tup [.tup [.int F.A,.int F.B],.tup (F.os.map kt),.tup (F.ws.map zL),.tup (F.ss.map y4)]
def eq_int (i j:Int) (neg:Bool):zG neg (.int i) (.int j)=some (.bl (cond neg (!decide (i=j)) (decide (i=j)))):=by
 simp[zG,dep,eqT];cases neg <;> simp[Bool.beq_eq_decide_eq]
def XF (F:zA):pO [zq F]=some (.int F.os.length):=by
 simp[pO,c9,zq]
def My (q p:Int×Int):lY [zk q,zk p]=some (.bl (wF q p)):=by
 by_cases h1:p.1<=q.1 <;> by_cases h2:p.2<=q.2 <;> simp[lY,cZ,zk,wF,h1,h2]
def ND {α:Type}(g:α->Bool) (xs:List α):pA (xs.map λ x=>T.bl (g x))=some (xs.map g):=by
 have:=NF (xs.map g)
 rwa [zD6] at this
def Mx (A B:Int) (w:Wy) (bd:Bd) (hl:bd.length<64):lX [.tup [.int A,.int B],zL w,bT bd]=some (bT (qt A B w.a w.b bd)):=by
 have h1:lu [some (.im (.tup [.int A,.int B])),some (.im (zL w)),some (.im (bT bd)),none]=some (.lst ((bd.map (xu w.a w.b)).map zk)):=by
  rw[zD6];unfold lu;refine sL zk _ bd (by simp[bT]) (by omega) λ p _=>?_;simp[zk,zL,xu,yP,qW]
 have h2:lj [some (.im (.tup [.int A,.int B])),some (.im (zL w)),some (.im (bT bd)),some (.im (.lst ((bd.map (xu w.a w.b)).map zk)))]=some (.lst (((bd.map (xu w.a w.b)).filter (vC A B)).map zk)):=by
  have:=m5 zk (λ p=>if vC A B p=true then some (zk p) else none) (pick:=[none,some 0]) (it:=yx (zc 3)) (g:=zy 0) (c:=xj (zv lY (ze (zr 1) (ze (zr 0) zm)))) (f:=zr 0) (J:=[some (.im (.tup [.int A,.int B])),some (.im (zL w)),some (.im (bT bd)),some (.im (.lst ((bd.map (xu w.a w.b)).map zk)))]) (bd.map (xu w.a w.b)) (by simp) (by simp;omega) (λ p _=>by
   have e:T.tup [.int A,.int B]=zk (A,B):=rfl;have ga:wF (A,B) p=vC A B p:=rfl;simp only[qa,e];simp[My,ga];cases vC A B p <;> simp)
  unfold lj;rw[this,show ∀ l:List (Int×Int),l.filterMap (λ p=>if vC A B p=true then some (zk p) else none)=(l.filter (vC A B)).map zk from λ l=>by
   induction l with
   | nil=>rfl
   | cons a l ih=>by_cases h:vC A B a=true <;> simp[List.filterMap_cons,h,ih]]
 have h3:=jO ((bd.map (xu w.a w.b)).filter (vC A B)) (Nat.lt_of_le_of_lt (List.length_filter_le _ _) (by simpa using hl));unfold lX cY;generalize lu=d1 at h1 ⊢;generalize lj=d2 at h2 ⊢;generalize rh=ff at h3 ⊢;generalize (bd.map (xu w.a w.b)).map zk=L1 at h1 h2;generalize (((bd.map (xu w.a w.b)).filter (vC A B)).map zk)=L2 at h2 h3;simp[h1,h2,h3];rfl
def Mn (b c:Bd) (hl:b.length+c.length<64):lS [bT b,bT c]=some (bT (uE b c)):=Mo b c hl
def Mu (b c:Bd) (hl:b.length+c.length<64):lU [bT b,bT c]=some (bT (v_ b c)):=by
 obtain⟨sh,h1,_,h2⟩:=Mv b c hl;have:vo sh=v_ b c:=vx.eq (fK _) (fK _) λ q=>by
  rw[oE,h2,<- Xm]
 rw[<- this];exact h1
def Mm {A B:Int}(hA:0<=A/\A<=12) (bs:List Bd) (h:∀ b∈bs,Gd A B b):lV [.lst (bs.map bT)]=some (bT (uF bs)):=by
 obtain⟨J',h1,h2⟩:=u0 (is:=[2]) (g:=zy 2) (b:=lC) bT (λ p J=>J=[some (.im (.lst (bs.map bT))),some (.im (bT (p.foldl uE []))),none]) bs [some (.im (.lst (bs.map bT))),some (.im (bT [])),none] rfl (by
  rintro p x q e J rfl;have g1:Gd A B (p.foldl uE []):=mP p [] Gd.nil λ c hc=>h c (by rw[e];simp[hc]);have g2:Gd A B x:=h x (by rw[e];simp);have l1:=g1.qU hA.1;have l2:=g2.qU hA.1;refine⟨[some (.im (.lst (bs.map bT))),some (.im (bT (uE (p.foldl uE []) x))),some (.im (bT x))],?_,by simp⟩;simp[turn,lC,Mn (p.foldl uE []) x (by omega)])
 subst h2;unfold lV cW;generalize lC=bb at h1 ⊢;have e:bT []=.tup []:=rfl;rw[e] at h1;simp[h1,uF]
def Mt {A B:Int}(hA:0<=A/\A<=12) (hB:0<=B) (bs:List Bd) (h:∀ b∈bs,Gd A B b):lW [.lst (bs.map bT)]=some (bT (o_ bs)):=by
 obtain⟨J',h1,h2⟩:=u0 (is:=[2]) (g:=zy 2) (b:=lD) bT (λ p J=>J=[some (.im (.lst (bs.map bT))),some (.im (bT (p.foldl v_ xw))),none]) bs [some (.im (.lst (bs.map bT))),some (.im (bT xw)),none] rfl (by
  rintro p x q e J rfl;have g1:Gd A B (p.foldl v_ xw):=e_ p xw (Gd.xw hA.1 hB) λ c hc=>h c (by rw[e];simp[hc]);have g2:Gd A B x:=h x (by rw[e];simp);have l1:=g1.qU hA.1;have l2:=g2.qU hA.1;refine⟨[some (.im (.lst (bs.map bT))),some (.im (bT (v_ (p.foldl v_ xw) x))),some (.im (bT x))],?_,by simp⟩;simp[turn,lD,Mu (p.foldl v_ xw) x (by omega)])
 subst h2;unfold lW cX;generalize lD=bb at h1 ⊢;have e:bT xw=.tup [.tup [.int 0,.int 0]]:=rfl;rw[e] at h1;simp[h1,o_]
theorem Z4 {α:Type}{is:List Nat}{g:T->Ev->Option Ev}{b:Sm}(enc ret:α->T) (test:α->Bool) (J0:Ev):∀ (xs:List α) (J:Ev),yM is J=J0->
  (∀ x∈xs,∃ J',yM is J'=J0/\turn g b (enc x) J0=some (if test x=true then .rt (ret x) else .nx J'))->
  wQ is g b (xs.map enc) J=some (match xs.find? test with | some x=>.rt (ret x) | none=>.nx J0)
 | [],J,h,_=>by rw[List.map_nil,List.find?_nil,wQ,h]
 | x::xs,J,h,ht=>by
  rw[zA6,fE,h];obtain⟨J',h1,h2⟩:=ht x zMc;rw[h2,List.find?_cons];by_cases c:test x=true
  .rw[if_pos c,c];rfl
  .rw[if_neg c];rw[zE9] at c;rw[c];exact Z4 enc ret test J0 xs J' h1 λ y hy=>ht y (zMo _ hy)
def N_ (i a b:Int):jP [.int i,.int a,.int b]=some (.bl (decide (a<=i)&&decide (i<=b))):=by
 have h:jQ [.int i]=some (.bl true):=by simp[jQ,cR,v9]
 by_cases h1:a<=i <;> by_cases h2:i<=b <;> simp[jP,cQ,h,h1,h2]
def XI (F:zA) (p:Nat) (h:p<F.os.length):lT [zq F,.int p]=some .zj:=by
 have h1:=N_ p 0 ((F.os.length:Int)-1);rw[show decide ((0:Int)<=p)=true from decide_eq_true (by omega),show decide ((p:Int)<=(F.os.length:Int)-1)=true from decide_eq_true (by omega)] at h1;have h2:=XF F;unfold lT cU;generalize zq F=fl at *;simp[h1,h2]
def O_ (pu:Bool) (A B:Int) (sp gv gt:Int) (x y:Int) (hg:1<=gv) (b0 b1:T) (hb:zl b0 (.int (w_ pu))=some (.int (if pu=true then B else A))) (hs2:zl b1 (.int 2)=some (.int gv)) (hs3:zl b1 (.int 3)=some (.int gt)) (pr:T):
  ∀ (n m:Nat) (g t:Int) (acc:Bd),(if pu=true then B else A)+1-g<=n->n<m->acc.length+n<=1000->
  ∃ g' t',xK [] (zP (zb r_ (zc 5) (zb zl (zc 0) (zc 3)))) qq m [some (.im b0),some (.im b1),some (.im pr),some (.im (.int (w_ pu))),some (.own (.lst (acc.map zk))),some (.im (.int g)),some (.im (.int t))]
   = some (.nx [some (.im b0),some (.im b1),some (.im pr),some (.im (.int (w_ pu))),some (.own (.lst ((acc++xZ pu (if pu=true then B else A) gv gt n g t).map zk))),some (.im (.int g')),some (.im (.int t'))]):=by
 have hend:∀ (m:Nat) (g t:Int) (acc:Bd),¬ g<=(if pu=true then B else A)->xK [] (zP (zb r_ (zc 5) (zb zl (zc 0) (zc 3)))) qq (m+1) [some (.im b0),some (.im b1),some (.im pr),some (.im (.int (w_ pu))),some (.own (.lst (acc.map zk))),some (.im (.int g)),some (.im (.int t))]
   = some (.nx [some (.im b0),some (.im b1),some (.im pr),some (.im (.int (w_ pu))),some (.own (.lst (acc.map zk))),some (.im (.int g)),some (.im (.int t))]):=λ m g t acc hn=>by
  unfold xK;simp only[zl] at hb;simp[hb,hn]
 intro n
 induction n with
 | zero=>
  intro m g t acc h1 h2 h3;obtain⟨m,rfl⟩:∃ k,m=k+1:=⟨m-1,by omega⟩
  refine⟨g,t,?_⟩;rw[hend m g t acc (by omega)];simp[xZ]
 | succ n ih=>
  intro m g t acc h1 h2 h3;obtain⟨m,rfl⟩:∃ k,m=k+1:=⟨m-1,by omega⟩
  by_cases hc:g<=(if pu=true then B else A)
  .obtain⟨g',t',e⟩:=ih m (g+gv) (yP (t-gt)) (acc++[xl pu g t]) (by omega) (by omega) (by simp;omega);refine⟨g',t',?_⟩;have hb1:qq [some (.im b0),some (.im b1),some (.im pr),some (.im (.int (w_ pu))),some (.own (.lst (acc.map zk))),some (.im (.int g)),some (.im (.int t))]=some (.nx [some (.im b0),some (.im b1),some (.im pr),some (.im (.int (w_ pu))),some (.own (.lst ((acc++[xl pu g t]).map zk))),some (.im (.int (g+gv))),some (.im (.int (yP (t-gt))))]):=by
    simp only[zl] at hs2 hs3;have hl:acc.length<16777216:=by omega
    unfold qq;cases pu <;> simp[w_,eq_int,hs2,hs3,hl,qW,yP,xl,zk]
   unfold xK;simp only[zl] at hb;generalize qq=bb at *;have e2:xZ pu (if pu=true then B else A) gv gt (n+1) g t=xl pu g t::xZ pu (if pu=true then B else A) gv gt n (g+gv) (yP (t-gt)):=by
    rw[xZ,if_pos hc]
   rw[e2];simp only[List.append_assoc,List.singleton_append] at e;simp[hb,hc,hb1];simpa using e
  .refine⟨g,t,?_⟩;rw[hend m g t acc hc,xZ,if_neg hc,List.append_nil]
def Mq {F:zA}(ok:F.Ok) (s:Sl) (hs:1<=s.gv/\0<=s.gt) (p:Int×Int) (h0:0<=p.1/\0<=p.2):lM [.tup [.int F.A,.int F.B],y4 s,zk p]=some (.lst ((xo F s p).map zk)):=by
 obtain⟨sp,pu,gv,gt⟩:=s;have a1:=ok.a1;have b1:=ok.b1;obtain⟨g',t',h⟩:=O_ pu F.A F.B sp gv gt p.1 p.2 hs.1 (.tup [.int F.A,.int F.B]) (y4 ⟨sp,pu,gv,gt⟩) (by cases pu <;> simp[w_]) (by simp[y4]) (by simp[y4]) (zk p) 100 1000000 (zZ pu p) (yB pu p) [] (by cases pu <;> simp[zZ] <;> omega) (by decide) (by simp);unfold lM cA qA;generalize hb:qq=bb at h ⊢;unfold xo zA.zY;simp only[List.map_nil,List.nil_append] at h;cases pu <;> simp[y4,w_,zk,zZ,yB] at h ⊢ <;> simp[h]
def Md (F:zA) (p:Nat) (h:p<F.os.length) (hl:F.ss.length<=60):pM [zq F,.int p]=some (match F.stall p with | some s=>y4 s | none=>.zj):=by
 have hl':=Z4 (is:=[2]) (g:=zy 2) (b:=ng) y4 y4 (λ s=>decide (s.p=p)) [some (.im (zq F)),some (.im (.int p)),none] F.ss [some (.im (zq F)),some (.im (.int p)),none] (by simp) λ s _=>⟨[some (.im (zq F)),some (.im (.int p)),some (.im (y4 s))],by simp,by
  by_cases c:s.p=p
  .simp[turn,ng,y4,eq_int,c]
  .have c':¬ ((s.p:Int)=(p:Int)):=by omega
   simp[turn,ng,y4,eq_int,c,c']⟩
 have h1:=XI F p h;have h2:zl (zq F) (.int 3)=some (.tup (F.ss.map y4)):=by simp[zq]
 unfold pM cy;generalize ng=bb,zq F=fl at *;simp only[zl] at h2;unfold zA.stall;generalize F.ss.find? _=o at *;simp[h1,h2,hl'];cases o <;> simp
theorem Y5:∀ (ws:List Wy) (k:Nat),qj k (ws.map zL)=(ws.zipIdx k).map λ wi=>T.tup [.int (wi.2:Int),zL wi.1]
 | [],k=>rfl
 | w::ws,k=>by
  rw[zA6,qj,Y5 ws (k+1),List.zipIdx_cons,zA6]
theorem jW (f:Wy->Bool):∀ (ws:List Wy) (k:Nat),((ws.zipIdx k).filter λ wi=>f wi.1).map (λ wi=>wi.1)=ws.filter f
 | [],k=>rfl
 | w::ws,k=>by
  rw[List.zipIdx_cons,List.filter_cons,List.filter_cons];by_cases c:f w=true
  .rw[if_pos (by exact c),if_pos c,zA6,jW f ws]
  .rw[if_neg (by exact c),if_neg c,jW f ws]
def Mb (F:zA) (p:Nat) (h:p<F.os.length) (hl:F.ws.length<=60):lL [zq F,.int p]=some (.lst (((F.ws.zipIdx).filter λ wi=>decide (wi.1.f=p)).map λ wi=>T.int (wi.2:Int))):=by
 have hc:ll [some (.im (zq F)),some (.im (.int p))]=some (.lst (((F.ws.zipIdx).filter λ wi=>decide (wi.1.f=p)).map λ wi=>T.int (wi.2:Int))):=by
  have:=m5 (λ wi:Wy×Nat=>T.tup [.int (wi.2:Int),zL wi.1]) (λ wi=>if wi.1.f=p then some (T.int (wi.2:Int)) else none) (pick:=[none,none,some 1]) (it:=wq tU (ze (zb zl (zc 0) (cS (.int 2))) zm)) (g:=wM 2 (yy (zy 0) (yy (zy 1) vn))) (c:=zP (zb (zG false) (zb zl (zc 1) (cS (.int 0))) (zc 2))) (f:=zr 0) (J:=[some (.im (zq F)),some (.im (.int p))]) (F.ws.zipIdx) (by
   rw[<- Y5];simp[zq]) (by simp;omega) (λ wi _=>by
   by_cases c:wi.1.f=p
   .simp[zL,eq_int,c]
   .have c':¬ ((wi.1.f:Int)=(p:Int)):=by omega
    simp[zL,eq_int,c,c'])
  unfold ll;rw[this];congr 2
  induction F.ws.zipIdx with
  | nil=>rfl
  | cons a l ih=>by_cases c:a.1.f=p <;> simp[List.filterMap_cons,c,ih]
 have h1:=XI F p h;unfold lL cx;generalize ll=cc,zq F=fl at *;generalize List.map (λ wi:Wy×Nat=>T.int (wi.2:Int)) _=LL at *;simp[h1,hc]
theorem eF:∀ (b c:Bd),xO (b.map zk) (c.map zk)=decide (b=c)
 | [],[]=>by simp[xO]
 | [],_::_=>by simp[xO]
 | _::_,[]=>by simp[xO]
 | p::b,q::c=>by
  have h:=eF b c;have e:eqT (zk p) (zk q)=decide (p=q):=by
   obtain⟨p1,p2⟩:=p;obtain⟨q1,q2⟩:=q;by_cases h1:p1=q1 <;> by_cases h2:p2=q2 <;> simp[zk,eqT,xO,h1,h2]
  rw[zA6,zA6,xO,e,h];by_cases h1:p=q <;> by_cases h2:b=c <;> simp[h1,h2]
def Qn (b c:Bd):zG true (bT b) (bT c)=some (.bl (decide (b≠c))):=by
 have h1:dep (bT b)<=60:=YH b;have h2:dep (bT c)<=60:=YH c;unfold zG;rw[if_pos ⟨h1,h2⟩];show some (T.bl (!(xO (b.map zk) (c.map zk))))=_;rw[eF];by_cases h:b=c <;> simp[h]
def m6 (l:List Bd) (p:Nat) (h:p<l.length):zl (rT l) (.int p)=some (bT (l.getD p [])):=by
 show L2.z_ (l.map bT) (p:Int)=_;refine vv ?_;rw[zA3,zA1 h,zB1,zA1 h];rfl
def Mp {F:zA}(ok:F.Ok) (p:Nat) (hp:p<F.os.length) (b:Bd) (hb:Gd F.A F.B b):nD [zq F,.int p,bT b]=some (bT (match F.stall p with | none=>b | some s=>px F s b)):=by
 have h1:=Md F p hp ok.s8;cases hs:F.stall p with
 | none=>
  rw[hs] at h1;unfold nD jV;generalize pM=f1 at h1 ⊢;generalize zq F=fl,bT b=bb at *;have is1:uR false .zj .zj=some (.bl true):=rfl;simp[h1,is1]
 | some s=>
  rw[hs] at h1;replace h1:pM [zq F,.int p]=some (y4 s):=h1;have hmem:s∈F.ss:=List.mem_of_find?_eq_some hs;have hsz:=ok.ss s hmem;have h64:(F.A+1)*(F.B+1)<64:=by
   rcases ok.sl with x | x
   .rw[x] at hmem;cases hmem
   .exact x
  have a0:=ok.a0;have b0:=ok.b0;have hone:∀ x∈b,((xo F s x).length:Int)<=F.zY s.pu+1:=λ x hx=>by
   have q:=hb.xS x hx;have:=Xh s.pu (F.zY s.pu) s.gv s.gt hsz.1 100 (zZ s.pu x) (yB s.pu x) (by unfold zA.zY zZ;split <;> omega);have g0:0<=zZ s.pu x:=by unfold zZ;split <;> omega
   unfold xo;omega
  have hall:∀ q:Bd,(∀ x∈q,x∈b)->((q.flatMap (xo F s)).length:Int)<=q.length*(F.zY s.pu+1):=λ q=>by
   induction q with
   | nil=>intro _;simp
   | cons x q ih=>
    intro hq;have i1:=ih λ y hy=>hq y (zMo _ hy);have i2:=hone x (hq x zMc);rw[List.flatMap_cons,zD7,zC0,Int.natCast_add,Int.natCast_add,Int.add_mul];omega
  have hlen:(b.flatMap (xo F s)).length<64:=by
   have h2:=hall b λ _ h=>h;have l1:=hb.qU a0;have l2:=hb.Q8 b0;have:((b.flatMap (xo F s)).length:Int)<64:=by
    refine Int.lt_of_le_of_lt h2 (Int.lt_of_le_of_lt ?_ h64);unfold zA.zY;split
    .exact Int.mul_le_mul_of_nonneg_right l1 (by omega)
    .rw[Int.mul_comm (F.A+1)];exact Int.mul_le_mul_of_nonneg_right l2 (by omega)
   omega
  have hbr:zl (zq F) (.int 0)=some (.tup [.int F.A,.int F.B]):=by simp[zq]
  obtain⟨J',h2,h3⟩:=u0 (is:=[5]) (g:=zy 5) (b:=lE) zk (λ q J=>J=[some (.im (zq F)),some (.im (.int p)),some (.im (bT b)),some (.im (y4 s)),some (.own (.lst ((q.flatMap (xo F s)).map zk))),none]) b [some (.im (zq F)),some (.im (.int p)),some (.im (bT b)),some (.im (y4 s)),some (.own (.lst [])),none] rfl (by
   rintro q x r e J rfl;have hx:x∈b:=by rw[e];simp
   have q1:=hb.xS x hx;have hF:=Mq ok s hsz x ⟨q1.1.1,q1.2.1⟩;have hl2:(q.flatMap (xo F s)).length+(xo F s x).length<=16777216:=by
    have e2:(b.flatMap (xo F s)).length=(q.flatMap (xo F s)).length+((xo F s x).length+(r.flatMap (xo F s)).length):=by rw[e];simp
    omega
   refine⟨[some (.im (zq F)),some (.im (.int p)),some (.im (bT b)),some (.im (y4 s)),some (.own (.lst (((q++[x]).flatMap (xo F s)).map zk))),some (.im (zk x))],?_,by simp⟩;have e3:((q++[x]).flatMap (xo F s)).map zk=(q.flatMap (xo F s)).map zk++(xo F s x).map zk:=by simp
   rw[e3];unfold turn lE;have l3:((q.flatMap (xo F s)).map zk).length+((xo F s x).map zk).length<=16777216:=by simpa using hl2
   generalize lM=ff,(q.flatMap (xo F s)).map zk=L1,(xo F s x).map zk=L2,zq F=fl at *;simp only[zl] at hbr;simp[hbr,hF,l3])
  subst h3;have hF:=jO (b.flatMap (xo F s)) hlen;have nn:uR false (y4 s) .zj=some (.bl false):=rfl;unfold nD jV;generalize lE=bb,rh=ff,pM=f1,(b.flatMap (xo F s)).map zk=L1 at *;have hbT:we (bT b)=some (b.map zk):=rfl;generalize bT b=bt,zq F=fl,y4 s=st at *;simp[h1,nn,hbT,h2,hF];rfl
def Mi {F:zA}(ok:F.Ok) (p:Nat) (hp:p<F.os.length) (l:List Bd) (hl:l.length=F.os.length) (hg:∀ b∈l,Gd F.A F.B b):lN [zq F,.int p,rT l]=some (bT (y9 F l p)):=by
 have h1:=Mb F p hp ok.pW;have hw2:zl (zq F) (.int 2)=some (.tup (F.ws.map zL)):=by simp[zq]
 have hw0:zl (zq F) (.int 0)=some (.tup [.int F.A,.int F.B]):=by simp[zq]
 have hw1:zl (zq F) (.int 1)=some (.tup (F.os.map kt)):=by simp[zq]
 have c1:lq [some (.im (zq F)),some (.im (.int p)),some (.im (rT l)),none,none]=some (.lst ((F.ws.filter λ w=>decide (w.f=p)).map zL)):=by
  rw[<- jW (λ w=>decide (w.f=p)) F.ws 0,zD6];unfold lq;refine sL (λ wi:Wy×Nat=>T.int (wi.2:Int)) _ ((F.ws.zipIdx).filter λ wi=>decide (wi.1.f=p)) ?_ (zE0 (List.length_filter_le _ _) (by rw[List.length_zipIdx];have:=ok.pW;omega)) λ wi hwi=>?_
  .generalize lL=ff at *;simp[h1]
  .have hm:=(zC8.mp hwi).1;have hg:=List.mem_zipIdx_iff_getElem?.mp hm;have:L2.z_ (F.ws.map zL) (wi.2:Int)=some (zL wi.1):=by
    exact vv (by rw[zA3,hg];rfl)
   generalize zq F=fl at *;simp only[zl] at hw2;simp[hw2,this]
 have c2:lh [some (.im (zq F)),some (.im (.int p)),some (.im (rT l)),some (.im (.lst ((F.ws.filter λ w=>decide (w.f=p)).map zL))),none]=some (.lst ((x_ F l p).map bT)):=by
  unfold x_;rw[zD6];unfold lh;refine sL zL _ (F.ws.filter λ w=>decide (w.f=p)) (by simp) (zE0 (List.length_filter_le _ _) (by have:=ok.pW;omega)) λ w hw=>?_;have hm:=(zC8.mp hw).1;have ht:w.t<l.length:=by rw[hl];exact (ok.ws w hm).2
  have e1:=m6 l w.t ht;have gb:Gd F.A F.B (l.getD w.t []):=by
   rw[zB1,zA1 ht];exact hg _ (zD8 ht)
  have l13:=gb.qU ok.a0;have a12:=ok.a1;have hF:=Mx F.A F.B w (l.getD w.t []) (by omega);have e2:zl (zL w) (.int 1)=some (.int (w.t:Int)):=by simp[zL]
  obtain⟨bd,hbd⟩:∃ bd,l.getD w.t []=bd:=⟨_,rfl⟩
  rw[hbd] at e1 gb hF;have hbd':(l[w.t]?).getD []=bd:=by rw[<- hbd,zB1]
  generalize lX=ff,zq F=fl,rT l=rt,zL w=wt at *;simp only[zl] at hw0 e1 e2;simp[hw0,e1,e2,hF,hbd']
 have gah:=j8 F l p;have c3:=Mm ⟨ok.a0,ok.a1⟩ (x_ F l p) gah;have c4:=Mt ⟨ok.a0,ok.a1⟩ ok.b0 (x_ F l p) gah;have c5:=Mp ok p hp (uF (x_ F l p)) (mP _ _ Gd.nil gah);have ho:L2.z_ (F.os.map kt) (p:Int)=some (kt (F.os.getD p false)):=by
  refine vv ?_;rw[zA3,zA1 hp,zB1,zA1 hp];rfl
 have hk:∀ b:Bool,zG false (kt b) (.str "keeper")=some (.bl b):=λ b=>by cases b <;> rfl
 unfold lN cC;generalize lq=d1,lh=d2,lV=f1,lW=f2,nD=f3,((F.ws.filter λ w=>decide (w.f=p)).map zL)=L1,zq F=fl,rT l=rt at *;unfold y9;have hk':=hk (F.os.getD p false);generalize F.os.getD p false=kb at *;generalize kt kb=ktb at *;generalize (T.str "keeper")=ks at *;simp only[zl] at hw1;cases kb with
 | true=>
  simp[c1,c2,hw1,ho,hk',c3,c5]
  all_goals (cases F.stall p <;> rfl)
 | false=>simp[c1,c2,hw1,ho,hk',c4]
theorem eA {α β:Type}(c:α->Bool) (g:α->β):∀ l:List α,l.filterMap (λ x=>if c x=true then some (g x) else none)=(l.filter c).map g
 | []=>rfl
 | a::l=>by by_cases h:c a=true <;> simp[List.filterMap_cons,h,eA c g l]
def Pg (t:Nat) (fr:List Nat):oM false (.int t) (.lst (fr.map λ(k:Nat)=>T.int (k:Int)))=some (.bl (fr.contains t)):=by
 have d1:yw (fr.map λ(k:Nat)=>T.int (k:Int))<=60:=by
  refine pb _ 60 (λ x=>?_) fr;simp[dep]
 have d0:dep (.int (t:Int))<=60:=by simp[dep]
 unfold oM;show (if dep (.int (t:Int))<=60/\yw (fr.map λ(k:Nat)=>T.int (k:Int))<=60 then _ else _)=_;rw[if_pos ⟨d0,d1⟩];show some (T.bl ((fr.map λ(k:Nat)=>T.int (k:Int)).any λ x=>eqT x (.int t)))=_;congr 2;rw[zC7,zD0,List.contains_iff_mem];constructor
 .rintro⟨x,hx,h⟩;obtain⟨k,hk,rfl⟩:=zB0.mp hx;have:(k:Int)=(t:Int):=by simpa [eqT] using h
  have:k=t:=by omega
  subst this;exact hk
 .intro h;exact⟨_,zB0.mpr ⟨t,h,rfl⟩,by simp[eqT]⟩
def Mh {F:zA}(ok:F.Ok) (last:List Bd) (fr:List Nat) (hl:last.length=F.os.length) (hg:∀ b∈last,Gd F.A F.B b):
  nv [zq F,rT last,.lst (fr.map λ(k:Nat)=>T.int (k:Int))]=some (rT (yj F last fr)):=by
 have hw2:zl (zq F) (.int 2)=some (.tup (F.ws.map zL)):=by simp[zq]
 have c1:lp [some (.im (zq F)),some (.im (rT last)),some (.im (.lst (fr.map λ(k:Nat)=>T.int (k:Int)))),some (.own (.lst (last.map bT))),none]=some (.lst (((F.ws.filter λ w=>fr.contains w.t).map λ w=>(w.f:Int)).map T.int)):=by
  have:=m5 zL (λ w=>if fr.contains w.t=true then some (T.int (w.f:Int)) else none) (pick:=[none,some 2]) (it:=yx (zb zl (zc 0) (cS (.int 2)))) (g:=zy 0) (c:=zP (zb (oM false) (zb zl (zc 0) (cS (.int 1))) (zc 1))) (f:=zb zl (zc 0) (cS (.int 0))) (J:=[some (.im (zq F)),some (.im (rT last)),some (.im (.lst (fr.map λ(k:Nat)=>T.int (k:Int)))),some (.own (.lst (last.map bT))),none]) F.ws (by
    generalize zq F=fl at *;simp only[zl] at hw2;simp[hw2]) (by have:=ok.pW;omega) (λ w _=>by
   have hi:=Pg w.t fr;generalize (T.lst (fr.map λ(k:Nat)=>T.int (k:Int)))=ft,fr.contains w.t=cb at *;cases cb <;> simp[zL,hi])
  unfold lp;rw[this];rw[eA (λ w:Wy=>fr.contains w.t) (λ w:Wy=>T.int (w.f:Int)),zD6];rfl
 have hss:qE [.lst (((F.ws.filter λ w=>fr.contains w.t).map λ w=>(w.f:Int)).map T.int)]=some (.lst ((wY ((F.ws.filter λ w=>fr.contains w.t).map λ w=>(w.f:Int))).map T.int)):=by
  show (match u7 (((F.ws.filter λ w=>fr.contains w.t).map λ w=>(w.f:Int)).map T.int) with | some ns=>_ | none=>_)=_;rw[Ya];refine if_pos ?_;have:=List.length_filter_le (λ w:Wy=>fr.contains w.t) F.ws;have:=ok.pW;simp only[zA7];omega
 have hmem:∀ k∈wY ((F.ws.filter λ w=>fr.contains w.t).map λ w=>(w.f:Int)),∃ p:Nat,k=(p:Int)/\p<F.os.length/\uS F fr p=true:=λ k hk=>by
  obtain⟨w,hw,rfl⟩:=zB0.mp (ja.mp hk);obtain⟨w1,w2⟩:=zC8.mp hw;exact⟨w.f,rfl,(ok.ws w w1).1,zD0.mpr ⟨w,w1,by simpa using w2⟩⟩
 have hway:∀ p:Nat,uS F fr p=true->(p:Int)∈wY ((F.ws.filter λ w=>fr.contains w.t).map λ w=>(w.f:Int)):=λ p h=>by
  obtain⟨w,w1,w2⟩:=zD0.mp h;have w3:w.f=p/\fr.contains w.t=true:=by simpa using w2
  exact ja.mpr (zB0.mpr ⟨w,zC8.mpr ⟨w1,w3.2⟩,by rw[w3.1]⟩)
 generalize wY ((F.ws.filter λ w=>fr.contains w.t).map λ w=>(w.f:Int))=up at *;have ft:∃ t,(T.lst (fr.map λ(k:Nat)=>T.int (k:Int)))=t:=⟨_,rfl⟩
 obtain⟨J',h1,h2⟩:=u0 (is:=[4]) (g:=zy 4) (b:=l5) T.int (λ pre J=>J=[some (.im (zq F)),some (.im (rT last)),some (.im (.lst (fr.map λ(k:Nat)=>T.int (k:Int)))),some (.own (.lst (((List.range last.length).map λ(p:Nat)=>if (p:Int)∈pre then y9 F last p else last.getD p []).map bT))),none]) up
   [some (.im (zq F)),some (.im (rT last)),some (.im (.lst (fr.map λ(k:Nat)=>T.int (k:Int)))),some (.own (.lst (last.map bT))),none] (by
  have e:(List.range last.length).map (λ(p:Nat)=>if (p:Int)∈([]:List Int) then y9 F last p else last.getD p [])=last:=by
   refine List.ext_getElem (by simp) λ i h1 h2=>?_;simp[h2]
  rw[e];rfl) (by
  rintro pre k q e J rfl;obtain⟨p,rfl,hp,hw⟩:=hmem k (by rw[e];simp);have hF:=Mi ok p hp last hl hg;refine⟨[some (.im (zq F)),some (.im (rT last)),some (.im (.lst (fr.map λ(k:Nat)=>T.int (k:Int)))),some (.own (.lst (((List.range last.length).map λ(i:Nat)=>if (i:Int)∈pre++[(p:Int)] then y9 F last i else last.getD i []).map bT))),some (.im (.int p))],?_,by simp⟩;have hset:(((List.range last.length).map λ(i:Nat)=>if (i:Int)∈pre then y9 F last i else last.getD i []).map bT).set p (bT (y9 F last p))=((List.range last.length).map λ(i:Nat)=>if (i:Int)∈pre++[(p:Int)] then y9 F last i else last.getD i []).map bT:=by
   refine List.ext_getElem (by simp) λ i h1 h2=>?_;rw[List.getElem_set];simp only[List.getElem_map,List.getElem_range,zB9,zB6];by_cases c:p=i
   .subst c;simp
   .have c':¬ ((i:Int)=(p:Int)):=by omega
    simp[c,c']
  have hix:wR (((List.range last.length).map λ(i:Nat)=>if (i:Int)∈pre then y9 F last i else last.getD i []).map bT).length (p:Int)=some p:=by
   unfold wR;simp only[zA7,zC5];rw[if_pos (by omega),if_pos (by omega),Int.toNat_natCast]
  rw[<- hset];unfold turn l5;generalize lN=ff,(((List.range last.length).map λ(i:Nat)=>if (i:Int)∈pre then y9 F last i else last.getD i []).map bT)=LL,zq F=fl,rT last=rl,(T.lst (fr.map λ(k:Nat)=>T.int (k:Int)))=ftt at *;simp[hF,hix])
 subst h2;have fin:((List.range last.length).map λ(p:Nat)=>if (p:Int)∈up then y9 F last p else last.getD p [])=yj F last fr:=by
  unfold yj;refine List.map_congr_left λ p hp=>?_;by_cases c:uS F fr p=true
  .rw[if_pos c,if_pos (hway p c)]
  .rw[if_neg c,if_neg λ h=>c (by obtain⟨p',e,_,h'⟩:=hmem _ h;exact (show p'=p by omega)▸h')]
 rw[fin] at h1;have hlist:listS [rT last]=some (.lst (last.map bT)):=rfl;unfold nv cB;generalize lp=cc,l5=bb,(((F.ws.filter λ w=>fr.contains w.t).map λ w=>(w.f:Int)).map T.int)=L1 at *;generalize hup:up.map T.int=L2 at *;generalize last.map bT=L3,zq F=fl at *;have hsq:we (rT last)=some L3:=by simpa using hlist
 generalize rT last=rl,(T.lst (fr.map λ(k:Nat)=>T.int (k:Int)))=ftt at *;simp[hsq,c1,hss,h1,rT]
theorem Y6 {α:Type}(enc:α->T) (d:α) (fo:List α):∀ (l:List α) (k:Nat),(∀ i,l.getD i d=fo.getD (k+i) d)->qj k (l.map enc)=(List.range l.length).map λ(p:Nat)=>T.tup [.int ((k+p:Nat):Int),enc (fo.getD (k+p) d)]
 | [],k,_=>rfl
 | b::l,k,h=>by
  have h0:=h 0;rw[zA6,qj,Y6 enc d fo l (k+1) λ i=>by have:=h (i+1);rw[show k+1+i=k+(i+1) from by omega];simpa using this];rw[zC0,List.range_succ_eq_map,zA6,zD6];have e:b=fo.getD k d:=by simpa using h0
  congr 1
  .rw[e];rfl
  .refine List.map_congr_left λ p _=>?_;simp only[Function.comp];rw[show k+1+p=k+Nat.succ p from by omega]
noncomputable def xF (fr:List Nat):T:=.lst (fr.map λ(k:Nat)=>T.int (k:Int))
def N5 (a:T) (b c:Option L5.W) (last fo:List Bd) (hl:fo.length=last.length) (h16:fo.length<=10000):oX [some (.im a),b,c,some (.im (rT last)),some (.im (rT fo))]=some (xF (xN last fo)):=by
 have:=m5 (λ p:Nat=>T.tup [.int (p:Int),bT (fo.getD p [])]) (λ p=>if decide (fo.getD p []≠last.getD p [])=true then some (T.int (p:Int)) else none) (pick:=[none,none,some 3]) (it:=wq tU (ze (zc 4) zm)) (g:=wM 2 (yy (zy 0) (yy (zy 1) vn))) (c:=zP (zb (zG true) (zc 1) (zb zl (zc 2) (zc 0)))) (f:=zr 0) (J:=[some (.im a),b,c,some (.im (rT last)),some (.im (rT fo))]) (List.range fo.length) (by
   have:=Y6 bT [] fo fo 0 λ i=>by rw[Nat.zero_add]
   simp only[Nat.zero_add] at this;have e:tU [rT fo]=some (qj 0 (fo.map bT)):=rfl;rw[<- this];generalize tU=en at *;simp[e]) (by simp;omega) (λ p hp=>by
  have hp':p<last.length:=by rw[<- hl];exact zC1.mp hp
  have h1:=m6 last p hp';have h2:=Qn (fo.getD p []) (last.getD p []);generalize fo.getD p []=x,last.getD p []=y,rT last=rl at *;generalize decide (x≠y)=d at *;simp only[zl] at h1;cases d <;> simp[h1,h2])
 unfold oX;rw[this,eA (λ p:Nat=>decide (fo.getD p []≠last.getD p [])) (λ p:Nat=>T.int (p:Int))];rfl
theorem bW {F:zA}(ok:F.Ok):∀ (n:Nat) (pre:List (List Bd)) (last:List Bd) (fr:List Nat) (res:List (List Bd)),St F last fr->rL F n pre last fr=some res->pre.length+n<=10000->∀ (m:Nat),n<m->∀ x3 x4:Option L5.W,
  ∃ fr',xK [3,4] (xj (zc 2)) tj m [some (.im (zq F)),some (.own (.lst ((pre++[last]).map rT))),some (.im (xF fr)),x3,x4]=some (.nx [some (.im (zq F)),some (.own (.lst (res.map rT))),some (.im fr'),none,none])
 | 0,_,_,_,_,_,h,_,_,_,_,_=>by cases h
 | n+1,pre,last,fr,res,s,h,hn,m,hm,x3,x4=>by
  have hend:∀ (m:Nat) (told:List (List Bd)) (x3 x4:Option L5.W),xK [3,4] (xj (zc 2)) tj (m+1) [some (.im (zq F)),some (.own (.lst (told.map rT))),some (.im (xF [])),x3,x4]=some (.nx [some (.im (zq F)),some (.own (.lst (told.map rT))),some (.im (xF [])),none,none]):=λ m told x3 x4=>by
   unfold xK;simp[xF]
  obtain⟨m,rfl⟩:∃ k,m=k+1:=⟨m-1,by omega⟩
  unfold rL at h;by_cases hfr:fr=[]
  .rw[if_pos hfr] at h;cases h;subst hfr;exact⟨_,hend m _ x3 x4⟩
  .rw[if_neg hfr] at h;dsimp only at h;have hlen:=s.len;have n8:=ok.n8;have hF:=Mh ok last fr s.len s.gd;have hlast:zl (.lst ((pre++[last]).map rT)) (.int (-1))=some (rT last):=by
    show L2.z_ ((pre++[last]).map rT) (-1)=_;rw[zE7];exact nj _ _
   have hc:=λ b c=>N5 (zq F) b c last (yj F last fr) (rX ..) (by rw[rX,s.len];omega);have hne:rD (xF fr)=some true:=by
    cases fr with
    | nil=>exact absurd rfl hfr
    | cons a l=>rfl
   have hb:∃ told',tj [some (.im (zq F)),some (.own (.lst ((pre++[last]).map rT))),some (.im (xF fr)),none,none]=some (.nx [some (.im (zq F)),some (.own (.lst (told'.map rT))),some (.im (xF (xN last (yj F last fr)))),some (.im (rT last)),some (.im (rT (yj F last fr)))])/\told'=if xN last (yj F last fr)=[] then pre++[last] else pre++[last]++[yj F last fr]:=by
    have hl2:((pre++[last]).map rT).length<16777216:=by simp;omega
    by_cases hf:xN last (yj F last fr)=[]
    .refine⟨pre++[last],?_,by rw[if_pos hf]⟩;have ht:rD (xF (xN last (yj F last fr)))=some false:=by rw[hf];rfl
     unfold tj;generalize oX=cc,nv=ff,(pre++[last]).map rT=L1,xF (xN last (yj F last fr))=f2 at *;unfold xF at *;simp only[zl] at hlast;generalize (T.lst (fr.map λ(k:Nat)=>T.int (k:Int)))=f1,rT (yj F last fr)=r2,rT last=r1 at *;simp only[we] at hlast;simp[-rD,hlast,hF,hc,ht]
    .refine⟨pre++[last]++[yj F last fr],?_,by rw[if_neg hf]⟩;have ht:rD (xF (xN last (yj F last fr)))=some true:=by
      cases e:xN last (yj F last fr) with
      | nil=>exact absurd e hf
      | cons a l=>rfl
     have e2:(pre++[last]++[yj F last fr]).map rT=(pre++[last]).map rT++[rT (yj F last fr)]:=by simp
     rw[e2];unfold tj;generalize oX=cc,nv=ff,(pre++[last]).map rT=L1,xF (xN last (yj F last fr))=f2 at *;unfold xF at *;simp only[zl] at hlast;generalize (T.lst (fr.map λ(k:Nat)=>T.int (k:Int)))=f1,rT (yj F last fr)=r2,rT last=r1 at *;simp only[we] at hlast;simp[-rD,hlast,hF,hc,ht,hl2]
   obtain⟨told',hb1,hb2⟩:=hb;have key:∀ R,xK [3,4] (xj (zc 2)) tj m [some (.im (zq F)),some (.own (.lst (told'.map rT))),some (.im (xF (xN last (yj F last fr)))),some (.im (rT last)),some (.im (rT (yj F last fr)))]=R->xK [3,4] (xj (zc 2)) tj (m+1) [some (.im (zq F)),some (.own (.lst ((pre++[last]).map rT))),some (.im (xF fr)),x3,x4]=R:=λ R e=>by
    rw[xK];generalize hbb:tj=bb at *;generalize hlw:xK [3,4] (xj (zc 2)) bb m=lw at *;have hf:yM [3,4] [some (.im (zq F)),some (.own (.lst ((pre++[last]).map rT))),some (.im (xF fr)),x3,x4]=[some (.im (zq F)),some (.own (.lst ((pre++[last]).map rT))),some (.im (xF fr)),none,none]:=rfl;rw[hf];have ht:xj (zc 2) [some (.im (zq F)),some (.own (.lst ((pre++[last]).map rT))),some (.im (xF fr)),none,none]=some true:=by
     generalize xF fr=f1 at *;simp[-rD,hne]
    rw[ht,zC9,if_pos rfl,hb1,zC9];exact e
   by_cases hf:xN last (yj F last fr)=[]
   .rw[if_pos hf] at h hb2;cases h;subst hb2;rw[hf] at key;obtain⟨m,rfl⟩:∃ k,m=k+1:=⟨m-1,by omega⟩
    exact⟨_,key _ (hend m _ _ _)⟩
   .rw[if_neg hf] at h hb2;subst hb2;obtain⟨fr',e⟩:=bW ok n (pre++[last]) (yj F last fr) (xN last (yj F last fr)) res (s.next ok) h (by simp;omega) m (by omega) (some (.im (rT last))) (some (.im (rT (yj F last fr))));exact⟨fr',key _ e⟩
def Me {F:zA}(ok:F.Ok):∃ more,pN [zq F]=some (.lst ((RN.start F::more).map rT))/\(∀ r∈RN.start F::more,r.length=F.os.length/\∀ b∈r,Gd F.A F.B b)/\more.length<=2000/\rL F 2000 [] (RN.start F) (List.range F.os.length)=some (RN.start F::more):=by
 have hmu:=Zw (RN.start F);have hsl:(RN.start F).length=F.os.length:=by unfold RN.start;simp
 have n8:=ok.n8;have n1:=ok.n1;obtain⟨more,last',e1,e2,_,e4⟩:=bX ok 2000 [] (RN.start F) (List.range F.os.length) (St.start ok) (by omega);obtain⟨fr',e⟩:=bW ok 2000 [] (RN.start F) (List.range F.os.length) _ (St.start ok) e1 (by simp) 1000000 (by decide) none none;refine⟨more,?_,e2,by omega,e1⟩;have hp:=XF F;have hst:rT (RN.start F)=.lst (List.replicate F.os.length (.tup [.tup [.int 0,.int 0]])):=by
  unfold rT RN.start;rw[List.map_replicate];rfl
 have hmul:wB (.lst [.tup [.tup [.int 0,.int 0]]]) (.int F.os.length)=some (rT (RN.start F)):=by
  rw[hst];unfold wB;dsimp only;rw[if_pos ⟨by simp,by omega,by omega,Q4 (by simp;omega)⟩];have:∀ n:Nat,(List.replicate n [T.tup [.tup [.int 0,.int 0]]]).flatten=List.replicate n (.tup [.tup [.int 0,.int 0]]):=λ n=>by
   induction n with
   | zero=>rfl
   | succ n ih=>rw[List.replicate_succ,List.replicate_succ,List.flatten_cons,ih];rfl
  rw[Int.toNat_natCast,this]
 have hrg:m4 [.int F.os.length]=some (xF (List.range F.os.length)):=by
  show (if 0<=(F.os.length:Int)/\(F.os.length:Int)<=16777216 then some (T.lst (rangeT 0 (F.os.length:Int).toNat)) else none)=_;rw[if_pos ⟨by omega,by omega⟩];show some (T.lst ((List.range (F.os.length:Int).toNat).map λ(k:Nat)=>T.int (0+(k:Int))))=_;rw[Int.toNat_natCast];unfold xF;simp
 unfold pN cz qA;generalize tj=bb,pO=ff,m4=lr at *;simp only[List.nil_append,zA6,List.map_nil] at e;generalize xF (List.range F.os.length)=f1 at *;rw[zA6];generalize rT (RN.start F)=r0,zq F=fl at *;generalize hlw:xK [3,4] (xj (zc 2)) bb 1000000=lw at *;generalize wB=mw at *;simp[hp,hmul,hrg,e]
def Zv (i j:Int):wB (.int i) (.int j)=if wI i j then some (.int (i*j)) else none:=rfl
def Pe {r:List Int}{rs:List (List Int)}:u7 ((r::rs).map yq)=none:=rfl
def Vq (rs:List (List Int)) (h0:rs≠[]) (hl:rs.length<64) (hn:∀ r∈rs,r≠[]):qE [.lst (rs.map yq)]=some (.lst ((L4.xW (wO rs)).map yq)):=by
 cases rs with
 | nil=>exact absurd rfl h0
 | cons r rs=>
  show (match u7 ((r::rs).map yq) with
   | some ns=>if ns.length<64 then some (T.lst ((wY ns).map T.int)) else none
   | none=>ky [T.lst ((r::rs).map yq)])=_
  rw[Pe];show (uq ((r::rs).map yq)).bind _=_;rw[gs,zC9,if_pos ⟨hl,hn⟩]
def eW (ns:List Int) (k:Nat):0<=cell ns k:=by
 unfold cell;split
 .exact Int.emod_nonneg _ (by decide)
 .exact zC6 _
def nU {L:List T}{P:Int->Prop}(hP:∀ y∈L,∃ v,y=.int v/\P v) {i:Int}(h0:0<=i) (h1:i<L.length):∃ v,L2.z_ L i=some (.int v)/\P v:=by
 have hl:i.toNat<L.length:=by omega
 have e:L2.z_ L i=some L[i.toNat]:=by
  have:=vv (k:=i.toNat) (zA1 hl);rw[zF2 h0] at this;exact this
 obtain⟨v,e2,hv⟩:=hP _ (zD8 hl);exact⟨v,by rw[e,e2],hv⟩
def XH (x:Int):∃ y,rj [.int x]=some (.int y):=by
 have d5:wb x 5:=⟨by decide,by decide⟩
 by_cases h:x%5=1
 .exact⟨_,by simp[rj,jU,eq_int,h,d5];rfl⟩
 .exact⟨_,by simp[rj,jU,eq_int,h,d5];rfl⟩
def Mg (ns:List Int) (many:Nat) (hm:many<=8):∃ os:List Bool,n6 [zR ns,.int many]=some (.tup (os.map kt))/\os.length=many:=by
 have hc:=pQ ns 2;generalize cell ns 2=num at *;obtain⟨J',h1,c,os,h2,h3⟩:=u0 (is:=[4]) (g:=zy 4) (b:=l6) (λ k:Nat=>T.int (0+(k:Int))) (λ p J=>∃ (c:Int) (os:List Bool),J=[some (.im (zR ns)),some (.im (.int many)),some (.im (.int c)),some (.own (.lst (os.map kt))),none]/\os.length=p.length)
   (List.range many) [some (.im (zR ns)),some (.im (.int many)),some (.im (.int num)),some (.own (.lst [])),none] ⟨num,[],rfl,rfl⟩ (by
  rintro p k q e J ⟨c,os,rfl,r1⟩;have hp:p.length<many:=by have:=congrArg List.length e;simp at this;omega
  have hl:(os.map kt).length<16777216:=by simp;omega
  have d2:wb c 2:=⟨by decide,by decide⟩
  have pk:∃ b:Bool,L2.z_ [T.str "keeper",T.str "taker"] (c%2)=some (kt b):=by
   rcases Int.emod_two_eq c with h | h <;> rw[h]
   .exact⟨true,rfl⟩
   .exact⟨false,rfl⟩
  obtain⟨b,hb⟩:=pk;refine⟨[some (.im (zR ns)),some (.im (.int many)),some (.im (.int (c/2))),some (.own (.lst ((os++[b]).map kt))),some (.im (.int (0+(k:Int))))],?_,c/2,os++[b],by simp,by simp[r1]⟩;have e2:(os++[b]).map kt=os.map kt++[kt b]:=by simp
  rw[e2];unfold turn l6;generalize (T.str "keeper")=s1,(T.str "taker")=s2,kt b=kb,os.map kt=L,(0+(k:Int))=kk at *;simp[hb,hl,d2])
 subst h2;have hr:=rM many (by omega);refine⟨os,?_,by simpa using h3⟩;unfold n6 cH;generalize l6=bb,os.map kt=L,(List.range many).map (λ(k:Nat)=>T.int (0+(k:Int)))=R at *;have hc':xh [zR ns,.int 2]=some (.int num):=hc;generalize xh=fc,zR ns=sc at *;simp[hc',hr,h1]
def kc (A B:Int):Prop:=(0<=A/\A<=12)/\(0<=B/\B<=12)/\((A=12/\B=12)\/(A+1)*(B+1)<64)
def kc.small {A B:Int}(h:0<=A/\A<=5) (h':0<=B/\B<=5):kc A B:=by
 refine⟨⟨h.1,by omega⟩,⟨h'.1,by omega⟩,.inr ?_⟩;have:(A+1)*(B+1)<=6*6:=Int.mul_le_mul (by omega) (by omega) (by omega) (by decide);omega
def Ms (ns:List Int) (many:Nat):∃ A B:Int,nB [zR ns,.int many]=some (.tup [.int A,.int B])/\kc A B:=by
 have hc:=pQ ns 1;have c0:=eW ns 1;generalize cell ns 1=num at *;have hc':xh [zR ns,.int 1]=some (.int num):=hc;have d8:wb num 8:=⟨by decide,by decide⟩
 have d64:wb num 64:=⟨by decide,by decide⟩
 obtain⟨x,hx,x0,x5⟩:=nU (L:=[T.int 3,.int 2,.int 4,.int 1,.int 5,.int 2,.int 3,.int 0]) (P:=λ v=>0<=v/\v<=5) (by intro y hy;simp only[zA5,List.mem_nil_iff,or_false] at hy;rcases hy with rfl | rfl | rfl | rfl | rfl | rfl | rfl | rfl <;> exact⟨_,rfl,by decide,by decide⟩) (i:=num%8) (by omega) (by simp;omega);obtain⟨y,hy,y0,y5⟩:=nU (L:=[T.int 2,.int 3,.int 1,.int 4,.int 2,.int 5,.int 3,.int 0]) (P:=λ v=>0<=v/\v<=5) (by intro y hy;simp only[zA5,List.mem_nil_iff,or_false] at hy;rcases hy with rfl | rfl | rfl | rfl | rfl | rfl | rfl | rfl <;> exact⟨_,rfl,by decide,by decide⟩) (i:=num/8%8) (by omega) (by simp;omega);have mn:∀ v:Int,0<=v->0<=(if 2<v then 2 else v)/\(if 2<v then 2 else v)<=5:=λ v hv=>by split <;> omega
 unfold nB cN;generalize xh=fc,zR ns=sc at *;by_cases h1:many>4
 .refine⟨_,_,?_,kc.small (mn x x0) (mn y y0)⟩;have h1':(4:Int)<many:=by omega
  simp[hc',hx,hy,d8,h1',qW]
 .have h1':¬ (4:Int)<many:=by omega
  by_cases h2:num/64%10=1
  .refine⟨12,y%3,?_,⟨⟨by decide,by decide⟩,⟨by omega,by omega⟩,.inr (by omega)⟩⟩;simp[hc',hx,hy,d8,h1',d64,eq_int,h2]
  .by_cases h3:num/64%10=2
   .refine⟨x%3,12,?_,⟨⟨by omega,by omega⟩,⟨by decide,by decide⟩,.inr (by omega)⟩⟩;simp[hc',hx,hy,d8,h1',d64,eq_int,h3]
   .by_cases h4:num/64%10=3/\many<3
    .refine⟨12,12,?_,⟨⟨by decide,by decide⟩,⟨by decide,by decide⟩,.inl ⟨rfl,rfl⟩⟩⟩;have h5:(many:Int)<3:=by omega
     simp[hc',hx,hy,d8,h1',d64,eq_int,h4.1,h5,yQ]
    .refine⟨x,y,?_,kc.small ⟨x0,x5⟩ ⟨y0,y5⟩⟩;by_cases h6:num/64%10=3
     .have h5:¬ (many:Int)<3:=by omega
      simp[hc',hx,hy,d8,h1',d64,eq_int,h6,h5,yQ]
     .simp[hc',hx,hy,d8,h1',d64,eq_int,h2,h3,h6]
def seq_eq {a b:Sm}{J J':Ev}(h:a J=some (.nx J')):zt a b J=b J':=by
 show (a J).bind _=_;rw[h];rfl
def qO {f:T->T->Option T}{fa fb:Ev->Option T}{J:Ev}{x y:T}{r:Option T}(h1:fa J=some x) (h2:fb J=some y) (h:f x y=r):zb f fa fb J=r:=by
 show (fa J).bind _=r;rw[h1];show (fb J).bind _=r;rw[h2];exact h
def Xu {i:Nat}{f:Ev->Option T}{J:Ev}{y:T}(h:f J=some y):zU i f J=some (.nx (J.set i (some (.im y)))):=by
 show (f J).map _=_;rw[h];rfl
def f6 {i j:Int}(h:wI i j):wB (.int i) (.int j)=some (.int (i*j)):=by rw[Zv,if_pos h]
def pV (many:Nat) (r:List Int):Prop:=∃ (f t:Nat) (a b:Int),r=[(f:Int),(t:Int),a,b]/\f<many/\t<many
def Wu (M C:Int) (hM:0<M) (hC:∀ i,wI i C) (bb:Sm) (hbb:bb=(zt (zU 8 (zb yR (zb wB (zc 3) (zc 5)) (zc 7)))
 (zt (zU 9 (zb zX (zb yR (zb yR (zb wB (zv xh (ze (zr 0) (ze (zb yR (cS (.int 4)) (zc 8)) zm))) (cS (.int C))) (zb wB (cS (.int 61)) (zc 8))) (cS (.int 17))) (cS (.int M))))
 (zt (zU 10 (zb xc (zc 9) (cS (.int 8))))
 (uI 4 (tupS (ze (zr 5) (ze (zb zX (zb zX (zc 9) (cS (.int 8))) (zc 1)) (ze (zv rj (ze (zr 10) zm)) (ze (zv rj (ze (zb xc (zc 10) (cS (.int 125))) zm)) zm))))))))))
  (ns:List Int) (many wide place k:Nat) (num sz:Int) (rows:List T) (hm:1<=many) (hp:place<many) (hw:wide<=12) (hm8:many<=8) (hl:rows.length<=1000):
  ∃ r x y z,(pV many r/\r.head?=some (place:Int))/\turn (zy 7) bb (.int (0+(k:Int))) [some (.im (zR ns)),some (.im (.int many)),some (.im (.int num)),some (.im (.int wide)),some (.own (.lst rows)),some (.im (.int place)),some (.im (.int sz)),none,none,none,none]
   = some (.nx [some (.im (zR ns)),some (.im (.int many)),some (.im (.int num)),some (.im (.int wide)),some (.own (.lst (rows++[yq r]))),some (.im (.int place)),some (.im (.int sz)),some (.im (.int (0+(k:Int)))),x,y,z]):=by
 obtain⟨at',hat⟩:∃ at':Nat,(wide:Int)*(place:Int)+(0+(k:Int))=(at':Int):=⟨wide*place+k,by simp[Int.natCast_add,Int.natCast_mul]⟩
 have hc:=pQ ns (4+at');rw[Int.natCast_add] at hc;have hc':xh [zR ns,.int (4+(at':Int))]=some (.int (cell ns (4+at'))):=hc;generalize cell ns (4+at')=ce at *;have m1:wI (wide:Int) (place:Int):=.inl ⟨by omega,by omega⟩;have m2:wI ce C:=hC ce;have m3:wI 61 (at':Int):=.inl ⟨by decide,by decide⟩;generalize hd:(ce*C+61*(at':Int)+17)%M=dr;have d8:wb dr 8:=⟨by decide,by decide⟩
 have d125:wb (dr/8) 125:=⟨by decide,by decide⟩
 obtain⟨a,ha⟩:=XH (dr/8);obtain⟨b,hb⟩:=XH (dr/8/125);have hmp:(0:Int)<many:=by omega
 have t0:0<=dr%8%many:=Int.emod_nonneg _ (by omega);have t1:dr%8%many<many:=Int.emod_lt_of_pos _ hmp;have hm':0<many:=hm;have hl':rows.length<16777216:=by omega
 refine⟨[(place:Int),((dr%8%many).toNat:Int),a,b],some (.im (.int (at':Int))),some (.im (.int dr)),some (.im (.int (dr/8))),⟨⟨place,(dr%8%many).toNat,a,b,rfl,hp,by omega⟩,rfl⟩,?_⟩;rw[zF2 t0];have hr:yq [(place:Int),dr%8%many,a,b]=.tup [.int place,.int (dr%8%many),.int a,.int b]:=rfl;rw[hr];rw[show turn (zy 7) bb (.int (0+(k:Int))) [some (.im (zR ns)),some (.im (.int many)),some (.im (.int num)),some (.im (.int wide)),some (.own (.lst rows)),some (.im (.int place)),some (.im (.int sz)),none,none,none,none]=bb [some (.im (zR ns)),some (.im (.int many)),some (.im (.int num)),some (.im (.int wide)),some (.own (.lst rows)),some (.im (.int place)),some (.im (.int sz)),some (.im (.int (0+(k:Int)))),none,none,none] from rfl];subst hbb;generalize (0+(k:Int))=kk,xh=fc,rj=fco,zR ns=sc at *;rw[seq_eq (J':=[some (.im sc),some (.im (.int many)),some (.im (.int num)),some (.im (.int wide)),some (.own (.lst rows)),some (.im (.int place)),some (.im (.int sz)),some (.im (.int kk)),some (.im (.int at')),none,none]) (Xu (qO (qO (x:=.int wide) (y:=.int place) rfl rfl (f6 m1)) (y:=.int kk) rfl (by show some (T.int ((wide:Int)*(place:Int)+kk))=_;rw[hat])))];rw[seq_eq (J':=[some (.im sc),some (.im (.int many)),some (.im (.int num)),some (.im (.int wide)),some (.own (.lst rows)),some (.im (.int place)),some (.im (.int sz)),some (.im (.int kk)),some (.im (.int at')),some (.im (.int dr)),none]) (by simp[Zv,hc',m2,m3,hd,hM])];rw[seq_eq (J':=[some (.im sc),some (.im (.int many)),some (.im (.int num)),some (.im (.int wide)),some (.own (.lst rows)),some (.im (.int place)),some (.im (.int sz)),some (.im (.int kk)),some (.im (.int at')),some (.im (.int dr)),some (.im (.int (dr/8)))]) (by simp[d8])];simp[d125,ha,hb,hm',hl']
def Wv (ns:List Int) (many wide place k:Nat) (num sz:Int) (rows:List T) (hm:1<=many) (hp:place<many) (hw:wide<=12) (hm8:many<=8) (hl:rows.length<=1000):
  ∃ r x y z,(pV many r/\r.head?=some (place:Int))/\turn (zy 7) pC (.int (0+(k:Int))) [some (.im (zR ns)),some (.im (.int many)),some (.im (.int num)),some (.im (.int wide)),some (.own (.lst rows)),some (.im (.int place)),some (.im (.int sz)),none,none,none,none]
   = some (.nx [some (.im (zR ns)),some (.im (.int many)),some (.im (.int num)),some (.im (.int wide)),some (.own (.lst (rows++[yq r]))),some (.im (.int place)),some (.im (.int sz)),some (.im (.int (0+(k:Int)))),x,y,z]):=
 by
  refine Wu 999983 2957 ?_ ?_ pC ?_ ns many wide place k num sz rows hm hp hw hm8 hl
  .omega
  .exact λ _=>.inr ⟨by omega,by omega⟩
  .unfold pC;rfl
def Ma (ns:List Int) (many:Nat) (hm:1<=many) (hm8:many<=8):∃ ws:List Wy,n4 [zR ns,.int many]=some (.tup (ws.map zL))/\ws.length<=60/\(∀ w∈ws,w.f<many/\w.t<many)/\∀ x<many,∃ w∈ws,w.f=x:=by
 have hc:=pQ ns 3;have c0:=eW ns 3;generalize cell ns 3=num at *;have hc':xh [zR ns,.int 3]=some (.int num):=hc;obtain⟨wide,hw,hw12⟩:∃ wide:Nat,L2.z_ [T.int 3,.int 12] (if many<3 then 1 else 0)=some (.int (wide:Int))/\wide<=12:=by
  by_cases h:many<3
  .rw[if_pos h];exact⟨12,rfl,by decide⟩
  .rw[if_neg h];exact⟨3,rfl,by decide⟩
 obtain⟨J',h1,c,rows,h2,h3,h4,h5⟩:=u0 (is:=[5,6,7,8,9,10]) (g:=zy 5) (b:=lx) (λ k:Nat=>T.int (0+(k:Int))) (λ p J=>∃ (c:Int) (rows:List (List Int)),J=[some (.im (zR ns)),some (.im (.int many)),some (.im (.int c)),some (.im (.int wide)),some (.own (.lst (rows.map yq))),none,none,none,none,none,none]/\0<=c/\rows.length<=(if many<3 then 12 else 3)*p.length/\((∀ r∈rows,pV many r)/\(∀ x∈p,∃ r∈rows,r.head?=some (x:Int))))
   (List.range many) [some (.im (zR ns)),some (.im (.int many)),some (.im (.int num)),some (.im (.int wide)),some (.own (.lst [])),none,none,none,none,none,none] ⟨num,[],rfl,c0,by simp,nofun,nofun⟩ (by
  rintro p k q e J ⟨c,rows,rfl,r0,r1,r2,r3⟩;have hp:p.length<many:=by have:=congrArg List.length e;simp at this;omega
  have hk:k<many:=zC1.mp (by rw[e];simp);obtain⟨size,hs,s1,s2⟩:∃ size:Nat,(if (many<3/\c/3%8=1) then 9+(1+c%3) else 1+c%3)=(size:Int)/\1<=size/\size<=(if many<3 then 12 else 3):=by
   by_cases h:many<3/\c/3%8=1
   .rw[if_pos h,if_pos h.1];exact⟨(9+(1+c%3)).toNat,by omega,by omega,by omega⟩
   .rw[if_neg h];exact⟨(1+c%3).toNat,by omega,by omega,by split <;> omega⟩
  have hbig:(if many<3 then 12 else 3)*p.length<=96:=by split <;> omega
  obtain⟨J2,g1,rows',g2,g3,g4,g5,g6⟩:=u0 (is:=[7,8,9,10]) (g:=zy 7) (b:=pC) (λ k:Nat=>T.int (0+(k:Int))) (λ p' J=>∃ rows':List (List Int),J=[some (.im (zR ns)),some (.im (.int many)),some (.im (.int c)),some (.im (.int wide)),some (.own (.lst (rows'.map yq))),some (.im (.int k)),some (.im (.int size)),none,none,none,none]/\rows'.length=rows.length+p'.length/\(∀ r∈rows',pV many r)/\(∀ r∈rows,r∈rows')/\(p'≠[]->∃ r∈rows',r.head?=some (k:Int)))
    (List.range size) [some (.im (zR ns)),some (.im (.int many)),some (.im (.int c)),some (.im (.int wide)),some (.own (.lst (rows.map yq))),some (.im (.int k)),some (.im (.int size)),none,none,none,none] ⟨rows,rfl,rfl,r2,λ _ h=>h,λ h=>absurd rfl h⟩ (by
   rintro p' k' q' e' J ⟨rows',rfl,u1,u2,u3,u4⟩;have hp':p'.length<size:=by have:=congrArg List.length e';simp at this;omega
   have hs12:size<=12:=by split at s2 <;> omega
   obtain⟨r,x,y,z,⟨v1,v3⟩,v2⟩:=Wv ns many wide k k' c size (rows'.map yq) hm hk hw12 hm8 (by simp;omega);refine⟨_,v2,rows'++[r],by simp,by simp[u1];omega,λ r' hr'=>?_,λ r' h=>List.mem_append_left _ (u3 r' h),λ _=>⟨r,by simp,v3⟩⟩;rcases zB9.mp hr' with h | h
   .exact u2 r' h
   .cases zB6.mp h;exact v1)
  subst g2;have hrg:=rM size (by split at s2 <;> omega);have d3:wb c 3:=⟨by decide,by decide⟩
  have d24:wb c 24:=⟨by decide,by decide⟩
  refine⟨[some (.im (zR ns)),some (.im (.int many)),some (.im (.int (c/24))),some (.im (.int wide)),some (.own (.lst (rows'.map yq))),some (.im (.int (0+(k:Int)))),some (.im (.int size)),none,none,none,none],?_,c/24,rows',by simp,by omega,?_,g4,λ x hx=>?_⟩
  .unfold turn lx;generalize pC=bb at *;simp only[Int.zero_add] at g1 hrg ⊢;generalize (List.range size).map (λ(k:Nat)=>T.int (k:Int))=RR,rows'.map yq=L2',rows.map yq=L1',zR ns=sc at *;by_cases hA:many<3
   .have hA':(many:Int)<3:=by omega
    by_cases hB:c/3%8=1
    .rw[if_pos ⟨hA,hB⟩] at hs;simp[hA',hB,d3,d24,yQ,eq_int,hs,hrg,g1]
    .rw[if_neg (λ h=>hB h.2)] at hs;simp[hA',hB,d3,d24,yQ,eq_int,hs,hrg,g1]
   .have hA':¬ (many:Int)<3:=by omega
    rw[if_neg (λ h=>hA h.1)] at hs;simp[hA',d3,d24,yQ,eq_int,hs,hrg,g1]
  .have:rows'.length=rows.length+size:=by simpa using g3
   rw[zD7,List.length_singleton,Nat.mul_add,Nat.mul_one];omega
  .rcases zB9.mp hx with h | h
   .obtain⟨r,h1,h2⟩:=r3 x h;exact⟨r,g5 r h1,h2⟩
   .cases zB6.mp h;exact g6 (λ h=>by have:=congrArg List.length h;simp at this;omega))
 subst h2;have hrg:=rM many (by omega);have hlen:rows.length<64:=by
  rw[zC5] at h4;split at h4 <;> omega
 have hne:rows≠[]:=λ h=>by
  obtain⟨r,hr,_⟩:=h5.2 0 (zC1.mpr (by omega));rw[h] at hr;cases hr
 have hrow:∀ r∈rows,r≠[]:=λ r hr=>by obtain⟨f,t,a,b,rfl,_⟩:=h5.1 r hr;simp
 have hss:=Vq rows hne hlen hrow;have hall:∀ r∈L4.xW (wO rows),pV many r:=λ r hr=>h5.1 r (oD.mp ((L4.uP _).mem_iff.mp hr));have hl60:(L4.xW (wO rows)).length<64:=by rw[(L4.uP _).length_eq];have:=kZ rows;omega
 have conv:∀ l:List (List Int),(∀ r∈l,pV many r)->∃ ws:List Wy,l.map yq=ws.map zL/\ws.length=l.length/\(∀ w∈ws,w.f<many/\w.t<many)/\∀ r∈l,∃ w∈ws,r.head?=some (w.f:Int):=λ l=>by
  induction l with
  | nil=>exact λ _=>⟨[],rfl,rfl,nofun,nofun⟩
  | cons r l ih=>
   intro h;obtain⟨ws,e1,e2,e3,e4⟩:=ih λ x hx=>h x (zMo _ hx);obtain⟨f,t,a,b,rfl,hf,ht⟩:=h r zMc;refine⟨⟨f,t,a,b⟩::ws,by rw[zA6,zA6,e1];rfl,by simp[e2],λ w hw=>?_,λ r' hr'=>?_⟩
   .rcases zA5.mp hw with x | x
    .subst x;exact⟨hf,ht⟩
    .exact e3 w x
   .rcases zA5.mp hr' with x | x
    .subst x;exact⟨_,zMc,rfl⟩
    .obtain⟨w,h1,h2⟩:=e4 r' x;exact⟨w,zMo _ h1,h2⟩
 obtain⟨ws,e1,e2,e3,e4⟩:=conv _ hall;refine⟨ws,?_,by
  have hn:(wO rows).length<=rows.length:=kZ rows;rw[e2,(L4.uP _).length_eq];rw[zC5] at h4;split at h4 <;> omega,e3,λ x hx=>by
   obtain⟨r,k1,k2⟩:=h5.2 x (zC1.mpr hx);obtain⟨w,k3,k4⟩:=e4 r ((L4.uP _).mem_iff.mpr (oD.mpr k1));rw[k2] at k4
   injection k4 with k4
   exact⟨w,k3,by omega⟩⟩
 rw[e1] at hss;unfold n4 cF;generalize lx=bb,ws.map zL=L1,rows.map yq=L2',qE=sv,(List.range many).map (λ(k:Nat)=>T.int (0+(k:Int)))=RR,xh=fc,zR ns=sc at *;by_cases hA:many<3
 .have hA':(many:Int)<3:=by omega
  rw[if_pos hA] at hw;simp[hc',yQ,hA',hw,hrg,h1,hss]
 .have hA':¬ (many:Int)<3:=by omega
  rw[if_neg hA] at hw;simp[hc',yQ,hA',hw,hrg,h1,hss]
def eC (x y:Str):zG false (.str x) (.str y)=some (.bl (x == y)):=by simp[zG,dep,eqT]
def Vo (M C:Int) (hM:0<M) (hC:∀ i,wI i C) (kk:Str) (bb:Sm) (hbb:bb=(zt (zU 4 (zb zX (zb yR (zb yR (zb wB (zv xh (ze (zr 0) (ze (zb yR (cS (.int 28)) (zc 3)) zm))) (cS (.int C))) (zb wB (cS (.int 29)) (zc 3))) (cS (.int 5))) (cS (.int M))))
 (yA (vY (zP (zb (zG false) (zb zl (zc 1) (zc 3)) (cS (.str kk)))) (zP (zb (zG false) (zb zX (zc 4) (cS (.int 3))) (cS (.int 1))))) (zt (zU 5 (zb xc (zc 4) (cS (.int 6))))
 (zt (zU 6 (zb yR (cS (.int 1)) (zb zl (xJ (ze (zb zX (zc 5) (cS (.int 3))) (ze (zb zX (zc 5) (cS (.int 3))) (ze (zb zX (zc 5) (cS (.int 12))) zm)))) (zb zX (zb xc (zc 5) (cS (.int 12))) (cS (.int 3))))))
 (zt (zU 7 (zb zl (xJ (ze (zb zX (zb xc (zc 5) (cS (.int 36))) (cS (.int 4))) (ze (zb zX (zb xc (zc 5) (cS (.int 36))) (cS (.int 4))) (ze (zb zX (zb xc (zc 5) (cS (.int 36))) (cS (.int 13))) zm)))) (zb zX (zb xc (zc 5) (cS (.int 468))) (cS (.int 3)))))
 (uI 2 (tupS (ze (zr 3) (ze (zb zX (zb xc (zc 4) (cS (.int 3))) (cS (.int 2))) (ze (zr 6) (ze (zr 7) zm))))))))) y6)))
  (ns:List Int) (ots:List T) (place:Nat) (s:Str) (hs:L2.z_ ots (place:Int)=some (.str s)) (rows:List T) (hl:rows.length<=1000):
  ∃ more:List Sl,more.length<=1/\(∀ x∈more,(1<=x.gv/\0<=x.gt)/\x.p=place)/\∃ a b c d,turn (zy 3) bb (.int (place:Int)) [some (.im (zR ns)),some (.im (.tup ots)),some (.own (.lst rows)),none,none,none,none,none]
   = some (.nx [some (.im (zR ns)),some (.im (.tup ots)),some (.own (.lst (rows++more.map y4))),some (.im (.int (place:Int))),a,b,c,d]):=by
 have hc:=pQ ns (28+place);rw[Int.natCast_add] at hc;have hc':xh [zR ns,.int (28+(place:Int))]=some (.int (cell ns (28+place))):=hc;generalize cell ns (28+place)=ce at *;have m2:wI ce C:=hC ce;have m3:wI 29 (place:Int):=.inl ⟨by decide,by decide⟩;generalize hd:(ce*C+29*(place:Int)+5)%M=dr;have hdr:0<=dr:=by rw[<- hd];exact Int.emod_nonneg _ (by omega)
 have d6:wb dr 6:=⟨by decide,by decide⟩
 have d3:wb dr 3:=⟨by decide,by decide⟩
 have r0:0<=dr/6:=by omega
 generalize hrs:dr/6=rs at *;have d12:wb rs 12:=⟨by decide,by decide⟩
 have d36:wb rs 36:=⟨by decide,by decide⟩
 have d468:wb rs 468:=⟨by decide,by decide⟩
 obtain⟨gv,hg,g0⟩:=nU (L:=[T.int (rs%3),.int (rs%3),.int (rs%12)]) (P:=λ v=>0<=v) (by intro y hy;simp only[zA5,List.mem_nil_iff,or_false] at hy;rcases hy with rfl | rfl | rfl <;> exact⟨_,rfl,by omega⟩) (i:=rs/12%3) (by omega) (by simp;omega);obtain⟨gt,ht,t0⟩:=nU (L:=[T.int (rs/36%4),.int (rs/36%4),.int (rs/36%13)]) (P:=λ v=>0<=v) (by intro y hy;simp only[zA5,List.mem_nil_iff,or_false] at hy;rcases hy with rfl | rfl | rfl <;> exact⟨_,rfl,by omega⟩) (i:=rs/468%3) (by omega) (by simp;omega);have hl':rows.length<16777216:=by omega
 rw[show turn (zy 3) bb (.int (place:Int)) [some (.im (zR ns)),some (.im (.tup ots)),some (.own (.lst rows)),none,none,none,none,none]=bb [some (.im (zR ns)),some (.im (.tup ots)),some (.own (.lst rows)),some (.im (.int (place:Int))),none,none,none,none] from rfl];subst hbb;generalize xh=fc,zR ns=sc at *;rw[seq_eq (J':=[some (.im sc),some (.im (.tup ots)),some (.own (.lst rows)),some (.im (.int (place:Int))),some (.im (.int dr)),none,none,none]) (Xu (qO (x:=.int (ce*C+29*(place:Int)+5)) (y:=.int M) (qO (qO (qO (x:=.int ce) (y:=.int C) (by
   show ((ze (zr 0) (ze (zb yR (cS (.int 28)) (zc 3)) zm)) _).bind fc=_;exact hc') rfl (f6 m2)) (qO (x:=.int 29) (y:=.int place) rfl rfl (f6 m3)) rfl) rfl rfl) rfl (by
   show (if 0<M then some (T.int ((ce*C+29*(place:Int)+5)%M)) else none)=_;rw[if_pos hM,hd])))]
 by_cases hk:(s == kk)=true/\dr%3=1
 .refine⟨[⟨place,decide (dr/3%2=1),1+gv,gt⟩],by simp,λ x hx=>by cases zB6.mp hx;exact⟨⟨by show 1<=1+gv;omega,t0⟩,rfl⟩,some (.im (.int dr)),some (.im (.int rs)),some (.im (.int (1+gv))),some (.im (.int gt)),?_⟩;have hpu:w_ (decide (dr/3%2=1))=dr/3%2:=by
   unfold w_;rcases Int.emod_two_eq (dr/3) with h | h <;> simp[h]
  have hsl:y4 ⟨place,decide (dr/3%2=1),1+gv,gt⟩=.tup [.int place,.int (dr/3%2),.int (1+gv),.int gt]:=by
   unfold y4;rw[hpu]
  rw[zA6,List.map_nil,hsl];simp[hs,eC,hk.1,eq_int,hk.2,d6,d3,hrs,d12,d36,d468,hg,ht,hl']
 .refine⟨[],by simp,nofun,some (.im (.int dr)),none,none,none,?_⟩;rw[List.map_nil,List.append_nil];by_cases h1:(s == kk)=true
  .have h2:¬ dr%3=1:=λ h=>hk ⟨h1,h⟩;simp[hs,eC,h1,eq_int,h2]
  .rw[zE9] at h1;simp[hs,eC,h1]
def Mc (ns:List Int) (os:List Bool) (h8:os.length<=8):∃ ss:List Sl,n5 [zR ns,.tup (os.map kt)]=some (.tup (ss.map y4))/\ss.length<=60/\(∀ s∈ss,1<=s.gv/\0<=s.gt)/\ss.Pairwise (λ a b=>a.p≠b.p):=by
 obtain⟨J',h1,ss,h2,h3,h4,h5,h6⟩:=u0 (is:=[3,4,5,6,7]) (g:=zy 3) (b:=ni) (λ k:Nat=>T.int (k:Int)) (λ p J=>∃ ss:List Sl,J=[some (.im (zR ns)),some (.im (.tup (os.map kt))),some (.own (.lst (ss.map y4))),none,none,none,none,none]/\ss.length<=p.length/\(∀ s∈ss,1<=s.gv/\0<=s.gt)/\(∀ s∈ss,s.p∈p)/\ss.Pairwise (λ a b=>a.p≠b.p))
   (List.range os.length) [some (.im (zR ns)),some (.im (.tup (os.map kt))),some (.own (.lst [])),none,none,none,none,none] ⟨[],rfl,zA4 _,nofun,nofun,List.Pairwise.nil⟩ (by
  rintro p k q e J ⟨ss,rfl,r1,r2,r3,r4⟩;have hp:p.length<os.length:=by have:=congrArg List.length e;simp at this;omega
  have hk:k<os.length:=zC1.mp (by rw[e];simp);obtain⟨s,hs⟩:∃ s:Str,L2.z_ (os.map kt) (k:Int)=some (.str s):=by
   cases hb:os[k] with
   | true=>exact⟨"keeper",vv (by rw[zA3,zA1 hk,hb];rfl)⟩
   | false=>exact⟨"taker",vv (by rw[zA3,zA1 hk,hb];rfl)⟩
  obtain⟨more,m1,m2,a,b,c,d,m3⟩:=Vo 999979 3571 (by omega) (λ _=>.inr ⟨by omega,by omega⟩) "keeper" ni (by unfold ni;rfl) ns (os.map kt) k s hs (ss.map y4) (by simp;omega);refine⟨_,m3,ss++more,by simp,by simp;omega,λ x hx=>?_,λ x hx=>?_,?_⟩
  .rcases zB9.mp hx with h | h
   .exact r2 x h
   .exact (m2 x h).1
  .rcases zB9.mp hx with h | h
   .exact List.mem_append_left _ (r3 x h)
   .rw[(m2 x h).2];simp
  .have hnd:=List.nodup_range (n:=os.length);rw[e] at hnd;refine List.pairwise_append.mpr ⟨r4,?_,λ a ha b hb=>?_⟩
   .match more,m1 with
    | [],_=>exact List.Pairwise.nil
    | [_],_=>exact List.pairwise_singleton _ _
    | _::_::_,m=>simp at m
   .rw[(m2 b hb).2];exact (List.nodup_append.mp hnd).2.2 a.p (r3 a ha) k zMc)
 subst h2;rw[zC5] at h3;refine⟨ss,?_,by omega,h4,h6⟩;have hr:=rM os.length (by omega);simp only[Int.zero_add] at hr;unfold n5 cG;generalize ni=bb,(List.range os.length).map (λ(k:Nat)=>T.int (k:Int))=R at *;have hlen:(os.map kt).length=os.length:=by simp
 generalize os.map kt=L1,ss.map y4=L2',zR ns=sc at *;simp[hlen,hr,h1]
def Ml (ns:List Int):∃ F:zA,nA [zR ns]=some (zq F)/\F.Ok/\(∀ x<F.os.length,∃ w∈F.ws,w.f=x)/\F.ss.Pairwise (λ a b=>a.p≠b.p):=by
 have hc:=pQ ns 0;have c0:=eW ns 0;generalize cell ns 0=num at *;have hc':xh [zR ns,.int 0]=some (.int num):=hc;have d8:wb num 8:=⟨by decide,by decide⟩
 obtain⟨mi,hm,m1,m8⟩:=nU (L:=[T.int 2,.int 3,.int 1,.int 4,.int 3,.int 2,.int 4,.int (5+num/8%4)]) (P:=λ v=>1<=v/\v<=8) (by intro y hy;simp only[zA5,List.mem_nil_iff,or_false] at hy;rcases hy with rfl | rfl | rfl | rfl | rfl | rfl | rfl | rfl <;> exact⟨_,rfl,by omega,by omega⟩) (i:=num%8) (by omega) (by simp;omega);obtain⟨many,rfl⟩:∃ k:Nat,mi=(k:Int):=⟨mi.toNat,by omega⟩
 obtain⟨os,h1,o1⟩:=Mg ns many (by omega);obtain⟨A,B,h2,a1,b1,ab⟩:=Ms ns many;obtain⟨ws,h3,w1,w2,w3⟩:=Ma ns many (by omega) (by omega);obtain⟨ss,h4,s1,s2,s3⟩:=Mc ns os (by omega);by_cases hbig:(A=12/\B=12)/\(6<ws.length\/0<ss.length)
 .refine⟨⟨12,3,os,ws,ss⟩,?_,⟨by show (0:Int)<=12;decide,by show (12:Int)<=12;decide,by show (0:Int)<=3;decide,by show (3:Int)<=12;decide,by show 1<=os.length;omega,by show os.length<=8;omega,λ w hw=>by show w.f<os.length/\w.t<os.length;rw[o1];exact w2 w hw,w1,s2,.inr (by show ((12:Int)+1)*(3+1)<64;decide),s1⟩,by show ∀ x<os.length,_;rw[o1];exact w3,s3⟩;obtain⟨⟨rfl,rfl⟩,hb⟩:=hbig;have he:zG false (.tup [.int 12,.int 12]) (.tup [.int 12,.int 12])=some (.bl true):=by simp[zG,dep,yw,eqT,xO]
  unfold nA jT zq;have l1:(ws.map zL).length=ws.length:=by simp
  have l2:(ss.map y4).length=ss.length:=by simp
  generalize ws.map zL=L1,ss.map y4=L2',os.map kt=L3',xh=f1,n6=f2,nB=f3,n4=f4,n5=f5,zR ns=sc at *;rcases hb with hb | hb
  .have hb':(6:Int)<(ws.length:Int):=by omega
   simp[hc',d8,hm,h1,h2,h3,h4,he,l1,l2,hb',hb]
  .have hb':(0:Int)<(ss.length:Int):=by omega
   by_cases h6:6<ws.length
   .have h6':(6:Int)<(ws.length:Int):=by omega
    simp[hc',d8,hm,h1,h2,h3,h4,he,l1,l2,h6,h6']
   .have h6':¬ (6:Int)<(ws.length:Int):=by omega
    simp[hc',d8,hm,h1,h2,h3,h4,he,l1,l2,h6,h6',hb,hb']
 .refine⟨⟨A,B,os,ws,ss⟩,?_,⟨a1.1,a1.2,b1.1,b1.2,by show 1<=os.length;omega,by show os.length<=8;omega,λ w hw=>by show w.f<os.length/\w.t<os.length;rw[o1];exact w2 w hw,w1,s2,?_,s1⟩,by show ∀ x<os.length,_;rw[o1];exact w3,s3⟩
  .have he:zG false (.tup [.int A,.int B]) (.tup [.int 12,.int 12])=some (.bl (decide (A=12/\B=12))):=by
    by_cases x:A=12 <;> by_cases y:B=12 <;> simp[zG,dep,yw,eqT,xO,x,y]
   unfold nA jT zq;have l1:(ws.map zL).length=ws.length:=by simp
   have l2:(ss.map y4).length=ss.length:=by simp
   generalize ws.map zL=L1,ss.map y4=L2',os.map kt=L3',xh=f1,n6=f2,nB=f3,n4=f4,n5=f5,zR ns=sc at *;by_cases hAB:A=12/\B=12
   .have n1:¬ 6<ws.length:=λ h=>hbig ⟨hAB,.inl h⟩;have n2:¬ 0<ss.length:=λ h=>hbig ⟨hAB,.inr h⟩;have n1':¬ (6:Int)<(ws.length:Int):=by omega
    have n2':¬ (0:Int)<(ss.length:Int):=by omega
    rw[decide_eq_true hAB] at he;simp[hc',d8,hm,h1,h2,h3,h4,he,l1,l2,n1,n2,n1',n2']
   .rw[decide_eq_false hAB] at he;simp[hc',d8,hm,h1,h2,h3,h4,he]
  .show ss=[]\/(A+1)*(B+1)<64;rcases ab with x | x
   .refine .inl ?_;cases ss with
    | nil=>rfl
    | cons a l=>exact absurd ⟨x,.inr (by simp)⟩ hbig
   .exact .inr x
def mi (x y:Int):(if y<x then y else x)=min x y:=by split <;> omega
noncomputable def tD (o:Option (Int×Int)):T:=match o with
 | none=>.zj
 | some r=>zk r
def jr (F:zA):zl (zq F) (.int 0)=some (.tup [.int F.A,.int F.B]):=by simp[zq]
def jq (F:zA):zl (zq F) (.int 1)=some (.tup (F.os.map kt)):=by simp[zq]
def Oa (F:zA):zl (zq F) (.int 2)=some (.tup (F.ws.map zL)):=by simp[zq]
def P_ (F:zA):zl (zq F) (.int 3)=some (.tup (F.ss.map y4)):=by simp[zq]
def XJ (F:zA) (q:Int×Int) (w:Wy):rp [zq F,zk q,zL w]=some (tD (rF F q w)):=by
 have hw0:=jr F;unfold rp cO rF zk zL;generalize zq F=fl at *;simp only[zl] at hw0;by_cases h1:q.1+w.a<0
 .simp[h1,yQ,tD]
 .by_cases h2:q.2+w.b<0
  .simp[h1,h2,yQ,tD]
  .simp[h1,h2,yQ,tD,hw0,mi,zk]
noncomputable def wu (F:zA) (p:Nat) (q:Int×Int) (s:Sl) (L:List (Int×Int)) (c:Option L5.W):Ev:=[some (.im (zq F)),some (.im (.int (p:Int))),some (.im (zk q)),some (.own (.lst (L.map zk))),some (.im (.int (s.p:Int))),some (.im (.int (w_ s.pu))),some (.im (.int s.gv)),some (.im (.int s.gt)),c]
noncomputable def tf (F:zA) (s:Sl) (r:Int×Int):Int×Int:=xl s.pu (zZ s.pu r-s.gv) (min (yB s.pu r+s.gt) (F.zY (!s.pu)))
def Ng {F:zA}{p:Nat}{q:Int×Int}{s:Sl}{pre:List (Int×Int)}{r:Int×Int}(hl:pre.length<=1000):∃ c,pE (wu F p q s (pre++[r]) none)=some (.nx (wu F p q s (pre++[r]++[tf F s r]) c)):=by
 have hlast:L2.z_ ((pre++[r]).map zk) (-1)=some (.tup [.int r.1,.int r.2]):=by rw[zE7];exact nj
 have e2:(pre++[r]++[tf F s r]).map zk=(pre++[r]).map zk++[zk (tf F s r)]:=by simp
 have hlen:((pre++[r]).map zk).length<16777216:=by simp;omega
 have hw0:=jr F;have n0:wR 2 0=some 0:=rfl;have n1:wR 2 1=some 1:=rfl;refine⟨some (.own (.lst [.int (tf F s r).1,.int (tf F s r).2])),?_⟩;unfold wu;rw[e2];unfold pE;generalize (pre++[r]).map zk=LL,zq F=fl,zk q=pq at *;simp only[zl] at hw0;unfold tf;cases hpu:s.pu <;> simp[w_,hlast,hw0,n0,n1,hlen,xl,zZ,yB,zA.zY,mi,zk]
def Xj {F:zA}{p:Nat}{q:Int×Int}{s:Sl}{pre:List (Int×Int)}{r:Int×Int}:vY (zP (zb (zG false) (zc 4) (zc 1))) (zP (zb uV (zb zl (zb zl (zc 3) (uz (cS (.int 1)))) (zc 5)) (zc 6))) (wu F p q s (pre++[r]) none)=some (decide (s.p=p)&&decide (s.gv<=zZ s.pu r)):=by
 have hlast:L2.z_ ((pre++[r]).map zk) (-1)=some (.tup [.int r.1,.int r.2]):=by rw[zE7];exact nj
 unfold wu;generalize (pre++[r]).map zk=LL,zq F=fl,zk q=pq at *;by_cases hp:s.p=p
 .have hp':(s.p:Int)=(p:Int):=by omega
  cases hpu:s.pu <;> simp[w_,hlast,zZ,eq_int,hp]
 .have hp':¬ (s.p:Int)=(p:Int):=by omega
  simp[eq_int,hp,hp']
theorem Xi {F:zA}{p:Nat}{q:Int×Int}{s:Sl}(hs:1<=s.gv/\0<=s.gt) (hsp:s.p=p):∀ (n:Nat) (pre:List (Int×Int)) (r:Int×Int) (m:Nat),xV F r->zZ s.pu r<n->n<m->pre.length+n<=1000->∀ c,
  xK [8] (vY (zP (zb (zG false) (zc 4) (zc 1))) (zP (zb uV (zb zl (zb zl (zc 3) (uz (cS (.int 1)))) (zc 5)) (zc 6)))) pE m (wu F p q s (pre++[r]) c)=some (.nx (wu F p q s (pre++uH F s n r) none))
 | 0,pre,r,m,hr,hn,hm,hl,c=>by
  have:=(u9 (pu:=s.pu).mp hr).1.1;omega
 | n+1,pre,r,m+1,hr,hn,hm,hl,c=>by
  have hfr:yM [8] (wu F p q s (pre++[r]) c)=wu F p q s (pre++[r]) none:=by unfold wu;simp
  unfold xK uH;rw[hfr,Xj,zC9,decide_eq_true hsp,Bool.true_and];by_cases hg:s.gv<=zZ s.pu r
  .rw[decide_eq_true hg,if_pos rfl,if_pos hg];obtain⟨c',hb⟩:=Ng (F:=F) (p:=p) (q:=q) (s:=s) (pre:=pre) (r:=r) (by omega);rw[hb,zC9];have h':=u9 (pu:=s.pu).mp hr;have hi:xV F (tf F s r):=by
    unfold tf;rw[u9 (pu:=s.pu),uT,qc];omega
   have ih:=Xi (q:=q) hs hsp n (pre++[r]) (tf F s r) m hi (by unfold tf;rw[uT];omega) (by omega) (by simp;omega) c';show xK [8] _ pE m (wu F p q s (pre++[r]++[tf F s r]) c')=_;rw[ih,List.append_assoc];rfl
  .rw[decide_eq_false hg,if_neg (by decide),if_neg hg]
def Nf {F:zA}{p:Nat}{q:Int×Int}{s:Sl}(hsp:¬ s.p=p) (pre:List (Int×Int)) (r:Int×Int) (m:Nat) (c:Option L5.W):
  xK [8] (vY (zP (zb (zG false) (zc 4) (zc 1))) (zP (zb uV (zb zl (zb zl (zc 3) (uz (cS (.int 1)))) (zc 5)) (zc 6)))) pE (m+1) (wu F p q s (pre++[r]) c)=some (.nx (wu F p q s (pre++[r]) none)):=by
 have hfr:yM [8] (wu F p q s (pre++[r]) c)=wu F p q s (pre++[r]) none:=by unfold wu;simp
 unfold xK;rw[hfr,Xj,zC9,decide_eq_false hsp,Bool.false_and,if_neg (by decide)]
theorem Xe {F:zA}{s:Sl}:∀ (n:Nat) (q:Int×Int),∃ pre r,uH F s n q=pre++[r]
 | 0,q=>⟨[],q,rfl⟩
 | n+1,q=>by
  unfold uH;split
  .obtain⟨pre,r,e⟩:=Xe (F:=F) (s:=s) n (xl s.pu (zZ s.pu q-s.gv) (min (yB s.pu q+s.gt) (F.zY (!s.pu))));exact⟨q::pre,r,by rw[e];rfl⟩
  .exact⟨[],q,rfl⟩
noncomputable def vI (F:zA) (p:Nat) (q:Int×Int) (ss:List Sl):List (Int×Int):=match ss.find? (λ s=>decide (s.p=p)) with
 | none=>[q]
 | some s=>uH F s 20 q
def Mr {F:zA}(ok:F.Ok) (hpw:F.ss.Pairwise (λ a b=>a.p≠b.p)) (p:Nat) {q:Int×Int}(hq:xV F q):lQ [zq F,.int (p:Int),zk q]=some (.lst ((qo F p q).map zk)):=by
 obtain⟨J',h1,h2⟩:=u0 (is:=[4,5,6,7,8]) (g:=wM 4 (yy (zy 4) (yy (zy 5) (yy (zy 6) (yy (zy 7) vn))))) (b:=pB) y4 (λ ss J=>J=[some (.im (zq F)),some (.im (.int (p:Int))),some (.im (zk q)),some (.own (.lst ((vI F p q ss).map zk))),none,none,none,none,none])
   F.ss [some (.im (zq F)),some (.im (.int (p:Int))),some (.im (zk q)),some (.own (.lst [zk q])),none,none,none,none,none] rfl (by
  rintro pf s sf e J rfl;have hs:=ok.ss s (by rw[e];simp);have hb:turn (wM 4 (yy (zy 4) (yy (zy 5) (yy (zy 6) (yy (zy 7) vn))))) pB (y4 s) [some (.im (zq F)),some (.im (.int (p:Int))),some (.im (zk q)),some (.own (.lst ((vI F p q pf).map zk))),none,none,none,none,none]=pB (wu F p q s (vI F p q pf) none):=rfl;rw[hb];refine⟨wu F p q s (vI F p q (pf++[s])) none,?_,by unfold wu;simp⟩;unfold pB qA;by_cases hsp:s.p=p
  .have hno:pf.find? (λ s=>decide (s.p=p))=none:=by
    rw[List.find?_eq_none];intro a ha h;rw[e] at hpw;exact (List.pairwise_append.mp hpw).2.2 a ha s zMc (by rw[of_decide_eq_true h,hsp])
   have e1:vI F p q pf=[]++[q]:=by unfold vI;rw[hno];rfl
   have e2:vI F p q (pf++[s])=uH F s 20 q:=by
    unfold vI;rw[List.find?_append,hno,List.find?_cons,decide_eq_true hsp];rfl
   have hgv:zZ s.pu q<20:=by
    have:=u9 (pu:=s.pu).mp hq;have:F.zY s.pu<=12:=by have:=ok.a1;have:=ok.b1;unfold zA.zY;split <;> assumption
    omega
   rw[e1,e2];exact Xi hs hsp 20 [] q 1000000 hq (by omega) (by omega) (by simp) none
  .have e2:vI F p q (pf++[s])=vI F p q pf:=by
    unfold vI;rw[List.find?_append,List.find?_cons,decide_eq_false hsp];cases pf.find? (λ s=>decide (s.p=p)) <;> rfl
   obtain⟨pre,r,e3⟩:∃ pre r,vI F p q pf=pre++[r]:=by
    unfold vI;cases pf.find? (λ s=>decide (s.p=p)) with
    | none=>exact⟨[],q,rfl⟩
    | some s=>exact Xe 20 q
   rw[e2,e3];exact Nf hsp pre r 999999 none)
 subst h2;have hw3:=P_ F;have e:vI F p q F.ss=qo F p q:=rfl;rw[e] at h1;unfold lQ cL;generalize pB=b2,F.ss.map y4=SS,(qo F p q).map zk=CC,zq F=fl,zk q=pq at *;simp only[zl] at hw3;simp[hw3,h1]
section
variable {F:zA}{l:List Bd}
def Mf (ok:F.Ok):∃ L:List (Int×Int),lO [zq F]=some (.lst (L.map zk))/\(∀ q∈L,xV F q)/\L.length<=1000:=by
 obtain⟨a,ha,a12⟩:∃ a:Nat,F.A+1=(a:Int)/\a<=13:=⟨(F.A+1).toNat,by have:=ok.a0;omega,by have:=ok.a1;omega⟩
 obtain⟨b,hb,b12⟩:∃ b:Nat,F.B+1=(b:Int)/\b<=13:=⟨(F.B+1).toNat,by have:=ok.b0;omega,by have:=ok.b1;omega⟩
 have ra:=rM a (by omega);have rb:=rM b (by omega);have hw0:=jr F;obtain⟨J',h1,L,h2,h3,h4⟩:=u0 (is:=[2]) (g:=zy 2) (b:=j6) (λ k:Nat=>T.int (0+(k:Int))) (λ p J=>∃ L:List (Int×Int),J=[some (.im (zq F)),some (.own (.lst (L.map zk))),none]/\(∀ q∈L,xV F q)/\L.length<=13*p.length)
   (List.range a) [some (.im (zq F)),some (.own (.lst [])),none] ⟨[],rfl,nofun,by simp⟩ (by
  rintro p k q e J ⟨L,rfl,r1,r2⟩;have hp:p.length<a:=by have:=congrArg List.length e;simp at this;omega
  have hk:k<a:=zC1.mp (by rw[e];simp);have hc:j0 [some (.im (zq F)),some (.own (.lst (L.map zk))),some (.im (.int (0+(k:Int))))]=some (.lst ((List.range b).map λ y:Nat=>zk ((k:Int),(y:Int)))):=by
   unfold j0;refine sL (λ k:Nat=>T.int (0+(k:Int))) (λ y:Nat=>zk ((k:Int),(y:Int))) (List.range b) ?_ (by rw[zC5];omega) λ y hy=>?_
   .generalize (List.range b).map (λ k:Nat=>T.int (0+(k:Int)))=RR,zq F=fl at *;simp only[zl] at hw0;simp[hw0,hb,rb]
   .simp[zk]
  have e2:(L++(List.range b).map λ y:Nat=>((k:Int),(y:Int))).map zk=L.map zk++(List.range b).map λ y:Nat=>zk ((k:Int),(y:Int)):=by simp
  have hl:(L.map zk).length+((List.range b).map λ y:Nat=>zk ((k:Int),(y:Int))).length<=16777216:=by
   rw[zA7,zA7,zC5];omega
  refine⟨[some (.im (zq F)),some (.own (.lst ((L++(List.range b).map λ y:Nat=>((k:Int),(y:Int))).map zk))),some (.im (.int (0+(k:Int))))],?_,L++(List.range b).map λ y:Nat=>((k:Int),(y:Int)),by simp,λ x hx=>?_,?_⟩
  .rw[e2];unfold turn j6;generalize (List.range b).map (λ y:Nat=>zk ((k:Int),(y:Int)))=RR at *;generalize L.map zk=LL at *;generalize j0=cc,zq F=fl,(0+(k:Int))=kk at *;simp[hc,hl]
  .rcases zB9.mp hx with h | h
   .exact r1 x h
   .obtain⟨y,hy,rfl⟩:=zB0.mp h;have:=zC1.mp hy;exact⟨⟨by show (0:Int)<=k;omega,by show (k:Int)<=F.A;omega⟩,by show (0:Int)<=y;omega,by show (y:Int)<=F.B;omega⟩
  .rw[zD7,zA7,zC5,zD7,List.length_singleton];omega)
 subst h2;rw[zC5] at h4;refine⟨L,?_,h3,by omega⟩;unfold lO Wr;generalize L.map zk=LL,(List.range a).map (λ k:Nat=>T.int (0+(k:Int)))=RR,j6=bb,zq F=fl at *;simp only[zl] at hw0;simp[hw0,ha,ra,h1]
end
section
variable {F:zA}{l:List Bd}
def XE (i:Int):ny [.int i]=some (.bl true):=by
 have ii:v9 "int" "int"=true:=by decide
 have ib:v9 "int" "bool"=false:=by decide
 unfold ny cE;simp[ii,ib]
def Mj {b:Bd}(hb:vx b) (hl:b.length<=1000):lP [bT b]=some (.bl true):=by
 have it:v9 "tuple" "tuple"=true:=by decide
 have hany:∀ {α:Type}(L:List α),L.any (λ _=>false)=false:=λ L=>by simp
 have h1:=u5 (is:=[1]) (g:=zy 1) (b:=l7) zk (λ _=>false) (.bl false) [some (.im (bT b)),none,none] b [some (.im (bT b)),none,none] (by simp) λ q hq=>by
  refine⟨[some (.im (bT b)),some (.im (zk q)),none],by simp,?_⟩;rw[if_neg (λ h=>nomatch h)];have w1:=XE q.1;have w2:=XE q.2;have e2:zG true (.int 2) (.int 2)=some (.bl false):=by simp[eq_int]
  unfold turn l7 zk;generalize bT b=bt,ny=f1,zG true=ee at *;simp[it,e2,w1,w2]
 rw[hany,if_neg (by decide)] at h1;obtain⟨n,hn⟩:∃ n,b.length=n:=⟨_,rfl⟩
 have hr:nN [.int 1,.int (n:Int)]=some ((List.range (n-1)).map λ k:Nat=>T.int (1+(k:Int))):=by
  have:=VR 1 n (by omega) (by omega);exact this
 have h2:=u5 (is:=[2]) (g:=zy 2) (b:=ly) (λ k:Nat=>T.int (1+(k:Int))) (λ _=>false) (.bl false) [some (.im (bT b)),none,none] (List.range (n-1)) [some (.im (bT b)),none,none] (by simp) λ k hk=>by
  have hk':=zC1.mp hk;have k1:k+1<b.length:=by omega
  have k0:k<b.length:=by omega
  have a1:L2.z_ (b.map zk) (1+(k:Int))=some (.tup [.int b[k+1].1,.int b[k+1].2]):=by
   rw[show (1:Int)+k=((k+1:Nat):Int) by omega];exact vv (by rw[zA3,zA1 k1];rfl)
  have a0:L2.z_ (b.map zk) (1+(k:Int)-1)=some (.tup [.int b[k].1,.int b[k].2]):=by
   rw[show (1:Int)+k-1=(k:Int) by omega];exact vv (by rw[zA3,zA1 k0];rfl)
  have hp:=List.pairwise_iff_getElem.mp hb k (k+1) k0 k1 (by omega);have p1:¬ b[k+1].1<=b[k].1:=by omega
  have p2:¬ b[k].2<=b[k+1].2:=by omega
  refine⟨[some (.im (bT b)),none,some (.im (.int (1+(k:Int))))],by simp,?_⟩;rw[if_neg (λ h=>nomatch h)];have hbt:bT b=.tup (b.map zk):=rfl;rw[hbt];unfold turn ly;generalize b[k+1]=x1,b[k]=x0,b.map zk=BB,(1+(k:Int))=kk at *;simp[a1,a0,p1,p2]
 rw[hany,if_neg (by decide)] at h2;have k2:xb [bT b]=some (.int (n:Int)):=by simp[bT,hn]
 have hbt:bT b=.tup (b.map zk):=rfl;rw[hbt] at h1 h2 k2 ⊢;unfold lP cI;generalize (List.range (n-1)).map (λ k:Nat=>T.int (1+(k:Int)))=RR,l7=b1,ly=b2,b.map zk=BB,xb=ln at *;simp[it,h1,k2,hr,h2]
def Mw (ok:F.Ok) (hl:l.length=F.os.length) (hg:∀ b∈l,Gd F.A F.B b):lR [zq F,rT l]=some (.bl true):=by
 have il:v9 "list" "list"=true:=by decide
 have hw0:=jr F;have hw1:=jq F;have hany:∀ {α:Type}(L:List α),L.any (λ _=>false)=false:=λ L=>by simp
 have k1:xb [rT l]=some (.int (F.os.length:Int)):=by simp[rT,hl]
 have k2:xb [.tup (F.os.map kt)]=some (.int (F.os.length:Int)):=by simp
 have e1:zG true (.int (F.os.length:Int)) (.int (F.os.length:Int))=some (.bl false):=by simp[eq_int]
 have h1:=u5 (is:=[2,3,4]) (g:=zy 2) (b:=l4) bT (λ _=>false) (.bl false) [some (.im (zq F)),some (.im (rT l)),none,none,none] l [some (.im (zq F)),some (.im (rT l)),none,none,none] (by simp) λ b hb=>by
  have gd:=hg b hb;have h2:=Mj gd.mB (by have:=gd.qU ok.a0;have:=ok.a1;omega);have h3:=u5 (is:=[3,4]) (g:=wM 2 (yy (zy 3) (yy (zy 4) vn))) (b:=l9) zk (λ _=>false) (.bl false) [some (.im (zq F)),some (.im (rT l)),some (.im (bT b)),none,none] b [some (.im (zq F)),some (.im (rT l)),some (.im (bT b)),none,none] (by simp) λ q hq=>by
   have hin:=gd.xS q hq;have z1:¬ q.1<0:=by omega
   have z2:¬ q.2<0:=by omega
   have z3:¬ F.A<q.1:=by omega
   have z4:¬ F.B<q.2:=by omega
   refine⟨[some (.im (zq F)),some (.im (rT l)),some (.im (bT b)),some (.im (.int q.1)),some (.im (.int q.2))],by simp,?_⟩;rw[if_neg (λ h=>nomatch h)];unfold turn l9 zk;generalize zq F=fl,rT l=rl,bT b=bt at *;simp only[zl] at hw0;simp[yQ,z1,z2,hw0,z3,z4]
  rw[hany,if_neg (by decide)] at h3;refine⟨[some (.im (zq F)),some (.im (rT l)),some (.im (bT b)),none,none],by simp,?_⟩;rw[if_neg (λ h=>nomatch h)];have hbt:bT b=.tup (b.map zk):=rfl;rw[hbt] at h2 h3 ⊢;unfold turn l4;generalize l9=b1,lP=f1,zq F=fl,rT l=rl,b.map zk=BB at *;simp[h2,h3]
 rw[hany,if_neg (by decide)] at h1;have hrt:rT l=.lst (l.map bT):=rfl;rw[hrt] at h1 k1 ⊢;unfold lR cP;generalize l4=b2,(F.os.length:Int)=nn,F.os.map kt=OS,zq F=fl,l.map bT=BB,xb=ln,zG true=ee at *;simp only[zl] at hw1;simp[il,k1,hw1,k2,e1,h1]
def TV {p:Nat}(hp:p<F.os.length):L2.z_ (F.os.map kt) (p:Int)=some (kt (F.os.getD p false)):=vv (by rw[zA3,zB1,zA1 hp];rfl)
def QJ (b:Bool):zG false (kt b) (.str "taker")=some (.bl (!b)):=by
 have h:(("keeper":Str) == ("taker":Str))=false:=by decide
 cases b
 .show zG false (.str "taker") (.str "taker")=_;simp[zG,dep,eqT]
 .show zG false (.str "keeper") (.str "taker")=_;simp[zG,dep,eqT,h]
noncomputable def xn (F:zA) (l:List Bd) (p:Nat) (q:Int×Int) (v5 v6 v7:Option L5.W):Ev:=[some (.im (zq F)),some (.im (.int (p:Int))),some (.im (zk q)),some (.im (rT l)),some (.im (.lst ((xC F p).map zL))),v5,v6,v7]
def PK (ht:∀ w∈F.ws,w.t<l.length) {p:Nat}{q r:Int×Int}:∀ w∈xC F p,∃ J',yM [5,6] J'=xn F l p q none none (some (.im (zk r)))/\turn (zy 5) qp (zL w) (xn F l p q none none (some (.im (zk r))))=some (if wC F l r w=true then .rt (.bl true) else .nx J'):=λ w hw=>by
 have hw':=ht w (zC8.mp hw).1;have h2:=XJ F r w;have h3:=m6 l w.t hw';have h9:zl (zL w) (.int 1)=some (.int w.t):=by simp[zL]
 refine⟨xn F l p q (some (.im (zL w))) (some (.im (tD (rF F r w)))) (some (.im (zk r))),by unfold xn;simp,?_⟩;show qp (xn F l p q (some (.im (zL w))) none (some (.im (zk r))))=_;unfold wC;cases hs:rF F r w with
 | none=>
  rw[hs] at h2;have i1:uR true .zj .zj=some (.bl false):=rfl;unfold qp xn;generalize rp=f1,t4=f2,zq F=fl,rT l=rl,zk r=pr,zk q=pq,zL w=wt,(xC F p).map zL=WW at *;simp only[tD] at h2 ⊢;simp[h2,i1]
 | some r'=>
  rw[hs] at h2;have h4:=cp (bT (l.getD w.t [])) (l.getD w.t []) r' rfl;have i1:uR true (zk r') .zj=some (.bl true):=rfl;unfold qp xn;generalize bT (l.getD w.t [])=bt,rp=f1,t4=f2,zq F=fl,rT l=rl at *;simp only[tD] at h2 ⊢;generalize zk r'=pr' at *;generalize zk r=pr at *;generalize zk q=pq,zL w=wt,(xC F p).map zL=WW at *;simp only[zl] at h3 h9;by_cases hc:zK (l.getD w.t []) r'=true
  .rw[hc] at h4;simp[h2,i1,h9,h3,h4];simpa using hc
  .rw[zE9] at hc;rw[hc] at h4;simp[h2,i1,h9,h3,h4];simpa using hc
def Mk (ok:F.Ok) (hpw:F.ss.Pairwise (λ a b=>a.p≠b.p)) (ht:∀ w∈F.ws,w.t<l.length) {p:Nat}(hp:p<F.os.length) {q:Int×Int}(hq:xV F q):n9 [zq F,.int (p:Int),zk q,rT l]=some (.bl (qe F l p q)):=by
 have hw1:=jq F;have hw2:=Oa F;have ho:=TV hp;have hk:=QJ (F.os.getD p false);have hc1:oY [some (.im (zq F)),some (.im (.int (p:Int))),some (.im (zk q)),some (.im (rT l)),none,none,none,none]=some (.lst ((xC F p).map zL)):=by
  have:=m5 zL (λ w=>if w.f=p then some (zL w) else none) (pick:=[none,some 1]) (it:=yx (zb zl (zc 0) (cS (.int 2)))) (g:=zy 0) (c:=zP (zb (zG false) (zb zl (zc 0) (cS (.int 0))) (zc 1))) (f:=zr 0) (J:=[some (.im (zq F)),some (.im (.int (p:Int))),some (.im (zk q)),some (.im (rT l)),none,none,none,none]) F.ws (by
    generalize zq F=fl,F.ws.map zL=WS at *;simp only[zl] at hw2;simp[hw2]) (by have:=ok.pW;omega) (λ w _=>by
    by_cases c:w.f=p
    .simp[zL,eq_int,c]
    .have c':¬ ((w.f:Int)=(p:Int)):=by omega
     simp[zL,eq_int,c,c'])
  unfold oY;rw[this];congr 2;unfold xC
  induction F.ws with
  | nil=>rfl
  | cons a l ih=>by_cases c:a.f=p <;> simp[List.filterMap_cons,c,ih]
 unfold qe;cases hb:F.os.getD p false with
 | false=>
  rw[hb] at ho hk;rw[if_neg (by decide)];have hloop:=u5 (is:=[5,6]) (g:=zy 5) (b:=pD) zL (λ w=>!wC F l q w) (.bl false) (xn F l p q none none none) (xC F p) (xn F l p q none none none) (by unfold xn;simp) λ w hw=>by
   have hw':=ht w (zC8.mp hw).1;have h2:=XJ F q w;have h3:=m6 l w.t hw';have h9:zl (zL w) (.int 1)=some (.int w.t):=by simp[zL]
   refine⟨xn F l p q (some (.im (zL w))) (some (.im (tD (rF F q w)))) none,by unfold xn;simp,?_⟩;show pD (xn F l p q (some (.im (zL w))) none none)=_;unfold wC;cases hs:rF F q w with
   | none=>
    rw[hs] at h2;have i1:uR false .zj .zj=some (.bl true):=rfl;unfold pD xn;generalize rp=f1,t4=f2,zq F=fl,rT l=rl,zk q=pq,zL w=wt,(xC F p).map zL=WW at *;simp only[tD] at h2 ⊢;simp[h2,i1]
   | some r'=>
    rw[hs] at h2;have h4:=cp (bT (l.getD w.t [])) (l.getD w.t []) r' rfl;have i1:uR false (zk r') .zj=some (.bl false):=rfl;unfold pD xn;generalize bT (l.getD w.t [])=bt,rp=f1,t4=f2,zq F=fl,rT l=rl at *;simp only[tD] at h2 ⊢;generalize zk r'=pr',zk q=pq,zL w=wt,(xC F p).map zL=WW at *;simp only[zl] at h3 h9;by_cases hc:zK (l.getD w.t []) r'=true
    .rw[hc] at h4;simp[h2,i1,h9,h3,h4];simpa using hc
    .rw[zE9] at hc;rw[hc] at h4;simp[h2,i1,h9,h3,h4];simpa using hc
  have hal:(xC F p).all (wC F l q)=!((xC F p).any λ w=>!wC F l q w):=by simp[List.all_eq_not_any_not]
  rw[hal];unfold xn at hloop;unfold n9 jS;generalize (xC F p).any (λ w=>!wC F l q w)=an,(xC F p).map zL=WW,oY=c1,pD=b1,F.os.map kt=OS,zq F=fl,rT l=rl,zk q=pq,kt false=ko,(T.str "taker")=ks,zG false=ee at *;simp only[zl] at hw1;cases an <;> simp at hloop <;> simp[hc1,hw1,ho,hk,hloop]
 | true=>
  rw[hb] at ho hk;rw[if_pos rfl];have h1:=Mr ok hpw p hq;have hloop:=u5 (is:=[5,6,7]) (g:=zy 7) (b:=nc) zk (λ r=>(xC F p).any (wC F l r)) (.bl true) (xn F l p q none none none) (qo F p q) (xn F l p q none none none) (by unfold xn;simp) λ r hr=>by
   have hin:=u5 (is:=[5,6]) (g:=zy 5) (b:=qp) zL (wC F l r) (.bl true) (xn F l p q none none (some (.im (zk r)))) (xC F p) (xn F l p q none none (some (.im (zk r)))) (by unfold xn;simp) (PK ht);refine⟨xn F l p q none none (some (.im (zk r))),by unfold xn;simp,?_⟩;show nc (xn F l p q none none (some (.im (zk r))))=_;unfold nc;unfold xn at hin ⊢;generalize (xC F p).any (wC F l r)=an,(xC F p).map zL=WW,qp=b2,zq F=fl,rT l=rl,zk r=pr,zk q=pq at *;simp[hin]
  unfold xn at hloop;unfold n9 jS;generalize (qo F p q).any (λ r=>(xC F p).any (wC F l r))=an,(qo F p q).map zk=CC,(xC F p).map zL=WW,oY=c1,nc=b3,lQ=f1,F.os.map kt=OS,zq F=fl,rT l=rl,zk q=pq,kt true=ko,(T.str "taker")=ks,zG false=ee at *;simp only[zl] at hw1;cases an <;> simp at hloop <;> simp[hc1,hw1,ho,hk,h1,hloop]
def XG (ok:F.Ok) (hpw:F.ss.Pairwise (λ a b=>a.p≠b.p)) (hl:l.length=F.os.length) {l':List Bd}(hl':l'.length=F.os.length) (hgo:∀ p<F.os.length,∀ q,xV F q->zK (l'.getD p []) q=qe F l p q):pP [zq F,rT l,rT l']=some (.bl true):=by
 obtain⟨L,p1,p2,p3⟩:=Mf ok;have n8:=ok.n8;have hr:=rM F.os.length (by omega);have hw1:=jq F;have k2:xb [.tup (F.os.map kt)]=some (.int (F.os.length:Int)):=by simp
 have hany:∀ {α:Type}(L:List α),L.any (λ _=>false)=false:=λ L=>by simp
 have h1:=u5 (is:=[3,4]) (g:=zy 3) (b:=lz) (λ k:Nat=>T.int (0+(k:Int))) (λ _=>false) (.bl false) [some (.im (zq F)),some (.im (rT l)),some (.im (rT l')),none,none] (List.range F.os.length) [some (.im (zq F)),some (.im (rT l)),some (.im (rT l')),none,none] (by simp) λ p hp=>by
  have hp':=zC1.mp hp;have h2:=u5 (is:=[4]) (g:=zy 4) (b:=l8) zk (λ _=>false) (.bl false) [some (.im (zq F)),some (.im (rT l)),some (.im (rT l')),some (.im (.int (p:Int))),none] L [some (.im (zq F)),some (.im (rT l)),some (.im (rT l')),some (.im (.int (p:Int))),none] (by simp) λ q hq=>by
   have g1:=Mk ok hpw (λ w hw=>by rw[hl];exact (ok.ws w hw).2) hp' (p2 q hq) (l:=l);have g2:=cp (bT (l'.getD p [])) (l'.getD p []) q rfl;rw[hgo p hp' q (p2 q hq)] at g2;have g3:=m6 l' p (by rw[hl'];exact hp');refine⟨[some (.im (zq F)),some (.im (rT l)),some (.im (rT l')),some (.im (.int (p:Int))),some (.im (zk q))],by simp,?_⟩;rw[if_neg (λ h=>nomatch h)];unfold turn l8;generalize qe F l p q=go at *;have e1:zG true (.bl go) (.bl go)=some (.bl false):=by cases go <;> simp[zG,dep,eqT]
   generalize bT (l'.getD p [])=bt,t4=f1,n9=f2,zq F=fl,rT l'=rl' at *;generalize rT l=rl at *;generalize zk q=pq,zG true=ee at *;simp only[zl] at g3;simp[g3,g2,g1,e1]
  rw[hany,if_neg (by decide)] at h2;refine⟨[some (.im (zq F)),some (.im (rT l)),some (.im (rT l')),some (.im (.int (p:Int))),none],by simp,?_⟩;rw[if_neg (λ h=>nomatch h),Int.zero_add];unfold turn lz;generalize L.map zk=LL,l8=b1,lO=f1,zq F=fl,rT l'=rl' at *;generalize rT l=rl at *;simp[p1,h2]
 rw[hany,if_neg (by decide)] at h1;unfold pP cK;generalize (List.range F.os.length).map (λ k:Nat=>T.int (0+(k:Int)))=RR,lz=b2,F.os.map kt=OS,zq F=fl,rT l'=rl' at *;generalize rT l=rl at *;generalize xb=ln at *;simp only[zl] at hw1;simp[hw1,k2,hr,h1]
end
noncomputable def yh (F:zA) (m:Nat):List (List Bd):=(List.range (m+1)).map (zC F)
theorem rN {α:Type}{enc:α->T}(h:∀ x,plainT (enc x)=true):∀ l:List α,va (l.map enc)=true
 | []=>rfl
 | x::l=>by simp only[zA6,va,h x,rN h l,Bool.and_self]
def gD (b:Bd):plainT (bT b)=true:=by
 unfold bT;simp only[plainT];exact rN (λ x=>rfl) b
def U7 (b:Bool):plainT (kt b)=true:=by cases b <;> rfl
def U9 (F:zA):plainT (zq F)=true:=by
 have h1:=rN U7 F.os;have h2:=rN (enc:=zL) (λ _=>rfl) F.ws;have h3:=rN (enc:=y4) (λ _=>rfl) F.ss;unfold zq;simp[plainT,va,h1,h2,h3]
def O9 (b:Bd):dep (bT b)<=2:=by
 have:=pb zk 1 YI b;show 1+yw (b.map zk)<=2;omega
def mV (l:List Bd):dep (rT l)<=3:=by
 have:=pb bT 2 O9 l;show 1+yw (l.map bT)<=3;omega
def eD {t:T}(h:dep t<=60) (neg:Bool):zG neg t t=some (.bl (cond neg false true)):=by
 unfold zG;rw[if_pos ⟨h,h⟩,mO];rfl
def Om (b c:Bd):eqT (bT b) (bT c)=decide (b=c):=by
 unfold bT;simp only[eqT];exact eF b c
theorem Y1:∀ l m:List Bd,xO (l.map bT) (m.map bT)=decide (l=m)
 | [],[]=>rfl
 | [],_::_=>rfl
 | _::_,[]=>rfl
 | a::l,b::m=>by
  rw[zA6,zA6];simp only[xO,Om,Y1 l m];by_cases h1:a=b <;> by_cases h2:l=m <;> simp[h1,h2]
def Y2 (l m:List Bd):eqT (rT l) (rT m)=decide (l=m):=by
 unfold rT;simp only[eqT];exact Y1 l m
def Qm {l m:List Bd}(h:l≠m):zG false (rT l) (rT m)=some (.bl false):=by
 have h1:=mV l;have h2:=mV m;unfold zG;rw[if_pos ⟨by omega,by omega⟩,Y2,decide_eq_false h];rfl
section
variable {F:zA}{m:Nat}
def b5 (F:zA) (m:Nat):(yh F m).length=m+1:=by unfold yh;simp
def kl (F:zA) (m:Nat):(yh F m).map rT=((List.range m).map λ k=>rT (zC F k))++[rT (zC F m)]:=by
 unfold yh;rw[List.range_succ,zE7,zE7,zD6];rfl
def ip {k:Nat}(h:k<=m):L2.z_ ((yh F m).map rT) (k:Int)=some (rT (zC F k)):=vv (by
 unfold yh;rw[zD6,zA3,List.getElem?_range (by omega)];rfl)
def QF (ok:F.Ok) (hpw:F.ss.Pairwise (λ a b=>a.p≠b.p)) (hgo:∀ k,k<=m->∀ p<F.os.length,∀ q,xV F q->zK ((zC F (k+1)).getD p []) q=qe F (zC F k) p q) (hne:∀ j<m,zC F (j+1)≠zC F j) (ns:List Int) {k:Nat}(hk:k<m):
  ∃ J',yM [3,4] J'=[some (.im (zR ns)),some (.im (zq F)),some (.own (.lst ((yh F m).map rT))),none,none,none]/\turn (zy 3) lA (.int (0+(k:Int))) [some (.im (zR ns)),some (.im (zq F)),some (.own (.lst ((yh F m).map rT))),none,none,none]=some (if (λ _:Nat=>false) k=true then .rt (.bl false) else .nx J'):=by
 have a0:=ip (F:=F) (m:=m) (k:=k) (by omega);have a1:=ip (F:=F) (m:=m) (k:=k+1) (by omega);rw[Int.natCast_succ] at a1;have e1:=Qm (hne k hk);have h1:=XG ok hpw (u6 F k) (u6 F (k+1)) (hgo k (by omega));have hc':xh [zR ns,.int 36]=some (.int (cell ns 36)):=pQ ns 36;have k1:xb [.lst ((yh F m).map rT)]=some (.int ((m:Int)+1)):=by simp[b5]
 generalize cell ns 36=num at *;rw[Int.zero_add];have hq:∃ b,rW (zb yQ (zc 3) (cS (.int 8))) (rW (zb uU (zc 3) (zb wz (zv xb (ze (zc 2) zm)) (cS (.int 4)))) (zb (zG false) (zb zX (zc 3) (cS (.int 29))) (zb zX (zv xh (ze (zr 0) (ze (cS (.int 36)) zm))) (cS (.int 29))))) [some (.im (zR ns)),some (.im (zq F)),some (.own (.lst ((yh F m).map rT))),some (.im (.int (k:Int))),none,none]=some (.bl b):=by
  generalize (yh F m).map rT=TT,xh=f1,zR ns=sc,xb=ln at *;by_cases c1:(k:Int)<8
  .exact⟨true,by simp[yQ,c1]⟩
  .by_cases c2:(m:Int)+1-4<(k:Int)
   .exact⟨true,by simp[yQ,c1,k1,c2]⟩
   .exact⟨_,by simp[yQ,c1,k1,c2,hc',eq_int];rfl⟩
 obtain⟨b,hb⟩:=hq;refine⟨[some (.im (zR ns)),some (.im (zq F)),some (.own (.lst ((yh F m).map rT))),some (.im (.int (k:Int))),some (.im (.bl b)),none],by simp,?_⟩;rw[if_neg (λ h=>nomatch h)];unfold turn lA;generalize rW (zb yQ (zc 3) (cS (.int 8))) (rW (zb uU (zc 3) (zb wz (zv xb (ze (zc 2) zm)) (cS (.int 4)))) (zb (zG false) (zb zX (zc 3) (cS (.int 29))) (zb zX (zv xh (ze (zr 0) (ze (cS (.int 36)) zm))) (cS (.int 29)))))=oo at *;generalize (yh F m).map rT=TT,pP=f2,zR ns=sc,zq F=fl,rT (zC F (k+1))=r1,rT (zC F k)=r0,(k:Int)=kk,zG false=ee at *;cases b <;> simp[a1,a0,e1,hb,h1]
end
def YW (xs:List T) (x:T):vG (xs++[x]) none (some (-1))=xs:=by
 unfold vG;have e1:HT.zI (xs++[x]).length 0 none=0:=rfl;have e2:HT.zI (xs++[x]).length (xs++[x]).length (some (-1))=xs.length:=by
  unfold HT.zI;dsimp only;rw[if_pos (by decide),zD7,List.length_singleton];omega
 rw[e1,e2];simp
def QG (ns:List Int) (_:ns.length<=63):nC [zR ns]=some (.bl true):=by
 obtain⟨F,h1,ok,hw,hpw⟩:=Ml ns;obtain⟨more,hr,hn,hmo,hR⟩:=Me ok;have n1:=ok.n1;have n8:=ok.n8;have hne0:List.range F.os.length≠[]:=λ h=>by
  have h2:=congrArg List.length h;rw[zC5] at h2;rw[h2] at n1;exact absurd n1 (by decide)
 obtain⟨m,e,hst,hne⟩:=bZ ok hw 2000 [] 0 (List.range F.os.length) _ (St.start ok) hne0 rfl hR (λ j hj=>absurd hj (Nat.not_lt_zero _));have hm:m<=5000:=by
  have:=congrArg List.length e;simp at this;omega
 have ht:RN.start F::more=yh F m:=e;rw[ht] at hr hn;have hg:∀ k,k<=m->∀ b∈zC F k,Gd F.A F.B b:=λ k hk=>(hn (zC F k) (zB0.mpr ⟨k,zC1.mpr (by omega),rfl⟩)).2;have gdp:∀ k,k<=m->∀ p,Gd F.A F.B ((zC F k).getD p []):=λ k hk p=>by
  rcases Nat.lt_or_ge p (zC F k).length with h | h
  .rw[zB1,zA1 h];exact hg k hk _ (zD8 h)
  .rw[zB1,List.getElem?_eq_none h];exact Gd.nil
 have hgo:∀ k,k<=m->∀ p<F.os.length,∀ q,xV F q->zK ((zC F (k+1)).getD p []) q=qe F (zC F k) p q:=λ k hk p hp q hq=>by
  have e1:(zC F (k+1)).getD p []=y9 F (zC F k) p:=oP (λ p=>y9 F (zC F k) p) F.os.length p [] hp;rw[e1];exact Qj ok (gdp k hk) p hq
 have hfl:=XG ok hpw (u6 F m) (u6 F m) (λ p hp q hq=>by rw[<- hgo m (zA4 _) p hp q hq,hst]);have hturn:=λ k (hk:k∈List.range m)=>QF ok hpw hgo hne ns (zC1.mp hk);have hdiff:∀ k<m,zC F k≠zC F m:=λ k hk=>QW ok hg hne hk;have htl:=b5 F m;have hc1:j4 [some (.im (zR ns)),some (.im (zq F)),some (.own (.lst ((yh F m).map rT))),none,none,none]=some (.lst ((yh F m).map λ _=>T.bl true)):=by
  unfold j4;refine sL rT (λ _=>T.bl true) (yh F m) (by simp) (by rw[htl];omega) λ l hl=>?_;have h2:=Mw ok (hn l hl).1 (hn l hl).2;generalize lR=f1,zq F=fl,rT l=rl at *;simp[h2]
 have hw1:=jq F;have hc2:jz [some (.im (zR ns)),some (.im (zq F)),some (.own (.lst ((yh F m).map rT))),none,none,none]=some (rT (zC F 0)):=by
  have:rT (zC F 0)=.lst (F.os.map λ _=>bT xw):=by
   show rT (RN.start F)=_;unfold rT RN.start;rw[List.map_replicate,List.map_const']
  rw[this];unfold jz;refine sL kt (λ _=>bT xw) F.os (by
   generalize F.os.map kt=OS,zq F=fl at *;simp only[zl] at hw1;simp[hw1]) (by omega) λ o ho=>?_
  simp[bT,xw,zk]
 have hloop:=u5 (is:=[3,4]) (g:=zy 3) (b:=lA) (λ k:Nat=>T.int (0+(k:Int))) (λ _=>false) (.bl false) [some (.im (zR ns)),some (.im (zq F)),some (.own (.lst ((yh F m).map rT))),none,none,none] (List.range m) [some (.im (zR ns)),some (.im (zq F)),some (.own (.lst ((yh F m).map rT))),none,none,none] (by simp) hturn;have hany:(List.range m).any (λ _=>false)=false:=by simp
 rw[hany,if_neg (by decide)] at hloop;have hall:=ND (λ _:List Bd=>true) (yh F m);have hat:((yh F m).map λ _=>true).all id=true:=by simp
 have hrg:=rM m (by omega);have hr':pN [zq F]=some (.lst ((yh F m).map rT)):=hr;have k1:xb [.lst ((yh F m).map rT)]=some (.int ((m:Int)+1)):=by simp[htl]
 have a0:L2.z_ ((yh F m).map rT) 0=some (rT (zC F 0)):=ip (k:=0) (by omega);have al:L2.z_ ((yh F m).map rT) (-1)=some (rT (zC F m)):=by rw[kl];exact nj
 have q0:=eD (t:=rT (zC F 0)) (by have:=mV (zC F 0);omega) true;have hlen0:zG false (.int ((m:Int)+1)) (.int 0)=some (.bl false):=by
  have:¬ (m:Int)+1=0:=by omega
  simp[eq_int,this]
 have hkw:oI 2 5 (xE [none] (yx (zc 2)) (zy 0) vZ (zv listS (ze (zc 0) zm))) (.tup []) [some (.im (zR ns)),some (.im (zq F)),some (.own (.lst ((yh F m).map rT))),none,none,none]=some (.nx [none,some (.im (zq F)),some (.own (.lst (((List.range m).map λ k=>rT (zC F k))++[.lst ((zC F m).map bT++[.tup []])]))),none,none,some (.own (.lst ((yh F m).map rT)))]):=by
  have hlc:xE [none] (yx (zc 2)) (zy 0) vZ (zv listS (ze (zc 0) zm)) [some (.im (zR ns)),some (.im (zq F)),some (.own (.lst ((yh F m).map rT))),none,none,none]=some (.lst ((yh F m).map rT)):=by
   refine sL rT rT (yh F m) (by simp) (by rw[htl];omega) λ l hl=>?_;have h2:=(hn l hl).1;have h3:(l.map bT).length<=16777216:=by simp;omega
   have hrt:rT l=.lst (l.map bT):=rfl;rw[hrt];generalize l.map bT=LL at *;simp[h3]
  unfold oI;rw[hlc,zC9];have hgl:((yh F m).map rT).getLast?=some (.lst ((zC F m).map bT)):=by rw[kl,List.getLast?_concat];rfl
  have hdl:((yh F m).map rT).dropLast=(List.range m).map λ k=>rT (zC F k):=by rw[kl,List.dropLast_concat]
  have hlm:=u6 F m;have c1:mf ((zC F m).map bT)=false:=by
   cases hi:zC F m with
   | nil=>rw[hi] at hlm;simp at hlm;omega
   | cons _ _=>rfl
  have c2:=rN gD (zC F m);have c3:((zC F m).map bT).length<16777216:=by rw[zA7,hlm];omega
  have c4:(((yh F m).map rT).dropLast).all (kY ((zC F m).map bT))=true:=by
   rw[hdl,zE4];intro y hy;obtain⟨k,hk,rfl⟩:=zB0.mp hy;have hd:=hdiff k (zC1.mp hk);show (va ((zC F k).map bT)&&!eqT (rT (zC F k)) (rT (zC F m)))=true;rw[rN gD,Y2,decide_eq_false hd];rfl
  have c5:((yh F m).map rT).all fT=true:=by
   rw[zE4];intro y hy;obtain⟨l,hl,rfl⟩:=zB0.mp hy;exact rN gD l
  show (match ((yh F m).map rT).getLast? with | some (.lst us)=>_ | _=>_)=_;rw[hgl];dsimp only;rw[if_pos ⟨c1,c2,c3,c4,c5,rfl,by decide,by show 5<6;decide⟩,hdl];have p4:plainT (zR ns)=false:=rfl;have p1:=U9 F;generalize (yh F m).map rT=TT,zR ns=sc,zq F=fl at *;simp[p1,p4]
 have hini:vG (((List.range m).map λ k=>rT (zC F k))++[.lst ((zC F m).map bT++[.tup []])]) none (some (-1))=(List.range m).map λ k=>rT (zC F k):=YW _ _;have hini2:vG ((yh F m).map rT) none (some (-1))=(List.range m).map λ k=>rT (zC F k):=by rw[kl];exact YW _ _
 have q1:zG false (.lst ((List.range m).map λ k=>rT (zC F k))) (.lst ((List.range m).map λ k=>rT (zC F k)))=some (.bl true):=eD (by
  have:=pb (λ k=>rT (zC F k)) 3 (λ k=>mV _) (List.range m);show 1+yw _<=60;omega) false
 have q2:zG false (.lst ((yh F m).map rT)) (.lst ((yh F m).map rT))=some (.bl true):=eD (by
  have:=pb rT 3 mV (yh F m);show 1+yw _<=60;omega) false
 have il:v9 "list" "list"=true:=by decide
 have hmm:(m:Int)+1-1=m:=by omega
 clear hturn hgo gdp hg hn hdiff hr;unfold nC Ws;generalize oI 2 5 (xE [none] (yx (zc 2)) (zy 0) vZ (zv listS (ze (zc 0) zm))) (.tup [])=kw at *;generalize (yh F m).map (λ _=>true)=BS at *;generalize (yh F m).map (λ _=>T.bl true)=TS at *;generalize (yh F m).map rT=TT,((List.range m).map λ k=>rT (zC F k))++[.lst ((zC F m).map bT++[.tup []])]=T2,(List.range m).map (λ k=>rT (zC F k))=INI,(List.range m).map (λ k:Nat=>T.int (0+(k:Int)))=RR,rT (zC F m)=rm,rT (zC F 0)=r0,j4=c1,jz=c2,lA=b1,nA=f1,pN=f2,pP=f3,zq F=fl,zR ns=sc,xb=ln,zG=ee at *;by_cases h60:(60:Int)<(m:Int)+1
 .simp[h1,hr',il,hc1,hall,hat,k1,hlen0,a0,hc2,q0,hmm,hrg,hloop,al,hfl,hkw,hini,hini2,q1,h60]
 .simp[h1,hr',il,hc1,hall,hat,k1,hlen0,a0,hc2,q0,hmm,hrg,hloop,al,hfl,hkw,hini,hini2,q1,h60,q2]
end yt
namespace PySem.W.Fast
def te8027323104705215496:=0
def tw13329919534789167109:=0
def tw9881545784292172369:=0
def tw3724302166654448160:=0
def tw4710650596184454997:=0
def tw7993701002854244875:=0
def tw14843547789448865149:=0
def tw17197225326357768845:=0
def tw17901025179279926959:=0
def tw11480567202718558182:=0
def tw17661032090658910611:=0
def tw3554368638785719238:=0
def tw15092009800377669405:=0
def tw12532387174202103686:=0
def tw865628254316646791:=0
def tw5618121589669218444:=0
def tw11273233472764995268:=0
def tw13008255647610652864:=0
def tw5520704409606953850:=0
def tw7863888780170874636:=0
def tw16679148198539504799:=0
def tw101383500773138319:=0
def tw7542387384584464888:=0
def tw10195333225977768494:=0
def tw6250007680079136414:=0
def tw3182783221612951366:=0
def tw18424481464287537127:=0
def tw1058045428578677390:=0
def tw11361058148521578053:=0
def tw15447366996219600379:=0
def tw4091604261427749186:=0
def tw15411352953140392444:=0
def tw5836845063058486696:=0
def tw3064723348335872917:=0
def tw9396776018974917443:=0
def tw317768340262856643:=0
def tw5495366115199691505:=0
def tw7578544354824493398:=0
def tw9257723117463010274:=0
def tw11892269411578385019:=0
def tw11794108577112153559:=0
def tw13332550868283461168:=0
def tw5752661895234795429:=0
def tw9547846978637319190:=0
def tw2601561292253325478:=0
def tw3026511251903324126:=0
def tw12906779575882659774:=0
def tw15475539866768532413:=0
def tw10510888619364560682:=0
def tw5939774035814742955:=0
def tw8643837218314741272:=0
def tw5029820435628384058:=0
def tw16083513369296286019:=0
def tw10739832731058191953:=0
def tw17561200069499754996:=0
def tw1250967340512358176:=0
def tw4453147560170400535:=0
def tw7233457733005765290:=0
def tw3998657607120442196:=0
def tw9812873083934668892:=0
def tw16572469598588608556:=0
def tw3293820043003402933:=0
def tw6782209773280504434:=0
def tw1791595765301153045:=0
def tw8488055236757473894:=0
def tw16156691974553886001:=0
def tw6975962893815709777:=0
def tw11472354752186163320:=0
def tw14105704738252617448:=0
def tw16797116642354890790:=0
def tw1223197915383634485:=0
def tw906742158876271731:=0
def tw18204199534317975184:=0
def tw16371983466797904753:=0
def tw12988047609344858622:=0
def tw262696094109641077:=0
def tw375693719683826963:=0
def tw15146171204816017976:=0
def tw5628488669599926021:=0
def tw7708232026778793012:=0
def tw3896919157003397428:=0
def tw9436401658788327757:=0
def tw16949522267345804110:=0
def tw5661812157678516980:=0
def tw17416962943832681454:=0
def tw12405901047700506887:=0
def tw3899363377731725796:=0
def tw17996484119527404120:=0
def tw18363284339550781018:=0
def tw10391313428998400472:=0
def tw16082338887711967797:=0
def tw2968691624438606044:=0
def tw2338501950306920827:=0
def tw2374961062731369629:=0
def tw17739974637947882376:=0
def tw1240163126309264628:=0
def tw300481142614725178:=0
def tw11035652626865598189:=0
def tw10395803721147096919:=0
def tw15883506062658417014:=0
end PySem.W.Fast
namespace yt
open PySem L2 L3 L5
open PyProof.Rows hiding St
def yu (i:Nat):Stmt:=PySem.Challenge.pw_purseborder_k31_rounds_walked.main.body.getD i (.Pass ⟨0,0,0,0⟩)
abbrev gf:Stmt:=yu 5
abbrev h_:Stmt:=yu 6
abbrev iM:Stmt:=yu 7
abbrev gi:Stmt:=yu 8
abbrev kA:Stmt:=yu 9
abbrev iL:Stmt:=yu 10
abbrev gp:Stmt:=yu 12
abbrev iP:Stmt:=yu 13
abbrev nJ:Stmt:=yu 14
abbrev gh:Stmt:=yu 15
abbrev nK:Stmt:=yu 17
abbrev iO:Stmt:=yu 18
abbrev gm:Stmt:=yu 19
abbrev gj:Stmt:=yu 20
abbrev gk:Stmt:=yu 21
abbrev nI:Stmt:=yu 22
abbrev kC:Stmt:=yu 23
abbrev kB:Stmt:=yu 24
abbrev hJ:Stmt:=yu 26
abbrev iZ:Stmt:=yu 27
abbrev hV:Stmt:=yu 28
abbrev iU:Stmt:=yu 29
abbrev iR:Stmt:=yu 30
abbrev iT:Stmt:=yu 31
abbrev iY:Stmt:=yu 32
abbrev hX:Stmt:=yu 33
abbrev i_:Stmt:=yu 34
abbrev iW:Stmt:=yu 35
abbrev iQ:Stmt:=yu 36
abbrev iV:Stmt:=yu 37
abbrev kD:Stmt:=yu 38
abbrev kE:Stmt:=yu 39
abbrev iX:Stmt:=yu 40
abbrev hZ:Stmt:=yu 41
abbrev oe:Stmt:=yu 42
def VF:yo ["thing"] ["thing"] (zE gf):=⟨rfl,rfl,rfl,by decide +kernel,rfl,by decide +kernel,by decide +kernel⟩
def VA:yo ["floor"] ["floor"] (zE iM):=⟨rfl,rfl,rfl,by decide +kernel,rfl,by decide +kernel,by decide +kernel⟩
def VI:yo ["pair","other"] ["pair","other"] (zE gp):=⟨rfl,rfl,rfl,by decide +kernel,rfl,by decide +kernel,by decide +kernel⟩
def iD:yo ["pairs","least","pair"] ["pairs"] (zE iP):=⟨rfl,rfl,rfl,by decide +kernel,rfl,by decide +kernel,by decide +kernel⟩
def qF:yo ["brims","stall","pair","purse","pairs","given","got"] ["brims","stall","pair"] (zE iO):=⟨rfl,rfl,rfl,by decide +kernel,rfl,by decide +kernel,by decide +kernel⟩
def VD:yo ["_law_script","_law_k"] ["_law_script","_law_k"] (zE hJ):=⟨rfl,rfl,rfl,by decide +kernel,rfl,by decide +kernel,by decide +kernel⟩
def VC:yo ["_law_number"] ["_law_number"] (zE iZ):=⟨rfl,rfl,rfl,by decide +kernel,rfl,by decide +kernel,by decide +kernel⟩
def iK:yo ["_law_floor_here","_law_pair","_law_way","_law_first","_law_second"] ["_law_floor_here","_law_pair","_law_way"] (zE hX):=⟨rfl,rfl,rfl,by decide +kernel,rfl,by decide +kernel,by decide +kernel⟩
def qI:yo ["_law_floor_here","_law_place","_law_pair","_law_found","_law_home","_law_purse","_law_give","_law_get","_law_coins_here"] ["_law_floor_here","_law_place","_law_pair"] (zE i_):=⟨rfl,rfl,rfl,by decide +kernel,rfl,by decide +kernel,by decide +kernel⟩
def iH:yo ["_law_border","_law_pair","_law_x","_law_y"] ["_law_border","_law_pair"] (zE iW):=⟨rfl,rfl,rfl,by decide +kernel,rfl,by decide +kernel,by decide +kernel⟩
def VB:yo ["_law_found"] ["_law_found"] (zE iQ):=⟨rfl,rfl,rfl,by decide +kernel,rfl,by decide +kernel,by decide +kernel⟩
def iE:yo ["_law_floor_here","_law_found","_law_x"] ["_law_floor_here"] (zE kD):=⟨rfl,rfl,rfl,by decide +kernel,rfl,by decide +kernel,by decide +kernel⟩
def VE:yo ["thing","least","most"] ["thing","least","most"] (zE h_):=⟨rfl,rfl,rfl,by decide +kernel,rfl,by decide +kernel,by decide +kernel⟩
def qJ:yo ["border","other","steps","lows","shared","first","side","second"] ["border","other"] (zE nJ):=⟨rfl,rfl,rfl,by decide +kernel,rfl,by decide +kernel,by decide +kernel⟩
def VG:yo ["border","other"] ["border","other"] (zE gh):=⟨rfl,rfl,rfl,by decide +kernel,rfl,by decide +kernel,by decide +kernel⟩
def bS:yo ["brims","way","border","pairs"] ["brims","way","border"] (zE nK):=⟨rfl,rfl,rfl,by decide +kernel,rfl,by decide +kernel,by decide +kernel⟩
def iJ:yo ["_law_script","_law_many","_law_number","_law_found"] ["_law_script","_law_many"] (zE hV):=⟨rfl,rfl,rfl,by decide +kernel,rfl,by decide +kernel,by decide +kernel⟩
def nH:yo ["_law_script","_law_many","_law_number","_law_found","_law_place"] ["_law_script","_law_many"] (zE iU):=⟨rfl,rfl,rfl,by decide +kernel,rfl,by decide +kernel,by decide +kernel⟩
def uo:yo ["_law_script","_law_many","_law_number","_law_wide","_law_found","_law_place","_law_size","_law_k","_law_at","_law_drawn","_law_rest"] ["_law_script","_law_many"] (zE iR):=⟨rfl,rfl,rfl,by decide +kernel,rfl,by decide +kernel,by decide +kernel⟩
def qG:yo ["_law_script","_law_owners_here","_law_found","_law_place","_law_drawn","_law_rest","_law_give","_law_get"] ["_law_script","_law_owners_here"] (zE iT):=⟨rfl,rfl,rfl,by decide +kernel,rfl,by decide +kernel,by decide +kernel⟩
def iG:yo ["_law_found","_law_pair","_law_k"] ["_law_found"] (zE iV):=⟨rfl,rfl,rfl,by decide +kernel,rfl,by decide +kernel,by decide +kernel⟩
def qH:yo ["_law_floor_here","_law_place","_law_pair","_law_told","_law_ways_here","_law_way","_law_behind_here","_law_held_here"] ["_law_floor_here","_law_place","_law_pair","_law_told"] (zE kE):=⟨rfl,rfl,rfl,by decide +kernel,rfl,by decide +kernel,by decide +kernel⟩
def VH:yo ["floor","place"] ["floor","place"] (zE gi):=⟨rfl,rfl,rfl,by decide +kernel,rfl,by decide +kernel,by decide +kernel⟩
def k7:yo ["borders","joined","border"] ["borders"] (zE gj):=⟨rfl,rfl,rfl,by decide +kernel,rfl,by decide +kernel,by decide +kernel⟩
def k8:yo ["borders","joined","border"] ["borders"] (zE gk):=⟨rfl,rfl,rfl,by decide +kernel,rfl,by decide +kernel,by decide +kernel⟩
def rK:yo ["_law_script","_law_number","_law_many","_law_owners_here","_law_brims_here","_law_ways_here","_law_stalls_here"] ["_law_script"] (zE iY):=⟨rfl,rfl,rfl,by decide +kernel,rfl,by decide +kernel,by decide +kernel⟩
def iI:yo ["_law_floor_here","_law_told","_law_more","_law_place","_law_pair"] ["_law_floor_here","_law_told","_law_more"] (zE iX):=⟨rfl,rfl,rfl,by decide +kernel,rfl,by decide +kernel,by decide +kernel⟩
def k6:yo ["_law_floor_here","_law_some","_law_found","_law_x","_law_y"] ["_law_floor_here","_law_some"] (zE hZ):=⟨rfl,rfl,rfl,by decide +kernel,rfl,by decide +kernel,by decide +kernel⟩
def V9:yo ["floor","place"] ["floor","place"] (zE kA):=⟨rfl,rfl,rfl,by decide +kernel,rfl,by decide +kernel,by decide +kernel⟩
def bR:yo ["floor","place","stall"] ["floor","place"] (zE iL):=⟨rfl,rfl,rfl,by decide +kernel,rfl,by decide +kernel,by decide +kernel⟩
def k9:yo ["floor","place","border","stall","pairs","pair"] ["floor","place","border"] (zE gm):=⟨rfl,rfl,rfl,by decide +kernel,rfl,by decide +kernel,by decide +kernel⟩
def iC:yo ["floor","place","last","ways","ahead"] ["floor","place","last"] (zE nI):=⟨rfl,rfl,rfl,by decide +kernel,rfl,by decide +kernel,by decide +kernel⟩
def iB:yo ["floor","last","fresh","following","place"] ["floor","last","fresh"] (zE kC):=⟨rfl,rfl,rfl,by decide +kernel,rfl,by decide +kernel,by decide +kernel⟩
def p_:yo ["floor","told","fresh","last","following"] ["floor"] (zE kB):=⟨rfl,rfl,rfl,by decide +kernel,rfl,by decide +kernel,by decide +kernel⟩
def oa:yo ["_law_script","_law_floor_here","_law_found","_law_k","_law_asked","_law_kept"] ["_law_script"] (zE oe):=⟨rfl,rfl,rfl,by decide +kernel,rfl,by decide +kernel,by decide +kernel⟩
section
variable (P:Program) (w:World) (K:zFr) (mg:Str->Option Value) (base:Heap)
abbrev Wi:=FD P w K mg base "is_whole" 1 ["thing"] (yi zJ jQ)
abbrev cq:=FD P w K mg base "places_of" 1 ["floor"] (yi zJ pO)
abbrev Wq:=FD P w K mg base "at_or_above" 1 ["pair","other"] (yi zJ lY)
abbrev lZ:=FD P w K mg base "least_pairs" 1 ["pairs"] (yi zJ rh)
abbrev XQ:=FD P w K mg base "pairs_ahead_of_changes" 1 ["brims","stall","pair"] (yi zJ lM)
abbrev pR:=FD P w K mg base "_law_cell" 1 ["_law_script","_law_k"] (yi zJ xh)
abbrev Wc:=FD P w K mg base "_law_coins" 1 ["_law_number"] (yi zJ rj)
abbrev Wf:=FD P w K mg base "_law_behind" 1 ["_law_floor_here","_law_pair","_law_way"] (yi zJ rp)
abbrev Wd:=FD P w K mg base "_law_changes" 1 ["_law_floor_here","_law_place","_law_pair"] (yi zJ lQ)
abbrev cu:=FD P w K mg base "_law_held" 1 ["_law_border","_law_pair"] (yi zJ t4)
abbrev XT:=FD P w K mg base "_law_whole" 1 ["_law_found"] (yi zJ ny)
abbrev XX:=FD P w K mg base "_law_pairs" 1 ["_law_floor_here"] (yi zJ lO)
abbrev Wh:=FD P w K mg base "is_whole_within" 2 ["thing","least","most"] (yi zJ jP)
abbrev Wk:=FD P w K mg base "both" 2 ["border","other"] (yi zJ lU)
abbrev Wj:=FD P w K mg base "either" 2 ["border","other"] (yi zJ lS)
abbrev Wn:=FD P w K mg base "border_ahead_of_way" 2 ["brims","way","border"] (yi zJ lX)
abbrev We:=FD P w K mg base "_law_brims" 2 ["_law_script","_law_many"] (yi zJ nB)
abbrev XY:=FD P w K mg base "_law_owners" 2 ["_law_script","_law_many"] (yi zJ n6)
abbrev XU:=FD P w K mg base "_law_ways" 2 ["_law_script","_law_many"] (yi zJ n4)
abbrev XW:=FD P w K mg base "_law_stalls" 2 ["_law_script","_law_owners_here"] (yi zJ n5)
abbrev XZ:=FD P w K mg base "_law_is_border" 2 ["_law_found"] (yi zJ lP)
abbrev X_:=FD P w K mg base "_law_goes_on" 2 ["_law_floor_here","_law_place","_law_pair","_law_told"] (yi zJ n9)
abbrev cv:=FD P w K mg base "check_place" 3 ["floor","place"] (yi zJ lT)
abbrev Wl:=FD P w K mg base "border_of_either" 3 ["borders"] (yi vw lV)
abbrev Wm:=FD P w K mg base "border_of_all" 3 ["borders"] (yi vw lW)
abbrev Wb:=FD P w K mg base "_law_floor" 3 ["_law_script"] (yi zJ nA)
abbrev Wa:=FD P w K mg base "_law_follows" 3 ["_law_floor_here","_law_told","_law_more"] (yi zJ pP)
abbrev Wg:=FD P w K mg base "_law_are_borders" 3 ["_law_floor_here","_law_some"] (yi zJ lR)
abbrev XM:=FD P w K mg base "ways_from" 4 ["floor","place"] (yi zJ lL)
abbrev XN:=FD P w K mg base "stall_at" 4 ["floor","place"] (yi vw pM)
abbrev Wo:=FD P w K mg base "border_ahead_of_changes" 5 ["floor","place","border"] (yi vw nD)
abbrev XS:=FD P w K mg base "next_border" 6 ["floor","place","last"] (yi vw lN)
abbrev XR:=FD P w K mg base "next_round" 7 ["floor","last","fresh"] (yi zJ nv)
abbrev XO:=FD P w K mg base "rounds" 8 ["floor"] (yi zJ pN)
variable {K mg} (T:Bt mg) (U:Bq mg)
include T U
theorem RM (F:Fy K mg "is_whole" gf):Wi P w K mg base:=
 yD (k:=0) F VF rfl (λ _ _ _ _ _ _=>tm λ _=>rfl) λ f cdv A outer s H E hr=>⟨_,
  (zB (zQ (ma (aV T (za 0 (pv 0))) (qM (aO (aW T (za 0 (pv 0)))))))),
  (by unfold cR;exact yL)⟩
theorem Ru (F:Fy K mg "places_of" iM):cq P w K mg base:=
 yD (k:=0) F VA rfl (λ _ _ _ _ _ _=>tm λ _=>rfl) λ f cdv A outer s H E hr=>⟨_,
  (zB (zQ (v8 T.len (zf (zw (za 0 (pv 0)) zg) zp)))),
  (by unfold c9;exact yL)⟩
theorem Qb (F:Fy K mg "at_or_above" gp):Wq P w K mg base:=
 yD (k:=0) F VI rfl (λ _ _ _ _ _ _=>ua λ _ _=>rfl) λ f cdv A outer s H E hr=>⟨_,
  (zB (zQ (ma (aY (zw (za 0 (pv 0)) zg) (zw (za 1 (pv 1)) zg)) (qM (aY (zw (za 0 (pv 0)) zg) (zw (za 1 (pv 1)) zg)))))),
  (by unfold cZ;exact yL)⟩
theorem R0 (F:Fy K mg "least_pairs" iP):lZ P w K mg base:=
 yD (k:=0) F iD rfl (λ _ _ _ _ _ _=>tm λ _=>rfl) λ f cdv A outer s H E hr=>⟨_,
  (zx (zT 1 iD.nd (wg zp))
  (zx (xB PassesOwn.never rfl (xm (aM T.sorted (zf (za 0 (pv 0)) zp))) (yd 2 iD.nd) (zB (yJ (xx.pt (vz (vP (w9 (za 1 (pv 1)))) (tH (rR hr (zw (za 2 (pv 2)) zg) (zw (zw (za 1 (pv 1)) (sG zg)) zg))))) (zB (vQ (sH (za 1 (pv 1)) (za 2 (pv 2))))) yI)))
  (zB (zQ (oy T.tuple (zf (za 1 (pv 1)) zp)))))),
  (by unfold cD nh;exact yL)⟩
theorem Rv (F:Fy K mg "pairs_ahead_of_changes" iO):XQ P w K mg base:=
 yD (k:=0) F qF rfl (λ _ _ _ _ _ _=>sU λ _ _ _=>rfl) λ f cdv A outer s H E hr=>⟨_,
  (zx (zT 3 qF.nd (zw (za 1 (pv 1)) zg))
  (zx (zT 4 qF.nd (wg zp))
  (zx (zT 5 qF.nd (zw (za 2 (pv 2)) (za 3 (pv 3))))
  (zx (zT 6 qF.nd (zw (za 2 (pv 2)) (vm zg (za 3 (pv 3)))))
  (zx (gK PassesOwn.never (aG (za 5 (pv 5)) (zw (za 0 (pv 0)) (za 3 (pv 3)))) (zx (vQ (sH (za 4 (pv 4)) (TB (wA hr (za 3 (pv 3)) zg) (x9 (zf (za 5 (pv 5)) (zf (za 6 (pv 6)) zp))) (x9 (zf (za 6 (pv 6)) (zf (za 5 (pv 5)) zp))))))
  (zx (zT 5 qF.nd (xR (za 5 (pv 5)) (zw (za 1 (pv 1)) zg)))
  (zB (zT 6 qF.nd (kM T.max (zf zg (zf (vm (za 6 (pv 6)) (zw (za 1 (pv 1)) zg)) zp))))))))
  (zB (zQ (za 4 (pv 4))))))))),
  (by unfold cA qq;exact yL)⟩
theorem RG (F:Fy K mg "_law_cell" hJ):pR P w K mg base:=
 yD (k:=0) F VD rfl (λ _ _ _ _ _ _=>ua λ _ _=>rfl) λ f cdv A outer s H E hr=>⟨_,
  (zx (yJ (rR hr (za 1 (pv 1)) (v8 T.len (zf (za 0 (pv 0)) zp))) (zB (zQ (yK (zw (za 0 (pv 0)) (za 1 (pv 1))) (T7 zg zg)))) yI)
  (zB (zQ zg))),
  (by unfold cM;exact yL)⟩
theorem RE (F:Fy K mg "_law_coins" iZ):Wc P w K mg base:=
 yD (k:=0) F VC rfl (λ _ _ _ _ _ _=>tm λ _=>rfl) λ f cdv A outer s H E hr=>⟨_,
  (zx (yJ (wA hr (yK (za 0 (pv 0)) zg) zg) (zB (zQ (vm (yK (wj (za 0 (pv 0)) zg) zg) zg))) yI)
  (zB (zQ (vm (yK (yK (wj (za 0 (pv 0)) zg) zg) zg) zg)))),
  (by unfold jU;exact yL)⟩
theorem RI (F:Fy K mg "_law_behind" hX):Wf P w K mg base:=
 yD (k:=0) F iK rfl (λ _ _ _ _ _ _=>sU λ _ _ _=>rfl) λ f cdv A outer s H E hr=>⟨_,
  (zx (zT 3 iK.nd (xR (zw (za 1 (pv 1)) zg) (zw (za 2 (pv 2)) zg)))
  (zx (zT 4 iK.nd (xR (zw (za 1 (pv 1)) zg) (zw (za 2 (pv 2)) zg)))
  (zx (yJ (xx.pt (vz (rR hr (za 3 (pv 3)) zg) (tH (rR hr (za 4 (pv 4)) zg)))) (zB (zQ nY)) yI)
  (zB (zQ (x9 (zf (o4 T.min (zf (za 3 (pv 3)) (zf (zw (zw (za 0 (pv 0)) zg) zg) zp))) (zf (o4 T.min (zf (za 4 (pv 4)) (zf (zw (zw (za 0 (pv 0)) zg) zg) zp))) zp)))))))),
  (by unfold cO;exact yL)⟩
theorem RF (F:Fy K mg "_law_changes" i_):Wd P w K mg base:=
 yD (k:=0) F qI rfl (λ _ _ _ _ _ _=>sU λ _ _ _=>rfl) λ f cdv A outer s H E hr=>⟨_,
  (zx (zT 3 qI.nd (wg (zf (za 2 (pv 2)) zp)))
  (zx (xB PassesOwn.never rfl (xm (zw (za 0 (pv 0)) zg)) (ox (n:=4) (vk (yd 4 qI.nd) (vk (yd 5 qI.nd) (vk (yd 6 qI.nd) (vk (yd 7 qI.nd) ou))))) (zB (gK PassesOwn.never (xx.pt (rQ (wA hr (za 4 (pv 4)) (za 1 (pv 1))) (rP (kK (zw (zw (za 3 (pv 3)) (sG zg)) (za 5 (pv 5))) (za 6 (pv 6)))))) (zx (zT 8 qI.nd (nZ T.list (zf (zw (za 3 (pv 3)) (sG zg)) zp)))
  (zx (gL (za 8 (pv 8)) (za 5 (pv 5)) (vm (zw (za 8 (pv 8)) (za 5 (pv 5))) (za 6 (pv 6))))
  (zx (gL (za 8 (pv 8)) (vm zg (za 5 (pv 5))) (o4 T.min (zf (xR (zw (za 8 (pv 8)) (vm zg (za 5 (pv 5)))) (za 7 (pv 7))) (zf (zw (zw (za 0 (pv 0)) zg) (vm zg (za 5 (pv 5)))) zp))))
  (zB (vQ (sH (za 3 (pv 3)) (oy T.tuple (zf (za 8 (pv 8)) zp)))))))))))
  (zB (zQ (za 3 (pv 3)))))),
  (by unfold cL pB pE;exact yL)⟩
theorem RA (F:Fy K mg "_law_held" iW):cu P w K mg base:=
 yD (k:=0) F iH rfl (λ _ _ _ _ _ _=>ua λ _ _=>rfl) λ f cdv A outer s H E hr=>⟨_,
  (zx (xB PassesOwn.never rfl (xm (za 0 (pv 0))) (ox (n:=2) (vk (yd 2 iH.nd) (vk (yd 3 iH.nd) ou))) (zB (yJ (xx.pt (rQ (kK (zw (za 1 (pv 1)) zg) (za 2 (pv 2))) (rP (kK (zw (za 1 (pv 1)) zg) (za 3 (pv 3)))))) (zB (zQ xQ)) yI)))
  (zB (zQ xQ))),
  (by unfold cJ j7;exact yL)⟩
theorem R4 (F:Fy K mg "_law_whole" iQ):XT P w K mg base:=
 yD (k:=0) F VB rfl (λ _ _ _ _ _ _=>tm λ _=>rfl) λ f cdv A outer s H E hr=>⟨_,
  (zB (zQ (ma (aV T (za 0 (pv 0))) (qM (aO (aW T (za 0 (pv 0)))))))),
  (by unfold cE;exact yL)⟩
theorem R7 (F:Fy K mg "_law_pairs" kD):XX P w K mg base:=
 yD (k:=0) F iE rfl (λ _ _ _ _ _ _=>tm λ _=>rfl) λ f cdv A outer s H E hr=>⟨_,
  (zx (zT 1 iE.nd (wg zp))
  (zx (xB PassesOwn.never rfl (rS T.range (zf (xR (zw (zw (za 0 (pv 0)) zg) zg) zg) zp)) (yd 2 iE.nd) (zB (vQ (aP (za 1 (pv 1)) (rV (N':=["_law_y","_law_x"]) (pick:=[none,some 2]) (vH (N:=["_law_floor_here","_law_found","_law_x"]) (esc:=zE kD)) rfl (rS T.range (zf (xR (zw (zw (za 0 (pv 0)) zg) zg) zg) zp)) (λ _ _ _ _ _=>(yd 0 (by decide +kernel:List.Nodup (α:=Str) ["_law_y","_law_x"]))) (λ _ _ _ _ _=>sE) (λ _ _ _ _ _=>(x9 (zf (za 1 (pv 1)) (zf (za 0 (pv 0)) zp)))))))))
  (zB (zQ (za 1 (pv 1)))))),
  (mh (gT 1 (Zg vR))
  (mh (gS (kT (b:=true) (tJ ((y8 good_add ((y8 vB ((y8 vB (yV 0) ((xq _)).fr)).er ((xq _)).fr)).er ((xq _)).fr)).fr tI)) (gW 2) (Zf 1 (kX (kT (b:=false) (tJ ((y8 good_add ((y8 vB ((y8 vB (yV 0) ((xq _)).fr)).er ((xq _)).fr)).er ((xq _)).fr)).fr tI)) (mj 0) mq ((ml (wo (uw 1) (wo (uw 0) vR)))).fe)))
  (gR 1)))⟩
theorem RL (F:Fy K mg "is_whole_within" h_) (dY:Wi P w K mg base):Wh P w K mg base:=
 yD (k:=1) F VE rfl (λ _ _ _ _ _ _=>sU λ _ _ _=>rfl) λ f cdv A outer s H E hr=>⟨_,
  (zB (zQ (ma (zW dY (hr.mono (by decide)) (zf (za 0 (pv 0)) zp)) (qM (TL gQ gQ fit_le fit_le xA.mo xA.mo (za 1 (pv 1)) (za 0 (pv 0)) (za 2 (pv 2))))))),
  (by unfold cQ;exact yL)⟩
theorem RW (F:Fy K mg "both" nJ) (uM:lZ P w K mg base):Wk P w K mg base:=
 yD (k:=1) F qJ rfl (λ _ _ _ _ _ _=>ua λ _ _=>rfl) λ f cdv A outer s H E hr=>⟨_,
  (zx (zT 2 qJ.nd (xR (rV (N':=["pair"]) (pick:=[none]) (vH (N:=["border","other","steps","lows","shared","first","side","second"]) (esc:=zE nJ)) rfl (xm (za 0 (pv 0))) (λ _ _ _ _ _=>(yd 0 (by decide +kernel:List.Nodup (α:=Str) ["pair"]))) (λ _ _ _ _ _=>sE) (λ _ _ _ _ _=>(x9 (zf (zw (za 0 (pv 0)) zg) (zf zg (zf (zw (za 0 (pv 0)) zg) zp)))))) (rV (N':=["pair"]) (pick:=[none]) (vH (N:=["border","other","steps","lows","shared","first","side","second"]) (esc:=zE nJ)) rfl (xm (za 1 (pv 1))) (λ _ _ _ _ _=>(yd 0 (by decide +kernel:List.Nodup (α:=Str) ["pair"]))) (λ _ _ _ _ _=>sE) (λ _ _ _ _ _=>(x9 (zf (zw (za 0 (pv 0)) zg) (zf zg (zf (zw (za 0 (pv 0)) zg) zp))))))))
  (zx (zT 3 qJ.nd TJ)
  (zx (zT 4 qJ.nd (wg zp))
  (zx (xB PassesOwn.never rfl (xm (aM T.sorted (zf (za 2 (pv 2)) zp))) (ox (n:=3) (vk (yd 5 qJ.nd) (vk (yd 6 qJ.nd) (vk (yd 7 qJ.nd) ou)))) (zx (Tx hr (za 3 (pv 3)) (za 6 (pv 6)) (o4 T.min (zf (za 7 (pv 7)) (zf (TK hr (za 3 (pv 3)) (za 6 (pv 6)) (za 7 (pv 7))) zp))))
  (zB (yJ (wA hr (TH T.len (zf (za 3 (pv 3)) zp)) zg) (zB (vQ (sH (za 4 (pv 4)) (x9 (zf (za 5 (pv 5)) (zf (kM T.max (zf (aZ hr (za 3 (pv 3)) zg) (zf (aZ hr (za 3 (pv 3)) zg) zp))) zp)))))) yI))))
  (zB (zQ (zW uM (hr.mono (by decide)) (zf (za 4 (pv 4)) zp)))))))),
  (by unfold cV lB eX eY;exact yL)⟩
theorem RS (F:Fy K mg "either" gh) (uM:lZ P w K mg base):Wj P w K mg base:=
 yD (k:=1) F VG rfl (λ _ _ _ _ _ _=>ua λ _ _=>rfl) λ f cdv A outer s H E hr=>⟨_,
  (zB (zQ (zW uM (hr.mono (by decide)) (zf (xR (nZ T.list (zf (za 0 (pv 0)) zp)) (nZ T.list (zf (za 1 (pv 1)) zp))) zp)))),
  (by unfold cT;exact yL)⟩
theorem RZ (F:Fy K mg "border_ahead_of_way" nK) (uM:lZ P w K mg base) (cm:Wq P w K mg base):Wn P w K mg base:=
 yD (k:=1) F bS rfl (λ _ _ _ _ _ _=>sU λ _ _ _=>rfl) λ f cdv A outer s H E hr=>⟨_,
  (zx (ot (i:=3) (N':=["pair","way"]) (pick:=[none,some 1]) (vH (N:=["brims","way","border","pairs"]) (esc:=zE nK)) rfl (xm (za 2 (pv 2))) (λ _ _ _ _ _=>(yd 0 (by decide +kernel:List.Nodup (α:=Str) ["pair","way"]))) (λ _ _ _ _ _=>sE) (λ _ _ _ _ _=>(x9 (zf (kM T.max (zf zg (zf (vm (zw (za 0 (pv 0)) zg) (zw (za 1 (pv 1)) zg)) zp))) (zf (kM T.max (zf zg (zf (vm (zw (za 0 (pv 0)) zg) (zw (za 1 (pv 1)) zg)) zp))) zp)))) bS.nd rfl (by first | exact Or.inl rfl | exact Or.inr rfl))
  (zB (zQ (zW uM (hr.mono (by decide)) (zf (rV (N':=["pair","brims"]) (pick:=[none,some 0]) (vH (N:=["brims","way","border","pairs"]) (esc:=zE nK)) rfl (xm (za 3 (pv 3))) (λ _ _ _ _ _=>(yd 0 (by decide +kernel:List.Nodup (α:=Str) ["pair","brims"]))) (λ _ _ _ _ _=>nX (w9 (zW cm (hr.mono (by decide)) (zf (za 1 (pv 1)) (zf (za 0 (pv 0)) zp))))) (λ _ _ _ _ _=>(za 0 (pv 0)))) zp))))),
  (by unfold cY lj lu;exact yL)⟩
theorem RH (F:Fy K mg "_law_brims" hV) (wy:pR P w K mg base):We P w K mg base:=
 yD (k:=1) F iJ rfl (λ _ _ _ _ _ _=>ua λ _ _=>rfl) λ f cdv A outer s H E hr=>⟨_,
  (zx (zT 2 iJ.nd (zW wy (hr.mono (by decide)) (zf (za 0 (pv 0)) (zf zg zp))))
  (zx (zT 3 iJ.nd (wg (zf (zw (wg (zf zg (zf zg (zf zg (zf zg (zf zg (zf zg (zf zg (zf zg zp))))))))) (yK (za 2 (pv 2)) zg)) (zf (zw (wg (zf zg (zf zg (zf zg (zf zg (zf zg (zf zg (zf zg (zf zg zp))))))))) (yK (wj (za 2 (pv 2)) zg) zg)) zp))))
  (zx (yJ (nW (za 1 (pv 1)) zg) (zB (zQ (x9 (zf (o4 T.min (zf (zw (za 3 (pv 3)) zg) (zf zg zp))) (zf (o4 T.min (zf (zw (za 3 (pv 3)) zg) (zf zg zp))) zp))))) yI)
  (zx (yJ (wA hr (yK (wj (za 2 (pv 2)) zg) zg) zg) (zB (zQ (x9 (zf zg (zf (yK (zw (za 3 (pv 3)) zg) zg) zp))))) yI)
  (zx (yJ (wA hr (yK (wj (za 2 (pv 2)) zg) zg) zg) (zB (zQ (x9 (zf (yK (zw (za 3 (pv 3)) zg) zg) (zf zg zp))))) yI)
  (zx (yJ (xx.pt (rQ (wA hr (yK (wj (za 2 (pv 2)) zg) zg) zg) (rP (rR hr (za 1 (pv 1)) zg)))) (zB (zQ (x9 (zf zg (zf zg zp))))) yI)
  (zB (zQ (oy T.tuple (zf (za 3 (pv 3)) zp)))))))))),
  (by unfold cN;exact yL)⟩
theorem R8 (F:Fy K mg "_law_owners" iU) (wy:pR P w K mg base):XY P w K mg base:=
 yD (k:=1) F nH rfl (λ _ _ _ _ _ _=>ua λ _ _=>rfl) λ f cdv A outer s H E hr=>⟨_,
  (zx (zT 2 nH.nd (zW wy (hr.mono (by decide)) (zf (za 0 (pv 0)) (zf zg zp))))
  (zx (zT 3 nH.nd (wg zp))
  (zx (xB PassesOwn.never rfl (rS T.range (zf (za 1 (pv 1)) zp)) (yd 4 nH.nd) (zx (vQ (sH (za 3 (pv 3)) (zw (wg (zf kL (zf kL zp))) (yK (za 2 (pv 2)) zg))))
  (zB (zT 2 nH.nd (wj (za 2 (pv 2)) zg)))))
  (zB (zQ (oy T.tuple (zf (za 3 (pv 3)) zp))))))),
  (by unfold cH l6;exact yL)⟩
theorem R5 (F:Fy K mg "_law_ways" iR) (wy:pR P w K mg base) (jM:Wc P w K mg base):XU P w K mg base:=
 yD (k:=1) F uo rfl (λ _ _ _ _ _ _=>ua λ _ _=>rfl) λ f cdv A outer s H E hr=>⟨_,
  (zx (zT 2 uo.nd (zW wy (hr.mono (by decide)) (zf (za 0 (pv 0)) (zf zg zp))))
  (zx (zT 3 uo.nd (zw (wg (zf zg (zf zg zp))) (T9 T.int (zf (aQ hr (za 1 (pv 1)) zg) zp))))
  (zx (zT 4 uo.nd (wg zp))
  (zx (xB PassesOwn.never rfl (rS T.range (zf (za 1 (pv 1)) zp)) (yd 5 uo.nd) (zx (zT 6 uo.nd (xR zg (yK (za 2 (pv 2)) zg)))
  (zx (yJ (xx.pt (rQ (rR hr (za 1 (pv 1)) zg) (rP (wA hr (yK (wj (za 2 (pv 2)) zg) zg) zg)))) (zB (zT 6 uo.nd (xR zg (za 6 (pv 6))))) yI)
  (zx (xB PassesOwn.never rfl (rS T.range (zf (za 6 (pv 6)) zp)) (yd 7 uo.nd) (zx (zT 8 uo.nd (xR (o3 (za 3 (pv 3)) (za 5 (pv 5))) (za 7 (pv 7))))
  (zx (zT 9 uo.nd (yK (xR (xR (o3 (zW wy (hr.mono (by decide)) (zf (za 0 (pv 0)) (zf (xR zg (za 8 (pv 8))) zp))) zg) (o3 zg (za 8 (pv 8)))) zg) zg))
  (zx (zT 10 uo.nd (wj (za 9 (pv 9)) zg))
  (zB (vQ (sH (za 4 (pv 4)) (x9 (zf (za 5 (pv 5)) (zf (yK (yK (za 9 (pv 9)) zg) (za 1 (pv 1))) (zf (zW jM (hr.mono (by decide)) (zf (za 10 (pv 10)) zp)) (zf (zW jM (hr.mono (by decide)) (zf (wj (za 10 (pv 10)) zg) zp)) zp))))))))))))
  (zB (zT 2 uo.nd (wj (za 2 (pv 2)) zg)))))))
  (zB (zQ (oy T.tuple (zf (aL hr T.sorted U.set (zf (za 4 (pv 4)) zp)) zp)))))))),
  (by unfold cF lx pC;exact yL)⟩
theorem R6 (F:Fy K mg "_law_stalls" iT) (wy:pR P w K mg base):XW P w K mg base:=
 yD (k:=1) F qG rfl (λ _ _ _ _ _ _=>ua λ _ _=>rfl) λ f cdv A outer s H E hr=>⟨_,
  (zx (zT 2 qG.nd (wg zp))
  (zx (xB PassesOwn.never rfl (rS T.range (zf (v8 T.len (zf (za 1 (pv 1)) zp)) zp)) (yd 3 qG.nd) (zx (zT 4 qG.nd (yK (xR (xR (o3 (zW wy (hr.mono (by decide)) (zf (za 0 (pv 0)) (zf (xR zg (za 3 (pv 3))) zp))) zg) (o3 zg (za 3 (pv 3)))) zg) zg))
  (zB (yJ (xx.pt (rQ (wA hr (zw (za 1 (pv 1)) (za 3 (pv 3))) kL) (rP (wA hr (yK (za 4 (pv 4)) zg) zg)))) (zx (zT 5 qG.nd (wj (za 4 (pv 4)) zg))
  (zx (zT 6 qG.nd (xR zg (zw (wg (zf (yK (za 5 (pv 5)) zg) (zf (yK (za 5 (pv 5)) zg) (zf (yK (za 5 (pv 5)) zg) zp)))) (yK (wj (za 5 (pv 5)) zg) zg))))
  (zx (zT 7 qG.nd (zw (wg (zf (yK (wj (za 5 (pv 5)) zg) zg) (zf (yK (wj (za 5 (pv 5)) zg) zg) (zf (yK (wj (za 5 (pv 5)) zg) zg) zp)))) (yK (wj (za 5 (pv 5)) zg) zg)))
  (zB (vQ (sH (za 2 (pv 2)) (x9 (zf (za 3 (pv 3)) (zf (yK (wj (za 4 (pv 4)) zg) zg) (zf (za 6 (pv 6)) (zf (za 7 (pv 7)) zp))))))))))) yI))))
  (zB (zQ (oy T.tuple (zf (za 2 (pv 2)) zp)))))),
  (by unfold cG ni;exact yL)⟩
theorem R9 (F:Fy K mg "_law_is_border" iV) (jK:XT P w K mg base):XZ P w K mg base:=
 yD (k:=1) F iG rfl (λ _ _ _ _ _ _=>tm λ _=>rfl) λ f cdv A outer s H E hr=>⟨_,
  (zx (yJ (vP (w9 (aR T (za 0 (pv 0))))) (zB (zQ xQ)) yI)
  (zx (xB PassesOwn.never rfl (xm (za 0 (pv 0))) (yd 1 iG.nd) (zB (yJ (xx.pt (vz (vP (w9 (aR T (za 1 (pv 1))))) (vz (nV hr (v8 T.len (zf (za 1 (pv 1)) zp)) zg) (vz (vP (w9 (zW jK (hr.mono (by decide)) (zf (zw (za 1 (pv 1)) zg) zp)))) (tH (vP (w9 (zW jK (hr.mono (by decide)) (zf (zw (za 1 (pv 1)) zg) zp))))))))) (zB (zQ xQ)) yI)))
  (zx (xB PassesOwn.never rfl (Tz T.range (zf zg (zf (v8 T.len (zf (za 0 (pv 0)) zp)) zp))) (yd 2 iG.nd) (zB (yJ (xx.pt (vz (kK (zw (zw (za 0 (pv 0)) (vm (za 2 (pv 2)) zg)) zg) (zw (zw (za 0 (pv 0)) (za 2 (pv 2))) zg)) (tH (aG (zw (zw (za 0 (pv 0)) (vm (za 2 (pv 2)) zg)) zg) (zw (zw (za 0 (pv 0)) (za 2 (pv 2))) zg))))) (zB (zQ xQ)) yI)))
  (zB (zQ xQ))))),
  (by unfold cI ly l7;exact yL)⟩
theorem RB (F:Fy K mg "_law_goes_on" kE) (dS:Wd P w K mg base) (jN:Wf P w K mg base) (pL:cu P w K mg base):X_ P w K mg base:=
 yD (k:=1) F qH rfl (λ _ _ _ _ _ _=>NM λ _ _ _ _=>rfl) λ f cdv A outer s H E hr=>⟨_,
  (zx (ot (i:=4) (N':=["_law_way","_law_place"]) (pick:=[none,some 1]) (vH (N:=["_law_floor_here","_law_place","_law_pair","_law_told","_law_ways_here","_law_way","_law_behind_here","_law_held_here"]) (esc:=zE kE)) rfl (xm (zw (za 0 (pv 0)) zg)) (λ _ _ _ _ _=>(yd 0 (by decide +kernel:List.Nodup (α:=Str) ["_law_way","_law_place"]))) (λ _ _ _ _ _=>nX (wA hr (zw (za 0 (pv 0)) zg) (za 1 (pv 1)))) (λ _ _ _ _ _=>(za 0 (pv 0))) qH.nd rfl (by first | exact Or.inl rfl | exact Or.inr rfl))
  (zx (yJ (wA hr (zw (zw (za 0 (pv 0)) zg) (za 1 (pv 1))) kL) (zx (xB PassesOwn.never rfl (xm (za 4 (pv 4))) (yd 5 qH.nd) (zx (zT 6 qH.nd (zW jN (hr.mono (by decide)) (zf (za 0 (pv 0)) (zf (za 2 (pv 2)) (zf (za 5 (pv 5)) zp)))))
  (zB (yJ (xx.pt (vz (aH (za 6 (pv 6)) nY) (tH (vP (w9 (zW pL (hr.mono (by decide)) (zf (zw (za 3 (pv 3)) (zw (za 5 (pv 5)) zg)) (zf (za 6 (pv 6)) zp)))))))) (zB (zQ xQ)) yI))))
  (zB (zQ xQ))) yI)
  (zx (xB PassesOwn.never rfl (xm (zW dS (hr.mono (by decide)) (zf (za 0 (pv 0)) (zf (za 1 (pv 1)) (zf (za 2 (pv 2)) zp))))) (yd 7 qH.nd) (zB (xB PassesOwn.never rfl (xm (za 4 (pv 4))) (yd 5 qH.nd) (zx (zT 6 qH.nd (zW jN (hr.mono (by decide)) (zf (za 0 (pv 0)) (zf (za 7 (pv 7)) (zf (za 5 (pv 5)) zp)))))
  (zB (yJ (xx.pt (rQ (Tt (za 6 (pv 6)) nY) (rP (w9 (zW pL (hr.mono (by decide)) (zf (zw (za 3 (pv 3)) (zw (za 5 (pv 5)) zg)) (zf (za 6 (pv 6)) zp))))))) (zB (zQ xQ)) yI))))))
  (zB (zQ xQ))))),
  (by unfold jS nc qp pD oY;exact yL)⟩
theorem RU (F:Fy K mg "check_place" gi) (dX:Wh P w K mg base) (pK:cq P w K mg base):cv P w K mg base:=
 yD (k:=2) F VH rfl (λ _ _ _ _ _ _=>ua λ _ _=>rfl) λ f cdv A outer s H E hr=>⟨_,
  (zB (yJ (vP (w9 (zW dX (hr.mono (by decide)) (zf (za 1 (pv 1)) (zf zg (zf (vm (zW pK (hr.mono (by decide)) (zf (za 0 (pv 0)) zp)) zg) zp)))))) (zB Tw) yI)),
  (by unfold cU;exact yL)⟩
theorem RX (F:Fy K mg "border_of_either" gj) (dZ:Wj P w K mg base):Wl P w K mg base:=
 yD (k:=2) F k7 rfl (λ _ _ _ _ _ _=>tm λ _=>rfl) λ f cdv A outer s H E hr=>⟨_,
  (zx (zT 1 k7.nd (x9 zp))
  (zx (xB PassesOwn.never rfl (xm (za 0 (pv 0))) (yd 2 k7.nd) (zB (zT 1 k7.nd (zW dZ (hr.mono (by decide)) (zf (za 1 (pv 1)) (zf (za 2 (pv 2)) zp))))))
  (zB (zQ (za 1 (pv 1)))))),
  (by unfold cW lC;exact yL)⟩
theorem RY (F:Fy K mg "border_of_all" gk) (d_:Wk P w K mg base):Wm P w K mg base:=
 yD (k:=2) F k8 rfl (λ _ _ _ _ _ _=>tm λ _=>rfl) λ f cdv A outer s H E hr=>⟨_,
  (zx (zT 1 k8.nd (x9 (zf (x9 (zf zg (zf zg zp))) zp)))
  (zx (xB PassesOwn.never rfl (xm (za 0 (pv 0))) (yd 2 k8.nd) (zB (zT 1 k8.nd (zW d_ (hr.mono (by decide)) (zf (za 1 (pv 1)) (zf (za 2 (pv 2)) zp))))))
  (zB (zQ (za 1 (pv 1)))))),
  (by unfold cX lD;exact yL)⟩
theorem RD (F:Fy K mg "_law_floor" iY) (wy:pR P w K mg base) (dN:XY P w K mg base) (dU:We P w K mg base) (dI:XU P w K mg base) (dJ:XW P w K mg base):Wb P w K mg base:=
 yD (k:=2) F rK rfl (λ _ _ _ _ _ _=>tm λ _=>rfl) λ f cdv A outer s H E hr=>⟨_,
  (zx (zT 1 rK.nd (zW wy (hr.mono (by decide)) (zf (za 0 (pv 0)) (zf zg zp))))
  (zx (zT 2 rK.nd (zw (wg (zf zg (zf zg (zf zg (zf zg (zf zg (zf zg (zf zg (zf (xR zg (yK (wj (za 1 (pv 1)) zg) zg)) zp))))))))) (yK (za 1 (pv 1)) zg)))
  (zx (zT 3 rK.nd (zW dN (hr.mono (by decide)) (zf (za 0 (pv 0)) (zf (za 2 (pv 2)) zp))))
  (zx (zT 4 rK.nd (zW dU (hr.mono (by decide)) (zf (za 0 (pv 0)) (zf (za 2 (pv 2)) zp))))
  (zx (zT 5 rK.nd (zW dI (hr.mono (by decide)) (zf (za 0 (pv 0)) (zf (za 2 (pv 2)) zp))))
  (zx (zT 6 rK.nd (zW dJ (hr.mono (by decide)) (zf (za 0 (pv 0)) (zf (za 3 (pv 3)) zp))))
  (zx (yJ (xx.pt (rQ (wA hr (za 4 (pv 4)) (x9 (zf zg (zf zg zp)))) (rP (xx.pt (vz (nW (v8 T.len (zf (za 5 (pv 5)) zp)) zg) (tH (nW (v8 T.len (zf (za 6 (pv 6)) zp)) zg))))))) (zB (zT 4 rK.nd (x9 (zf zg (zf zg zp))))) yI)
  (zB (zQ (x9 (zf (za 4 (pv 4)) (zf (za 3 (pv 3)) (zf (za 5 (pv 5)) (zf (za 6 (pv 6)) zp)))))))))))))),
  (by unfold jT;exact yL)⟩
theorem RC (F:Fy K mg "_law_follows" iX) (dM:XX P w K mg base) (pL:cu P w K mg base) (dQ:X_ P w K mg base):Wa P w K mg base:=
 yD (k:=2) F iI rfl (λ _ _ _ _ _ _=>sU λ _ _ _=>rfl) λ f cdv A outer s H E hr=>⟨_,
  (zx (xB PassesOwn.never rfl (rS T.range (zf (v8 T.len (zf (zw (za 0 (pv 0)) zg) zp)) zp)) (yd 3 iI.nd) (zB (xB PassesOwn.never rfl (xm (zW dM (hr.mono (by decide)) (zf (za 0 (pv 0)) zp))) (yd 4 iI.nd) (zB (yJ (nV hr (zW pL (hr.mono (by decide)) (zf (zw (za 2 (pv 2)) (za 3 (pv 3))) (zf (za 4 (pv 4)) zp))) (zW dQ (hr.mono (by decide)) (zf (za 0 (pv 0)) (zf (za 3 (pv 3)) (zf (za 4 (pv 4)) (zf (za 1 (pv 1)) zp)))))) (zB (zQ xQ)) yI)))))
  (zB (zQ xQ))),
  (by unfold cK lz l8;exact yL)⟩
theorem RJ (F:Fy K mg "_law_are_borders" hZ) (dP:XZ P w K mg base):Wg P w K mg base:=
 yD (k:=2) F k6 rfl (λ _ _ _ _ _ _=>ua λ _ _=>rfl) λ f cdv A outer s H E hr=>⟨_,
  (zx (yJ (xx.pt (vz (vP (w9 (aU T (za 1 (pv 1))))) (tH (nV hr (v8 T.len (zf (za 1 (pv 1)) zp)) (v8 T.len (zf (zw (za 0 (pv 0)) zg) zp)))))) (zB (zQ xQ)) yI)
  (zx (xB PassesOwn.never rfl (xm (za 1 (pv 1))) (yd 2 k6.nd) (zx (yJ (vP (w9 (zW dP (hr.mono (by decide)) (zf (za 2 (pv 2)) zp)))) (zB (zQ xQ)) yI)
  (zB (xB PassesOwn.never rfl (xm (za 2 (pv 2))) (ox (n:=2) (vk (yd 3 k6.nd) (vk (yd 4 k6.nd) ou))) (zB (yJ (xx.pt (vz (rR hr (za 3 (pv 3)) zg) (vz (rR hr (za 4 (pv 4)) zg) (vz (nW (za 3 (pv 3)) (zw (zw (za 0 (pv 0)) zg) zg)) (tH (nW (za 4 (pv 4)) (zw (zw (za 0 (pv 0)) zg) zg))))))) (zB (zQ xQ)) yI))))))
  (zB (zQ xQ)))),
  (by unfold cP l4 l9;exact yL)⟩
theorem Rl (F:Fy K mg "ways_from" kA) (nu:cv P w K mg base):XM P w K mg base:=
 yD (k:=3) F V9 rfl (λ _ _ _ _ _ _=>ua λ _ _=>rfl) λ f cdv A outer s H E hr=>⟨_,
  (zx (vQ (zW nu (hr.mono (by decide)) (zf (za 0 (pv 0)) (zf (za 1 (pv 1)) zp))))
  (zB (zQ (rV (N':=["number","way","place"]) (pick:=[none,none,some 1]) (vH (N:=["floor","place"]) (esc:=zE kA)) rfl (aK U.enumerate (zf (zw (za 0 (pv 0)) zg) zp)) (λ _ _ _ _ _=>(ox (n:=2) (vk (yd 0 (by decide +kernel:List.Nodup (α:=Str) ["number","way","place"])) (vk (yd 1 (by decide +kernel:List.Nodup (α:=Str) ["number","way","place"])) ou)))) (λ _ _ _ _ _=>nX (wA hr (zw (za 1 (pv 1)) zg) (za 2 (pv 2)))) (λ _ _ _ _ _=>(za 0 (pv 0))))))),
  (by unfold cx ll;exact yL)⟩
theorem Ro (F:Fy K mg "stall_at" iL) (nu:cv P w K mg base):XN P w K mg base:=
 yD (k:=3) F bR rfl (λ _ _ _ _ _ _=>ua λ _ _=>rfl) λ f cdv A outer s H E hr=>⟨_,
  (zx (vQ (zW nu (hr.mono (by decide)) (zf (za 0 (pv 0)) (zf (za 1 (pv 1)) zp))))
  (zx (xB PassesOwn.never rfl (xm (zw (za 0 (pv 0)) zg)) (yd 2 bR.nd) (zB (yJ (wA hr (zw (za 2 (pv 2)) zg) (za 1 (pv 1))) (zB (zQ (za 2 (pv 2)))) yI)))
  (zB (zQ nY)))),
  (by unfold cy ng;exact yL)⟩
theorem R_ (F:Fy K mg "border_ahead_of_changes" gm) (dE:XN P w K mg base) (uM:lZ P w K mg base) (dF:XQ P w K mg base):Wo P w K mg base:=
 yD (k:=4) F k9 rfl (λ _ _ _ _ _ _=>sU λ _ _ _=>rfl) λ f cdv A outer s H E hr=>⟨_,
  (zx (zT 3 k9.nd (zW dE (hr.mono (by decide)) (zf (za 0 (pv 0)) (zf (za 1 (pv 1)) zp))))
  (zx (yJ (aH (za 3 (pv 3)) nY) (zB (zQ (za 2 (pv 2)))) yI)
  (zx (zT 4 k9.nd (wg zp))
  (zx (xB PassesOwn.never rfl (xm (za 2 (pv 2))) (yd 5 k9.nd) (zB (vQ (aP (za 4 (pv 4)) (zW dF (hr.mono (by decide)) (zf (zw (za 0 (pv 0)) zg) (zf (za 3 (pv 3)) (zf (za 5 (pv 5)) zp))))))))
  (zB (zQ (zW uM (hr.mono (by decide)) (zf (za 4 (pv 4)) zp)))))))),
  (by unfold jV lE;exact yL)⟩
theorem Rz {ig:Value}(F:Fy K mg "next_border" nI) (mI:mg "KEEPER"=some ig) (gz:L2.RelV (.str "keeper") ig) (cg:Wm P w K mg base) (cj:Wn P w K mg base) (ck:Wo P w K mg base) (dD:XM P w K mg base) (cf:Wl P w K mg base):XS P w K mg base:=
 yD (k:=5) F iC rfl (λ _ _ _ _ _ _=>sU λ _ _ _=>rfl) λ f cdv A outer s H E hr=>⟨_,
  (zx (ot (i:=3) (N':=["number","floor"]) (pick:=[none,some 0]) (vH (N:=["floor","place","last","ways","ahead"]) (esc:=zE nI)) rfl (xm (zW dD (hr.mono (by decide)) (zf (za 0 (pv 0)) (zf (za 1 (pv 1)) zp)))) (λ _ _ _ _ _=>(yd 0 (by decide +kernel:List.Nodup (α:=Str) ["number","floor"]))) (λ _ _ _ _ _=>sE) (λ _ _ _ _ _=>(zw (zw (za 1 (pv 1)) zg) (za 0 (pv 0)))) iC.nd rfl (by first | exact Or.inl rfl | exact Or.inr rfl))
  (zx (ot (i:=4) (N':=["way","floor","last"]) (pick:=[none,some 0,some 2]) (vH (N:=["floor","place","last","ways","ahead"]) (esc:=zE nI)) rfl (xm (za 3 (pv 3))) (λ _ _ _ _ _=>(yd 0 (by decide +kernel:List.Nodup (α:=Str) ["way","floor","last"]))) (λ _ _ _ _ _=>sE) (λ _ _ _ _ _=>(zW cj (hr.mono (by decide)) (zf (zw (za 1 (pv 1)) zg) (zf (za 0 (pv 0)) (zf (zw (za 2 (pv 2)) (zw (za 0 (pv 0)) zg)) zp))))) iC.nd rfl (by first | exact Or.inl rfl | exact Or.inr rfl))
  (zx (yJ (wA hr (zw (zw (za 0 (pv 0)) zg) (za 1 (pv 1))) (TC mI gz)) (zB (zQ (zW ck (hr.mono (by decide)) (zf (za 0 (pv 0)) (zf (za 1 (pv 1)) (zf (zW cf (hr.mono (by decide)) (zf (za 4 (pv 4)) zp)) zp)))))) yI)
  (zB (zQ (zW cg (hr.mono (by decide)) (zf (za 4 (pv 4)) zp))))))),
  (by unfold cC lh lq;exact yL)⟩
theorem Ry (F:Fy K mg "next_round" kC) (dH:XS P w K mg base):XR P w K mg base:=
 yD (k:=6) F iB rfl (λ _ _ _ _ _ _=>sU λ _ _ _=>rfl) λ f cdv A outer s H E hr=>⟨_,
  (zx (zT 3 iB.nd (nZ T.list (zf (za 1 (pv 1)) zp)))
  (zx (xB PassesOwn.never rfl (xm (aL hr T.sorted U.set (zf (rV (N':=["way","fresh"]) (pick:=[none,some 2]) (vH (N:=["floor","last","fresh","following","place"]) (esc:=zE kC)) rfl (xm (zw (za 0 (pv 0)) zg)) (λ _ _ _ _ _=>(yd 0 (by decide +kernel:List.Nodup (α:=Str) ["way","fresh"]))) (λ _ _ _ _ _=>nX (Tu hr (zw (za 0 (pv 0)) zg) (za 1 (pv 1)))) (λ _ _ _ _ _=>(zw (za 0 (pv 0)) zg))) zp))) (yd 4 iB.nd) (zB (gL (za 3 (pv 3)) (za 4 (pv 4)) (zW dH (hr.mono (by decide)) (zf (za 0 (pv 0)) (zf (za 4 (pv 4)) (zf (za 1 (pv 1)) zp)))))))
  (zB (zQ (za 3 (pv 3)))))),
  (by unfold cB l5 lp;exact yL)⟩
theorem Rq (F:Fy K mg "rounds" kB) (dG:XR P w K mg base) (pK:cq P w K mg base):XO P w K mg base:=
 yD (k:=7) F p_ rfl (λ _ _ _ _ _ _=>tm λ _=>rfl) λ f cdv A outer s H E hr=>⟨_,
  (zx (zT 1 p_.nd (wg (zf (o3 (wg (zf (x9 (zf (x9 (zf zg (zf zg zp))) zp)) zp)) (zW pK (hr.mono (by decide)) (zf (za 0 (pv 0)) zp))) zp)))
  (zx (zT 2 p_.nd (T8 T.list T.range (zf (zW pK (hr.mono (by decide)) (zf (za 0 (pv 0)) zp)) zp)))
  (zx (gK PassesOwn.never (w9 (za 2 (pv 2))) (zx (zT 3 p_.nd (zw (za 1 (pv 1)) (sG zg)))
  (zx (zT 4 p_.nd (zW dG (hr.mono (by decide)) (zf (za 0 (pv 0)) (zf (za 3 (pv 3)) (zf (za 2 (pv 2)) zp)))))
  (zx (ot (i:=2) (N':=["place","border","last"]) (pick:=[none,none,some 3]) (vH (N:=["floor","told","fresh","last","following"]) (esc:=zE kB)) rfl (aK U.enumerate (zf (za 4 (pv 4)) zp)) (λ _ _ _ _ _=>(ox (n:=2) (vk (yd 0 (by decide +kernel:List.Nodup (α:=Str) ["place","border","last"])) (vk (yd 1 (by decide +kernel:List.Nodup (α:=Str) ["place","border","last"])) ou)))) (λ _ _ _ _ _=>nX (nV hr (za 1 (pv 1)) (zw (za 2 (pv 2)) (za 0 (pv 0))))) (λ _ _ _ _ _=>(za 0 (pv 0))) p_.nd rfl (by first | exact Or.inl rfl | exact Or.inr rfl))
  (zB (yJ (w9 (za 2 (pv 2))) (zB (vQ (sH (za 1 (pv 1)) (za 4 (pv 4))))) yI))))))
  (zB (zQ (za 1 (pv 1))))))),
  (by unfold cz tj oX;exact yL)⟩
theorem RK {f:Addr}{fd:FuncData}(F:uN K "law" "law" oe f fd) (dR:Wb P w K mg base) (jJ:XO P w K mg base) (jL:Wa P w K mg base) (dW:Wg P w K mg base) (wy:pR P w K mg base):uj P w K mg base vh 9 f fd ["_law_script"] (t8 K (su nC)):=
 PY (k:=8) F oa rfl λ cdv A outer s H E hr=>⟨_,
  (zx (zT 1 oa.nd (zW dR (hr.mono (by decide)) (zf (za 0 (pv 0)) zp)))
  (zx (zT 2 oa.nd (zW jJ (hr.mono (by decide)) (zf (za 1 (pv 1)) zp)))
  (zx (yJ (xx.pt (vz (vP (w9 (aU T (za 2 (pv 2))))) (tH (vP (w9 (TR T.all (zf (rV (N':=["_law_some","_law_floor_here"]) (pick:=[none,some 1]) (vH (N:=["_law_script","_law_floor_here","_law_found","_law_k","_law_asked","_law_kept"]) (esc:=zE oe)) rfl (xm (za 2 (pv 2))) (λ _ _ _ _ _=>(yd 0 (by decide +kernel:List.Nodup (α:=Str) ["_law_some","_law_floor_here"]))) (λ _ _ _ _ _=>sE) (λ _ _ _ _ _=>(zW dW (hr.mono (by decide)) (zf (za 1 (pv 1)) (zf (za 0 (pv 0)) zp))))) zp))))))) (zB (zQ xQ)) yI)
  (zx (yJ (xx.pt (vz (wA hr (v8 T.len (zf (za 2 (pv 2)) zp)) zg) (tH (nV hr (zw (za 2 (pv 2)) zg) (rV (N':=["_law_owner"]) (pick:=[none]) (vH (N:=["_law_script","_law_floor_here","_law_found","_law_k","_law_asked","_law_kept"]) (esc:=zE oe)) rfl (xm (zw (za 1 (pv 1)) zg)) (λ _ _ _ _ _=>(yd 0 (by decide +kernel:List.Nodup (α:=Str) ["_law_owner"]))) (λ _ _ _ _ _=>sE) (λ _ _ _ _ _=>(x9 (zf (x9 (zf zg (zf zg zp))) zp)))))))) (zB (zQ xQ)) yI)
  (zx (xB PassesOwn.never rfl (rS T.range (zf (vm (v8 T.len (zf (za 2 (pv 2)) zp)) zg) zp)) (yd 3 oa.nd) (zx (yJ (wA hr (zw (za 2 (pv 2)) (xR (za 3 (pv 3)) zg)) (zw (za 2 (pv 2)) (za 3 (pv 3)))) (zB (zQ xQ)) yI)
  (zx (zT 4 oa.nd (gM (aQ hr (za 3 (pv 3)) zg) (gM (aX (za 3 (pv 3)) (vm (v8 T.len (zf (za 2 (pv 2)) zp)) zg)) (qM (gN hr (yK (za 3 (pv 3)) zg) (yK (zW wy (hr.mono (by decide)) (zf (za 0 (pv 0)) (zf zg zp))) zg))))))
  (zB (yJ (xx.pt (rQ (w9 (za 4 (pv 4))) (rP (vP (w9 (zW jL (hr.mono (by decide)) (zf (za 1 (pv 1)) (zf (zw (za 2 (pv 2)) (za 3 (pv 3))) (zf (zw (za 2 (pv 2)) (xR (za 3 (pv 3)) zg)) zp))))))))) (zB (zQ xQ)) yI)))))
  (zx (yJ (vP (w9 (zW jL (hr.mono (by decide)) (zf (za 1 (pv 1)) (zf (zw (za 2 (pv 2)) (sG zg)) (zf (zw (za 2 (pv 2)) (sG zg)) zp)))))) (zB (zQ xQ)) yI)
  (zx (ot (i:=5) (N':=["_law_some"]) (pick:=[none]) (vH (N:=["_law_script","_law_floor_here","_law_found","_law_k","_law_asked","_law_kept"]) (esc:=zE oe)) rfl (xm (za 2 (pv 2))) (λ _ _ _ _ _=>(yd 0 (by decide +kernel:List.Nodup (α:=Str) ["_law_some"]))) (λ _ _ _ _ _=>sE) (λ _ _ _ _ _=>(nZ T.list (zf (za 0 (pv 0)) zp))) oa.nd rfl (by first | exact Or.inl rfl | exact Or.inr rfl)) (zx (vQ (sH (zw (za 2 (pv 2)) (sG zg)) (x9 zp)))
  (zB (zQ (ma (gN hr (aN (za 2 (pv 2)) aJ (aI (sG zg))) (aN (za 5 (pv 5)) aJ (aI (sG zg)))) (qM (gM (aX (v8 T.len (zf (za 5 (pv 5)) zp)) zg) (qM (gN hr (zW jJ (hr.mono (by decide)) (zf (za 1 (pv 1)) zp)) (za 5 (pv 5))))))))))))))))),
  (o6 (yk.z (R:=zJ) (gU 1 ((tK (wo (uw 0) vR))).fe))
  (o6 (yk.z (R:=zJ) (gT 2 (tK (wo (uw 1) vR))))
  (o6 (yk.z (R:=zJ) (o8 (fj (mr (o9 ((Zh (yV 2))).fr)) (mr (o9 ((qQ Yj (tJ ((kX (kS (yV 2)) (mj 0) mq ((tK (wo (uw 1) (wo (uw 0) vR)))).fe)).fr tI))).fr))) (qP (oB _)) o7))
  (o6 (yk.z (R:=zJ) (o8 (fj (kU (y8 qY ((qQ mF (tJ (yV 2) tI))).fr ((xq _)).fr).fr) (kU (y8 qY ((y8 vB (yV 2) ((xq _)).fr)).er ((kX (kS ((y8 vB (yV 1) ((xq _)).fr)).er) (mj 0) mq ((ml (wo ((ml (wo ((xq _)).fe (wo ((xq _)).fe vR)))).fe vR))).fe)).fr).fr)) (qP (oB _)) o7))
  (o6 (yk.z (R:=zJ) (gS (kT (b:=true) (tJ ((gZ ((qQ mF (tJ (yV 2) tI))).fr ((xq _)).fr)).fr tI)) (gW 3) (mh (o8 (kU (y8 qY ((y8 vB (yV 2) ((y8 good_add (yV 3) ((xq _)).fr)).fr)).er ((y8 vB (yV 2) (yV 3))).er).fr) (qP (oB _)) o7)
  (mh (gU 4 (kW ((y8 jl (yV 3) ((xq _)).fr)).fr (kW ((fh (yV 3) ((gZ ((qQ mF (tJ (yV 2) tI))).fr ((xq _)).fr)).fr)).fr ((y8 qY ((fg (yV 3) ((xq _)).fr)).fr ((fg ((tK (wo (uw 0) (wo ((xq _)).fe vR)))).fr ((xq _)).fr)).fr)).fe)))
  (o8 (Zi (o9 (yV 4)) (mr (o9 ((tK (wo (uw 1) (wo (y8 vB (yV 2) (yV 3)) (wo (y8 vB (yV 2) ((y8 good_add (yV 3) ((xq _)).fr)).fr) vR))))).fr))) (qP (oB _)) o7)))))
  (o6 (yk.z (R:=zJ) (o8 (mr (o9 ((tK (wo (uw 1) (wo (y8 vB (yV 2) ((oA ((xq _)).fr)).fr) (wo (y8 vB (yV 2) ((oA ((xq _)).fr)).fr) vR))))).fr)) (qP (oB _)) o7))
  (SA (pick:=[]) (R3 (kS (yV 2)) (mj 0) mq (qQ Yh (tJ (yV 0) tI))) ((oA ((xq _)).fr)).fr (λ _=>rfl) ((ml vR)).fe (λ _=>rfl)
  (yk.z (R:=zJ) (qP (Zm ((y8 qY ((g_ (yV 2) gY (gX ((oA ((xq _)).fr)).fr))).fr ((g_ (yV 5) gY (gX ((oA ((xq _)).fr)).fr))).fr)).fr (kW ((fh ((qQ mF (tJ (yV 5) tI))).fr ((xq _)).fr)).fr (y8 qY ((tK (wo (uw 1) vR))).fr (yV 5)))))))))))))⟩
end
def NN {l:PySem.W.OpenLaw}{w:World}{K:zFr}{h:Heap}{mg:Str->Option Value}{fa:Addr}(X:K.In h) (G:h.Ns mainGlobals mg) (hfa:mg "law"=some (.ref fa))
  (h0:Fx K "is_whole" gf) (h1:Fx K "is_whole_within" h_) (h2:Fx K "places_of" iM) (h3:Fx K "check_place" gi) (h4:Fx K "ways_from" kA) (h5:Fx K "stall_at" iL) (h6:Fx K "at_or_above" gp) (h7:Fx K "least_pairs" iP) (h8:Fx K "both" nJ) (h9:Fx K "either" gh) (h10:Fx K "border_ahead_of_way" nK) (h11:Fx K "pairs_ahead_of_changes" iO) (h12:Fx K "border_ahead_of_changes" gm) (h13:Fx K "border_of_either" gj) (h14:Fx K "border_of_all" gk) (h15:Fx K "next_border" nI) (h16:Fx K "next_round" kC) (h17:Fx K "rounds" kB) (h18:Fx K "_law_cell" hJ) (h19:Fx K "_law_coins" iZ) (h20:Fx K "_law_brims" hV) (h21:Fx K "_law_owners" iU) (h22:Fx K "_law_ways" iR) (h23:Fx K "_law_stalls" iT) (h24:Fx K "_law_floor" iY) (h25:Fx K "_law_behind" hX) (h26:Fx K "_law_changes" i_) (h27:Fx K "_law_held" iW) (h28:Fx K "_law_whole" iQ) (h29:Fx K "_law_is_border" iV) (h30:Fx K "_law_pairs" kD) (h31:Fx K "_law_goes_on" kE) (h32:Fx K "_law_follows" iX) (h33:Fx K "_law_are_borders" hZ) (h34:Fx K "law" oe)
  (mI:Cn K "KEEPER" (.str "keeper"))
  (y0:PySem.W.nsIn K mainGlobals "set"=some none) (y1:PySem.W.nsIn K mainGlobals "zip"=some none) (y2:PySem.W.nsIn K mainGlobals "enumerate"=some none)
  (z0:PySem.W.nsIn K mainGlobals "len"=some none) (z1:PySem.W.nsIn K mainGlobals "range"=some none) (z2:PySem.W.nsIn K mainGlobals "any"=some none) (z3:PySem.W.nsIn K mainGlobals "all"=some none) (z4:PySem.W.nsIn K mainGlobals "sorted"=some none) (z5:PySem.W.nsIn K mainGlobals "isinstance"=some none) (z6:PySem.W.nsIn K mainGlobals "bool"=some none) (z7:PySem.W.nsIn K mainGlobals "int"=some none) (z8:PySem.W.nsIn K mainGlobals "str"=some none) (z9:PySem.W.nsIn K mainGlobals "list"=some none) (z10:PySem.W.nsIn K mainGlobals "tuple"=some none) (z11:PySem.W.nsIn K mainGlobals "max"=some none) (z12:PySem.W.nsIn K mainGlobals "min"=some none):
  ∃ fd:FuncData,(∀ (s:Shared) (v:Value),BindsTo s fd ⟨[v],[]⟩ [("_law_script",v)])/\∀ base:Heap,K.In base->base.Ns mainGlobals mg->uj l.prog w K mg base vh 9 fa fd ["_law_script"] (t8 K (su nC)):=by
 have T:Bt mg:=⟨zC2 X G z0,zC2 X G z1,zC2 X G z2,zC2 X G z3,zC2 X G z4,zC2 X G z5,zC2 X G z6,zC2 X G z7,zC2 X G z8,zC2 X G z9,zC2 X G z10,zC2 X G z11,zC2 X G z12⟩
 have U:Bq mg:=⟨zC2 X G y0,zC2 X G y1,zC2 X G y2⟩
 obtain⟨ig,mI,gz⟩:=mI.mk X G;obtain⟨fd,Fl,hb⟩:=h34.law X G hfa λ _ _ _ _ _ _ _ _=>.of_eq rfl;refine⟨fd,hb,λ base _ _=>?_⟩;have dY:=RM l.prog w base T U (h0.mk X G);have pK:=Ru l.prog w base T U (h2.mk X G);have cm:=Qb l.prog w base T U (h6.mk X G);have uM:=R0 l.prog w base T U (h7.mk X G);have dF:=Rv l.prog w base T U (h11.mk X G);have wy:=RG l.prog w base T U (h18.mk X G);have jM:=RE l.prog w base T U (h19.mk X G);have jN:=RI l.prog w base T U (h25.mk X G);have dS:=RF l.prog w base T U (h26.mk X G);have pL:=RA l.prog w base T U (h27.mk X G);have jK:=R4 l.prog w base T U (h28.mk X G);have dM:=R7 l.prog w base T U (h30.mk X G);have dX:=RL l.prog w base T U (h1.mk X G) dY;have d_:=RW l.prog w base T U (h8.mk X G) uM;have dZ:=RS l.prog w base T U (h9.mk X G) uM;have cj:=RZ l.prog w base T U (h10.mk X G) uM cm;have dU:=RH l.prog w base T U (h20.mk X G) wy;have dN:=R8 l.prog w base T U (h21.mk X G) wy;have dI:=R5 l.prog w base T U (h22.mk X G) wy jM;have dJ:=R6 l.prog w base T U (h23.mk X G) wy;have dP:=R9 l.prog w base T U (h29.mk X G) jK;have dQ:=RB l.prog w base T U (h31.mk X G) dS jN pL;have nu:=RU l.prog w base T U (h3.mk X G) dX pK;have cf:=RX l.prog w base T U (h13.mk X G) dZ;have cg:=RY l.prog w base T U (h14.mk X G) d_;have dR:=RD l.prog w base T U (h24.mk X G) wy dN dU dI dJ;have jL:=RC l.prog w base T U (h32.mk X G) dM pL dQ;have dW:=RJ l.prog w base T U (h33.mk X G) dP;have dD:=Rl l.prog w base T U (h4.mk X G) nu;have dE:=Ro l.prog w base T U (h5.mk X G) nu;have ck:=R_ l.prog w base T U (h12.mk X G) dE uM dF;have dH:=Rz l.prog w base T U (h15.mk X G) mI gz cg cj ck dD cf;have dG:=Ry l.prog w base T U (h16.mk X G) dH;have jJ:=Rq l.prog w base T U (h17.mk X G) dG pK;exact RK l.prog w base T U Fl dR jJ jL dW wy
def W0 {l:PySem.W.OpenLaw}{q:Program}{loose:List Str}{XP:(Str->Option Value)->Heap->Prop}{YP:World->Heap->Prop}{d:DefRec}{K:Params->zFr}(hn:l.most=some 63) (hdf:d.params.defaults=[])
  (hY:∀ (w:World) (h:Heap),YP w h->(K w.params).In h)
  (F:∀ (w:World) (mg:Str->Option Value) (fa:Addr) (h:Heap),(K w.params).In h->h.Ns mainGlobals mg->mg d.name=some (.ref fa)->
   ∃ fd:FuncData,(∀ (s:Shared) (u:Value),BindsTo s fd ⟨[u],[]⟩ [("_law_script",u)])/\∀ base:Heap,(K w.params).In base->base.Ns mainGlobals mg->uj l.prog w (K w.params) mg base vh 9 fa fd ["_law_script"] (t8 (K w.params) (su nC))):
  PySem.W.WalkO q loose XP YP l.row.toRowW d [] (λ f vs=>PySem.call f vs):=
 L2.Wz (n:=63) (k:=9) (x:="_law_script") (CX:=λ _=>vh) (sp:=λ w=>t8 (K w.params) (su nC)) hn (by decide) hdf ⟨rfl,by decide,by decide⟩ hY F (λ _ _ a ns hl hO hS=>QI QG hO hS hl) λ _ _ _ _ _ z=>z
end yt
open PySem PySem.W PyProof.Rows
set_option maxRecDepth 100000 in
set_option maxHeartbeats 0 in
theorem PySem.Challenge.cw_purseborder_k31_rounds_walked_holds : PySem.Challenge.rw_purseborder_k31_rounds_walked.Holds := by
 w_on;o_law;k_head;(case hw=>w_witness2)
 k_fill
 refine yt.W0 (l:=PySem.Challenge.rw_purseborder_k31_rounds_walked) rfl rfl (λ w h Y=>PySem.W.kIn_of Y) ?F
 case F=>
  intro w mg fa h KX G hmg;refine' yt.NN KX G hmg ?_ ?_ ?_ ?_ ?_ ?_ ?_ ?_ ?_ ?_ ?_ ?_ ?_ ?_ ?_ ?_ ?_ ?_ ?_ ?_ ?_ ?_ ?_ ?_ ?_ ?_ ?_ ?_ ?_ ?_ ?_ ?_ ?_ ?_ ?_ ?_ ?_ ?_ ?_ ?_ ?_ ?_ ?_ ?_ ?_ ?_ ?_ ?_ ?_ ?_ ?_ ?_
  all_goals first | exact L5.Fx.i (by k_is) (by k_is) (by k_is) (by k_is) | k_is | exact L5.Cn.i (by k_is) (by exact⟨_,rfl⟩)
