import PyProof.Rows.All
import Wide.All
import OpenK.AllK
import Wide.FinOn
import Lean
import PyProof.EqAt
import PyProof.EqKinds
import PyProof.TupleCall
import PySem.SetOps
import PyProof.SetScanFacts
import PyProof.TupleKey
import PyProof.SetKind
import PyProof.SetRoads
import PyProof.IsRules
import PyProof.ZipIter
import PyProof.TupleIter
import PyProof.ListMulRoad
import PyProof.FactsAll.tuple
import PyProof.ListRange
import PyProof.Draws
import PyProof.EnumFor
import PyProof.Rows.ListMul
import PyProof.AutoListH
import PyProof.Rows.Range3
import PyProof.FitsBits
import PySem.Challenge.RW_purseborder_k52_whole_alone_and_borders
set_option Elab.async false
set_option linter.all false
set_option maxRecDepth 100000
noncomputable section
def zA0:=@List.size_toArray
def zA1:=@List.getElem?_eq_getElem
def zA2:=@List.getElem?_eq_some_iff
def zA3:=@List.getElem?_map
def zA4:=@Nat.le_refl
def zA5:=@List.mem_cons
def zA6:=@List.map_cons
def zA7:=@List.length_map
def zA8:=@PySem.Heap.lt_size
def zA9:=@PySem.Heap.get?_push_size
def zB0:=@List.mem_map
def zB1:=@List.getD_eq_getElem?_getD
def zB2:=@Bool.not_false
def zB3:=@Nat.ne_of_lt
def zB4:=@List.mem_append_right
def zB5:=@Bool.not_true
def zB6:=@List.mem_singleton
def zB7:=@List.mem_of_getElem?
def zB8:=@Array.getElem?_eq_getElem
def zB9:=@List.mem_append
def zC0:=@List.length_cons
def zC1:=@List.mem_range
def zC2:=@PySem.W.mg_none_of
def zC3:=@Nat.lt_of_lt_of_le
def zC4:=@Bool.false_eq_true
def zC5:=@List.length_range
def zC6:=@Int.le_refl
def zC7:=@Bool.eq_iff_iff
def zC8:=@List.mem_filter
def zC9:=@Option.bind_some
def zD0:=@List.any_eq_true
def zD1:=@PySem.wpAny_pure
def zD2:=@Array.length_toList
def zD3:=@Array.getElem?_toList
def zD4:=@Nat.zero_le
def zD5:=@Option.some.inj
def zD6:=@List.map_map
def zD7:=@List.length_append
def zE0:=@Nat.le_trans
def zE1:=@Nat.lt_irrefl
def zE2:=@Nat.lt_succ_self
def zE3:=@Nat.le_of_lt
def zE4:=@List.all_eq_true
def zE5:=@Bool.and_eq_true
def zE7:=@List.map_append
def zF0:=@Int.emod_nonneg
def zF1:=@Int.emod_lt_of_pos
def zF2:=@Int.toNat_of_nonneg
abbrev zFr:=PySem.W.Frag
noncomputable def zWb:=@PySem.wpAny_bind
noncomputable def zHp:=@PySem.Heap.get?_push_of_some
def zOb {α β:Type}{x:Option α}{f:α->Option β}{b:β} (h:x.bind f=some b):∃ a,x=some a/\f a=some b:=Option.bind_eq_some_iff.mp h
def zOm {α β:Type}{x:Option α}{f:α->β}{b:β} (h:x.map f=some b):∃ a,x=some a/\f a=b:=Option.map_eq_some_iff.mp h
def zMc {α:Type}{a:α}{l:List α}:a∈a::l:=List.mem_cons_self
def zMo {α:Type} (y:α) {a:α}{l:List α} (h:a∈l):a∈y::l:=List.mem_cons_of_mem y h
namespace L2
open PySem PySem.Spec PyProof.Rows
abbrev Key:=Sum Int Str
noncomputable def qR:Key->Value->Bool
 | .inl k,v=>Value.isInt k v
 | .inr x,v=>Value.isStrOf x v
noncomputable def TL (w:World):Key->Int
 | .inl k=>hashInt k
 | .inr x=>hashStr w x
theorem tG:∀ {k:Key}{v:Value},qR k v=true->(∃ i t,k=Sum.inl i/\v=Value.int i t)\/(∃ x t,k=Sum.inr x/\v=Value.str x t)
 | .inl i,v,h=>by
  obtain⟨t,e⟩:=Value.isInt_shape (k:=i) (v:=v) h;exact .inl ⟨i,t,rfl,e⟩
 | .inr x,v,h=>by
  obtain⟨t,e⟩:=Value.isStrOf_shape (x:=x) (v:=v) h;exact .inr ⟨x,t,rfl,e⟩
def TK (i:Int) (t:Tok):qR (.inl i) (.int i t)=true:=by simp[qR,Value.isInt]
def TJ (x:Str) (t:Tok):qR (.inr x) (.str x t)=true:=by simp[qR,Value.isStrOf]
def TH (a b:Int):decide ((Sum.inl a:Key)=Sum.inl b)=(a == b):=by
 by_cases e:a=b
 .subst e;simp
 .have h:¬ (Sum.inl a:Key)=Sum.inl b:=λ q=>e (Sum.inl.inj q);rw[decide_eq_false h];exact (beq_eq_false_iff_ne.mpr e).symm
def TB (a b:Str):decide ((Sum.inr a:Key)=Sum.inr b)=decide (a=b):=by
 by_cases e:a=b
 .subst e;simp
 .have h:¬ (Sum.inr a:Key)=Sum.inr b:=λ q=>e (Sum.inr.inj q);rw[decide_eq_false h,decide_eq_false e]
def TF (a:Int) (b:Str):decide ((Sum.inl a:Key)=Sum.inr b)=false:=decide_eq_false (λ q=>nomatch q)
def TC (a:Str) (b:Int):decide ((Sum.inr a:Key)=Sum.inl b)=false:=decide_eq_false (λ q=>nomatch q)
noncomputable def we (prog:Program) (w:World):PySem.KeyKind prog w Key where
 is:=qR
 hash:=TL w
 inj:=λ v a b ha hb=>by
  rcases tG ha with ⟨i,t,rfl,rfl⟩ | ⟨x,t,rfl,rfl⟩
  .rcases tG hb with ⟨j,u,rfl,e⟩ | ⟨y,u,rfl,e⟩
   .injection e with e1 _;rw[e1]
   .exact nomatch e
  .rcases tG hb with ⟨j,u,rfl,e⟩ | ⟨y,u,rfl,e⟩
   .exact nomatch e
   .injection e with e1 _;rw[e1]
 byValue:=λ k v h=>by
  rcases tG h with ⟨i,t,rfl,rfl⟩ | ⟨x,t,rfl,rfl⟩ <;> rfl
 pyHash:=λ hv h=>by
  rcases tG hv with ⟨i,t,rfl,rfl⟩ | ⟨x,t,rfl,rfl⟩
  .exact wpAny_pyHash_int h
  .exact wpAny_pyHash_str h
 eqBool:=λ hu hv h=>by
  rcases tG hu with ⟨i,t,rfl,rfl⟩ | ⟨x,t,rfl,rfl⟩
  .rcases tG hv with ⟨j,u,rfl,rfl⟩ | ⟨y,u,rfl,rfl⟩
   .rw[TH] at h;exact wpAny_eqBool_int h
   .rw[TF] at h;exact SeqAt.EqAt.int_str i t y u _ _ _ _ h
  .rcases tG hv with ⟨j,u,rfl,rfl⟩ | ⟨y,u,rfl,rfl⟩
   .rw[TC] at h;exact SeqAt.EqAt.str_int x t j u _ _ _ _ h
   .rw[TB] at h;exact wpAny_eqBool_str h
 «strs»:=λ k x t v h=>by
  rcases tG h with ⟨i,u,rfl,e⟩ | ⟨y,u,rfl,e⟩
  .exact nomatch e
  .injection e with e1 _
   subst e1;cases v <;> rfl
def Te (prog:Program) (w:World) (i:Int) (t:Tok):(we prog w).is (.inl i) (.int i t)=true:=TK i t
def Td (prog:Program) (w:World) (x:Str) (t:Tok):(we prog w).is (.inr x) (.str x t)=true:=TJ x t
inductive V where
 | zi | bl (b:Bool) | int (i:Int) | str (x:Str) | pj (b:Array UInt8) | lB (b:UInt64) | ref (a:Addr) | ty (n:String)
 deriving DecidableEq
noncomputable def RelV:V->Value->Prop
 | .zi,u=>u=Value.none
 | .bl b,u=>u=Value.bool b
 | .int i,u=>∃ t,u=Value.int i t
 | .str x,u=>∃ t,u=Value.str x t
 | .pj b,u=>∃ t,u=Value.bytes b t
 | .lB b,u=>∃ t,u=Value.float b t
 | .ref a,u=>u=Value.ref a
 | .ty n,u=>u=Value.type n
abbrev Vals:List V->List Value->Prop:=Paired RelV
theorem Vals.length {xs:List V}{us:List Value}(r:Vals xs us):xs.length=us.length:=Paired.length r
theorem Vals.get:∀ {xs:List V}{us:List Value}{i:Nat}{x:V},Vals xs us->xs[i]?=some x->∃ u,us[i]?=some u/\RelV x u
 | _,_,_,_,.nil,e=>by simp at e
 | _,_,0,_,.cons r _,e=>by simp at e;subst e;exact⟨_,rfl,r⟩
 | _,_,i+1,x,.cons _ t,e=>by
  obtain⟨u,h1,h2⟩:=Vals.get (i:=i) (x:=x) t (by simpa using e);exact⟨u,by simpa using h1,h2⟩
theorem Vals.set {x:V}{u:Value}(r:RelV x u):∀ {xs:List V}{us:List Value}(i:Nat),Vals xs us->Vals (xs.set i x) (us.set i u)
 | _,_,_,.nil=>.nil
 | _,_,0,.cons _ t=>.cons r t
 | _,_,i+1,.cons q t=>.cons q (Vals.set r i t)
theorem Vals.append:∀ {xs ys:List V}{us ws:List Value},Vals xs us->Vals ys ws->Vals (xs++ys) (us++ws)
 | _,_,_,_,.nil,s=>s
 | _,_,_,_,.cons r t,s=>.cons r (Vals.append t s)
noncomputable def vS:Option V->Option Value->Prop
 | some v,some u=>RelV v u
 | none,none=>True
 | _,_=>False
def KV {κ:Type}:List (κ × V)->List (κ × Value)->Prop:=Paired λ(p:κ × V) (q:κ × Value)=>p.1=q.1/\RelV p.2 q.2
noncomputable def kV:Key->V
 | .inl i=>.int i
 | .inr x=>.str x
inductive HO where
  | lst (xs:List V)
  | tup (xs:List V)
  | dK (kvs:List (Key×V)) | dT (kvs:List (List Key×V))
  | set (S:Int->Bool) (n:Nat)
  | ins (C dx:Addr) (fs:List (Str×V))
  | own (x:Addr)
  | xd (fs:List (Str×V))
  | met (f x:Addr)
  | jh (lo hi:Int)
  | xI (o:Obj) (u:HO)
  | rq (ps:Array Value)
  | ext (φ:Heap->Prop)
abbrev Hp:=Addr->Option HO
noncomputable def upd (H:Hp) (a:Addr) (o:HO):Hp:=λ b=>if b=a then some o else H b
def yL {H:Hp}{a:Addr}{o:HO}:upd H a o a=some o:=by unfold upd;rw[if_pos rfl]
def yE {H:Hp}{a b:Addr}{o:HO}(h:b≠a):upd H a o b=H b:=by unfold upd;rw[if_neg h]
def o7 {H:Hp}{a b:Addr}{o u:HO}(h:H a=some o) (h':H b=some u) (d:o≠u):a≠b:=by
 intro e;subst e;rw[h] at h';exact d (zD5 h')
def sH {H:Hp}{a b:Addr}{o:HO}(h:H a=some o) (h':H b=none):a≠b:=by
 intro e;subst e;rw[h] at h';cases h'
section
variable (P:Program) (w:World)
noncomputable def yZ (H:Hp) (h:Heap) (a:Addr):HO->Prop
 | .lst xs=>xs.length<=sizeLine/\∃ (its:List Value) (n:Nat),Vals xs its/\h.get? a=some { cls:=.type "list",data:=.seq its.toArray n }
 | .tup xs=>xs.length<=sizeLine/\∃ its:List Value,Vals xs its/\IsTup h a its.toArray
 | .dK kvs=>kvs.length<=sizeLine/\(a == sysModules)=false/\∃ vs,KV kvs vs/\h.DictOf (we P w) a vs
 | .dT kvs=>kvs.length<=sizeLine/\(a == sysModules)=false/\∃ xs:List (List Key×Addr×Value),
   Paired (λ(p:List Key×V) (q:List Key×Addr×Value)=>p.1=q.1/\H q.2.1=some (.tup (p.1.map kV))/\RelV p.2 q.2.2) kvs xs/\
   ∃ o es ep,h.get? a=some o/\o.ExactDict/\o.data=.dict es ep/\es.toList=xs.map (entryOfKey (tupleKind (we P w)))/\(xs.map (·.1)).Nodup
 | .set S n=>h.SetOf (intKind P w) a S n
 | .ins C dx fs=>H dx=some (.own a)/\fs.length<=1000/\dx≠a/\h.get? a=some (PySem.W.instObj C dx)/\
   ∃ mA,h.Ns1 dx mA/\(∀ f,vS (fs.lookup f) (mA f))/\PySem.Within mA (fs.map (·.1))
 | .own _=>∃ o,h.get? a=some o
 | .xd fs=>∃ mA,h.Ns1 a mA/\∀ f,vS (fs.lookup f) (mA f)
 | .jh lo hi=>∃ t u v,h.get? a=some { cls:=.type "range",data:=.fields #[.int lo t,.int hi u,.int 1 v] }
 | .xI o u=>h.get? a=some o/\yZ H h a u
 | .rq ps=>h.get? a=some { cls:=.none,data:=.fields ps }
 | .met f x=>h.get? a=some (PySem.W.methodObj (.ref f) (.ref x))
 | .ext φ=>φ h/\(∃ o,h.get? a=some o)/\∀ h1 h2:Heap,φ h1->(∀ o,h1.get? a=some o->h2.get? a=some o)->φ h2
def yS (H:Hp) (h:Heap):Prop:=∀ a o,H a=some o->yZ P w H h a o
end
section
variable {P:Program}{w:World}{H H':Hp}{h h':Heap}{a:Addr}{o:HO}
theorem yZ.lt (x:yZ P w H h a o):a<h.objs.size:=by
 cases o with
 | lst xs=>obtain⟨_,_,_,_,e⟩:=x;exact zA8 e
 | tup xs=>obtain⟨_,_,_,p⟩:=x;exact p.lt
 | dK kvs=>obtain⟨_,_,_,_,o,_,_,e,_⟩:=x;exact zA8 e
 | dT kvs=>obtain⟨_,_,_,_,o,_,_,e,_⟩:=x;exact zA8 e
 | set S n=>obtain⟨o,_,_,_,e,_⟩:=x;exact zA8 e
 | ins C dx fs=>obtain⟨_,_,_,e,_⟩:=x;exact zA8 e
 | own y=>obtain⟨_,e⟩:=x;exact zA8 e
 | xd fs=>obtain⟨_,⟨_,_,_,e,_⟩,_⟩:=x;exact zA8 e
 | jh lo hi=>obtain⟨_,_,_,e⟩:=x;exact zA8 e
 | xI ob u=>obtain⟨e,_⟩:=x;exact zA8 e
 | rq ps=>exact zA8 (show h.get? a=some _ from x)
 | met f y=>exact zA8 (show h.get? a=some _ from x)
 | ext φ=>obtain⟨_,⟨_,e⟩,_⟩:=x;exact zA8 e
theorem Paired.lu {α β:Type}{F G:α->β->Prop}:∀ {l₁:List α}{l₂:List β},Paired F l₁ l₂->(∀ a b,F a b->G a b)->Paired G l₁ l₂
 | _,_,.nil,_=>.nil
 | _,_,.cons r t,f=>.cons (f _ _ r) (Paired.lu t f)
def yZ.tm (x:yZ P w H h a o) (k:∀ b u,(b=a\/H b=some (.own a))->h.get? b=some u->h'.get? b=some u)
  (ho:∀ b,H b=some (.own a)->H' b=some (.own a)) (ht:∀ b xs,H b=some (.tup xs)->H' b=some (.tup xs)):yZ P w H' h' a o:=by
 induction o with
 | lst xs=>obtain⟨z,its,n,r,e⟩:=x;exact⟨z,its,n,r,k _ _ (.inl rfl) e⟩
 | tup xs=>obtain⟨z,its,r,ob,e,c⟩:=x;exact⟨z,its,r,ob,k _ _ (.inl rfl) e,c⟩
 | dK kvs=>obtain⟨z,y,vs,r,ob,es,ep,e,c⟩:=x;exact⟨z,y,vs,r,ob,es,ep,k _ _ (.inl rfl) e,c⟩
 | dT kvs=>
  obtain⟨z,y,xs,r,ob,es,ep,e,c⟩:=x;exact⟨z,y,xs,Paired.lu r λ p q z=>⟨z.1,ht _ _ z.2.1,z.2.2⟩,ob,es,ep,k _ _ (.inl rfl) e,c⟩
 | set S n=>obtain⟨ob,es,ep,t,e,c⟩:=x;exact⟨ob,es,ep,t,k _ _ (.inl rfl) e,c⟩
 | ins C dx fs=>
  obtain⟨d,z,ne,e,mA,⟨od,es,ep,e2,c⟩,r⟩:=x;exact⟨ho _ d,z,ne,k _ _ (.inl rfl) e,mA,⟨od,es,ep,k _ _ (.inr d) e2,c⟩,r⟩
 | own y=>obtain⟨ob,e⟩:=x;exact⟨ob,k _ _ (.inl rfl) e⟩
 | xd fs=>obtain⟨mA,⟨od,es,ep,e,c⟩,r⟩:=x;exact⟨mA,⟨od,es,ep,k _ _ (.inl rfl) e,c⟩,r⟩
 | jh lo hi=>obtain⟨t,u,v,e⟩:=x;exact⟨t,u,v,k _ _ (.inl rfl) e⟩
 | xI ob u ih=>obtain⟨e,q⟩:=x;exact⟨k _ _ (.inl rfl) e,ih q⟩
 | rq ps=>
  have e:h.get? a=some { cls:=.none,data:=.fields ps }:=x;show h'.get? a=some { cls:=.none,data:=.fields ps };exact k a _ (.inl rfl) e
 | met f y=>
  have e:h.get? a=some (PySem.W.methodObj (.ref f) (.ref y)):=x;show h'.get? a=some (PySem.W.methodObj (.ref f) (.ref y));exact k a _ (.inl rfl) e
 | ext φ=>obtain⟨p,⟨o,e⟩,st⟩:=x;exact⟨st _ _ p λ o q=>k _ _ (.inl rfl) q,⟨o,k _ _ (.inl rfl) e⟩,st⟩
theorem yS.lt (x:yS P w H h) (e:H a=some o):a<h.objs.size:=(x a o e).lt
def yS.fresh (x:yS P w H h) (e:h.objs.size<=a):H a=none:=by
 cases q:H a with
 | none=>rfl
 | some u=>exact absurd (zC3 (x.lt q) e) (zE1 _)
def yS.kept (x:yS P w H h) (k:∀ b u,h.get? b=some u->h'.get? b=some u):yS P w H h':=λ a o e=>
 (x a o e).tm (λ b u _ q=>k b u q) (λ _ q=>q) λ _ _ q=>q
def yS.laid (x:yS P w H h) (k:∀ b u,h.get? b=some u->h'.get? b=some u) (hp:h.objs.size<=a) (new:yZ P w (upd H a o) h' a o):yS P w (upd H a o) h':=λ b u e=>by
 have hn:=x.fresh hp;by_cases hb:b=a
 .subst hb;rw[yL] at e;cases e;exact new
 .rw[yE hb] at e;exact (x b u e).tm (λ c v _ q=>k c v q) (λ c q=>by rw[yE (sH q hn)];exact q) λ c xs q=>by rw[yE (sH q hn)];exact q
end
def Rd (H:Hp) (a:Addr) (u:HO):Prop:=H a=some u\/∃ o,H a=some (.xI o u)
def Rd.ok {P:Program}{w:World}{H:Hp}{h:Heap}{a:Addr}{u:HO}(r:Rd H a u) (x:yS P w H h):yZ P w H h a u:=by
 rcases r with r | ⟨o,r⟩
 .exact x a u r
 .obtain⟨_,q⟩:=x a _ r;exact q
noncomputable def nQ:Option HO->Prop
 | some (.lst _)=>True
 | some (.dK _)=>True
 | some (.dT _)=>True
 | some (.set _ _)=>True
 | some (.ins _ _ _)=>True
 | some (.ext _)=>True
 | _=>False
section
variable {P:Program}{w:World}{H:Hp}{h h':Heap}{x e:Addr}{o':HO}
def yS.write (ok:yS P w H h) (mu:nQ (H x)) (he:e=x\/H e=some (.own x)) (k:∀ b u,b≠e->h.get? b=some u->h'.get? b=some u) (heo:∃ u,h'.get? e=some u)
  (new:yZ P w (upd H x o') h' x o'):yS P w (upd H x o') h':=λ b u q=>by
 have nown:∀ c y,H c=some (.own y)->c≠x:=λ c y r z=>by subst z;rw[r] at mu;exact mu
 have ntup:∀ c xs,H c=some (.tup xs)->c≠x:=λ c xs r z=>by subst z;rw[r] at mu;exact mu
 by_cases hb:b=x
 .subst hb;rw[yL] at q;cases q;exact new
 .rw[yE hb] at q;by_cases hbe:b=e
  .have q':H b=some (.own x):=by
    rcases he with z | z
    .exact absurd (hbe.trans z) hb
    .rw[hbe];exact z
   rw[q] at q';cases q';obtain⟨v,hv⟩:=heo;exact⟨v,by rw[hbe];exact hv⟩
  .refine (ok b u q).tm (λ c v hc r=>k c v ?_ r) (λ c r=>by rw[yE (nown c b r)];exact r) λ c xs r=>by rw[yE (ntup c xs r)];exact r
   rcases hc with rfl | hc
   .exact hbe
   .rintro rfl;rcases he with z | z
    .exact nown c b hc z
    .rw[hc] at z;cases z;exact hb rfl
end
structure Un (fs ex:List Addr) (H H':Hp) (h h':Heap):Prop where
 keep:∀ b o,h.get? b=some o->H b=none->b∉fs->b∉ex->h'.get? b=some o
 slot:∀ b o,h.get? b=some o->H b=none->b∈fs->b∉ex->∃ sl,h'.get? b=some { o with slots:=sl }
 free:∀ b o,h.get? b=some o->H b=none->b∉ex->H' b=none
 there:∀ b o,h.get? b=some o->b∉ex->∃ o',h'.get? b=some o'
 u5:∀ b xs,H b=some (.tup xs)->H' b=some (.tup xs)
 tJ:∀ b o u,H b=some (.xI o u)->H' b=some (.xI o u)
 sd:∀ b ps,H b=some (.rq ps)->∃ more,H' b=some (.rq (ps++more))
section
variable {fs fs' ex ex':List Addr}{H H1 H2:Hp}{h h1 h2 h':Heap}{a x e:Addr}{o:HO}
def Un.any (u:Un fs ex H H1 h h1) {b:Addr}{ob:Obj}(q:h.get? b=some ob) (n:H b=none) (hx:b∉ex):∃ sl,h1.get? b=some { ob with slots:=sl }:=by
 by_cases hb:b∈fs
 .exact u.slot b ob q n hb hx
 .exact⟨ob.slots,u.keep b ob q n hb hx⟩
def Un.kept (k:∀ b u,h.get? b=some u->h'.get? b=some u):Un fs ex H H h h':=
 ⟨λ b ob q _ _ _=>k b ob q,λ b ob q _ _ _=>⟨ob.slots,k b ob q⟩,λ _ _ _ n _=>n,λ b ob q _=>⟨ob,k b ob q⟩,λ _ _ q=>q,λ _ _ _ q=>q,λ _ ps q=>⟨#[],by rw[q];simp⟩⟩
def Un.refl:Un fs ex H H h h:=Un.kept λ _ _ q=>q
def Un.laid (k:∀ b u,h.get? b=some u->h'.get? b=some u) (hp:h.objs.size<=a) (hn:H a=none):Un fs ex H (upd H a o) h h' where
 keep:=λ b u q _ _ _=>k b u q
 slot:=λ b u q _ _ _=>⟨u.slots,k b u q⟩
 free:=λ b u q n _=>by rw[yE (zB3 (zC3 (zA8 q) hp))];exact n
 there:=λ b u q _=>⟨u,k b u q⟩
 u5:=λ b xs q=>by rw[yE (sH q hn)];exact q
 tJ:=λ b u xs q=>by rw[yE (sH q hn)];exact q
 sd:=λ b ps q=>⟨#[],by rw[yE (sH q hn),q];simp⟩
def Un.write (mu:nQ (H x)) (he:e=x\/H e=some (.own x)) (k:∀ b u,b≠e->h.get? b=some u->h'.get? b=some u) (heo:∃ u,h'.get? e=some u):Un fs ex H (upd H x o) h h':=by
 have hx:∀ b,H b=none->b≠x:=λ b n z=>by subst z;rw[n] at mu;exact mu
 have hb:∀ b,H b=none->b≠e:=λ b n z=>by
  subst z;rcases he with r | r
  .exact hx b n r
  .rw[n] at r;cases r
 have hm:∀ b u,H b=some u->¬ nQ (some u)->b≠x:=λ b u q nm z=>by subst z;rw[q] at mu;exact nm mu
 refine⟨λ b u q n _ _=>k b u (hb b n) q,λ b u q n _ _=>⟨u.slots,k b u (hb b n) q⟩,λ b u q n _=>by rw[yE (hx b n)];exact n,λ b u q _=>?_,
  λ b xs q=>by rw[yE (hm b _ q λ z=>z)];exact q,λ b u xs q=>by rw[yE (hm b _ q λ z=>z)];exact q,λ b ps q=>⟨#[],by rw[yE (hm b _ q λ z=>z),q];simp⟩⟩
 by_cases hbe:b=e
 .subst hbe;exact heo
 .exact⟨u,k b u hbe q⟩
end
noncomputable def m4 (h:Heap) (H:Hp):List Addr:=(List.range h.objs.size).filter λ a=>(H a).isSome
noncomputable def tI (h:Heap) (H:Hp):Heap:=PySem.W.hideAll h (m4 h H)
def Sz (h:Heap) (H:Hp):(tI h H).objs.size=h.objs.size:=PySem.W.hideAll_size _ _
def S7 {h:Heap}{H:Hp}{b:Addr}{o:Obj}(e:h.get? b=some o) (n:H b=none):(tI h H).get? b=some o:=
 PySem.W.hideAll_get _ e λ hm=>by
  have q:(H b).isSome=true:=(zC8.mp hm).2;rw[n] at q;simp at q
def UL {h:Heap}{H:Hp}{b:Addr}{o:Obj}(e:(tI h H).get? b=some o):h.get? b=some o/\H b=none:=by
 have e':h.get? b=some o:=PySem.W.of_hideAll (m4 h H) e;refine⟨e',?_⟩;cases q:H b with
 | none=>rfl
 | some x=>
  have hm:b∈m4 h H:=zC8.mpr ⟨zC1.mpr (zA8 e'),by simp[q]⟩;have z:(tI h H).get? b=none:=PySem.W.hideAll_none (m4 h H) hm;rw[z] at e;cases e
structure Mod (K:zFr) (mg:Str->Option Value) (base:Heap):Prop where
 ia:K.In base
 glob:base.Ns mainGlobals mg
 blt:∃ mb,base.Ns builtinsNs mb/\∀ x:Str,x≠"__name__"->mb x=bootBuiltins x
 nolimit:base.NoLimit
structure Cx where
 prog:Program
 w:World
 K:zFr
 mg:Str->Option Value
 base:Heap
 A:Around
 N:List Str
 s₀:Shared
 H₀:Hp
 env:Env
 outer:List Env
 stack:List Env
 ex:List Addr
 fn:Str->Bool
 calm:Bool
 pn:List (Addr×Obj)
 xe:Value->Shared->Prop
noncomputable def vu (l:List Env):List Addr:=l.filterMap (·.frame)
abbrev Cx.fs (X:Cx):List Addr:=vu X.outer
def gw (sc:Scope) (x:Str):Prop:=sc.names.lookup x=some .local\/sc.names.lookup x=some .cell\/sc.names.lookup x=some .free
def Loc (sc:Scope) (x:Str):Prop:=sc.names.lookup x=some .local\/sc.names.lookup x=some .cell
def Look (env:Env) (h:Heap) (m:Str->Option Value) (x:Str) (u:Value):Prop:=
 (env.kindOf x=some .local/\m x=some u)\/((env.kindOf x=some .cell\/env.kindOf x=some .free)/\∃ c,env.cells.lookup x=some c/\h.IsCell c (some u))
structure Cx.Ok (X:Cx):Prop where
 mod:Mod X.K X.mg X.base
 kind:X.env.scope.kind=.function
 glob:X.env.globals=mainGlobals
 blt:X.env.builtins=builtinsNs
 above:X.s₀.heap.objs.size<=X.env.locals
 inj:∀ x y c,X.env.cells.lookup x=some c->X.env.cells.lookup y=some c->x=y
 has:∀ x,(X.env.kindOf x=some .cell\/X.env.kindOf x=some .free)->∃ c,X.env.cells.lookup x=some c
 nr:∀ x c,X.fn x=true->X.env.cells.lookup x=some c->X.s₀.heap.objs.size<=c
 hd:X.calm=true->X.A.handled=none
 frames:X.A.frames=some X.stack
 m6:X.stack=X.outer\/(X.stack=X.env::X.outer/\X.env.frame=some X.env.locals)
 iQ:∀ b∈X.ex,b≠X.env.locals/\∀ x c,X.env.cells.lookup x=some c->c≠b
 bs:∀ b o,X.base.get? b=some o->X.s₀.heap.get? b=some o/\X.H₀ b=none
 qa:X.base.objs.size<=X.s₀.heap.objs.size
 o4:∀ b o,X.base.get? b=some o->b∉X.ex
 oU:∀ b∈X.ex,b∉X.fs
 ug:X.s₀.heap.FunFrames X.base X.outer
 qZ:∀ b∈X.fs,X.H₀ b=none
structure Inv (X:Cx) (pins:List (Addr×Obj)) (O:List (Option V)) (H:Hp) (s:Shared):Prop where
 ok:X.Ok
 os:s.os=X.s₀.os
 bare:AllBare s.gens
 base:Un X.fs X.ex X.H₀ H X.s₀.heap s.heap
 loc:∃ m,s.heap.Ns X.env.locals m/\∀ (i:Nat) (x:Str) (v:V),X.N[i]?=some x->O[i]?=some (some v)->gw X.env.scope x->∃ u,RelV v u/\Look X.env s.heap m x u
 cell:∀ x c,X.env.cells.lookup x=some c->∃ v,s.heap.IsCell c v
 free:H X.env.locals=none
 uH:∀ x c,X.env.cells.lookup x=some c->H c=none
 pin:∀ p∈X.pn++pins,s.heap.get? p.1=some p.2/\H p.1=none/\p.1≠X.env.locals/\p.1∉X.fs/\∀ v,p.2.data≠.cell v
 zw:yS X.prog X.w H s.heap
 len:O.length=X.N.length
section
variable {X:Cx}{pins:List (Addr×Obj)}{O:List (Option V)}{H H':Hp}{s:Shared}{h':Heap}
def Cx.Ok.UP (ok:X.Ok) {b:Addr}{o:Obj}(e:X.base.get? b=some o):b∉X.fs:=λ hb=>by
 have:=(ok.ug.mem hb).1;rw[e] at this;cases this
theorem Inv.bs (I:Inv X pins O H s):∀ b o,X.base.get? b=some o->s.heap.get? b=some o/\H b=none:=λ b o e=>
 ⟨I.base.keep b o (I.ok.bs b o e).1 (I.ok.bs b o e).2 (I.ok.UP e) (I.ok.o4 b o e),I.base.free b o (I.ok.bs b o e).1 (I.ok.bs b o e).2 (I.ok.o4 b o e)⟩
def Inv.bk (I:Inv X pins O H s):∀ b o,X.base.get? b=some o->s.heap.get? b=some o:=λ b o e=>(I.bs b o e).1
theorem Inv.mod (I:Inv X pins O H s):Mod X.K X.mg X.base:=I.ok.mod
def Inv.vt (I:Inv X pins O H s):X.K.In s.heap:=I.ok.mod.ia.keeps I.bk
theorem Inv.lt (I:Inv X pins O H s):X.env.locals<s.heap.objs.size:=let ⟨_,hn,_⟩:=I.loc;hn.lt
def Inv.sz (I:Inv X pins O H s):X.s₀.heap.objs.size<=s.heap.objs.size:=zE0 I.ok.above (zE3 I.lt)
def Inv.c8 (I:Inv X pins O H s) {a:Addr}(h:s.heap.objs.size<=a):a∉X.fs:=λ hb=>by
 obtain⟨_,o,ho,_⟩:=I.ok.ug.mem hb;exact absurd (zC3 (zA8 ho) (zE0 I.sz h)) (zE1 _)
def Inv.r_ (I:Inv X pins O H s):∀ x c,X.env.cells.lookup x=some c->c≠X.env.locals:=λ x c e z=>by
 obtain⟨v,o,ho,hd⟩:=I.cell x c e;obtain⟨m,⟨o',es,ep,ho',hd',_⟩,_⟩:=I.loc;rw[z,ho'] at ho;cases ho;rw[hd'] at hd;cases hd
theorem Inv.ug (I:Inv X pins O H s):s.heap.FunFrames X.base X.outer:=by
 have all:∀ (l:List Env),(∀ b∈vu l,b∈X.fs)->X.s₀.heap.FunFrames X.base l->s.heap.FunFrames X.base l:=by
  intro l
  induction l with
  | nil=>intro _ _;trivial
  | cons env r ih=>
   intro hs hl;obtain⟨hk,⟨L,o,hf,hn,ho,hd⟩,hr⟩:=hl;have hL:L∈X.fs:=hs L (by unfold vu;rw[List.filterMap_cons,hf];exact zMc);obtain⟨sl,e⟩:=I.base.slot L o ho (I.ok.qZ L hL) hL λ z=>I.ok.oU L z hL;exact⟨hk,⟨L,_,hf,hn,e,hd⟩,ih (λ b hb=>hs b (by unfold vu;rw[List.filterMap_cons,hf];exact zMo _ hb)) hr⟩
 exact all X.outer (λ _ hb=>hb) I.ok.ug
theorem Inv.stack (I:Inv X pins O H s):s.heap.FunFrames X.base X.stack:=by
 rcases I.ok.m6 with e | ⟨e,hf⟩
 .rw[e];exact I.ug
 .rw[e];obtain⟨m,hn,_⟩:=I.loc;refine .cons (by rw[I.ok.kind];decide) hf hn ?_ I.ug;exact Heap.get?_none_of_le (zE0 I.ok.qa I.ok.above)
def Inv.k9 (I:Inv X pins O H s):∀ b∈vu X.stack,b∈X.env.locals::X.fs:=λ b hb=>by
 rcases I.ok.m6 with e | ⟨e,hf⟩
 .rw[e] at hb;exact zMo _ hb
 .rw[e] at hb;unfold vu at hb;rw[List.filterMap_cons,hf] at hb;exact hb
def Inv.eJ (I:Inv X pins O H s):∀ b∈vu X.stack,H b=none:=λ b hb=>by
 rcases zA5.mp (I.k9 b hb) with e | hb
 .rw[e];exact I.free
 .obtain⟨_,o,ho,_⟩:=I.ok.ug.mem hb;exact I.base.free b o ho (I.ok.qZ b hb) λ z=>I.ok.oU b z hb
def Inv.step {g':Array GenState}{t':Nat}{d':Drawn}{ch:List Addr}(I:Inv X pins O H s)
  (hch:∀ b∈ch,(b∈X.ex\/X.s₀.heap.objs.size<=b)/\b≠X.env.locals/\(∀ x c,X.env.cells.lookup x=some c->c≠b)/\∀ p∈X.pn++pins,p.1≠b)
  (keep:∀ b o,b≠X.env.locals->b∉X.fs->b∉ch->s.heap.get? b=some o->H b=none->h'.get? b=some o)
  (slot:∀ b o,b≠X.env.locals->b∈X.fs->b∉ch->s.heap.get? b=some o->H b=none->∃ sl,h'.get? b=some { o with slots:=sl }) (free:∀ b o,b∉ch->s.heap.get? b=some o->H b=none->H' b=none)
  (there:∀ b o,b∉ch->s.heap.get? b=some o->∃ o',h'.get? b=some o')
  (u5:∀ b xs,H b=some (.tup xs)->H' b=some (.tup xs)) (tJ:∀ b o u,H b=some (.xI o u)->H' b=some (.xI o u)) (sd:∀ b ps,H b=some (.rq ps)->∃ more,H' b=some (.rq (ps++more)))
  (ns:∀ m,s.heap.Ns X.env.locals m->h'.Ns X.env.locals m) (zw:yS X.prog X.w H' h') (hg:AllBare g'):
  Inv X pins O H' { s with heap:=h',gens:=g',drawn:=d',toks:=t' }:=by
 have neL:∀ b o,X.s₀.heap.get? b=some o->b≠X.env.locals:=λ b o e=>zB3 (zC3 (zA8 e) I.ok.above);have neC:∀ b o,X.s₀.heap.get? b=some o->b∉X.ex->b∉ch:=λ b o e hx hb=>by
  rcases (hch b hb).1 with z | z
  .exact hx z
  .exact absurd (zC3 (zA8 e) z) (zE1 _)
 have cellK:∀ x c,X.env.cells.lookup x=some c->∀ v,s.heap.IsCell c v->h'.IsCell c v:=λ x c e v ⟨o,ho,hd⟩=>by
  have nch:c∉ch:=λ z=>(hch c z).2.2.1 x c e rfl;by_cases hc:c∈X.fs
  .obtain⟨sl,q⟩:=slot c o (I.r_ x c e) hc nch ho (I.uH x c e);exact⟨_,q,hd⟩
  .exact⟨o,keep c o (I.r_ x c e) hc nch ho (I.uH x c e),hd⟩
 refine⟨I.ok,I.os,hg,⟨λ b o e n hb hx=>?_,λ b o e n hb hx=>?_,λ b o e n hx=>?_,λ b o e hx=>?_,λ b xs e=>u5 b xs (I.base.u5 b xs e),λ b o xs e=>tJ b o xs (I.base.tJ b o xs e),λ b ps e=>?_⟩,?_,λ x c e=>?_,?_,λ x c e=>?_,λ p hp=>?_,zw,I.len⟩
 .exact keep b o (neL b o e) hb (neC b o e hx) (I.base.keep b o e n hb hx) (I.base.free b o e n hx)
 .obtain⟨sl,e1⟩:=I.base.slot b o e n hb hx;obtain⟨sl',e2⟩:=slot b _ (neL b o e) hb (neC b o e hx) e1 (I.base.free b o e n hx);exact⟨sl',e2⟩
 .obtain⟨o',e1⟩:=I.base.there b o e hx;exact free b o' (neC b o e hx) e1 (I.base.free b o e n hx)
 .obtain⟨o',e1⟩:=I.base.there b o e hx;exact there b o' (neC b o e hx) e1
 .obtain⟨m1,e1⟩:=I.base.sd b ps e;obtain⟨m2,e2⟩:=sd b _ e1;exact⟨m1++m2,by rw[e2,Array.append_assoc]⟩
 .obtain⟨m,hn,hl⟩:=I.loc;refine⟨m,ns m hn,λ i x v e1 e2 e3=>?_⟩;obtain⟨u,r,l⟩:=hl i x v e1 e2 e3;refine⟨u,r,?_⟩;rcases l with l | ⟨k,c,e,z⟩
  .exact .inl l
  .exact .inr ⟨k,c,e,cellK x c e _ z⟩
 .obtain⟨v,z⟩:=I.cell x c e;exact⟨v,cellK x c e v z⟩
 .obtain⟨m,⟨o,_,_,ho,_⟩,_⟩:=I.loc;exact free _ o (λ z=>(hch _ z).2.1 rfl) ho I.free
 .obtain⟨v,o,ho,hd⟩:=I.cell x c e;exact free c o (λ z=>(hch c z).2.2.1 x c e rfl) ho (I.uH x c e)
 .obtain⟨e,n,ne,nf,d⟩:=I.pin p hp;have nch:p.1∉ch:=λ z=>(hch p.1 z).2.2.2 p hp rfl;exact⟨keep p.1 p.2 ne nf nch e n,free p.1 p.2 nch e n,ne,nf,d⟩
def Inv.un {t':Nat}(I:Inv X pins O H s) (u:Un X.fs [] H H' s.heap h') (zw:yS X.prog X.w H' h'):Inv X pins O H' { s with heap:=h',toks:=t' }:=by
 obtain⟨m,⟨o,es,ep,ho,r⟩,_⟩:=id I.loc;obtain⟨sl,hL⟩:=u.any ho I.free (by simp);exact I.step (g':=s.gens) (d':=s.drawn) (ch:=[]) (λ _ z=>nomatch z) (λ b o _ hb _ e n=>u.keep b o e n hb (by simp)) (λ b o _ hb _ e n=>u.slot b o e n hb (by simp)) (λ b o _ e n=>u.free b o e n (by simp)) (λ b o _ e=>u.there b o e (by simp)) u.u5 u.tJ u.sd (λ m' hm=>by
  obtain⟨o',es',ep',ho',r'⟩:=hm;rw[ho] at ho';cases ho';exact⟨_,es',ep',hL,r'⟩) zw I.bare
def Inv.call {g':Array GenState}{t':Nat}{d':Drawn}{ch:List Addr}(I:Inv X pins O H s) (u:Un (vu X.stack) ch H H' s.heap h') (zw:yS X.prog X.w H' h') (hg:AllBare g')
  (hch:∀ b∈ch,(b∈X.ex\/X.s₀.heap.objs.size<=b)/\b≠X.env.locals/\(∀ x c,X.env.cells.lookup x=some c->c≠b)/\∀ p∈X.pn++pins,p.1≠b):
  Inv X pins O H' { s with heap:=h',gens:=g',drawn:=d',toks:=t' }:=by
 obtain⟨m,⟨o,es,ep,ho,r⟩,_⟩:=id I.loc;obtain⟨sl,hL⟩:=u.any ho I.free λ z=>(hch _ z).2.1 rfl;exact I.step (ch:=ch) hch (λ b o hL hb hc e n=>u.keep b o e n (λ z=>(zA5.mp (I.k9 b z)).elim hL hb) hc) (λ b o _ _ hc e n=>u.any e n hc) (λ b o hc e n=>u.free b o e n hc) (λ b o hc e=>u.there b o e hc) u.u5 u.tJ u.sd (λ m' hm=>by
  obtain⟨o',es',ep',ho',r'⟩:=hm;rw[ho] at ho';cases ho';exact⟨_,es',ep',hL,r'⟩) zw hg
def Inv.turned {t':Nat}{it:Addr}(I:Inv X pins O H s) (k:∀ b o,b≠it->s.heap.get? b=some o->h'.get? b=some o) (hn:H it=none) (hL:it≠X.env.locals)
  (h1:it∈X.ex\/X.s₀.heap.objs.size<=it) (h2:∀ x c,X.env.cells.lookup x=some c->c≠it) (h3:∀ p∈X.pn++pins,p.1≠it):Inv X pins O H { s with heap:=h',toks:=t' }:=by
 have nit:∀ b u,H b=some u->b≠it:=λ b u e z=>by rw[z,hn] at e;cases e
 refine I.step (g':=s.gens) (d':=s.drawn) (ch:=[it]) (λ b hb=>?_) (λ b o _ _ hc e _=>k b o (λ z=>hc (by simp[z])) e) (λ b o _ _ hc e _=>⟨o.slots,k b o (λ z=>hc (by simp[z])) e⟩) (λ _ _ _ _ n=>n)
  (λ b o hc e=>⟨o,k b o (λ z=>hc (by simp[z])) e⟩) (λ _ _ e=>e) (λ _ _ _ e=>e) (λ b ps e=>⟨#[],by rw[e];simp⟩) (λ m hm=>?_) (λ b u e=>?_) I.bare
 .have e:b=it:=by simpa using hb
  subst e;exact⟨h1,hL,h2,h3⟩
 .obtain⟨o,es,ep,ho,r⟩:=hm;exact⟨o,es,ep,k _ o (Ne.symm hL) ho,r⟩
 .refine (I.zw b u e).tm (λ c v hc q=>k c v ?_ q) (λ _ q=>q) λ _ _ q=>q;rcases hc with z | z
  .rw[z];exact nit b u e
  .exact nit c _ z
def Inv.tok (I:Inv X pins O H s) (t:Nat):Inv X pins O H { s with toks:=t }:=I.un (h':=s.heap) (t':=t) Un.refl I.zw
theorem Inv.kept {t':Nat}(I:Inv X pins O H s) (k:∀ b u,s.heap.get? b=some u->h'.get? b=some u):Inv X pins O H { s with heap:=h',toks:=t' }:=I.un (Un.kept k) (I.zw.kept k)
theorem Inv.laid {a:Addr}{o:HO}{t':Nat}(I:Inv X pins O H s) (k:∀ b u,s.heap.get? b=some u->h'.get? b=some u) (hp:s.heap.objs.size<=a) (new:yZ X.prog X.w (upd H a o) h' a o):
  Inv X pins O (upd H a o) { s with heap:=h',toks:=t' }:=I.un (Un.laid k hp (I.zw.fresh hp)) (I.zw.laid k hp new)
theorem Inv.write {x e:Addr}{o:HO}{t':Nat}(I:Inv X pins O H s) (mu:nQ (H x)) (he:e=x\/H e=some (.own x)) (k:∀ b u,b≠e->s.heap.get? b=some u->h'.get? b=some u) (heo:∃ u,h'.get? e=some u)
  (new:yZ X.prog X.w (upd H x o) h' x o):Inv X pins O (upd H x o) { s with heap:=h',toks:=t' }:=I.un (Un.write mu he k heo) (I.zw.write mu he k heo new)
def Inv.jr {pins':List (Addr×Obj)}(I:Inv X pins O H s) (h:∀ p∈pins',s.heap.get? p.1=some p.2/\H p.1=none/\p.1≠X.env.locals/\p.1∉X.fs/\∀ v,p.2.data≠.cell v):Inv X pins' O H s:=
 ⟨I.ok,I.os,I.bare,I.base,I.loc,I.cell,I.free,I.uH,λ p hp=>(zB9.mp hp).elim (λ z=>I.pin p (List.mem_append_left _ z)) (h p),I.zw,I.len⟩
def cA {N:List Str}(hN:N.Nodup) {i j:Nat}{x:Str}(a:N[i]?=some x) (b:N[j]?=some x):i=j:=by
 obtain⟨h1,e1⟩:=zA2.mp a;obtain⟨h2,e2⟩:=zA2.mp b;exact (List.getElem_inj hN).mp (e1.trans e2.symm)
def YM {M:Model}{A:Around}{E:Value->Shared->Prop}{i:Nat}{x:Str}{v:V}{u:Value}{Q:Unit->Shared->Prop}(I:Inv X pins O H s) (hN:X.N.Nodup) (hi:X.N[i]?=some x) (hx:Loc X.env.scope x) (r:RelV v u)
  (h:∀ s',Inv X pins (O.set i (some v)) H s'->(∃ a,Heap.SameBut a s.heap s'.heap/\(a=X.env.locals\/X.env.cells.lookup x=some a))->Q () s') (hf:X.fn x=true\/X.env.scope.names.lookup x=some .local:=by first | exact .inl rfl | exact .inr rfl | assumption):wpAny M A (storeName X.env x u) Q E s:=by
 obtain⟨m,hn,hl⟩:=id I.loc;have hcls:(X.env.scope.kind == .class||(X.env.scope.kind == .module&&X.env.locals != X.env.globals))=false:=by rw[I.ok.kind];rfl
 have hiσ:i < O.length:=by rw[I.len];exact (zA2.mp hi).1
 have r_:=I.r_;have tracked:∀ {a:Addr}{h':Heap},(∃ o,s.heap.get? a=some o/\H a=none)->Heap.SameBut a s.heap h'->yS X.prog X.w H h':=λ{a h'} ha hs b ob e=>by
  obtain⟨_,_,hfree⟩:=ha;refine (I.zw b ob e).tm (λ c w' hc q=>(hs.2 c ?_).trans q) (λ _ q=>q) λ _ _ q=>q;rintro rfl;rcases hc with rfl | hc
  .rw[hfree] at e;cases e
  .rw[hfree] at hc;cases hc
 rcases hx with hk | hk
 .refine wpAny_storeName_local hk hn (λ h' hn' hs=>?_) hcls;obtain⟨oL,_,_,hoL,_⟩:=id hn;refine h _ ⟨I.ok,I.os,I.bare,⟨λ b o e n hb hx=>?_,λ b o e n hb hx=>?_,I.base.free,λ b o e hx=>?_,I.base.u5,I.base.tJ,I.base.sd⟩,⟨_,hn',λ j y v' e1 e2 e3=>?_⟩,λ y c e=>?_,I.free,I.uH,λ p hp=>?_,tracked ⟨oL,hoL,I.free⟩ hs,by simpa using I.len⟩ ⟨_,hs,.inl rfl⟩
  .exact (hs.2 b (zB3 (zC3 (zA8 e) I.ok.above))).trans (I.base.keep b o e n hb hx)
  .obtain⟨sl,e1⟩:=I.base.slot b o e n hb hx;exact⟨sl,(hs.2 b (zB3 (zC3 (zA8 e) I.ok.above))).trans e1⟩
  .obtain⟨o',e1⟩:=I.base.there b o e hx;exact⟨o',(hs.2 b (zB3 (zC3 (zA8 e) I.ok.above))).trans e1⟩
  .by_cases hj:j=i
   .subst hj;rw[hi] at e1;cases e1;rw[List.getElem?_set_self hiσ] at e2;cases e2;exact⟨u,r,.inl ⟨hk,by simp⟩⟩
   .rw[List.getElem?_set_ne (Ne.symm hj)] at e2;obtain⟨u',r',q⟩:=hl j y v' e1 e2 e3;refine⟨u',r',?_⟩;rcases q with ⟨k,e⟩ | ⟨k,c,e,z⟩
    .refine .inl ⟨k,?_⟩;have:y≠x:=λ e=>hj (cA hN e1 (e▸hi));simp[this,e]
    .exact .inr ⟨k,c,e,z.sameBut hs (r_ y c e)⟩
  .obtain⟨w',z⟩:=I.cell y c e;exact⟨w',z.sameBut hs (r_ y c e)⟩
  .obtain⟨e,n,ne,nf,d⟩:=I.pin p hp;exact⟨(hs.2 p.1 ne).trans e,n,ne,nf,d⟩
 .have hfn:X.fn x=true:=by
   rcases hf with z | z
   .exact z
   .rw[z] at hk;cases hk
  obtain⟨c,hc⟩:=I.ok.has x (.inl hk);obtain⟨w',z⟩:=I.cell x c hc;refine wpAny_storeName_cell I.ok.kind hk hc z (λ h' hc' hs=>?_);obtain⟨oc,hoc,hocd⟩:=id z;refine h { s with heap:=h' } ⟨I.ok,I.os,I.bare,⟨λ b o e n hb hx=>?_,λ b o e n hb hx=>?_,I.base.free,λ b o e hx=>?_,I.base.u5,I.base.tJ,I.base.sd⟩,⟨m,hn.sameBut hs (Ne.symm (r_ x c hc)),λ j y v' e1 e2 e3=>?_⟩,λ y c' e=>?_,I.free,I.uH,λ p hp=>?_,tracked ⟨oc,hoc,I.uH x c hc⟩ hs,by simpa using I.len⟩ ⟨c,hs,.inr hc⟩
  .exact (hs.2 b (zB3 (zC3 (zA8 e) (I.ok.nr x c hfn hc)))).trans (I.base.keep b o e n hb hx)
  .obtain⟨sl,e1⟩:=I.base.slot b o e n hb hx;exact⟨sl,(hs.2 b (zB3 (zC3 (zA8 e) (I.ok.nr x c hfn hc)))).trans e1⟩
  .obtain⟨o',e1⟩:=I.base.there b o e hx;exact⟨o',(hs.2 b (zB3 (zC3 (zA8 e) (I.ok.nr x c hfn hc)))).trans e1⟩
  .by_cases hj:j=i
   .subst hj;rw[hi] at e1;cases e1;rw[List.getElem?_set_self hiσ] at e2;cases e2;exact⟨u,r,.inr ⟨.inl hk,c,hc,hc'⟩⟩
   .rw[List.getElem?_set_ne (Ne.symm hj)] at e2;obtain⟨u',r',q⟩:=hl j y v' e1 e2 e3;refine⟨u',r',?_⟩;rcases q with q | ⟨k,c',e,z'⟩
    .exact .inl q
    .refine .inr ⟨k,c',e,z'.sameBut hs ?_⟩;rintro rfl;exact hj (cA hN e1 (I.ok.inj _ _ _ e hc▸hi))
  .by_cases hcc:c'=c
   .subst hcc;exact⟨_,hc'⟩
   .obtain⟨w2,z2⟩:=I.cell y c' e;exact⟨w2,z2.sameBut hs hcc⟩
  .obtain⟨e,n,ne,nf,d⟩:=I.pin p hp;refine⟨(hs.2 p.1 ?_).trans e,n,ne,nf,d⟩;intro q;rw[q,hoc] at e;have q':oc=p.2:=zD5 e;exact d w' (by rw[<- q'];exact hocd)
def k8 {M:Model}{A:Around}{E:Value->Shared->Prop}{i:Nat}{x:Str}{v:V}{u:Value}{Q:Unit->Shared->Prop}(I:Inv X pins O H s) (hN:X.N.Nodup) (hi:X.N[i]?=some x) (hx:Loc X.env.scope x) (r:RelV v u)
  (h:∀ s',Inv X pins (O.set i (some v)) H s'->Q () s') (hf:X.fn x=true\/X.env.scope.names.lookup x=some .local:=by first | exact .inl rfl | exact .inr rfl | assumption):wpAny M A (storeName X.env x u) Q E s:=
 YM I hN hi hx r (λ s' I' _=>h s' I') hf
def Inv.Qp {s':Shared}{ch:List Addr}(I:Inv X pins O H s) (ho:s'.os=s.os) (u:Un (vu X.stack) ch H H' s.heap s'.heap) (zw:yS X.prog X.w H' s'.heap) (hg:AllBare s'.gens)
  (hch:∀ b∈ch,(b∈X.ex\/X.s₀.heap.objs.size<=b)/\b≠X.env.locals/\(∀ x c,X.env.cells.lookup x=some c->c≠b)/\∀ p∈X.pn++pins,p.1≠b):Inv X pins O H' s':=by
 obtain⟨h',g',d',t',o'⟩:=s';have e:o'=s.os:=ho;subst e;exact I.call (g':=g') (t':=t') (d':=d') u zw hg hch
end
abbrev XK:=Value->Option Addr->Hp->Prop
abbrev St:=List (Option V)
abbrev VK:=V->Hp->Prop
abbrev TE:=St->Hp->VK->Prop
abbrev TT:=St->Hp->(Bool->Hp->Prop)->Prop
abbrev TA:=St->Hp->(List V->Hp->Prop)->Prop
structure Ends where
 nx:St->Hp->Prop
 rt:VK
 bk:St->Hp->Prop:=λ _ _=>False
 ct:St->Hp->Prop:=λ _ _=>False
abbrev TS:=Ends->St->Hp->Prop
def EP (X:Cx) (pins:List (Addr×Obj)) (O:St) (Q:VK) (u:Value) (s':Shared):Prop:=∃ v H',Inv X pins O H' s'/\RelV v u/\Q v H'
def TP (X:Cx) (pins:List (Addr×Obj)) (O:St) (Q:Bool->Hp->Prop) (b:Bool) (s':Shared):Prop:=∃ H',Inv X pins O H' s'/\Q b H'
def AP (X:Cx) (pins:List (Addr×Obj)) (O:St) (Q:List V->Hp->Prop) (us:List Value) (s':Shared):Prop:=∃ vs H',Inv X pins O H' s'/\Vals vs us/\Q vs H'
def SP (X:Cx) (pins:List (Addr×Obj)) (D:Ends) (f:Flow) (s':Shared):Prop:=
 match f with
 | .next=>∃ O' H',Inv X pins O' H' s'/\D.nx O' H'
 | .brk=>∃ O' H',Inv X pins O' H' s'/\D.bk O' H'
 | .cont=>∃ O' H',Inv X pins O' H' s'/\D.ct O' H'
 | .ret u=>∃ v O' H',Inv X pins O' H' s'/\RelV v u/\D.rt v H'
def PE (X:Cx) (e:Expr) (t:TE):Prop:=
 ∀ (pins:List (Addr×Obj)) (s:Shared) (O:St) (H:Hp) (Q:VK),Inv X pins O H s->t O H Q->wpAny (model X.prog X.w) X.A (eval e X.env) (EP X pins O Q) X.xe s
def PT (X:Cx) (e:Expr) (t:TT):Prop:=
 ∀ (pins:List (Addr×Obj)) (s:Shared) (O:St) (H:Hp) (Q:Bool->Hp->Prop),Inv X pins O H s->t O H Q->wpAny (model X.prog X.w) X.A (isTrue e X.env (eval e X.env)) (TP X pins O Q) X.xe s
def PW (X:Cx) (e:Expr) (t:TT):Prop:=
 ∀ (whole:Sem Value) (pins:List (Addr×Obj)) (s:Shared) (O:St) (H:Hp) (Q:Bool->Hp->Prop),Inv X pins O H s->t O H Q->wpAny (model X.prog X.w) X.A (isTrue e X.env whole) (TP X pins O Q) X.xe s
def PW.pt {X:Cx}{e:Expr}{t:TT}(h:PW X e t):PT X e t:=h _
def PA (X:Cx) (es:List Expr) (t:TA):Prop:=
 ∀ (pos:Pos) (pins:List (Addr×Obj)) (s:Shared) (O:St) (H:Hp) (Q:List V->Hp->Prop),Inv X pins O H s->t O H Q->wpAny (model X.prog X.w) X.A (spliced (backTo pos (starEach es X.env))) (AP X pins O Q) X.xe s
def PS (X:Cx) (st:Stmt) (t:TS):Prop:=
 ∀ (pins:List (Addr×Obj)) (s:Shared) (O:St) (H:Hp) (D:Ends),Inv X pins O H s->t D O H->wpAny (model X.prog X.w) X.A (exec st X.env) (SP X pins D) X.xe s
def xC (X:Cx) (st:List Stmt) (t:TS):Prop:=
 ∀ (pins:List (Addr×Obj)) (s:Shared) (O:St) (H:Hp) (D:Ends),Inv X pins O H s->t D O H->wpAny (model X.prog X.w) X.A (execs st X.env) (SP X pins D) X.xe s
def zF {α:Type}{t:Sem α}{Q Q':α->Shared->Prop}{M:Model}{A:Around}{E:Value->Shared->Prop}{s:Shared}(h:wpAny M A t Q E s) (hQ:∀ a s,Q a s->Q' a s):wpAny M A t Q' E s:=wpAny_mono h hQ λ _ _ x=>x
section
variable {X:Cx}
def kz (i:Nat):TE:=fun O H Q=>∃ v,O[i]?=some (some v)/\Q v H
def tC (v:V):TE:=λ _ H Q=>Q v H
def Wx {i:Nat}{x:Str}{pos:Pos}(hN:X.N[i]?=some x) (hv:gw X.env.scope x) (hd:(x == ("__debug__":Str))=false:=by decide) (hcd:(x == ("__classdict__":Str))=false:=by decide):PE X (.Name x pos) (kz i):=by
 intro pins s O H Q I h;obtain⟨v,e,h⟩:=h;obtain⟨m,hn,hl⟩:=I.loc;obtain⟨u,r,l⟩:=hl i x v hN e hv;have fin:EP X pins O Q u s:=⟨v,H,I,r,h⟩
 rcases l with ⟨hk,hm⟩ | ⟨hk,c,hc,hcell⟩
 .exact wpAny_Name (wpAny_loadName_local I.ok.kind hk hn hm fin) hd
 .rcases hk with hk | hk
  .exact wpAny_Name (wpAny_loadName_cell I.ok.kind hk hc hcell fin) hd
  .exact wpAny_Name (wpAny_loadName_free I.ok.kind hk hc hcell fin hcd) hd
def WA {i j pos}:PE X (.Constant (.int i) j pos) (tC (.int i)):=λ _ _ _ H _ I h=>wpAny_Constant_int ⟨.int i,H,I.tok _,⟨_,rfl⟩,h⟩
def WM {b j pos}:PE X (.Constant (.bool b) j pos) (tC (.bl b)):=λ _ _ _ H _ I h=>Constant_bool ⟨.bl b,H,I,rfl,h⟩
def W6 {j pos}:PE X (.Constant .none j pos) (tC .zi):=λ _ _ _ H _ I h=>Constant_none ⟨.zi,H,I,rfl,h⟩
def W2 {x j pos}:PE X (.Constant (.str x) j pos) (tC (.str x)):=λ _ _ _ H _ I h=>Calls.Constant_str ⟨.str x,H,I.tok _,⟨_,rfl⟩,h⟩
def Gl (X:Cx) (x:Str):Prop:=X.env.kindOf x=some .globalImplicit
def cZ {E:Value->Shared->Prop}{pins:List (Addr×Obj)}{s:Shared}{O:St}{H:Hp}{x:Str}{u:Value}{pos:Pos}{Q:Value->Shared->Prop}(I:Inv X pins O H s) (hg:Gl X x) (hm:X.mg x=some u) (h:Q u s)
  (hd:(x == ("__debug__":Str))=false:=by decide):wpAny (model X.prog X.w) X.A (eval (.Name x pos) X.env) Q E s:=
 Calls.Name_function_global I.ok.kind hg (Calls.loadGlobal_global (by rw[I.ok.glob];exact I.mod.glob.keeps I.bk) hm h) hd
def qQ {E:Value->Shared->Prop}{pins:List (Addr×Obj)}{s:Shared}{O:St}{H:Hp}{x:Str}{u:Value}{pos:Pos}{Q:Value->Shared->Prop}(I:Inv X pins O H s) (hg:Gl X x) (hm:X.mg x=none) (hv:bootBuiltins x=some u) (h:Q u s)
  (hn:x≠"__name__":=by decide) (hd:(x == ("__debug__":Str))=false:=by decide):wpAny (model X.prog X.w) X.A (eval (.Name x pos) X.env) Q E s:=by
 obtain⟨mb,h1,h2⟩:=I.mod.blt;exact Calls.Name_function_global I.ok.kind hg (Calls.loadGlobal_builtin (by rw[I.ok.glob];exact I.mod.glob.keeps I.bk) hm (by rw[I.ok.blt];exact h1.keeps I.bk) ((h2 x hn).trans hv) h) hd
def WC {x:Str}{v:V}{u:Value}{pos:Pos}(hg:Gl X x) (hm:X.mg x=some u) (r:RelV v u) (hd:(x == ("__debug__":Str))=false:=by decide):PE X (.Name x pos) (tC v):=
 λ _ _ _ H _ I h=>cZ I hg hm ⟨v,H,I,r,h⟩ hd
def WK {x:Str}{v:V}{u:Value}{pos:Pos}(hg:Gl X x) (hm:X.mg x=none) (hv:bootBuiltins x=some u) (r:RelV v u) (hn:x≠"__name__":=by decide) (hd:(x == ("__debug__":Str))=false:=by decide):PE X (.Name x pos) (tC v):=
 λ _ _ _ H _ I h=>qQ I hg hm hv ⟨v,H,I,r,h⟩ hn hd
variable {a b:Expr}{ta tb:TE}{pos:Pos}
variable {tA tB':TT}{rest:List Expr}
def YK (t u:TT):TT:=fun O H Q=>t O H λ c H1=>if c=true then u O H1 Q else Q false H1
def Y7 (t u:TT):TT:=fun O H Q=>t O H λ c H1=>if c=true then Q true H1 else u O H1 Q
def Y9 (t:TT):TT:=fun O H Q=>t O H λ c H1=>Q (!c) H1
def XJ (ha:PT X a tA):PW X (.BoolOp .And [a] pos) tA:=by
 intro wh pins s O H Q I h;refine isTrue_and (zF (ha pins s O H Q I h) λ c s1 e=>?_);cases c with
 | true=>exact isTrue_and_nil e
 | false=>exact e
def XH (ha:PT X a tA):PW X (.BoolOp .Or [a] pos) tA:=by
 intro wh pins s O H Q I h;refine isTrue_or (zF (ha pins s O H Q I h) λ c s1 e=>?_);cases c with
 | false=>exact isTrue_or_nil e
 | true=>exact e
def XM (ha:PT X a tA) (hb:PW X (.BoolOp .And (b::rest) pos) tB'):PW X (.BoolOp .And (a::b::rest) pos) (YK tA tB'):=by
 intro wh pins s O H Q I h;refine isTrue_and (zF (ha pins s O H _ I h) λ c s1 ⟨H1,I1,q1⟩=>?_);cases c with
 | true=>exact hb wh pins s1 O H1 Q I1 q1
 | false=>exact⟨H1,I1,q1⟩
def XI (ha:PT X a tA) (hb:PW X (.BoolOp .Or (b::rest) pos) tB'):PW X (.BoolOp .Or (a::b::rest) pos) (Y7 tA tB'):=by
 intro wh pins s O H Q I h;refine isTrue_or (zF (ha pins s O H _ I h) λ c s1 ⟨H1,I1,q1⟩=>?_);cases c with
 | true=>exact⟨H1,I1,q1⟩
 | false=>exact hb wh pins s1 O H1 Q I1 q1
def XR (ha:PT X a tA):PT X (.UnaryOp .Not a pos) (Y9 tA):=by
 intro pins s O H Q I h;exact isTrue_not (ha pins s O H (λ c H1=>Q (!c) H1) I h)
def YJ (ta tb:TE):TE:=fun O H Q=>ta O H λ x H1=>∃ c,x=.bl c/\if c=true then tb O H1 Q else Q (.bl false) H1
def Y8 (ta:TE):TE:=fun O H Q=>ta O H λ x H1=>∃ c,x=.bl c/\Q (.bl (!c)) H1
def W4 {op} {t:TE}(h:PE X a t):PE X (.BoolOp op [a] pos) t:=λ pins s O H Q I hw=>BoolOp_one (h pins s O H Q I hw)
def WN (ha:PE X a ta) (hb:PE X (.BoolOp .And (b::rest) pos) tb):PE X (.BoolOp .And (a::b::rest) pos) (YJ ta tb):=by
 intro pins s O H Q I h;refine BoolOp_and (zF (ha pins s O H _ I h) λ v s1 ⟨x,H1,I1,r1,q1⟩=>?_);obtain⟨c,rfl,q1⟩:=q1;cases r1;refine wpAny_truthy_bool ?_;cases c with
 | true=>exact hb pins s1 O H1 Q I1 q1
 | false=>exact⟨.bl false,H1,I1,rfl,q1⟩
def W5 (ha:PE X a ta):PE X (.UnaryOp .Not a pos) (Y8 ta):=by
 intro pins s O H Q I h;refine UnaryOp_ (zF (ha pins s O H _ I h) λ v s1 ⟨x,H1,I1,r1,q1⟩=>?_);obtain⟨c,rfl,q1⟩:=q1;cases r1;exact not_of (wpAny_truthy_bool ⟨.bl (!c),H1,I1,rfl,q1⟩)
def YD (t:TT) (ta tb:TE):TE:=fun O H Q=>t O H λ c H1=>if c=true then ta O H1 Q else tb O H1 Q
def WB {c:Expr}(hc:PT X c tA) (ha:PE X a ta) (hb:PE X b tb):PE X (.IfExp c a b pos) (YD tA ta tb):=by
 intro pins s O H Q I h;refine wpAny_IfExp (zF (hc pins s O H _ I h) λ d s1 ⟨H1,I1,q1⟩=>?_);cases d with
 | true=>exact ha pins s1 O H1 Q I1 q1
 | false=>exact hb pins s1 O H1 Q I1 q1
end
def zN (K:zFr) (H:Hp) (a:Addr) (xs:List V):Prop:=
 Rd H a (.lst xs)\/
  ∃ (o:Obj) (its:Array Value) (n:Nat),K.lookup a=some o/\o.cls=.type "list"/\o.dict=none/\o.data=.seq its n/\its.size<=sizeLine/\Vals xs its.toList
def zS (K:zFr) (H:Hp) (a:Addr) (xs:List V):Prop:=
 Rd H a (.tup xs)\/
  ∃ (o:Obj) (its:Array Value) (n:Nat),K.lookup a=some o/\o.cls=.type "tuple"/\o.data=.seq its n/\its.size<=sizeLine/\Vals xs its.toList
noncomputable def Q9:Value->Option V
 | .none=>some .zi
 | .bool b=>some (.bl b)
 | .int i _=>some (.int i)
 | .str x _=>some (.str x)
 | .bytes b _=>some (.pj b)
 | .float b _=>some (.lB b)
 | .ref a=>some (.ref a)
 | .type n=>some (.ty n)
 | _=>none
def RelV.abs {x:V}{u:Value}(r:RelV x u):Q9 u=some x:=by
 cases x with
 | zi=>cases r;rfl
 | bl _=>cases r;rfl
 | int _=>obtain⟨t,rfl⟩:=r;rfl
 | str _=>obtain⟨t,rfl⟩:=r;rfl
 | pj _=>obtain⟨t,rfl⟩:=r;rfl
 | lB _=>obtain⟨t,rfl⟩:=r;rfl
 | ref _=>cases r;rfl
 | ty _=>cases r;rfl
theorem RelV.inj {x y:V}{u:Value}(r:RelV x u) (q:RelV y u):x=y:=zD5 (r.abs.symm.trans q.abs)
theorem Vals.inj:∀ {xs ys:List V}{us:List Value},Vals xs us->Vals ys us->xs=ys
 | _,_,_,.nil,.nil=>rfl
 | _,_,_,.cons r t,.cons r' t'=>by rw[r.inj r',Vals.inj t t']
section
variable {X:Cx}{pins:List (Addr×Obj)}{O:St}{H:Hp}{s:Shared}{a:Addr}{xs ys:List V}
def zN.of {K:zFr}(h:H a=some (.lst xs)):zN K H a xs:=.inl (.inl h)
def zS.of {K:zFr}(h:H a=some (.tup xs)):zS K H a xs:=.inl (.inl h)
def Inv.list (I:Inv X pins O H s) (h:zN X.K H a xs):∃ its:List Value,Vals xs its/\PlainL s.heap a its.toArray/\xs.length<=sizeLine:=by
 rcases h with h | ⟨o,its,n,hk,hc,hd,hs,hz,r⟩
 .obtain⟨z,its,n,r,e⟩:=h.ok I.zw;exact⟨its,r,⟨_,n,e,rfl,rfl,rfl⟩,z⟩
 .refine⟨its.toList,r,⟨o,n,I.vt a o hk,hc,hd,by simpa using hs⟩,?_⟩;have e:=r.length;simp only[zD2] at e;omega
def Inv.tuple (I:Inv X pins O H s) (h:zS X.K H a xs):∃ its:List Value,Vals xs its/\IsTup s.heap a its.toArray/\xs.length<=sizeLine:=by
 rcases h with h | ⟨o,its,n,hk,hc,hs,hz,r⟩
 .obtain⟨z,its,r,p⟩:=h.ok I.zw;exact⟨its,r,p,z⟩
 .refine⟨its.toList,r,⟨o,I.vt a o hk,hc,n,by simpa using hs⟩,?_⟩;have e:=r.length;simp only[zD2] at e;omega
def Inv.jX (I:Inv X pins O H s) (h:zN X.K H a xs) (h':zN X.K H a ys):xs=ys:=by
 obtain⟨its,r,⟨o,n,e,_,_,d⟩,_⟩:=I.list h;obtain⟨its',r',⟨o',n',e',_,_,d'⟩,_⟩:=I.list h';rw[e] at e';cases e';rw[d] at d'
 injection d' with d1 _
 have:its=its':=by simpa using congrArg Array.toList d1
 subst this;exact r.inj r'
def Inv.kx (I:Inv X pins O H s) (h:zS X.K H a xs) (h':zS X.K H a ys):xs=ys:=by
 obtain⟨its,r,⟨o,e,_,n,d⟩,_⟩:=I.tuple h;obtain⟨its',r',⟨o',e',_,n',d'⟩,_⟩:=I.tuple h';rw[e] at e';cases e';rw[d] at d'
 injection d' with d1 _
 have:its=its':=by simpa using congrArg Array.toList d1
 subst this;exact r.inj r'
end
abbrev Cx.uz (X:Cx) (E:Value->Shared->Prop):Cx:={ X with xe:=E }
abbrev Cx.sF (X:Cx):Cx:=X.uz λ _ _=>False
theorem Cx.Ok.uz {X:Cx}(ok:X.Ok) (E:Value->Shared->Prop):(X.uz E).Ok:=
 ⟨ok.mod,ok.kind,ok.glob,ok.blt,ok.above,ok.inj,ok.has,ok.nr,ok.hd,ok.frames,ok.m6,ok.iQ,ok.bs,ok.qa,ok.o4,ok.oU,ok.ug,ok.qZ⟩
def Cx.Ok.tZ {X:Cx}{E:Value->Shared->Prop}(ok:(X.uz E).Ok):X.Ok:=
 ⟨ok.mod,ok.kind,ok.glob,ok.blt,ok.above,ok.inj,ok.has,ok.nr,ok.hd,ok.frames,ok.m6,ok.iQ,ok.bs,ok.qa,ok.o4,ok.oU,ok.ug,ok.qZ⟩
section
variable {X:Cx}{pins:List (Addr×Obj)}{O:St}{H:Hp}{s:Shared}{E:Value->Shared->Prop}
theorem Inv.uz (I:Inv X pins O H s) (E:Value->Shared->Prop):Inv (X.uz E) pins O H s:=⟨I.ok.uz E,I.os,I.bare,I.base,I.loc,I.cell,I.free,I.uH,I.pin,I.zw,I.len⟩
theorem Inv.tZ (I:Inv (X.uz E) pins O H s):Inv X pins O H s:=⟨I.ok.tZ,I.os,I.bare,I.base,I.loc,I.cell,I.free,I.uH,I.pin,I.zw,I.len⟩
theorem SP.tZ {D:Ends}{f:Flow}{s':Shared}(h:SP (X.uz E) pins D f s'):SP X pins D f s':=by
 cases f with
 | next=>obtain⟨O',H',I,q⟩:=h;exact⟨O',H',I.tZ,q⟩
 | brk=>obtain⟨O',H',I,q⟩:=h;exact⟨O',H',I.tZ,q⟩
 | cont=>obtain⟨O',H',I,q⟩:=h;exact⟨O',H',I.tZ,q⟩
 | ret u=>obtain⟨v,O',H',I,r,q⟩:=h;exact⟨v,O',H',I.tZ,r,q⟩
theorem xC.sF {st:List Stmt}{t:TS}(h:xC X.sF st t):xC X st t:=λ pins s O H D I hw=>
 wpAny_mono (h pins s O H D (I.uz _) hw) (λ _ _ q=>q.tZ) λ _ _ z=>False.elim z
end
section
variable {X:Cx}{st:Stmt}{rest:List Stmt}{t u:TS}{e:Expr}{te:TE}{pos:Pos}
def YA:TS:=λ D O H=>D.nx O H
def Y5 (t u:TS):TS:=λ D O H=>t { D with nx:=u D } O H
def XU:xC X [] YA:=λ _ _ O H _ I h=>wpAny_execs_nil ⟨O,H,I,h⟩
def XW (h1:PS X st t) (h2:xC X rest u):xC X (st::rest) (Y5 t u):=by
 intro pins s O H D I h;refine wpAny_execs_cons (zF (h1 pins s O H { D with nx:=u D } I h) λ f s1 q=>?_);cases f with
 | next=>
  obtain⟨O',H',I',q⟩:=q;exact h2 pins s1 O' H' D I' q
 | ret v=>exact q
 | brk=>exact q
 | cont=>exact q
def XT (h1:PS X st t):xC X [st] t:=by
 intro pins s O H D I h;refine wpAny_execs_cons (zF (h1 pins s O H D I h) λ f s1 q=>?_);cases f with
 | next=>exact wpAny_execs_nil q
 | ret v=>exact q
 | brk=>exact q
 | cont=>exact q
def Inv.quiet {pins:List (Addr×Obj)}{O:St}{H:Hp}{s:Shared}(I:Inv X pins O H s):interactive X.env=false:=by simp[interactive,I.ok.kind]
def YF (te:TE):TS:=λ D O H=>te O H λ _ H1=>D.nx O H1
def Wc (he:PE X e te) (hs:swapsWith e none pos.line X.env=pure false:=by rfl):PS X (.Expr e pos) (YF te):=by
 intro pins s O H D I h;exact wpAny_Expr_any (zF (he pins s O H _ I h) λ v s1 ⟨x,H1,I1,r1,q1⟩=>⟨O,H1,I1,q1⟩) I.quiet hs
def Y6 (te:TE):TS:=λ D O H=>te O H D.rt
def X_ (he:PE X e te):PS X (.Return (some e) pos) (Y6 te):=by
 intro pins s O H D I h;exact wpAny_Return_some (zF (he pins s O H _ I h) λ v s1 ⟨x,H1,I1,r1,q1⟩=>⟨x,O,H1,I1,r1,q1⟩)
def YC (c:TT) (t u:TS):TS:=λ D O H=>c O H λ b H1=>if b=true then t D O H1 else u D O H1
def Wa {c:Expr}{a b:List Stmt}{tc:TT}(hc:PT X c tc) (ha:xC X a t) (hb:xC X b u):PS X (.If c a b pos) (YC tc t u):=by
 intro pins s O H D I h;refine wpAny_If (zF (hc pins s O H _ I h) λ d s1 ⟨H1,I1,q1⟩=>?_);cases d with
 | true=>exact ha pins s1 O H1 D I1 q1
 | false=>exact hb pins s1 O H1 D I1 q1
end
abbrev TG:=V->St->Hp->(St->Hp->Prop)->Prop
abbrev tP:=List V->St->Hp->(St->Hp->Prop)->Prop
def PG (X:Cx) (target:Expr) (t:TG):Prop:=
 ∀ (pins:List (Addr×Obj)) (s:Shared) (O:St) (H:Hp) (v:V) (u:Value) (Q:St->Hp->Prop),Inv X pins O H s->RelV v u->t v O H Q->
  wpAny (model X.prog X.w) X.A (assign target X.env u) (λ _ s'=>∃ O' H',Inv X pins O' H' s'/\Q O' H') X.xe s
def uT (X:Cx) (ts:List Expr) (t:tP):Prop:=
 ∀ (pins:List (Addr×Obj)) (s:Shared) (O:St) (H:Hp) (vs:List V) (us:List Value) (Q:St->Hp->Prop),Inv X pins O H s->Vals vs us->t vs O H Q->
  wpAny (model X.prog X.w) X.A (assignInOrder ((assignEach ts X.env).map (·.2)) us) (λ _ s'=>∃ O' H',Inv X pins O' H' s'/\Q O' H') X.xe s
abbrev g8:=V->V->V->Hp->(Hp->Prop)->Prop
def Zq (X:Cx) (t:g8):Prop:=
 ∀ (pins:List (Addr×Obj)) (s:Shared) (O:St) (H:Hp) (o i v:V) (ov iv u:Value) (Q:Hp->Prop),Inv X pins O H s->RelV o ov->RelV i iv->RelV v u->t o i v H Q->
  wpAny (model X.prog X.w) X.A (setItem ov iv u) (λ _ s'=>∃ H',Inv X pins O H' s'/\Q H') X.xe s
section
variable {X:Cx}{pos:Pos}
noncomputable def qY (i:Nat):TG:=λ v O H Q=>Q (O.set i (some v)) H
def Wt {i:Nat}{x:Str}(hN:X.N.Nodup) (hi:X.N[i]?=some x) (hx:Loc X.env.scope x) (hf:X.fn x=true\/X.env.scope.names.lookup x=some .local:=by first | exact .inl rfl | exact .inr rfl | assumption):PG X (.Name x pos) (qY i):=by
 intro pins s O H v u Q I r h;exact wpAny_assign_Name (k8 I hN hi hx r (λ s' I'=>⟨_,H,I',h⟩) hf)
noncomputable def SV:tP:=λ vs O H Q=>vs=[]/\Q O H
noncomputable def SW (t:TG) (u:tP):tP:=λ vs O H Q=>∃ v r,vs=v::r/\t v O H fun O' H'=>u r O' H' Q
def Wo:uT X [] SV:=by
 intro pins s O H vs us Q I r h;obtain⟨e,h⟩:=h;subst e;cases r;exact assignInOrder_nil ⟨O,H,I,h⟩
def Wq {e:Expr}{es:List Expr}{t:TG}{u:tP}(h1:PG X e t) (h2:uT X es u)
  (hs:(assignEach (e::es) X.env).map (·.2)=assign e X.env::(assignEach es X.env).map (·.2):=by rfl):uT X (e::es) (SW t u):=by
 intro pins s O H vs us Q I r h;obtain⟨v,vr,e1,h⟩:=h;subst e1;cases r with
 | cons r rr=>
  rw[hs];refine assignInOrder_cons (zF (h1 pins s O H _ _ _ I r h) λ _ s1 ⟨O1,H1,I1,q1⟩=>?_);exact h2 pins s1 O1 H1 _ _ Q I1 rr q1
noncomputable def bU (K:zFr) (n:Nat) (t:tP):TG:=λ v O H Q=>∃ a xs,v=.ref a/\zS K H a xs/\xs.length=n/\t xs O H Q
def Wr {es:List Expr}{k:Nat}{t:tP}{n:Nat}(hc:X.calm=true) (h:uT X es t)
  (hn:(assignEach es X.env).length=n:=by rfl) (hst:(assignEach es X.env).findIdx? (·.1)=none:=by rfl):PG X (.Tuple es k pos) (bU X.K n t):=by
 intro pins s O H v u Q I r hw;obtain⟨a,xs,e1,hq,hl,hw⟩:=hw;subst e1;cases r;obtain⟨its,rv,ht,hz⟩:=I.tuple hq;refine assign_Tuple_tuple (I.ok.hd hc) ht (by simp[hn,<- hl,rv.length]) hst λ h' hx=>?_;have I1:Inv X pins O H { s with heap:=h' }:=I.kept (t':=s.toks) λ b o e=>hx b o (zB3 (zA8 e)) e;exact h pins _ O H xs _ Q I1 (by simpa using rv) hw
noncomputable def SU (to ti:TE) (t:g8):TG:=λ v O H Q=>to O H λ o H1=>ti O H1 λ i H2=>t o i v H2 λ H3=>Q O H3
def Ws {o i:Expr}{to ti:TE}{t:g8}(ho:PE X o to) (hi:PE X i ti) (hs:Zq X t)
  (ha:∀ v,assign (.Subscript o i pos) X.env v=(do
   let ov <- holding [v] (eval o X.env)
   let iv <- holding [v,ov] (eval i X.env)
   standAt pos
   holding [v,ov,iv] (setItem ov iv v)
   release [v,ov,iv] []):=by intro _;rfl):PG X (.Subscript o i pos) (SU to ti t):=by
 intro pins s O H v u Q I r h;rw[ha];refine zWb (wpAny_holding (zF (ho pins s O H _ I h) λ ov s1 ⟨x,H1,I1,r1,q1⟩=>?_));refine zWb (wpAny_holding (zF (hi pins s1 O H1 _ I1 q1) λ iv s2 ⟨y,H2,I2,r2,q2⟩=>?_));refine zWb (wpAny_standAt (zWb (wpAny_holding (zF (hs pins s2 O H2 x y v ov iv u _ I2 r1 r2 r q2) λ _ s3 ⟨H3,I3,q3⟩=>?_))));exact wpAny_release ⟨O,H3,I3,q3⟩
def pQ (te:TE) (g:TG):TS:=λ D O H=>te O H λ x H1=>g x O H1 D.nx
def dF {tg e:Expr}{te:TE}{g:TG}(he:PE X e te) (hg:PG X tg g) (hs:swapsWithSole [tg] e pos.line X.env=pure false:=by rfl) (hw:swappedStores [tg] e X.env=pure none:=by rfl)
  (h1:(assignEach [tg] X.env).map (·.2)=[assign tg X.env]:=by rfl):PS X (.Assign [tg] e pos) (pQ te g):=by
 intro pins s O H D I h;refine wpAny_Assign_stores (zF (he pins s O H _ I h) λ v s1 ⟨x,H1,I1,r1,q1⟩=>?_) hs hw;rw[h1];exact zF (hg pins s1 O H1 x v _ I1 r1 q1) λ _ s2 q=>q
def XZ {i:Nat}{x:Str}{e:Expr}{te:TE}{pos':Pos}(hN:X.N.Nodup) (hi:X.N[i]?=some x) (hx:Loc X.env.scope x) (he:PE X e te) (hs:swapsWith e (some (.Name x pos')) pos.line X.env=pure false:=by rfl) (hf:X.fn x=true\/X.env.scope.names.lookup x=some .local:=by first | exact .inl rfl | exact .inr rfl | assumption):
  PS X (.Assign [.Name x pos'] e pos) (pQ te (qY i)):=by
 intro pins s O H D I h;refine wpAny_Assign_Name (zF (he pins s O H _ I h) λ v s1 ⟨y,H1,I1,r1,q1⟩=>?_) hs;exact k8 I1 hN hi hx r1 (λ s2 I2=>⟨_,H1,I2,q1⟩) hf
end
section
variable {X:Cx}{pos:Pos}
def Y1 (c:TT) (tb:TS):TS:=λ D O H=>∃ W:Nat->St->Hp->Prop,(∃ m,W m O H)/\∀ m O H,W m O H->
 c O H λ b H1=>if b=true then ∃ N:St->Hp->Prop,(∀ O' H',N O' H'->∃ m',m'<m/\W m' O' H')/\tb { D with nx:=N,ct:=N,bk:=D.nx } O H1 else D.nx O H1
def XX {c:Expr}{body:List Stmt}{tc:TT}{tb:TS}(hp:PassesOwn (model X.prog X.w) X.A X.env X.xe) (hc:PT X c tc) (hb:xC X body tb):PS X (.While c body [] pos) (Y1 tc tb):=by
 intro pins s O H D I h;obtain⟨W,⟨m0,w0⟩,turn⟩:=h;refine wpAny_While (codeAny_whileLoop (λ n s'=>∃ O' H',Inv X pins O' H' s'/\W n O' H') ?_ m0 ⟨O,H,I,w0⟩);rintro n s1 ⟨O1,H1,I1,w1⟩;refine wpAny_passesOwn hp (zF (hc pins s1 O1 H1 _ I1 (turn n O1 H1 w1)) λ b s2 ⟨H2,I2,q2⟩=>?_);cases b with
 | true=>
  obtain⟨N,hN,q2⟩:=q2;rw[if_pos rfl];refine wpAny_passesOwn hp (zF (hb pins s2 O1 H2 _ I2 q2) λ f s3 q3=>?_);cases f with
  | next=>
   obtain⟨O3,H3,I3,n3⟩:=q3;obtain⟨m',hm,w3⟩:=hN O3 H3 n3;exact⟨m',hm,O3,H3,I3,w3⟩
  | cont=>
   obtain⟨O3,H3,I3,n3⟩:=q3;obtain⟨m',hm,w3⟩:=hN O3 H3 n3;exact⟨m',hm,O3,H3,I3,w3⟩
  | brk=>exact q3
  | ret v=>exact q3
 | false=>
  rw[if_neg Bool.false_ne_true];exact wpAny_execs_nil ⟨O1,H2,I2,q2⟩
end
structure It where
 go:Nat->Hp->Prop
 qq:Nat->Hp->V->Hp->Prop
 stop:Nat->Hp->Prop
def v5 (X:Cx) (pins:List (Addr×Obj)) (H:Hp) (b:Addr):Prop:=
 H b=none/\b≠X.env.locals/\b∉X.fs/\(b∈X.ex\/X.s₀.heap.objs.size<=b)/\(∀ x c,X.env.cells.lookup x=some c->c≠b)/\∀ p∈X.pn++pins,p.1≠b
def Inv.lA {X:Cx}{pins:List (Addr×Obj)}{O:St}{H H':Hp}{s:Shared}{b:Addr}(I:Inv X pins O H s) (hb:s.heap.objs.size<=b) (hn:H' b=none):v5 X pins H' b:=by
 refine⟨hn,Nat.ne_of_gt (zC3 I.lt hb),I.c8 hb,.inr (zE0 I.sz hb),λ x c e z=>?_,λ p hp z=>?_⟩
 .obtain⟨v,q⟩:=I.cell x c e;exact absurd (zC3 q.lt (by rw[z];exact hb)) (zE1 _)
 .exact absurd (zC3 (zA8 (I.pin p hp).1) (by rw[z];exact hb)) (zE1 _)
structure Turn (P:Program) (w:World) (K:zFr) (tg:Expr) (J:It) (fp:List Addr) (it:Addr) (tn:Nat->Heap->Prop):Prop where
 mem:it∈fp
 obj:∀ i h,tn i h->∀ b∈fp,∃ o,h.get? b=some o/\∀ v,o.data≠.cell v
 keep:∀ i h h',tn i h->(∀ b∈fp,∀ o,h.get? b=some o->h'.get? b=some o)->tn i h'
 item:∀ (X:Cx),X.prog=P->X.w=w->X.K=K->X.calm=true->∀ (i:Nat) (pins:List (Addr×Obj)) (s:Shared) (O:St) (H:Hp) (E:Value->Shared->Prop),Inv X pins O H s->(∀ b∈fp,v5 X pins H b)->tn i s.heap->J.go i H->
  wpAny (model P w) X.A (pyNext (.ref it)) (λ r s1=>∃ u,r=some u/\
   wpAny (model P w) X.A (letOwnedTupleGo tg (.ref it) u) (λ _ s2=>∃ x H',Inv X pins O H' s2/\RelV x u/\J.qq i H x H'/\tn (i+1) s2.heap/\∀ b∈fp,H' b=none) E s1) E s
 done:∀ (X:Cx),X.prog=P->X.w=w->X.K=K->X.calm=true->∀ (i:Nat) (pins:List (Addr×Obj)) (s:Shared) (O:St) (H:Hp) (E:Value->Shared->Prop),Inv X pins O H s->(∀ b∈fp,v5 X pins H b)->tn i s.heap->J.stop i H->
  wpAny (model P w) X.A (pyNext (.ref it)) (λ r s1=>r=none/\Inv X pins O H s1) E s
 self:∀ (A:Around) (i:Nat) (s:Shared) (Q:Value->Shared->Prop) (E:Value->Shared->Prop),tn i s.heap->Q (.ref it) s->wpAny (model P w) A (pyIter (.ref it)) Q E s
abbrev TI:=St->Hp->(It->Hp->Prop)->Prop
def gA (X:Cx) (pins:List (Addr×Obj)) (O:St) (tg:Expr) (R:It->Hp->Prop) (itv:Value) (s2:Shared):Prop:=
 ∃ (it:Addr) (fp:List Addr) (tn:Nat->Heap->Prop) (J:It) (H':Hp),itv=.ref it/\Inv X pins O H' s2/\Turn X.prog X.w X.K tg J fp it tn/\tn 0 s2.heap/\(∀ b∈fp,v5 X pins H' b)/\R J H'
def PI (X:Cx) (tg iter:Expr) (wi:TI):Prop:=
 ∀ (pins:List (Addr×Obj)) (s:Shared) (O:St) (H:Hp) (R:It->Hp->Prop),Inv X pins O H s->wi O H R->
  wpAny (model X.prog X.w) X.A (eval iter X.env) (λ v s1=>wpAny (model X.prog X.w) X.A (pyIter v) (gA X pins O tg R) X.xe s1) X.xe s
def l9 {M:Model}{A:Around}{E:Value->Shared->Prop}{s:Shared}{tg:Expr}{it:Addr}{u:Value}{o:Obj}{n:String}{vs:Array Value}{Q:Unit->Shared->Prop}(ho:s.heap.get? it=some o) (hc:o.cls=.type n) (hd:o.data=.fields vs)
  (hn:["enumerate","zip","dict_itemiterator","dict_reverseitemiterator","odict_iterator","itertools.zip_longest","itertools.pairwise"].contains n=false) (hQ:Q () s):wpAny M A (letOwnedTupleGo tg (.ref it) u) Q E s:=by
 unfold letOwnedTupleGo;cases tg <;> first
  | exact zD1 hQ
  | (cases u <;> first
    | exact zD1 hQ
    | (refine zWb (wpAny_load ho ?_)
       rw[hc,hd];show wpAny M A (if (["enumerate","zip","dict_itemiterator","dict_reverseitemiterator","odict_iterator","itertools.zip_longest","itertools.pairwise"].contains n&&vs[0]? == some (rawInt _))=true then _ else _) Q E s;rw[if_neg (by intro h;rw[hn,Bool.false_and] at h;cases h)];exact zD1 hQ))
def Zv (K:zFr) (a:Addr):It:=
 ⟨λ i H=>∃ xs x,zN K H a xs/\xs[i]?=some x,λ i H x H'=>H'=H/\∀ xs,zN K H a xs->xs[i]?=some x,λ i H=>∃ xs,zN K H a xs/\xs.length<=i⟩
def Zu (K:zFr) (a:Addr):It:=
 ⟨λ i H=>∃ xs x,zS K H a xs/\xs[i]?=some x,λ i H x H'=>H'=H/\∀ xs,zS K H a xs->xs[i]?=some x,λ i H=>∃ xs,zS K H a xs/\xs.length<=i⟩
def lW (lo:Int) (n:Nat):It:=⟨λ i _=>i<n,λ i H x H'=>H'=H/\x=.int (lo+i),λ i _=>n<=i⟩
def Yv {P:Program}{w:World}{K:zFr}{tg:Expr}(a it:Addr):Turn P w K tg (Zv K a) [it] it (λ i h=>h.IsListIter it a i) where
 mem:=by simp
 obj:=λ i h st b hb=>by
  have e:b=it:=by simpa using hb
  subst e;obtain⟨o,e,c,d⟩:=st;exact⟨o,e,λ v z=>by rw[d] at z;cases z⟩
 keep:=λ i h h' st k=>st.at λ o e=>k it (by simp) o e
 item:=by
  intro X hP hw hK hc i pins s O H E I hf st hg;subst hP hw hK;obtain⟨xs,x,hq,hx⟩:=hg;obtain⟨its,rv,p,hz⟩:=I.list hq;obtain⟨u,hu,ru⟩:=rv.get hx;obtain⟨f0,f1,f2,f3,f4,f5⟩:=hf it (by simp);refine wpAny_pyNext_list_item st p.isList (x:=u) (by simpa using hu) λ h' st' sb=>?_;have I1:Inv X pins O H { s with heap:=h' }:=I.turned (t':=s.toks) (λ b o hb e=>(sb.2 b hb).trans e) f0 f1 f3 f4 f5;obtain⟨o,e,c,d⟩:=id st';exact⟨u,rfl,l9 (s:={ s with heap:=h' }) e c d (by decide) ⟨x,H,I1,ru,⟨rfl,λ ys hy=>by rw[I.jX hy hq];exact hx⟩,st',λ b hb=>(hf b hb).1⟩⟩
 done:=by
  intro X hP hw hK hc i pins s O H E I hf st hg;subst hP hw hK;obtain⟨xs,hq,hx⟩:=hg;obtain⟨its,rv,p,hz⟩:=I.list hq;obtain⟨f0,f1,f2,f3,f4,f5⟩:=hf it (by simp);have hl:=rv.length;exact wpAny_pyNext_list_end (I.ok.hd hc) st p.isList (by simp;omega) λ h' eb=>⟨rfl,I.turned (t':=s.toks) (λ b o hb e=>eb b o hb e) f0 f1 f3 f4 f5⟩
 self:=λ _ _ _ _ _ st h=>wpAny_pyIter_listiter st h
def Ys {P:Program}{w:World}{K:zFr}{tg:Expr}(a it:Addr):Turn P w K tg (Zu K a) [it] it (λ i h=>h.IsTupleIter it a i) where
 mem:=by simp
 obj:=λ i h st b hb=>by
  have e:b=it:=by simpa using hb
  subst e;obtain⟨o,e,c,d⟩:=st;exact⟨o,e,λ v z=>by rw[d] at z;cases z⟩
 keep:=λ i h h' st k=>st.at λ o e=>k it (by simp) o e
 item:=by
  intro X hP hw hK hc i pins s O H E I hf st hg;subst hP hw hK;obtain⟨xs,x,hq,hx⟩:=hg;obtain⟨its,rv,p,hz⟩:=I.tuple hq;obtain⟨u,hu,ru⟩:=rv.get hx;obtain⟨f0,f1,f2,f3,f4,f5⟩:=hf it (by simp);refine wpAny_pyNext_tuple_item st (show s.heap.IsTuple a its.toArray from p) (x:=u) (by simpa using hu) λ h' st' sb=>?_;have I1:Inv X pins O H { s with heap:=h' }:=I.turned (t':=s.toks) (λ b o hb e=>(sb.2 b hb).trans e) f0 f1 f3 f4 f5;obtain⟨o,e,c,d⟩:=id st';exact⟨u,rfl,l9 (s:={ s with heap:=h' }) e c d (by decide) ⟨x,H,I1,ru,⟨rfl,λ ys hy=>by rw[I.kx hy hq];exact hx⟩,st',λ b hb=>(hf b hb).1⟩⟩
 done:=by
  intro X hP hw hK hc i pins s O H E I hf st hg;subst hP hw hK;obtain⟨xs,hq,hx⟩:=hg;obtain⟨its,rv,p,hz⟩:=I.tuple hq;obtain⟨f0,f1,f2,f3,f4,f5⟩:=hf it (by simp);have hl:=rv.length;exact wpAny_pyNext_tuple_end (I.ok.hd hc) st (show s.heap.IsTuple a its.toArray from p) (by simp;omega) λ h' eb=>⟨rfl,I.turned (t':=s.toks) (λ b o hb e=>eb b o hb e) f0 f1 f3 f4 f5⟩
 self:=λ _ _ _ _ _ st h=>wpAny_pyIter_tupleiter st h
def Yu {P:Program}{w:World}{K:zFr}{tg:Expr}(it:Addr) (lo:Int) (n:Nat):Turn P w K tg (lW lo n) [it] it (λ i h=>IsRangeIter h it (lo+(i:Nat)*1) ((n:Int)-(i:Nat)) 1) where
 mem:=by simp
 obj:=λ i h st b hb=>by
  have e:b=it:=by simpa using hb
  subst e;exact⟨_,st,λ v z=>by
   have z':Data.fields _=Data.cell v:=z;cases z'⟩
 keep:=λ i h h' st k=>k it (by simp) _ st
 item:=by
  intro X hP hw hK hc i pins s O H E I hf st hg;subst hP hw hK;obtain⟨f0,f1,f2,f3,f4,f5⟩:=hf it (by simp);have W:=Walks.range (prog:=X.prog) (w:=X.w) (I.ok.hd hc) it lo 1 n;refine W.item i s _ _ hg st λ v h' tk hv st' kk=>?_;obtain⟨t,rfl⟩:=hv;have I1:Inv X pins O H { s with heap:=h',toks:=tk }:=I.turned (λ b o hb e=>kk b o (by simpa using hb) e) f0 f1 f3 f4 f5;refine⟨_,rfl,l9 (s:={ s with heap:=h',toks:=tk }) (n:="range_iterator") st' rfl rfl (by decide) ⟨.int (lo+i),H,I1,⟨t,?_⟩,⟨rfl,rfl⟩,st',λ b hb=>(hf b hb).1⟩⟩;rw[Int.mul_one]
 done:=by
  intro X hP hw hK hc i pins s O H E I hf st hg;subst hP hw hK;obtain⟨f0,f1,f2,f3,f4,f5⟩:=hf it (by simp);exact wpAny_pyNext_range_end (I.ok.hd hc) st (by have:n<=i:=hg;omega) λ h' eb=>⟨rfl,I.turned (t':=s.toks) (λ b o hb e=>eb b o hb e) f0 f1 f3 f4 f5⟩
 self:=λ _ _ _ _ _ st h=>wpAny_pyIter_rangeiter st h
section
variable {X:Cx}{tg:Expr}
def XA {pins:List (Addr×Obj)}{O:St}{H:Hp}{s:Shared}{R:It->Hp->Prop}{E:Value->Shared->Prop}{lo hi:Int}{t u v:Tok}{tk:Nat}(I:Inv X pins O H s) (h1:-(2 ^ 62)<=lo) (h2:lo<2 ^ 62) (h3:-(2 ^ 62)<=hi) (h4:hi<2 ^ 62)
  (q:R (lW lo (hi-lo).toNat) H):wpAny (model X.prog X.w) X.A (pyIter (.ref s.heap.objs.size)) (gA X pins O tg R) E { s with heap:=s.heap.push { cls:=.type "range",data:=.fields #[.int lo t,.int hi u,.int 1 v] },toks:=tk }:=by
 refine wpAny_pyIter_range (IsRange.new ..) (small_one h1 h2 h3 h4) ?_;have I1:Inv X pins O H { s with heap:=s.heap.push { cls:=.type "range",data:=.fields #[.int lo t,.int hi u,.int 1 v] },toks:=tk }:=I.kept λ b o e=>zHp _ e;refine⟨(s.heap.push { cls:=.type "range",data:=.fields #[.int lo t,.int hi u,.int 1 v] }).objs.size,[(s.heap.push { cls:=.type "range",data:=.fields #[.int lo t,.int hi u,.int 1 v] }).objs.size],_,_,H,rfl,
  I1.kept (t':=tk) λ b o e=>zHp _ e,Yu _ lo (hi-lo).toNat,?_,λ b hb=>?_,q⟩
 .have e1:lo+((0:Nat):Int)*1=lo:=by simp
  have e2:(((hi-lo).toNat:Nat):Int)-((0:Nat):Int)=Builtin.Range.rangeSize lo hi 1:=by rw[rangeSize_one];split <;> omega
  show IsRangeIter _ _ (lo+((0:Nat):Int)*1) ((((hi-lo).toNat:Nat):Int)-((0:Nat):Int)) 1;rw[e1,e2];exact zA9 _ rfl
 .have e:b=(s.heap.push { cls:=.type "range",data:=.fields #[.int lo t,.int hi u,.int 1 v] }).objs.size:=by simpa using hb
  subst e;exact I1.lA (zA4 _) (I1.zw.fresh (zA4 _))
def bI (ta:TA):TI:=fun O H R=>ta O H λ vs H1=>∃ j:Int,vs=[.int j]/\-(2 ^ 62)<=j/\j<2 ^ 62/\R (lW 0 j.toNat) H1
def Wm {a:Expr}{ta:TA}{p pos:Pos}(hg:Gl X "range") (hm:X.mg "range"=none) (ha:PA X [a] ta) (hs:starEach [a] X.env=[(false,eval a X.env)]:=by rfl):PI X tg (.Call (.Name "range" p) [a] [] pos) (bI ta):=by
 intro pins s O H R I h;refine Call_ (qQ I hg hm boot_range (PyProof.Rows.callWith_type1 (zF (ha pos pins s O H _ I h) λ us s1 ⟨vs,H1,I1,r1,q1⟩=>?_) hs rfl));obtain⟨j,e,q1,q2,q⟩:=q1;subst e;cases r1 with
 | cons r rr=>
  cases rr;obtain⟨t,rfl⟩:=r;exact call_range_1 (XA I1 (by omega) (by omega) q1 q2 (by simpa using q))
def YE (wi:TI) (g:TG) (tb:TS):TS:=λ D O H=>wi O H λ J H1=>∃ W:Nat->Nat->St->Hp->Prop,(∃ m,W 0 m O H1)/\∀ i m O H,W i m O H->
 (J.stop i H/\D.nx O H)\/(J.go i H/\∃ N:St->Hp->Prop,(∀ O' H',N O' H'->∃ m',m'<m/\W (i+1) m' O' H')/\∀ x H',J.qq i H x H'->g x O H' fun O2 H2=>tb { D with nx:=N,ct:=N,bk:=D.nx } O2 H2)
noncomputable def og (fp:List Addr) (h:Heap):List (Addr×Obj):=fp.filterMap λ b=>(h.get? b).map λ o=>(b,o)
def lp {fp:List Addr}{h:Heap}{b:Addr}{o:Obj}(hb:b∈fp) (e:h.get? b=some o):(b,o)∈og fp h:=List.mem_filterMap.mpr ⟨b,hb,by rw[e];rfl⟩
def UK {fp:List Addr}{h:Heap}{p:Addr×Obj}(hp:p∈og fp h):p.1∈fp/\h.get? p.1=some p.2:=by
 obtain⟨b,hb,e⟩:=List.mem_filterMap.mp hp;cases q:h.get? b with
 | none=>rw[q] at e;cases e
 | some o=>
  rw[q] at e;have e':(b,o)=p:=zD5 e;subst e';exact⟨hb,q⟩
def Inv.pinned {pins:List (Addr×Obj)}{O:St}{H:Hp}{s:Shared}{fp:List Addr}(I:Inv X pins O H s) (hf:∀ b∈fp,v5 X pins H b) (ho:∀ b∈fp,∃ o,s.heap.get? b=some o/\∀ v,o.data≠.cell v):Inv X (pins++og fp s.heap) O H s:=
 I.jr λ p hp=>(zB9.mp hp).elim (λ z=>I.pin p (zB4 _ z)) λ z=>by
  obtain⟨hb,e⟩:=UK z;obtain⟨f0,f1,f2,_⟩:=hf p.1 hb;obtain⟨o,e',d⟩:=ho p.1 hb;rw[e] at e';cases e';exact⟨e,f0,f1,f2,d⟩
def Inv.pO {pins pl:List (Addr×Obj)}{O:St}{H:Hp}{s:Shared}(I:Inv X (pins++pl) O H s):Inv X pins O H s:=I.jr λ p hp=>I.pin p (zB4 _ (List.mem_append_left _ hp))
def Wb {iter:Expr}{body:List Stmt}{wi:TI}{g:TG}{tb:TS}{pos:Pos}(hp:PassesOwn (model X.prog X.w) X.A X.env X.xe) (hc:X.calm=true) (hi:PI X tg iter wi) (hg:PG X tg g) (hb:xC X body tb)
  (hs:∀ x,foldedSetIterable iter X.env x=pure x:=by intro _;rfl):PS X (.For tg iter body [] pos) (YE wi g tb):=by
 intro pins s O H D I h;refine wpAny_For (zF (hi pins s O H _ I h) λ v s1 h1=>zF h1 λ itv s2 h2=>?_) hs;obtain⟨it,fp,tn,J,H2,e,I2,T,st2,f2,W,⟨m0,w0⟩,turn⟩:=h2;subst e;have stat:∀ {H':Hp},(∀ b∈fp,H' b=none)->∀ b∈fp,v5 X pins H' b:=λ hn b hb=>⟨hn b hb,(f2 b hb).2⟩;refine codeAny_forLoop_any (λ n s'=>∃ i O' H',Inv X pins O' H' s'/\tn i s'.heap/\(∀ b∈fp,H' b=none)/\W i n O' H') ?_ m0 ⟨0,O,H2,I2,st2,λ b hb=>(f2 b hb).1,w0⟩;rintro n s3 ⟨i,O3,H3,I3,st3,fr3,w3⟩;rcases turn i n O3 H3 w3 with ⟨stop,qn⟩ | ⟨go,N,hN,step⟩
 .refine wpAny_passesOwn hp (zF (T.done X rfl rfl rfl hc i pins s3 O3 H3 X.xe I3 (stat fr3) st3 stop) λ r s4 ⟨hr,I4⟩=>?_);subst hr;exact wpAny_execs_nil ⟨O3,H3,I4,qn⟩
 .refine wpAny_passesOwn hp (zF (T.item X rfl rfl rfl hc i pins s3 O3 H3 X.xe I3 (stat fr3) st3 go) λ r s4 ⟨u,hr,h4⟩=>?_);subst hr;refine wpAny_passesOwn hp (zF h4 λ _ s5 ⟨x,H5,I5,r5,y5,st5,fr5⟩=>?_);have I5':=I5.pinned (stat fr5) (T.obj _ _ st5);refine wpAny_passesOwn hp (zF (hg _ s5 O3 H5 x u _ I5' r5 (step x H5 y5)) λ _ s6 ⟨O6,H6,I6,q6⟩=>?_);refine wpAny_passesOwn hp (zF (hb _ s6 O6 H6 _ I6 q6) λ f s7 q7=>?_);have again:∀ {O7:St}{H7:Hp},Inv X (pins++og fp s5.heap) O7 H7 s7->N O7 H7->∃ m,m<n/\∃ i O' H',Inv X pins O' H' s7/\tn i s7.heap/\(∀ b∈fp,H' b=none)/\W i m O' H':=λ{O7 H7} I7 n7=>by
   obtain⟨m',hm,w7⟩:=hN O7 H7 n7;refine⟨m',hm,i+1,O7,H7,I7.pO,T.keep _ _ _ st5 λ b hb o e=>(I7.pin (b,o) (zB4 _ (zB4 _ (lp hb e)))).1,λ b hb=>?_,w7⟩;obtain⟨o,e,d⟩:=T.obj _ _ st5 b hb;exact (I7.pin (b,o) (zB4 _ (zB4 _ (lp hb e)))).2.1
  cases f with
  | next=>obtain⟨O7,H7,I7,n7⟩:=q7;exact again I7 n7
  | cont=>obtain⟨O7,H7,I7,n7⟩:=q7;exact again I7 n7
  | brk=>obtain⟨O7,H7,I7,q7⟩:=q7;exact⟨O7,H7,I7.pO,q7⟩
  | ret v=>obtain⟨x7,O7,H7,I7,r7,q7⟩:=q7;exact⟨x7,O7,H7,I7.pO,r7,q7⟩
end
abbrev R2:=V->V->Hp->VK->Prop
def yd (X:Cx) (f:Value->Value->Sem Value) (r:R2):Prop:=
 ∀ (pins:List (Addr×Obj)) (s:Shared) (O:St) (H:Hp) (x y:V) (v u:Value) (Q:VK),Inv X pins O H s->RelV x v->RelV y u->r x y H Q->
  wpAny (model X.prog X.w) X.A (f v u) (EP X pins O Q) X.xe s
def gy (X:Cx) (f:Value->Sem Value) (r:V->Hp->VK->Prop):Prop:=
 ∀ (pins:List (Addr×Obj)) (s:Shared) (O:St) (H:Hp) (x:V) (v:Value) (Q:VK),Inv X pins O H s->RelV x v->r x H Q->
  wpAny (model X.prog X.w) X.A (f v) (EP X pins O Q) X.xe s
def yK (X:Cx) (f:Value) (r:List V->Hp->VK->Prop):Prop:=
 ∀ (pins:List (Addr×Obj)) (s:Shared) (O:St) (H:Hp) (xs:List V) (us:List Value) (Q:VK),Inv X pins O H s->Vals xs us->r xs H Q->
  wpAny (model X.prog X.w) X.A (call f us) (EP X pins O Q) X.xe s
def QA (X:Cx) (r:V->Hp->(Bool->Hp->Prop)->Prop):Prop:=
 ∀ (pins:List (Addr×Obj)) (s:Shared) (O:St) (H:Hp) (x:V) (v:Value) (Q:Bool->Hp->Prop),Inv X pins O H s->RelV x v->r x H Q->
  wpAny (model X.prog X.w) X.A (truthy v) (TP X pins O Q) X.xe s
def pP (r:R2) (ta tb:TE):TE:=fun O H Q=>ta O H λ x H1=>tb O H1 λ y H2=>r x y H2 Q
def Y2 (r:V->Hp->VK->Prop) (ta:TE):TE:=fun O H Q=>ta O H λ x H1=>r x H1 Q
def rI (C:Int->Int->Prop) (g:Int->Int->V):R2:=λ x y H Q=>∃ i j,x=.int i/\y=.int j/\C i j/\Q (g i j) H
def vm (g:Int->Int->V):R2:=λ x y H Q=>∃ i j,x=.int i/\y=.int j/\Q (g i j) H
def rU (g:Int->V):V->Hp->VK->Prop:=λ x H Q=>∃ i,x=.int i/\Q (g i) H
section
variable {X:Cx}{a b c:Expr}{ta tb tc:TE}{pos:Pos}
def gg (ha:PE X a ta) (hb:PE X b tb) {pins:List (Addr×Obj)}{s:Shared}{O:St}{H:Hp}{R:V->V->Hp->Prop}(I:Inv X pins O H s)
  (h:ta O H λ x H1=>tb O H1 λ y H2=>R x y H2) {Q:Value->Shared->Prop}{f:Value->Value->Sem Value}
  (hf:∀ v u s2 x y H2,Inv X pins O H2 s2->RelV x v->RelV y u->R x y H2->wpAny (model X.prog X.w) X.A (f v u) Q X.xe s2):
  wpAny (model X.prog X.w) X.A (eval a X.env) (λ v s₁=>wpAny (model X.prog X.w) X.A (eval b X.env) (λ u s₂=>wpAny (model X.prog X.w) X.A (f v u) Q X.xe s₂) X.xe s₁) X.xe s:=by
 refine zF (ha pins s O H _ I h) λ v s1 ⟨x,H1,I1,r1,q1⟩=>?_;refine zF (hb pins s1 O H1 _ I1 q1) λ u s2 ⟨y,H2,I2,r2,q2⟩=>?_;exact hf v u s2 x y H2 I2 r1 r2 q2
def W3 {op:Operator}{r:R2}(ho:yd X (binaryOp op) r) (ha:PE X a ta) (hb:PE X b tb):PE X (.BinOp a op b pos) (pP r ta tb):=by
 intro pins s O H Q I h;exact wpAny_BinOp (gg ha hb I h λ v u s2 x y H2 I2 rx ry q=>ho pins s2 O H2 x y v u Q I2 rx ry q)
def Wz {op:UnaryOp}{r:V->Hp->VK->Prop}(ho:gy X (unaryOp op) r) (ha:PE X a ta):PE X (.UnaryOp op a pos) (Y2 r ta):=by
 intro pins s O H Q I h;exact UnaryOp_ (zF (ha pins s O H _ I h) λ v s1 ⟨x,H1,I1,r1,q1⟩=>ho pins s1 O H1 x v Q I1 r1 q1)
def qJ {f:Value->Value->Sem Value}{C:Int->Int->Prop}{g:Int->Int->Int}
  (rule:∀ (i j:Int) (t u:Tok) (s:Shared) (Q:Value->Shared->Prop) (E:Value->Shared->Prop),C i j->Q (.int (g i j) s.toks) { s with toks:=s.toks+1 }->wpAny (model X.prog X.w) X.A (f (.int i t) (.int j u)) Q E s):
  yd X f (rI C λ i j=>.int (g i j)):=by
 intro pins s O H x y v u Q I rx ry h;obtain⟨i,j,rfl,rfl,hc,q⟩:=h;obtain⟨t,rfl⟩:=rx;obtain⟨t',rfl⟩:=ry;exact rule i j t t' s _ _ hc ⟨.int (g i j),H,I.tok _,⟨_,rfl⟩,q⟩
def cm {f:Value->Value->Sem Value}{g:Int->Int->Int}
  (rule:∀ (i j:Int) (t u:Tok) (s:Shared) (Q:Value->Shared->Prop) (E:Value->Shared->Prop),Q (.int (g i j) s.toks) { s with toks:=s.toks+1 }->wpAny (model X.prog X.w) X.A (f (.int i t) (.int j u)) Q E s):
  yd X f (vm λ i j=>.int (g i j)):=by
 intro pins s O H x y v u Q I rx ry h;obtain⟨i,j,rfl,rfl,q⟩:=h;obtain⟨t,rfl⟩:=rx;obtain⟨t',rfl⟩:=ry;exact rule i j t t' s _ _ ⟨.int (g i j),H,I.tok _,⟨_,rfl⟩,q⟩
def j9 {f:Value->Value->Sem Value}{g:Int->Int->Bool}
  (rule:∀ (i j:Int) (t u:Tok) (s:Shared) (Q:Value->Shared->Prop) (E:Value->Shared->Prop),Q (.bool (g i j)) s->wpAny (model X.prog X.w) X.A (f (.int i t) (.int j u)) Q E s):
  yd X f (vm λ i j=>.bl (g i j)):=by
 intro pins s O H x y v u Q I rx ry h;obtain⟨i,j,rfl,rfl,q⟩:=h;obtain⟨t,rfl⟩:=rx;obtain⟨t',rfl⟩:=ry;exact rule i j t t' s _ _ ⟨.bl (g i j),H,I,rfl,q⟩
def xP (i j:Int):Prop:=0<j/\j<1073741824
def rn (i j:Int):Prop:=0<=j/\j<=1000000/\i.natAbs<2 ^ 64
def v7 (i j:Int):Prop:=(-(2 ^ 64)<i/\i<2 ^ 64)\/(-(2 ^ 64)<j/\j<2 ^ 64)
def v7.ok {i j:Int}(h:v7 i j):IntMulOk i j:=by
 rcases h with ⟨h1,h2⟩ | ⟨h1,h2⟩
 .exact .of_left (intBits_le_64 h1 h2)
 .exact .of_right (intBits_le_64 h1 h2)
def VB:yd X (binaryOp .Add) (vm λ i j=>.int (i+j)):=cm λ _ _ _ _ _ _ _ q=>add_int q
def Vp:yd X (binaryOp .Sub) (vm λ i j=>.int (i-j)):=cm λ _ _ _ _ _ _ _ q=>sub_int q
def Vv:yd X (binaryOp .Mult) (rI v7 λ i j=>.int (i*j)):=qJ λ _ _ _ _ _ _ _ hc q=>mul_int q hc.ok
def V6:yd X (binaryOp .FloorDiv) (rI xP λ i j=>.int (i/j)):=qJ λ i j _ _ _ _ _ hc q=>by
 have h1:(0:Int)<j:=hc.1;have h2:j<1073741824:=hc.2;exact floordiv_int (by omega) (by rw[Int.fdiv_eq_ediv_of_nonneg i (by omega)];exact q) (.inl (PyProof.noPylong_small (by omega)))
def Vx:yd X (binaryOp .Mod) (rI (λ _ j=>0<j) λ i j=>.int (i%j)):=qJ λ i j _ _ _ _ _ hc q=>by
 have h1:(0:Int)<j:=hc;exact mod_int' (by omega) (by rw[Int.fmod_eq_emod_of_nonneg i (by omega)];exact q)
def Vq:yd X (binaryOp .Pow) (rI rn λ i j=>.int (i ^ j.toNat)):=qJ λ _ _ _ _ _ _ _ hc q=>pow_int_small hc.1 hc.2.1 hc.2.2 q
def Yp {f:Value->Sem Value}{g:Int->Int}
  (rule:∀ (i:Int) (t:Tok) (s:Shared) (Q:Value->Shared->Prop) (E:Value->Shared->Prop),Q (.int (g i) s.toks) { s with toks:=s.toks+1 }->wpAny (model X.prog X.w) X.A (f (.int i t)) Q E s):
  gy X f (rU λ i=>.int (g i)):=by
 intro pins s O H x v Q I rx h;obtain⟨i,rfl,q⟩:=h;obtain⟨t,rfl⟩:=rx;exact rule i t s _ _ ⟨.int (g i),H,I.tok _,⟨_,rfl⟩,q⟩
def Yo:gy X (unaryOp .USub) (rU λ i=>.int (-i)):=Yp λ _ _ _ _ _ q=>neg_int q
end
section
variable {X:Cx}{a b c:Expr}{ta tb tc:TE}{pos:Pos}
def Ri {pins:List (Addr×Obj)}{O:St}{H:Hp}{s:Shared}{Q:VK}{k k':Bool}(I:Inv X pins O H s) (q:Q (.bl k) H) (e:k=k'):EP X pins O Q (.bool k') s:=by
 subst e;exact⟨.bl k,H,I,rfl,q⟩
def V0:yd X (compareOp .Lt) (vm λ i j=>.bl (decide (i<j))):=j9 λ _ _ _ _ _ _ _ q=>lt_int q
def j8:yd X (compareOp .LtE) (vm λ i j=>.bl (decide (i<=j))):=j9 λ _ _ _ _ _ _ _ q=>le_int q
def V4:yd X (compareOp .GtE) (vm λ i j=>.bl (decide (j<=i))):=j9 λ _ _ _ _ _ _ _ q=>ge_int q
def V1:yd X (compareOp .Is) (λ x y H Q=>y=.zi/\Q (.bl (decide (x=.zi))) H):=by
 intro pins s O H x y v u Q I rx ry h;obtain⟨rfl,q⟩:=h;cases ry;refine is_none_gen (Ri I q ?_);cases x <;> first
  | (cases rx;rfl)
  | (obtain⟨t,rfl⟩:=rx;rfl)
def yd.or {f:Value->Value->Sem Value}{r r':R2}(h:yd X f r) (h':yd X f r'):yd X f (λ x y H Q=>r x y H Q\/r' x y H Q):=by
 intro pins s O H x y v u Q I rx ry q;rcases q with q | q
 .exact h pins s O H x y v u Q I rx ry q
 .exact h' pins s O H x y v u Q I rx ry q
def rM (b:Expr) {op:CmpOp}(h:op≠.In:=by decide) (h2:op≠.NotIn:=by decide):behindInMarks op b=false:=by
 have e1:(op == CmpOp.In)=false:=by cases op <;> first | rfl | exact absurd rfl h
 have e2:(op == CmpOp.NotIn)=false:=by cases op <;> first | rfl | exact absurd rfl h2
 cases b <;> simp[behindInMarks,e1,e2]
def WH {op:CmpOp}{r:R2}(ho:yd X (compareOp op) r) (ha:PE X a ta) (hb:PE X b tb) (hm:behindInMarks op b=false):PE X (.Compare a [op] [b] pos) (pP r ta tb):=by
 intro pins s O H Q I h;exact wpAny_Compare1 (gg ha hb I h λ v u s2 x y H2 I2 rx ry q=>ho pins s2 O H2 x y v u Q I2 rx ry q) hm
def Y4 (t:TE):TT:=fun O H Q=>t O H λ x H'=>∃ k,x=.bl k/\Q k H'
def XS {op:CmpOp}{r:R2}(ho:yd X (compareOp op) r) (ha:PE X a ta) (hb:PE X b tb) (hm:behindInMarks op b=false):PT X (.Compare a [op] [b] pos) (Y4 (pP r ta tb)):=by
 intro pins s O H Q I h;refine wpAny_isTrue_Compare1 (zF (ha pins s O H _ I h) λ v s1 ⟨x,H1,I1,r1,q1⟩=>zF (hb pins s1 O H1 _ I1 q1) λ u s2 ⟨y,H2,I2,r2,q2⟩=>
  zF (ho pins s2 O H2 x y v u _ I2 r1 r2 q2) λ c s3 ⟨z,H3,I3,r3,k,e,q3⟩=>?_) hm
 subst e;cases r3;exact wpAny_truthy_bool ⟨H3,I3,q3⟩
def eG (r r':R2) (ta tb tc:TE):TE:=fun O H Q=>ta O H λ x H1=>tb O H1 λ y H2=>r x y H2 λ z H3=>∃ k,z=.bl k/\
 (if k=true then tc O H3 λ w' H4=>r' y w' H4 Q else Q (.bl false) H3)
def WI {op op':CmpOp}{r r':R2}(ho:yd X (compareOp op) r) (ho':yd X (compareOp op') r') (ha:PE X a ta) (hb:PE X b tb) (hc:PE X c tc)
  (hm:lastMarks [op,op'] [b,c]=false:=by with_unfolding_all rfl):PE X (.Compare a [op,op'] [b,c] pos) (eG r r' ta tb tc):=by
 intro pins s O H Q I h;refine Compare_chain (zF (ha pins s O H _ I h) λ v s1 ⟨x,H1,I1,r1,q1⟩=>chain_link (zF (hb pins s1 O H1 _ I1 q1) λ u s2 ⟨y,H2,I2,r2,q2⟩=>
  zF (ho pins s2 O H2 x y v u _ I2 r1 r2 q2) λ d s3 ⟨z,H3,I3,r3,k,e,q3⟩=>?_)) hm
 subst e;cases r3;refine wpAny_truthy_bool ?_;cases k with
 | false=>exact ite_ff ⟨.bl false,H3,I3,rfl,q3⟩
 | true=>exact ite_tt (chain_last (zF (hc pins s3 O H3 _ I3 q3) λ w' s4 ⟨z',H4,I4,r4,q4⟩=>ho' pins s4 O H4 y z' u w' Q I4 r2 r4 q4))
def gz (K:zFr) (x:V) (H:Hp) (k:Bool):Prop:=
 match x with
 | .zi=>k=false
 | .bl b=>k=b
 | .int i=>k=(i != 0)
 | .str y=>y.length<=sizeLine/\k=((y.length:Int) != 0)
 | .pj y=>y.size<=sizeLine/\k=((y.size:Int) != 0)
 | .ref p=>(∃ xs,zN K H p xs/\k=!xs.isEmpty)\/(∃ xs,zS K H p xs/\k=!xs.isEmpty)\/∃ kvs,H p=some (.dK kvs)/\k=!kvs.isEmpty
 | _=>False
def T_ {κ:Type}{kvs:List (κ × V)}{vs:List (κ × Value)}(r:KV kvs vs):(!vs.isEmpty)=!kvs.isEmpty:=by
 cases r <;> rfl
def b5 {xs:List V}{its:List Value}(r:Vals xs its):(!its.toArray.isEmpty)=!xs.isEmpty:=by
 cases r <;> simp
def rP:(sizeLine:Nat)<2 ^ 63:=by rw[sizeLine_eq];decide
def Yz:QA X (λ x H Q=>∃ k,gz X.K x H k/\Q k H):=by
 intro pins s O H x v Q I rx h;obtain⟨k,e,q⟩:=h;have hl:=rP;have hs:sizeLine=16777216:=sizeLine_eq;cases x with
 | zi=>
  cases rx;have e':k=false:=e;subst e';exact truthy_none ⟨H,I,q⟩
 | bl b=>
  cases rx;have e':k=b:=e;subst e';exact wpAny_truthy_bool ⟨H,I,q⟩
 | int i=>
  obtain⟨t,rfl⟩:=rx;have e':k=(i != 0):=e;subst e';exact PySem.P.truthy_int ⟨H,I,q⟩
 | str y=>
  obtain⟨t,rfl⟩:=rx;obtain⟨hy,e'⟩:y.length<=sizeLine/\k=((y.length:Int) != 0):=e;subst e';exact PySem.P.truthy_str (by omega) ⟨H,I.tok _,q⟩
 | pj y=>
  obtain⟨t,rfl⟩:=rx;obtain⟨hy,e'⟩:y.size<=sizeLine/\k=((y.size:Int) != 0):=e;subst e';exact PySem.W.truthy_bytes (by omega) ⟨H,I.tok _,q⟩
 | ref p=>
  cases rx;have e':(∃ xs,zN X.K H p xs/\k=!xs.isEmpty)\/(∃ xs,zS X.K H p xs/\k=!xs.isEmpty)\/∃ kvs,H p=some (.dK kvs)/\k=!kvs.isEmpty:=e;rcases e' with ⟨xs,hx,e'⟩ | ⟨xs,hx,e'⟩ | ⟨kvs,hx,e'⟩
  .subst e';obtain⟨its,r,pl,hz⟩:=I.list hx;have hlen:=r.length;exact wpAny_truthy_list pl.isList (by simp only[zA0];omega) ⟨H,I.tok _,by rw[b5 r];exact q⟩
  .subst e';obtain⟨its,r,pl,hz⟩:=I.tuple hx;have hlen:=r.length;exact truthy_tuple pl (by simp only[zA0];omega) ⟨H,I.tok _,by rw[b5 r];exact q⟩
  .subst e';obtain⟨hz,hS,vs,r,m⟩:kvs.length<=sizeLine/\(p == sysModules)=false/\∃ vs,KV kvs vs/\s.heap.DictOf (we X.prog X.w) p vs:=I.zw p _ hx;have hlen:kvs.length=vs.length:=Paired.length r;exact wpAny_truthy_dict hS m (by omega) ⟨H,I.tok _,by rw[T_ r];exact q⟩
 | _=>exact (show False from e).elim
def XQ (ha:PE X a ta) (he:∀ whole,isTrue a X.env whole=(do let v <- whole;standAt a.pos;holding [v] (truthy v))):
  PT X a (fun O H Q=>ta O H λ x H'=>∃ k,gz X.K x H' k/\Q k H'):=by
 intro pins s O H Q I h;exact isTrue_plain (zF (ha pins s O H _ I h) λ v s1 ⟨x,H1,I1,r1,q1⟩=>Yz pins s1 O H1 x v Q I1 r1 q1) (he _)
def VA:yd X (binaryOp .Add) (λ x y H Q=>∃ i j,x=.str i/\y=.str j/\i.length+j.length<=sizeLine/\Q (.str (i++j)) H):=by
 intro pins s O H x y v u Q I rx ry h;obtain⟨i,j,rfl,rfl,hz,q⟩:=h;obtain⟨t,rfl⟩:=rx;obtain⟨t',rfl⟩:=ry;exact add_str (λ t' tk=>⟨.str (i++j),H,I.tok _,⟨_,rfl⟩,q⟩) hz
def vals1 {x:V}{us:List Value}(r:Vals [x] us):∃ u,us=[u]/\RelV x u:=by
 cases r with
 | cons r1 r2=>cases r2;exact⟨_,rfl,r1⟩
def vals2 {x y:V}{us:List Value}(r:Vals [x,y] us):∃ u w',us=[u,w']/\RelV x u/\RelV y w':=by
 cases r with
 | cons r1 r2=>
  cases r2 with
  | cons r3 r4=>cases r4;exact⟨_,_,rfl,r1,r3⟩
def Qo:yK X (.builtin "abs") (λ xs H Q=>∃ i,xs=[.int i]/\Q (.int (if i<0 then -i else i)) H):=by
 intro pins s O H xs us Q I r h;obtain⟨i,rfl,q⟩:=h;obtain⟨u,rfl,t,rfl⟩:=vals1 r;exact call_abs_int λ u tk=>⟨.int (if i<0 then -i else i),H,I.tok _,⟨_,rfl⟩,q⟩
def Qh (hc:X.calm=true):yK X (.builtin "max") (λ xs H Q=>∃ i j,xs=[.int i,.int j]/\Q (.int (if j>i then j else i)) H):=by
 intro pins s O H xs us Q I r h;obtain⟨i,j,rfl,q⟩:=h;obtain⟨u,w',rfl,⟨t,rfl⟩,⟨t',rfl⟩⟩:=vals2 r;refine max_two_ints (I.ok.hd hc) λ h' tk k=>⟨_,H,I.kept k,?_,q⟩;by_cases hj:j>i
 .rw[if_pos hj,if_pos hj];exact⟨_,rfl⟩
 .rw[if_neg hj,if_neg hj];exact⟨_,rfl⟩
def Qg (hc:X.calm=true):yK X (.builtin "min") (λ xs H Q=>∃ i j,xs=[.int i,.int j]/\Q (.int (if j<i then j else i)) H):=by
 intro pins s O H xs us Q I r h;obtain⟨i,j,rfl,q⟩:=h;obtain⟨u,w',rfl,⟨t,rfl⟩,⟨t',rfl⟩⟩:=vals2 r;refine min_two_ints (I.ok.hd hc) λ h' tk k=>⟨_,H,I.kept k,?_,q⟩;by_cases hj:j<i
 .rw[if_pos hj,if_pos hj];exact⟨_,rfl⟩
 .rw[if_neg hj,if_neg hj];exact⟨_,rfl⟩
end
section
variable {prog:Program}{w:World}{A:Around}{E:Value->Shared->Prop}{s:Shared}{K:zFr}{x dx C f:Addr}{mA:Str->Option Value}{name:Str}{v:Value}
end
def vS.some_of {v:V}{o:Option Value}(r:vS (some v) o):∃ u,o=some u/\RelV v u:=by
 cases o with
 | none=>exact (show False from r).elim
 | some u=>exact⟨u,rfl,r⟩
section
variable {P:Program}{w:World}{H H':Hp}{h h':Heap}{a C dx:Addr}{fs fs':List (Str×V)}
end
section
variable {X:Cx}{pins:List (Addr×Obj)}{O:St}{H:Hp}{s:Shared}{a C dx:Addr}{fs:List (Str×V)}{f:Str}{v:V}{A:Around}{E:Value->Shared->Prop}
end
section
variable {X:Cx}{o e value:Expr}{f:Str}{pos pos' tpos:Pos}{ta tv:TE}
end
section
variable {X:Cx}{pins:List (Addr×Obj)}{O:St}{H:Hp}{s:Shared}{A:Around}{E:Value->Shared->Prop}{Q:Value->Shared->Prop}{c:Value}{b:Bool}
end
structure yx (k:Nat) (A:Around):Prop where
 hd:A.handled=none
 dp:A.depth+3*k+5<recursionLimit
 un:A.units+16*k+200<cLine
def yx.mono {j k:Nat}{A:Around}(r:yx k A) (h:j<=k):yx j A:=⟨r.hd,by have:=r.dp;omega,by have:=r.un;omega⟩
theorem yx.deeper {k:Nat}{A:Around}(r:yx (k+1) A) (env:Env):yx k (A.deeper env):=
 ⟨r.hd,by have:=r.dp;show A.depth+1+3*k+5<_;omega,by have:=r.un;show A.units+3+16*k+200<_;omega⟩
theorem yx.depth {k:Nat}{A:Around}(r:yx k A):A.depth<recursionLimit:=by have:=r.dp;omega
theorem yx.units {k:Nat}{A:Around}(r:yx k A):A.units+64<cLine:=by have:=r.un;omega
def k0:TA:=λ _ H Q=>Q [] H
def k6 (ta:TE) (tr:TA):TA:=fun O H Q=>ta O H λ x H1=>tr O H1 λ xs H2=>Q (x::xs) H2
section
variable {X:Cx}{e:Expr}{es:List Expr}{te:TE}{t:TA}{pos:Pos}
def qI:PA X [] k0:=λ _ _ _ _ H Q I h=>Calls.spliced_nil ⟨[],H,I,.nil,h⟩
def rL (ha:PE X e te) (hr:PA X es t) (hs:starEach (e::es) X.env=(false,eval e X.env)::starEach es X.env:=by rfl):PA X (e::es) (k6 te t):=by
 intro pos pins s O H Q I h;rw[hs];show wpAny _ _ (spliced ((false,eval e X.env)::backTo pos (starEach es X.env))) _ _ s;refine Calls.spliced_cons (zF (ha pins s O H _ I h) λ u s1 ⟨x,H1,I1,r1,q1⟩=>?_);exact zF (hr pos pins s1 O H1 _ I1 q1) λ us s2 ⟨xs,H2,I2,r2,q2⟩=>⟨x::xs,H2,I2,.cons r1 r2,q2⟩
def Y3 (t:TA):TE:=fun O H Q=>t O H λ xs H1=>xs.length<=sizeLine/\∀ p,H1 p=none->Q (.ref p) (upd H1 p (.tup xs))
def YB (t:TA):TE:=fun O H Q=>t O H λ xs H1=>xs.length<=sizeLine/\∀ p,H1 p=none->Q (.ref p) (upd H1 p (.lst xs))
def W0 {x1} (h:PA X es t):PE X (.Tuple es x1 pos) (Y3 t):=by
 intro pins s O H Q I hq;refine wpAny_Tuple_spliced (zF (h pos pins s O H _ I hq) λ us s1 ⟨xs,H1,I1,r,z,q⟩=>⟨by rw[<- r.length];exact z,?_⟩);have hf:H1 s1.heap.objs.size=none:=I1.zw.fresh (zA4 _);refine⟨.ref s1.heap.objs.size,upd H1 s1.heap.objs.size (.tup xs),I1.laid (t':=s1.toks) (λ b u e=>zHp _ e) (zA4 _) ?_,rfl,q _ hf⟩;exact⟨z,us,r,⟨_,zA9 _ rfl,rfl,_,rfl⟩⟩
def W7 (h:PA X es t):PE X (.List es pos) (YB t):=by
 intro pins s O H Q I hq;refine wpAny_List_spliced (zF (h pos pins s O H _ I hq) λ us s1 ⟨xs,H1,I1,r,z,q⟩=>⟨by rw[<- r.length];exact z,?_⟩);have hf:H1 s1.heap.objs.size=none:=I1.zw.fresh (zA4 _);refine⟨.ref s1.heap.objs.size,upd H1 s1.heap.objs.size (.lst xs),I1.laid (t':=s1.toks) (λ b u e=>zHp _ e) (zA4 _) ?_,rfl,q _ hf⟩;exact⟨z,us,0,r,zA9 _ rfl⟩
end
abbrev Sp:=List V->Hp->VK->XK->Prop
abbrev uw:=List Env->Hp->Shared->XK->Value->Shared->Prop
structure ke (P:Program) (w:World) (K:zFr) (mg:Str->Option Value) (base:Heap) (A:Around) (outer:List Env) (s:Shared) (H:Hp):Prop where
 frames:A.frames=some outer
 mod:Mod K mg base
 bs:∀ b o,base.get? b=some o->s.heap.get? b=some o/\H b=none
 qa:base.objs.size<=s.heap.objs.size
 ug:s.heap.FunFrames base outer
 qZ:∀ b∈vu outer,H b=none
 zw:yS P w H s.heap
 bare:AllBare s.gens
def CE (outer:List Env) (P:Program) (w:World) (H:Hp) (s:Shared) (Q:VK) (u:Value) (s':Shared):Prop:=
 ∃ v H',s'.os=s.os/\AllBare s'.gens/\Un (vu outer) [] H H' s.heap s'.heap/\yS P w H' s'.heap/\RelV v u/\Q v H'
def CR (CX:uw) (outer:List Env) (P:Program) (w:World) (H:Hp) (s:Shared) (Q:VK) (E:XK) (r:Result) (s':Shared):Prop:=
 match r with
 | .ok (.ret u)=>CE outer P w H s Q u s'
 | .ok _=>False
 | .error e=>CX outer H s E e s'
structure vY (P:Program) (w:World) (K:zFr) (mg:Str->Option Value) (base:Heap) (CX:uw) (k:Nat) (f:Addr) (fd:FuncData) (ps:List Str) (sp:Sp):Prop where
 len:∀ vs H Q E,sp vs H Q E->vs.length=ps.length
 run:∀ (A:Around) (outer:List Env) (s:Shared) (H:Hp) (args:Args) (us:List Value) (vs:List V) (Q:VK) (E:XK),yx k A->ke P w K mg base A outer s H->BindsTo s fd args (ps.zip us)->Vals vs us->sp vs H Q E->
  codeAny (model P w) A (.call (.ref f) args) (CR CX outer P w H s Q E) s
section
variable {X:Cx}{pins:List (Addr×Obj)}{O:St}{H:Hp}{s s':Shared}
def Inv.Rt (I:Inv X pins O H s):ke X.prog X.w X.K X.mg X.base X.A X.stack s H:=
 ⟨I.ok.frames,I.ok.mod,I.bs,zE0 I.ok.qa I.sz,I.stack,I.eJ,I.zw,I.bare⟩
def Inv.after {Q:VK}{u:Value}(I:Inv X pins O H s) (h:CE X.stack X.prog X.w H s Q u s'):EP X pins O Q u s':=by
 obtain⟨v,H',os,bare,un,zw,r,q⟩:=h;obtain⟨hh,g,d,t,os'⟩:=s';obtain rfl:os'=s.os:=os;exact⟨v,H',I.call (h':=hh) (g':=g) (d':=d) (t':=t) (ch:=[]) un zw bare (λ b z=>absurd z (by simp)),r,q⟩
end
def eI (sp:Sp) (dvs:List V) (E:XK) (t:TA):TE:=fun O H Q=>t O H λ vs H1=>sp (vs++dvs) H1 Q E
def Binds (K:zFr) (fd:FuncData) (ps:List Str) (ds:List Value):Prop:=
 ∀ (s:Shared) (us:List Value),K.In s.heap->(us++ds).length=ps.length->BindsTo s fd ⟨us,[]⟩ (ps.zip (us++ds))
def Binds.all {K:zFr}{fd:FuncData}{ps:List Str}(h:∀ us:List Value,us.length=ps.length->bindArgs fd ⟨us,[]⟩=pure (ps.zip us)):Binds K fd ps []:=λ s us _ hl=>by
 rw[List.append_nil] at hl ⊢;exact .of_eq (h us hl)
def Passes (CX:uw) (X:Cx) (E:XK):Prop:=∀ (pins:List (Addr×Obj)) (O:St) (H:Hp) (s:Shared) (e:Value) (s':Shared),Inv X pins O H s->CX X.stack H s E e s'->X.xe e s'
section
variable {X:Cx}{CX:uw}{k:Nat}{f C:Addr}{fd:FuncData}{ps:List Str}{sp:Sp}{dvs:List V}{ds:List Value}{E:XK}{x m:Str}{p pos apos:Pos}{e o:Expr}{es:List Expr}{ta:TE}{t:TA}
def Xw {pins:List (Addr×Obj)}{O:St}{H:Hp}{s:Shared}{Q:VK}{us:List Value}{vs:List V}(F:vY X.prog X.w X.K X.mg X.base CX k f fd ps sp) (hr:yx k X.A) (hb:Binds X.K fd ps ds) (hd:Vals dvs ds) (hx:Passes CX X E)
  (I:Inv X pins O H s) (r:Vals vs us) (h:sp (vs++dvs) H Q E):wpAny (model X.prog X.w) X.A (call (.ref f) us) (EP X pins O Q) X.xe s:=by
 have r2:Vals (vs++dvs) (us++ds):=r.append hd;have hl:(us++ds).length=ps.length:=by rw[<- r2.length];exact F.len _ _ _ _ h
 refine wpAny_call (codeAny_mono (F.run X.A X.stack s H ⟨us,[]⟩ (us++ds) (vs++dvs) Q E hr I.Rt (hb s us I.vt hl) r2 h) λ r s' hq=>?_);cases r with
 | error e=>exact hx pins O H s e s' I hq
 | ok fl=>
  cases fl with
  | ret u=>exact I.after hq
  | next=>exact False.elim hq
  | brk=>exact False.elim hq
  | cont=>exact False.elim hq
def WJ (F:vY X.prog X.w X.K X.mg X.base CX k f fd ps sp) (hr:yx k X.A) (hg:Gl X x) (hm:X.mg x=some (.ref f)) (hk:PySem.W.keepIn X.K (.ref f)=true) (hb:Binds X.K fd ps ds) (hd:Vals dvs ds) (hx:Passes CX X E)
  (ha:PA X (e::es) t) (hdb:(x == ("__debug__":Str))=false:=by decide) (he:starEach (e::es) X.env=(false,eval e X.env)::starEach es X.env:=by rfl) (hpl:(backTo pos (starEach es X.env)).any (·.1)=false:=by rfl):
  PE X (.Call (.Name x p) (e::es) [] pos) (eI sp dvs E t):=by
 intro pins s O H Q I h;refine wpAny_Call_Name_kw (cZ I hg hm ?_ hdb);refine PySem.W.callWith_K (h₀:=X.base) I.ok.mod.ia hk (zF (ha pos pins s O H _ I h) λ us s1 ⟨vs,H1,I1,r,q⟩=>⟨I1.vt,?_⟩) he hpl;exact Xw F hr hb hd hx I1 r q
end
section
variable {X:Cx}{CX:uw}{k:Nat}{f C:Addr}{fd:FuncData}{ps ks:List Str}{sp:Sp}{E:XK}{x m:Str}{p pos apos kpos:Pos}{e o:Expr}{es:List Expr}{kws:List Keyword}{te ta:TE}{t tk:TA}{nm:Option Str}
variable {g:List Value->List Value->List Value}{gV:List V->List V->List V}
end
structure yj (N P:List Str) (sc:Scope):Prop where
 kind:sc.kind=.function
 co:sc.isCoroutine=false
 gen:sc.isGenerator=false
 nd:N.Nodup
 pre:N.take P.length=P
 par:∀ x∈P,sc.names.lookup x=some .local\/sc.names.lookup x=some .cell
 UO:∀ y∈sc.names,y.2≠.free
theorem a_ {kindOf:Str->Option NameKind}{x:Str}:∀ {binds:List (Str×Value)}{m:Str->Option Value},(∀ v,(x,v)∉binds)->bindL kindOf binds m x=m x
 | [],_,_=>rfl
 | (n,v)::r,m,h=>by
  unfold bindL;rw[a_ λ w hw=>h w (zMo _ hw)];split
  .have:x≠n:=by rintro rfl;exact h v zMc
   simp[this]
  .rfl
theorem Zb {kindOf:Str->Option NameKind}{x:Str}:∀ {binds:List (Str×Value)}{m:Str->Option Value},(∀ v,(x,v)∉binds)->bindC kindOf binds m x=m x
 | [],_,_=>rfl
 | (n,v)::r,m,h=>by
  unfold bindC;rw[Zb λ w hw=>h w (zMo _ hw)];split
  .rfl
  .have:x≠n:=by rintro rfl;exact h v zMc
   simp[this]
theorem Za {kindOf:Str->Option NameKind}{x:Str}{v:Value}:∀ {P:List Str}{vs:List Value}{i:Nat}{m:Str->Option Value},P.Nodup->P[i]?=some x->vs[i]?=some v->kindOf x=some .local->
  bindL kindOf (P.zip vs) m x=some v
 | [],_,_,_,_,h,_,_=>by simp at h
 | _::_,[],_,_,_,_,h,_=>by simp at h
 | p::P,w::vs,0,m,nd,h1,h2,hk=>by
  simp at h1 h2;subst h1;subst h2;show bindL kindOf ((p,w)::P.zip vs) m p=_;unfold bindL;rw[a_ λ v hv=>(List.nodup_cons.mp nd).1 (List.of_mem_zip hv).1,if_pos hk];simp
 | p::P,w::vs,i+1,m,nd,h1,h2,hk=>by
  show bindL kindOf ((p,w)::P.zip vs) m x=_;unfold bindL;exact Za (i:=i) (List.nodup_cons.mp nd).2 (by simpa using h1) (by simpa using h2) hk
theorem Zc {kindOf:Str->Option NameKind}{x:Str}{v:Value}:∀ {P:List Str}{vs:List Value}{i:Nat}{m:Str->Option Value},P.Nodup->P[i]?=some x->vs[i]?=some v->kindOf x≠some .local->
  bindC kindOf (P.zip vs) m x=some v
 | [],_,_,_,_,h,_,_=>by simp at h
 | _::_,[],_,_,_,_,h,_=>by simp at h
 | p::P,w::vs,0,m,nd,h1,h2,hk=>by
  simp at h1 h2;subst h1;subst h2;show bindC kindOf ((p,w)::P.zip vs) m p=_;unfold bindC;rw[Zb λ v hv=>(List.nodup_cons.mp nd).1 (List.of_mem_zip hv).1,if_neg hk];simp
 | p::P,w::vs,i+1,m,nd,h1,h2,hk=>by
  show bindC kindOf ((p,w)::P.zip vs) m x=_;unfold bindC;exact Zc (i:=i) (List.nodup_cons.mp nd).2 (by simpa using h1) (by simpa using h2) hk
noncomputable def start (N:List Str) (vs:List V):St:=vs.map some++List.replicate (N.length-vs.length) none
noncomputable def uO (CX:uw) (P:Program) (w:World) (K:zFr) (mg:Str->Option Value) (base:Heap) (N:List Str) (qual:Str) (scope:Scope) (f:Addr) (cd:Value) (A:Around) (outer:List Env) (s:Shared) (H:Hp) (E:XK):Cx where
 prog:=P
 w:=w
 K:=K
 mg:=mg
 base:=base
 A:=A.deeper (envOfC qual scope s.heap.objs.size f cd)
 N:=N
 s₀:=s
 H₀:=H
 env:=envOfC qual scope s.heap.objs.size f cd
 outer:=outer
 stack:=envOfC qual scope s.heap.objs.size f cd::outer
 ex:=[]
 calm:=true
 fn:=λ _=>true
 pn:=[]
 xe:=λ e s'=>wpAny (model P w) (A.deeper (envOfC qual scope s.heap.objs.size f cd)) (leaving (envOfC qual scope s.heap.objs.size f cd) e) (λ _ s''=>CX outer H s E e s'') (λ e' s''=>CX outer H s E e' s'') s'
def aW {sc:Scope}{n:Nat}{x:Str}(h:sc.names.lookup x=some .cell):∃ c,(cellsFrom n sc.names []).lookup x=some c:=by
 have q:=PySem.W.cellsFrom_some sc.names n [] (.inl h);exact Option.isSome_iff_exists.mp q
def Se {CX:uw}{P:Program}{w:World}{K:zFr}{mg:Str->Option Value}{base:Heap}{N ps:List Str}{qual:Str}{scope:Scope}{f:Addr}{cd:Value}{A:Around}{outer:List Env}{s s1:Shared}{H:Hp}{E:XK}{us:List Value}{vs:List V}
  (S:yj N ps scope) (hd:A.handled=none) (e0:ke P w K mg base A outer s H) (hl:vs.length=ps.length) (r:Vals vs us)
  (x:InCallC s s.heap.objs.size (bindL (envOfC qual scope s.heap.objs.size f cd).kindOf (ps.zip us) λ _=>none) (cellsFrom (s.heap.objs.size+1) scope.names []) (bindC (envOfC qual scope s.heap.objs.size f cd).kindOf (ps.zip us) λ _=>none) s1):
  Inv (uO CX P w K mg base N qual scope f cd A outer s H E) [] (start N vs) H s1:=by
 have hpl:ps.length<=N.length:=by have:=congrArg List.length S.pre;rw[List.length_take] at this;omega
 obtain⟨h1,tk,rfl,hk⟩:=x.done;have noA:∀ b:Addr,b∉(uO CX P w K mg base N qual scope f cd A outer s H E).ex:=λ b z=>absurd (show b∈([]:List Addr) from z) (by simp);refine⟨⟨e0.mod,S.kind,rfl,rfl,zA4 _,λ y z c h1 h2=>?_,λ y hy=>?_,λ y c _ h=>?_,λ _=>hd,Around.frames_deeper e0.frames,.inr ⟨rfl,rfl⟩,λ b z=>absurd z (noA b),e0.bs,e0.qa,λ b _ _=>noA b,λ b z=>absurd z (noA b),e0.ug,e0.qZ⟩,
  rfl,e0.bare,Un.kept hk,⟨_,x.toInCall.ns,λ i y v h1 h2 h3=>?_⟩,λ y c h=>⟨_,x.cell y c h⟩,e0.zw.fresh (zA4 _),λ y c h=>?_,λ p hp=>absurd (show p∈([]:List (Addr×Obj)) from hp) (by simp),e0.zw.kept hk,?_⟩
 .exact name_of_addr x.apart (PySem.mem_of_lookup h1) (PySem.mem_of_lookup h2)
 .have hy:scope.names.lookup y=some .cell\/scope.names.lookup y=some .free:=hy;rcases hy with hy | hy
  .exact aW hy
  .exact absurd rfl (S.UO _ (PySem.mem_of_lookup hy))
 .exact zE3 (x.above y c (PySem.mem_of_lookup h))
 .have hi:i<vs.length:=by
   unfold start at h2;by_cases hi:i<vs.length
   .exact hi
   .rw[List.getElem?_append_right (by simpa using hi)] at h2;rw[List.getElem?_replicate] at h2;split at h2 <;> cases h2
  have ha:vs[i]?=some v:=by
   unfold start at h2;rw[List.getElem?_append_left (by simpa using hi),zA3] at h2;cases e:vs[i]? with
   | none=>rw[e] at h2;cases h2
   | some a=>rw[e] at h2;cases h2;rfl
  obtain⟨u,hu,rv⟩:=r.get ha;have hp:ps[i]?=some y:=by
   rw[<- S.pre,List.getElem?_take_of_lt (by omega)];exact h1
  have ndP:ps.Nodup:=by rw[<- S.pre];exact S.nd.sublist (List.take_sublist _ _)
  refine⟨u,rv,?_⟩;rcases S.par y (zB7 hp) with k | k
  .exact .inl ⟨k,Za ndP hp hu k⟩
  .obtain⟨c,e⟩:=aW (n:=s.heap.objs.size+1) k;refine .inr ⟨.inl k,c,e,?_⟩;have q:=x.cell y c e;rw[Zc ndP hp hu (by show scope.names.lookup y≠_;rw[k];decide)] at q;exact q
 .exact e0.zw.fresh (zE3 (x.above y c (PySem.mem_of_lookup h)))
 .unfold start;show _=N.length;rw[zD7,zA7,List.length_replicate];omega
def Rc {CX:uw}{P:Program}{w:World}{K:zFr}{mg:Str->Option Value}{base:Heap}{k:Nat}{f:Addr}{name qual:Str}{params:Arguments}{body:List Stmt}{scope:Scope}{dV kV doc pm cdv ct oc:Value}{an od:Option Addr}
  {osl:Array (Option Value)}{N ps:List Str}{sp:Sp}(lk:K.lookup f=some ⟨oc,od,.func (PySem.W.fnOf name qual params body scope dV kV doc pm an cdv ct),osl⟩) (hcd:PySem.W.codeIn K cdv qual=true) (S:yj N ps scope)
  (len:∀ vs H Q E,sp vs H Q E->vs.length=ps.length)
  (hbody:∀ (A:Around) (outer:List Env) (s:Shared) (H:Hp) (vs:List V) (Q:VK) (E:XK),yx k (A.deeper (envOfC qual scope s.heap.objs.size f cdv))->sp vs H Q E->
   ∃ t,xC (uO CX P w K mg base N qual scope f cdv A outer s H E) body t/\t { nx:=λ _ H'=>Q .zi H',rt:=Q } (start N vs) H):
  vY P w K mg base CX (k+1) f (PySem.W.fnOf name qual params body scope dV kV doc pm an cdv ct) ps sp:=by
 refine⟨len,λ A outer s H args us vs Q E hr e0 hb r hsp=>?_⟩;have hl:=len _ _ _ _ hsp;have KX:K.In s.heap:=e0.mod.ia.keeps λ b o e=>(e0.bs b o e).1;have lim:s.heap.NoLimit:=e0.mod.nolimit.keeps λ b o e=>(e0.bs b o e).1;have hkind:∀ y∈ps.zip us,scope.names.lookup y.1=some .local\/(scope.names.lookup y.1=some .cell/\((cellsFrom (s.heap.objs.size+1) scope.names []).lookup y.1).isSome=true):=λ⟨n,v⟩ hy=>by
  rcases S.par n (List.of_mem_zip hy).1 with q | q
  .exact .inl q
  .exact .inr ⟨q,PySem.W.cellsFrom_some _ _ _ (.inl q)⟩
 refine codeAny_call_function hr.depth (KX _ _ lk) rfl S.co S.gen rfl (PySem.W.codeRec_of KX hcd) (hb _ _ _ _ ?_);refine wpAny_newFunctionEnv_cells S.kind hkind λ env he s1 x=>?_;subst he;refine⟨lim.keeps x.toInCall.keep,codeAny_func ?_⟩;obtain⟨t,ht,hq⟩:=hbody A outer s H vs Q E (hr.deeper _) hsp;have I:Inv (uO CX P w K mg base N qual scope f cdv A outer s H E) [] (start N vs) H s1:=Se S hr.hd e0 hl r x;refine wpAny_mono (ht [] s1 (start N vs) H _ I hq) (λ fl s' hs=>?_) λ e s' hs=>hs;have fin:∀ {O':St}{H':Hp}{v:V}{u:Value},Inv (uO CX P w K mg base N qual scope f cdv A outer s H E) [] O' H' s'->RelV v u->Q v H'->CE outer P w H s Q u s':=
  λ{O' H' v u} J rv q=>⟨v,H',J.os,J.bare,J.base,J.zw,rv,q⟩
 cases fl with
 | ret u=>
  obtain⟨v,O',H',J,rv,q⟩:=hs;exact fin J rv q
 | next=>
  obtain⟨O',H',J,q⟩:=hs;exact fin (v:=V.zi) (u:=Value.none) J rfl q
 | brk=>
  obtain⟨_,_,_,q⟩:=hs;exact False.elim q
 | cont=>
  obtain⟨_,_,_,q⟩:=hs;exact False.elim q
section
variable {X:Cx}{x:Str}{p pos:Pos}{e:Expr}{es:List Expr}{t:TA}{id T:String}{r:List V->Hp->VK->Prop}
def m5 (r:List V->Hp->VK->Prop) (t:TA):TE:=fun O H Q=>t O H λ vs H1=>r vs H1 Q
def su (hc:yK X (.builtin id) r) (hg:Gl X x) (hm:X.mg x=none) (hv:bootBuiltins x=some (.builtin id)) (ha:PA X (e::es) t) (hn:x≠"__name__":=by decide) (hdb:(x == ("__debug__":Str))=false:=by decide)
  (he:starEach (e::es) X.env=(false,eval e X.env)::starEach es X.env:=by rfl) (hpl:(backTo pos (starEach es X.env)).any (·.1)=false:=by rfl):PE X (.Call (.Name x p) (e::es) [] pos) (m5 r t):=by
 intro pins s O H Q I h;refine wpAny_Call_Name_kw (qQ I hg hm hv ?_ hn hdb);exact PyProof.Rows.callWith_builtin1 (zF (ha pos pins s O H _ I h) λ us s1 ⟨vs,H1,I1,r1,q1⟩=>hc pins s1 O H1 vs us Q I1 r1 q1) he hpl
def oj (hc:yK X (.type T) r) (hg:Gl X x) (hm:X.mg x=none) (hv:bootBuiltins x=some (.type T)) (ha:PA X (e::es) t) (hn:x≠"__name__":=by decide) (hdb:(x == ("__debug__":Str))=false:=by decide)
  (he:starEach (e::es) X.env=(false,eval e X.env)::starEach es X.env:=by rfl) (hpl:(backTo pos (starEach es X.env)).any (·.1)=false:=by rfl):PE X (.Call (.Name x p) (e::es) [] pos) (m5 r t):=by
 intro pins s O H Q I h;refine wpAny_Call_Name_kw (qQ I hg hm hv ?_ hn hdb);exact PyProof.Rows.callWith_type1 (zF (ha pos pins s O H _ I h) λ us s1 ⟨vs,H1,I1,r1,q1⟩=>hc pins s1 O H1 vs us Q I1 r1 q1) he hpl
end
end L2
namespace HT
open PySem PyProof.Rows
noncomputable def lexLt:List Int->List Int->Bool
 | [],[]=>false
 | [],_::_=>true
 | _::_,[]=>false
 | x::xs,y::ys=>if x=y then lexLt xs ys else decide (x<y)
def sI (x y:Int) (xs ys:List Int):lexLt (x::xs) (y::ys)=if x=y then lexLt xs ys else decide (x<y):=rfl
def Ts:lexLt [] []=false:=rfl
def Tt (y:Int) (ys:List Int):lexLt [] (y::ys)=true:=rfl
def Tu (x:Int) (xs:List Int):lexLt (x::xs) []=false:=rfl
def Rr (A:Around) (s:Shared) (a:Int) (t:Tok) (c:Int) (u:Tok):∃ e,SeqAt.EqAt A s (.int a t) (.int c u) e/\(e=true↔a=c):=
 ⟨(a == c),SeqAt.EqAt.int_int a t c u,by simp⟩
def X7 (A:Around) (s:Shared) (a:Int) (t:Tok) (c:Int) (u:Tok) (prog:Program) (w:World) (E:Value->Shared->Prop) (Q:Value->Shared->Prop) (h:Q (.bool (decide (a<c))) s):
  wpAny (model prog w) A (richCompare .Lt (.int a t) (.int c u)) Q E s:=
 (PyProof.Rows.lt_int h:wpAny (model prog w) A (compareOp .Lt (.int a t) (.int c u)) Q E s)
section
open PySem.SeqAt
open PySem.AutoSeq1 (wpAny_loadPart')
open PySem.MeetsSeq PySem.MeetsSeq2 PySem.MeetsSeq3
def Yx (l b:Addr) (items items2:Array Value) (n n2:Nat) (dd dd2:Option Addr) (sl sl2:Array (Option Value)) (ns ms:List Int) (hi:IntsAre items.toList ns) (hj:IntsAre items2.toList ms):
  Meets (Builtin.«tuple.__lt__» ⟨[.ref l,.ref b],[]⟩)
   (λ _ R s=>s.heap.get? l=some { cls:=.type "tuple",dict:=dd,data:=.seq items n,slots:=sl }/\s.heap.get? b=some { cls:=.type "tuple",dict:=dd2,data:=.seq items2 n2,slots:=sl2 }/\
    R (.ok (.ret (.bool (lexLt ns ms)))) s):=
 .of_wp λ prog w A R s h=>by
  obtain⟨hp,g,d,tk,os⟩:=s;obtain⟨hl,hb,h⟩:=h;have f2:=AutoSeq1.sub_tuple_tuple;have z1:items.size=ns.length:=by rw[<- hi.length];simp
  have z2:items2.size=ms.length:=by rw[<- hj.length];simp
  wp_walk using wpAny_loadPart' hl,wpAny_loadPart' hb,wpAny_forIn_list _ (λ rest b s'=>b.1=none/\s'=⟨hp,g,d,tk,os⟩/\∃ (vs ws:List Value) (ns' ms':List Int),rest=vs.zip ws/\
   IntsAre vs ns'/\IntsAre ws ms'/\ns'.length+items2.size=ms'.length+items.size/\R (.ok (.ret (.bool (lexLt ns' ms')))) ⟨hp,g,d,tk,os⟩) _
  case turn=>
   rintro⟨y,x⟩ rest b s' ⟨hb',rfl,vs,ws,ns',ms',hz,hvi,hwi,hlen,hR⟩;cases hvi with
   | nil=>rw[List.zip_nil_left] at hz;cases hz
   | cons a t hvi'=>
    cases hwi with
    | nil=>rw[List.zip_nil_right] at hz;cases hz
    | cons c u hwi'=>
     rw[List.zip_cons_cons] at hz
     injection hz with hyx hrest
     injection hyx with hy hx
     subst hy hx;rw[sI] at hR;simp only[zC0] at hlen;obtain⟨e,he,hiff⟩:=Rr A.in1 ⟨hp,g,d,tk,os⟩ a t c u;refine zWb (he prog w _ _ ?_);cases e with
     | true=>
      rw[if_pos (hiff.mp rfl)] at hR
      wp_walk
      exact⟨rfl,rfl,_,_,_,_,hrest,hvi',hwi',by omega,hR⟩
     | false=>
      rw[if_neg (λ q=>absurd (hiff.mpr q) Bool.false_ne_true)] at hR;have hri:=X7 A.in1 ⟨hp,g,d,tk,os⟩ a t c u prog w
      wp_walk using hri
      exact⟨_,rfl,by simpa using hR⟩
  case fin=>
   rintro⟨b1,b2⟩ s' ⟨hb',rfl,vs,ws,ns',ms',hz,hvi,hwi,hlen,hR⟩;simp only at hb';subst hb';have hv:lexLt ns' ms'=decide (items.size<items2.size):=by
    cases hvi with
    | nil=>
     cases hwi with
     | nil=>
      simp only[List.length_nil] at hlen;rw[Ts];exact (decide_eq_false (by omega)).symm
     | cons c u hw=>
      simp only[List.length_nil,zC0] at hlen;rw[Tt];exact (decide_eq_true (by omega)).symm
    | cons a t hv=>
     cases hwi with
     | nil=>
      simp only[List.length_nil,zC0] at hlen;rw[Tu];exact (decide_eq_false (by omega)).symm
     | cons c u hw=>
      rw[List.zip_cons_cons] at hz;cases hz
   rw[hv] at hR
   wp_walk
   exact⟨_,rfl,by simpa [Builtin.Tuple.tupleCompareSizes] using hR⟩
  case h=>
   exact⟨rfl,rfl,items.toList,items2.toList,ns,ms,rfl,hi,hj,by omega,h⟩
end
section
variable {prog:Program}{w:World}{A:Around}{E:Value->Shared->Prop}{s:Shared}
def Th {l b:Addr}{items items2:Array Value}{ns ms:List Int}{Q:Value->Shared->Prop}(hl:IsTup s.heap l items) (hb:IsTup s.heap b items2) (hi:IntsAre items.toList ns) (hj:IntsAre items2.toList ms)
  (hu:A.units<cLine) (h:Q (.bool (lexLt ns ms)) s):wpAny (model prog w) A (compareOp .Lt (.ref l) (.ref b)) Q E s:=by
 obtain⟨⟨cls,dd,data,sl⟩,ho,hc,n,hd⟩:=id hl;obtain⟨⟨cls2,dd2,data2,sl2⟩,ho2,hc2,n2,hd2⟩:=id hb;simp only at hc hd hc2 hd2;subst hc hd hc2 hd2;exact richCompare_meets_room (op:=.Lt) ⟨_,ho,rfl⟩ ⟨_,ho2,rfl⟩ PySem.F.slot_tuple_lt PySem.F.entry_tuple_lt (PySem.F.args_tuple_lt_2 _ _) (Yx l b items items2 n n2 dd dd2 sl sl2 ns ms hi hj)
  ⟨ho,ho2,show Value.bool (lexLt ns ms)≠Value.notImplemented/\Q (.bool (lexLt ns ms)) s from ⟨(λ x=>nomatch x),h⟩⟩ hu
def RW {t b:Addr}{vs ws:List Value}{Q:Value->Shared->Prop}(ht:IsTup s.heap t vs.toArray) (hb:IsTup s.heap b ws.toArray) (hv:vs≠[])
  (h1:ws=[]->Q (.ref t) s) (h2:ws≠[]->Q (.ref s.heap.objs.size) { s with heap:=s.heap.push { cls:=.type "tuple",data:=.seq (vs++ws).toArray } })
  (hsz:vs.length+ws.length<=sizeLine):wpAny (model prog w) A (binaryOp .Add (.ref t) (.ref b)) Q E s:=by
 obtain⟨⟨cls,dd,data,sl⟩,ho,hc,n,hd⟩:=id ht;obtain⟨⟨cls2,dd2,data2,sl2⟩,ho2,hc2,n2,hd2⟩:=id hb;simp only at hc hd hc2 hd2;subst hc hd hc2 hd2;have e:vs.toArray++ws.toArray=(vs++ws).toArray:=by simp
 by_cases hw:ws=[]
 .exact concat_meets ⟨_,ho,rfl⟩ ⟨_,ho2,rfl⟩ noFill_tuple_add seq_tuple_add PySem.F.slot_tuple_add PySem.F.entry_tuple_add (PySem.F.args_tuple_add_2 _ _)
   (tuple_addW1 t b vs.toArray ws.toArray n n2 dd dd2 sl sl2 (by simpa using hv) (by simp[hw])) ⟨ho,ho2,h1 hw⟩
 .refine concat_meets ⟨_,ho,rfl⟩ ⟨_,ho2,rfl⟩ noFill_tuple_add seq_tuple_add PySem.F.slot_tuple_add PySem.F.entry_tuple_add (PySem.F.args_tuple_add_2 _ _)
   (tuple_addW2 t b vs.toArray ws.toArray n n2 dd dd2 sl sl2 (by simpa using hv) (by simpa using hw) (by rw[zA0,zA0];exact hsz)) ⟨ho,ho2,?_⟩
  rw[e];exact h2 hw
end
end HT
namespace L2
open PySem PySem.Spec PyProof.Rows
def intsAre_of {ns:List Int}:∀ {us:List Value},Vals (ns.map V.int) us->IntsAre us ns:=by
 induction ns with
 | nil=>intro us r;rw[List.map_nil] at r;cases r;exact .nil
 | cons n ns ih=>
  intro us r;rw[zA6] at r;cases r with
  | cons r1 r2=>
   obtain⟨t,e⟩:=r1;subst e;exact .cons n t (ih r2)
section
variable {X:Cx}{e:Expr}{te:TE}{lo hi:Option Expr}{tl th:TO}{pos p2:Pos}
def jn (K:zFr):R2:=λ x y H Q=>∃ a b ns ms,x=.ref a/\y=.ref b/\zS K H a (ns.map V.int)/\zS K H b (ms.map V.int)/\Q (.bl (HT.lexLt ns ms)) H
def Vz (hu:X.A.units<cLine):yd X (compareOp .Lt) (jn X.K):=by
 intro pins s O H x y v u Q I rx ry h;obtain⟨a,b,ns,ms,rfl,rfl,ha,hb,q⟩:=h;cases rx;cases ry;obtain⟨its,r1,p1,_⟩:=I.tuple ha;obtain⟨its2,r2,p2,_⟩:=I.tuple hb;have i1:IntsAre its.toArray.toList ns:=intsAre_of r1;have i2:IntsAre its2.toArray.toList ms:=intsAre_of r2;exact HT.Th p1 p2 i1 i2 hu ⟨.bl (HT.lexLt ns ms),H,I,rfl,q⟩
def dA (K:zFr):R2:=λ x y H Q=>∃ a b xs ys,x=.ref a/\y=.ref b/\zS K H a xs/\zS K H b ys/\xs≠[]/\xs.length+ys.length<=sizeLine/\
 (ys=[]->Q (.ref a) H)/\(ys≠[]->∀ p,H p=none->Q (.ref p) (upd H p (.tup (xs++ys))))
def Vals.o5 {xs:List V}{us:List Value}(r:Vals xs us):us=[]↔xs=[]:=by
 cases r with
 | nil=>simp
 | cons _ _=>simp
def V8:yd X (binaryOp .Add) (dA X.K):=by
 intro pins s O H x y v u Q I rx ry h;obtain⟨a,b,xs,ys,rfl,rfl,ha,hb,hx,hz,q1,q2⟩:=h;cases rx;cases ry;obtain⟨its,r1,p1,_⟩:=I.tuple ha;obtain⟨its2,r2,p2,_⟩:=I.tuple hb;refine HT.RW p1 p2 (λ z=>hx (r1.o5.mp z)) (λ z=>⟨.ref a,H,I,rfl,q1 (r2.o5.mp z)⟩) (λ z=>?_) (by rw[<- r1.length,<- r2.length];exact hz);refine⟨.ref s.heap.objs.size,_,I.laid (t':=s.toks) (o:=.tup (xs++ys)) (λ b ob q=>zHp _ q) (zA4 _) ?_,rfl,q2 (λ w=>z (r2.o5.mpr w)) _ (I.zw.fresh (zA4 _))⟩;exact⟨by rw[zD7];exact hz,_,r1.append r2,IsTup.new _ _⟩
end
noncomputable def wG (n:Nat) (i:Int):Option Nat:=if 0<=i then (if i<n then some i.toNat else none) else if -(n:Int)<=i then some (i+n).toNat else none
noncomputable def zR {α:Type}(xs:List α) (i:Int):Option α:=(wG xs.length i).bind λ j=>xs[j]?
def bo {n:Nat}{i:Int}{j:Nat}(h:wG n i=some j):seqIndex? i n=some j/\j<n/\-(n:Int)<=i/\i<n:=by
 unfold wG at h;by_cases h0:0<=i
 .rw[if_pos h0] at h;by_cases h1:i<n
  .rw[if_pos h1] at h;have e:i.toNat=j:=zD5 h;exact⟨by rw[seqIndex_of h0 h1,e],by omega,by omega,h1⟩
  .rw[if_neg h1] at h;cases h
 .rw[if_neg h0] at h;by_cases h1:-(n:Int)<=i
  .rw[if_pos h1] at h;have e:(i+n).toNat=j:=zD5 h;exact⟨by rw[seqIndex_neg (by omega) h1,e],by omega,h1,by omega⟩
  .rw[if_neg h1] at h;cases h
def gj {α:Type}{xs:List α}{i:Int}{v:α}(h:zR xs i=some v):∃ j,seqIndex? i xs.length=some j/\xs[j]?=some v/\j<xs.length/\-(xs.length:Int)<=i/\i<xs.length:=by
 unfold zR at h;cases e:wG xs.length i with
 | none=>rw[e] at h;cases h
 | some j=>
  rw[e] at h;obtain⟨h1,h2,h3,h4⟩:=bo e;exact⟨j,h1,h,h2,h3,h4⟩
def gi {α:Type}(xs:List α) (v:α):zR (xs++[v]) (-1)=some v:=by
 have hl:(xs++[v]).length=xs.length+1:=by simp
 have e:wG (xs++[v]).length (-1)=some xs.length:=by
  unfold wG;rw[hl,if_neg (by decide),if_pos (by omega)];congr 1;omega
 unfold zR;rw[e];show (xs++[v])[xs.length]?=some v;simp
def Zp (b:Expr):Prop:=∀ o i,subscripted b false o i=operate [o,i] (getItem o i)
def tT (X:Cx) (r:R2):Prop:=
 ∀ (value slice:Expr) (pins:List (Addr×Obj)) (s:Shared) (O:St) (H:Hp) (x y:V) (v u:Value) (Q:VK),Inv X pins O H s->RelV x v->RelV y u->r x y H Q->
  subscripted slice false v u=operate [v,u] (getItem v u)->wpAny (model X.prog X.w) X.A (subscriptTail value slice v u) (EP X pins O Q) X.xe s
def QD (X:Cx) (id:String) (r:V->List V->Hp->VK->Prop):Prop:=
 ∀ (pins:List (Addr×Obj)) (s:Shared) (O:St) (H:Hp) (x:V) (xs:List V) (v:Value) (us:List Value) (Q:VK),Inv X pins O H s->RelV x v->Vals xs us->r x xs H Q->
  wpAny (model X.prog X.w) X.A (call (.builtin id) (v::us)) (EP X pins O Q) X.xe s
section
variable {X:Cx}{a b:Expr}{ta tb:TE}{pos:Pos}
def tT.or {r r':R2}(h:tT X r) (h':tT X r'):tT X (λ x y H Q=>r x y H Q\/r' x y H Q):=by
 intro value slice pins s O H x y v u Q I rx ry q hs;rcases q with q | q
 .exact h value slice pins s O H x y v u Q I rx ry q hs
 .exact h' value slice pins s O H x y v u Q I rx ry q hs
def W9 {r:R2}(hr:tT X r) (ha:PE X a ta) (hb:PE X b tb) (hs:Zp b):PE X (.Subscript a b pos) (pP r ta tb):=by
 intro pins s O H Q I h;exact Subscript_ (gg ha hb I h λ v u s2 x y H2 I2 rx ry q=>hr a b pins s2 O H2 x y v u Q I2 rx ry q (hs _ _))
def dv (K:zFr):R2:=λ x y H Q=>∃ p xs i v,x=.ref p/\y=.int i/\zN K H p xs/\zR xs i=some v/\Q v H
def dr (K:zFr):R2:=λ x y H Q=>∃ p xs i v,x=.ref p/\y=.int i/\zS K H p xs/\zR xs i=some v/\Q v H
def du:R2:=λ x y H Q=>∃ z i c,x=.str z/\y=.int i/\z.length<=sizeLine/\zR z.cps.toList i=some c/\Q (.str ⟨#[c]⟩) H
def TU:tT X (dv X.K):=by
 intro value slice pins s O H x y v u Q I rx ry h hs;obtain⟨p,xs,i,z,rfl,rfl,hq,he,q⟩:=h;cases rx;obtain⟨t,rfl⟩:=ry;obtain⟨its,r,pl,hz⟩:=I.list hq;obtain⟨j,h1,h2,h3,h4,h5⟩:=gj he;obtain⟨w,ew,rw'⟩:=r.get h2;have hl:=r.length;have hn:=rP;have fin:EP X pins O Q w s:=⟨z,H,I,rw',q⟩
 by_cases h0:0<=i
 .have hj:i.toNat=j:=by
   rw[seqIndex_of h0 h5] at h1;exact zD5 h1
  exact item_listR pl.isList h0 (by omega) (by rw[hj];simpa using ew) fin hs
 .have hj:(i+(its.toArray.size:Int)).toNat=j:=by
   rw[seqIndex_neg (by omega) h4] at h1;rw[zA0,<- hl];exact zD5 h1
  exact subscriptTail_builtinR (x:=w) pl.isList.typeIs slot_list_getitem.lookup
   (wpAny_getItem_list_neg (Q:=λ r s'=>r=w/\EP X pins O Q r s') pl.isList (by omega) (by rw[zA0] <;> omega) (by omega) (by rw[hj];simpa using ew) ⟨rfl,fin⟩) hs
def TN:tT X (dr X.K):=by
 intro value slice pins s O H x y v u Q I rx ry h hs;obtain⟨p,xs,i,z,rfl,rfl,hq,he,q⟩:=h;cases rx;obtain⟨t,rfl⟩:=ry;obtain⟨its,r,pl,hz⟩:=I.tuple hq;obtain⟨j,h1,h2,h3,h4,h5⟩:=gj he;obtain⟨w,ew,rw'⟩:=r.get h2;have hl:=r.length;have hn:=rP;have fin:EP X pins O Q w s:=⟨z,H,I,rw',q⟩
 exact subscriptTail_builtinR (x:=w) pl.typeIs slot_tuple_getitem.lookup
  (getItem_tuple (j:=j) (Q:=λ r s'=>r=w/\EP X pins O Q r s') pl (by omega) (by omega) (by rw[zA0,<- hl];exact h1) (by simpa using ew) ⟨rfl,fin⟩) hs
def TQ:tT X du:=by
 intro value slice pins s O H x y v u Q I rx ry h hs;obtain⟨z,i,c,rfl,rfl,hz,he,q⟩:=h;obtain⟨t,rfl⟩:=rx;obtain⟨t',rfl⟩:=ry;obtain⟨j,h1,h2,h3,h4,h5⟩:=gj he;have hl:z.cps.toList.length=z.length:=by simp[Str.length]
 rw[hl] at h1 h4 h5;have hn:=rP;exact tail_any (typeIs_str s z t) slot_str_getitem.lookup (getItem_str (c:=c) (by
  have e1:decide (i < -(2 ^ 63:Int))=false:=decide_eq_false (by omega);have e2:decide (i≥2 ^ 63)=false:=decide_eq_false (by omega);rw[e1,e2,Bool.or_false]) (by rw[h1];simpa using h2) ⟨.str ⟨#[c]⟩,H,I.tok _,⟨_,rfl⟩,q⟩) hs
def dw (K:zFr):R2:=λ x y H Q=>dv K x y H Q\/dr K x y H Q\/du x y H Q
def TR:tT X (dw X.K):=TU.or (TN.or TQ)
def Tg (its:List Value) (n j:Nat) (u:Value):Obj.mapSeq (·.setIfInBounds j u) { cls:=.type "list",data:=.seq its.toArray n }={ cls:=.type "list",data:=.seq (its.set j u).toArray n }:=by
 simp[Obj.mapSeq]
theorem Inv.lst {pins:List (Addr×Obj)}{O:St}{H:Hp}{s:Shared}{p:Addr}{xs:List V}(I:Inv X pins O H s) (h:H p=some (.lst xs)):
  ∃ (its:List Value) (n:Nat),Vals xs its/\s.heap.get? p=some { cls:=.type "list",data:=.seq its.toArray n }/\xs.length<=sizeLine:=by
 obtain⟨z,its,n,r,e⟩:=I.zw p _ h;exact⟨its,n,r,e,z⟩
def Inv.Ti {pins:List (Addr×Obj)}{O:St}{H:Hp}{s:Shared}{p:Addr}{xs ys:List V}{its its':List Value}{n n':Nat}{f:Obj->Obj}(I:Inv X pins O H s) (h:H p=some (.lst xs))
  (ho:s.heap.get? p=some { cls:=.type "list",data:=.seq its.toArray n }) (hf:f { cls:=.type "list",data:=.seq its.toArray n }={ cls:=.type "list",data:=.seq its'.toArray n' }) (r:Vals ys its') (hz:ys.length<=sizeLine) (t:Nat):
  Inv X pins O (upd H p (.lst ys)) { s with heap:=s.heap.update p f,toks:=t }:=by
 have e:(s.heap.update p f).get? p=some { cls:=.type "list",data:=.seq its'.toArray n' }:=by
  rw[Heap.get?_update_self f ho (by rw[hf] <;> rfl),hf]
 refine I.write (x:=p) (e:=p) (by rw[h];trivial) (.inl rfl) (λ b u hb q=>(Heap.get?_update_other _ _ (Ne.symm hb)).trans q) ⟨_,e⟩ ?_;exact⟨hz,its',n',r,e⟩
def XF:V->V->V->Hp->(Hp->Prop)->Prop:=λ o i v H Q=>∃ p xs k j,o=.ref p/\i=.int k/\H p=some (.lst xs)/\wG xs.length k=some j/\Q (upd H p (.lst (xs.set j v)))
def set_list:Zq X XF:=by
 intro pins s O H o i v ov iv u Q I ro ri rv h;obtain⟨p,xs,k,j,rfl,rfl,hp,hj,q⟩:=h;cases ro;obtain⟨t,rfl⟩:=ri;obtain⟨its,n,r,ho,hz⟩:=I.lst hp;obtain⟨h1,h2,h3,h4⟩:=bo hj;have hl:=r.length;have hn:=rP;have I':Inv X pins O (upd H p (.lst (xs.set j v))) { s with heap:=s.heap.update p (Obj.mapSeq (·.setIfInBounds j u)) }:=
  I.Ti hp ho (Tg its n j u) (r.set rv j) (by rw[List.length_set];exact hz) s.toks
 by_cases h0:0<=k
 .have hk:k.toNat=j:=by
   rw[seqIndex_of h0 h4] at h1;exact zD5 h1
  exact PySem.W.ki_setAt ho h0 (by omega) (by rw[zA0,<- hl];exact h4) (by rw[hk];exact⟨_,I',q⟩)
 .have hk:(k+(its.toArray.size:Int)).toNat=j:=by
   rw[seqIndex_neg (by omega) h3] at h1;rw[zA0,<- hl];exact zD5 h1
  exact PySem.W.ki_setBack ho (by omega) (by rw[zA0,<- hl];exact h3) (by omega) (by rw[hk];exact⟨_,I',q⟩)
def Ql:yK X (.builtin "len") (λ xs H Q=>∃ p ys,xs=[.ref p]/\(zN X.K H p ys\/zS X.K H p ys)/\Q (.int ys.length) H):=by
 intro pins s O H xs us Q I r h;obtain⟨p,ys,rfl,hq,q⟩:=h;obtain⟨u,rfl,rx⟩:=vals1 r;cases rx;have hn:=rP;rcases hq with hq | hq
 .obtain⟨its,r',pl,hz⟩:=I.list hq;have hlen:=r'.length;exact Calls.call_len_list pl.isList (by simp only[zA0] <;> omega) ⟨.int ys.length,H,I.tok _,⟨s.toks+1,by rw[zA0,hlen]⟩,q⟩
 .obtain⟨its,r',pl,hz⟩:=I.tuple hq;have hlen:=r'.length;exact len_tuple pl (by simp only[zA0] <;> omega) ⟨.int ys.length,H,I.tok _,⟨s.toks+1,by rw[zA0,hlen]⟩,q⟩
def Qk:yK X (.builtin "len") (λ xs H Q=>∃ z,xs=[.str z]/\z.length<=sizeLine/\Q (.int z.length) H):=by
 intro pins s O H xs us Q I r h;obtain⟨z,rfl,hz,q⟩:=h;obtain⟨u,rfl,t,rfl⟩:=vals1 r;have hn:=rP;exact len_str (by omega) ⟨.int z.length,H,I.tok _,⟨_,rfl⟩,q⟩
def yK.or {f:Value}{r r':List V->Hp->VK->Prop}(h:yK X f r) (h':yK X f r'):yK X f (λ xs H Q=>r xs H Q\/r' xs H Q):=by
 intro pins s O H xs us Q I rs q;rcases q with q | q
 .exact h pins s O H xs us Q I rs q
 .exact h' pins s O H xs us Q I rs q
def Qi:yK X (.type "list") (λ xs H Q=>∃ p ys,xs=[.ref p]/\(zN X.K H p ys\/zS X.K H p ys)/\∀ l,H l=none->Q (.ref l) (upd H l (.lst ys))):=by
 intro pins s O H xs us Q I r h;obtain⟨p,ys,rfl,hq,q⟩:=h;obtain⟨u,rfl,rx⟩:=vals1 r;cases rx;have fin:∀ (its:List Value),Vals ys its->ys.length<=sizeLine->∀ (h':Heap) (c':Nat),(∀ b o',s.heap.get? b=some o'->h'.get? b=some o')->
   h'.get? s.heap.objs.size=some { cls:=.type "list",dict:=none,data:=.seq its.toArray c',slots:=#[] }->EP X pins O Q (.ref s.heap.objs.size) { s with heap:=h' }:=λ its r' hz h' c' kp e=>
  ⟨.ref s.heap.objs.size,_,I.laid (t':=s.toks) kp (zA4 _) (show yZ X.prog X.w _ h' _ (.lst ys) from ⟨hz,its,c',r',e⟩),rfl,q _ (I.zw.fresh (zA4 _))⟩
 rcases hq with hq | hq
 .obtain⟨its,r',pl,hz⟩:=I.list hq;have hlen:=r'.length;obtain⟨o,ho,hc,n,hd⟩:=pl.isList;exact call_list_seq p (.inl rfl) ho hc hd (λ h' c' kp e=>fin its r' hz h' c' kp e) (by simp only[zA0] <;> omega)
 .obtain⟨its,r',pl,hz⟩:=I.tuple hq;have hlen:=r'.length;obtain⟨o,ho,hc,n,hd⟩:=pl;exact call_list_seq p (.inr rfl) ho hc hd (λ h' c' kp e=>fin its r' hz h' c' kp e) (by simp only[zA0] <;> omega)
def RX:yK X (.type "tuple") (λ xs H Q=>∃ p ys,xs=[.ref p]/\((zN X.K H p ys/\∀ l,H l=none->Q (.ref l) (upd H l (.tup ys)))\/(zS X.K H p ys/\Q (.ref p) H))):=by
 intro pins s O H xs us Q I r h;obtain⟨p,ys,rfl,h⟩:=h;obtain⟨u,rfl,rx⟩:=vals1 r;cases rx;rcases h with ⟨hq,q⟩ | ⟨hq,q⟩
 .obtain⟨its,r',pl,hz⟩:=I.list hq;have hlen:=r'.length;refine call_tuple_list pl.isList (λ h' kp=>?_) (by simp only[zA0] <;> omega);have I1:Inv X pins O H { s with heap:=h' }:=I.kept (t':=s.toks) kp;have I2:Inv X pins O (upd H h'.objs.size (.tup ys)) { s with heap:=h'.push { cls:=.type "tuple",data:=.seq its.toArray } }:=
   I1.laid (t':=s.toks) (λ b o e=>zHp _ e) (zA4 _) (show yZ X.prog X.w _ _ _ (.tup ys) from ⟨hz,its,r',IsTup.new _ _⟩)
  exact⟨.ref h'.objs.size,_,I2,rfl,q _ (I1.zw.fresh (zA4 _))⟩
 .obtain⟨its,r',pl,hz⟩:=I.tuple hq;exact call_tuple_same pl ⟨.ref p,H,I,rfl,q⟩
def eA (K:zFr) (T:String) (x:V) (H:Hp):Prop:=match x with
 | .str _=>T="str"
 | .int _=>T="int"
 | .ref p=>(T="list"/\∃ xs,zN K H p xs)\/(T="tuple"/\∃ o,K.lookup p=some o/\o.cls=.type "tuple"/\o.dict=none)\/
   (T="dict"/\((∃ kvs,H p=some (.dK kvs))\/∃ kvs,H p=some (.dT kvs)))\/(T="set"/\∃ S n,H p=some (.set S n))
 | _=>False
def Yq {pins:List (Addr×Obj)}{O:St}{H:Hp}{s:Shared}{T:String}{x:V}{v:Value}(I:Inv X pins O H s) (r:RelV x v) (ty:eA X.K T x H):
  s.TypeIs v T/\∀ a,v=.ref a->∃ ob,s.heap.get? a=some ob/\ob.dict=none:=by
 cases x with
 | str z=>
  obtain⟨t,rfl⟩:=r;cases (show T="str" from ty);exact⟨typeIs_str s z t,λ _ e=>nomatch e⟩
 | int i=>
  obtain⟨t,rfl⟩:=r;cases (show T="int" from ty);exact⟨typeIs_int s i t,λ _ e=>nomatch e⟩
 | ref p=>
  cases r;rcases ty with ⟨rfl,xs,hq⟩ | ⟨rfl,o,hk,hc,hd⟩ | ⟨rfl,hk⟩ | ⟨rfl,S,n,hk⟩
  .obtain⟨its,_,pl,_⟩:=I.list hq;refine⟨pl.isList.typeIs,λ a e=>?_⟩;cases e;obtain⟨o,n,e,c,hd,_⟩:=pl;exact⟨o,e,hd⟩
  .refine⟨⟨o,I.vt p o hk,hc⟩,λ a e=>?_⟩;cases e;exact⟨o,I.vt _ o hk,hd⟩
  .have z:∃ o,s.heap.get? p=some o/\o.ExactDict:=by
    rcases hk with ⟨kvs,hk⟩ | ⟨kvs,hk⟩
    .obtain⟨_,_,_,_,o,_,_,e,ex,_⟩:=I.zw p _ hk;exact⟨o,e,ex⟩
    .obtain⟨_,_,_,_,o,_,_,e,ex,_⟩:=I.zw p _ hk;exact⟨o,e,ex⟩
   obtain⟨o,e,ex⟩:=z;refine⟨⟨o,e,ex.1⟩,λ a e2=>?_⟩;cases e2;exact⟨o,e,ex.2.1⟩
  .obtain⟨o,_,_,_,e,ex,_⟩:=I.zw p _ hk;refine⟨⟨o,e,ex.1⟩,λ a e2=>?_⟩;cases e2;exact⟨o,e,ex.2.1⟩
 | _=>exact False.elim ty
def k7 (K:zFr) (T:String) (r:V->List V->Hp->VK->Prop) (to:TE) (t:TA):TE:=fun O H Q=>to O H λ x H1=>eA K T x H1/\t O H1 λ xs H2=>r x xs H2 Q
variable {o e:Expr}{es:List Expr}{to:TE}{t:TA}{name:Str}{apos cpos:Pos}{T id:String}{r:V->List V->Hp->VK->Prop}
def dM (pa:PlainAttrs T) (slot:Slot T name id) (hty:typeOf (.builtin id)=pure (.type "method_descriptor")) (hm:QD X id r) (ho:PE X o to) (ha:PA X (e::es) t)
  (hbase:attributeBase o name X.env (eval o X.env)=eval o X.env:=by rfl)
  (hfew:((backTo cpos (starEach (e::es) X.env)).all (λ x=>!x.1)&&(backToKw cpos (keywordEach [] X.env)).all (λ x=>x.1.isSome)
   && decide ((e::es).length+([]:List Keyword).length+(if ([]:List Keyword).isEmpty then 0 else 1)<30))=true:=by rfl)
  (hline:(apos.endLine == cpos.line)=true:=by rfl) (hs:starEach (e::es) X.env=(false,eval e X.env)::starEach es X.env:=by rfl) (hplain:(backTo cpos (starEach es X.env)).any (·.1)=false:=by rfl):
  PE X (.Call (.Attribute o name apos) (e::es) [] cpos) (k7 X.K T r to t):=by
 intro pins s O H Q I h;refine wpAny_Call_method_late hbase hfew hline rfl (zF (ho pins s O H _ I h) λ v s1 ⟨x,H1,I1,r1,ty,q1⟩=>?_);obtain⟨h1,h2⟩:=Yq I1 r1 ty;refine⟨T,id,pa,slot,hty,h1,h2,?_⟩;have hA:=ha cpos pins s1 O H1 _ I1 q1;rw[hs] at hA ⊢;refine Calls.callWith_builtin (by show (false||(backTo cpos (starEach es X.env)).any (·.1))=false;rw[hplain] <;> rfl) (Calls.evalArgs_plain ?_);exact zF hA λ us s2 ⟨vs,H2,I2,r2,q2⟩=>hm pins s2 O H2 x vs v us Q I2 r1 r2 q2
end
def Zs (X:Cx) (id:String) (r:V->List V->Hp->VK->Prop):Prop:=
 ∀ (pins:List (Addr×Obj)) (s:Shared) (O:St) (H:Hp) (x:V) (xs:List V) (v:Value) (us:List Value) (Q:VK),Inv X pins O H s->RelV x v->Vals xs us->r x xs H Q->
  wpAny (model X.prog X.w) X.A (call (.builtin id) (v::us)) (EP X pins O Q) X.xe s
theorem Vals.one:∀ {x:V}{us:List Value},Vals [x] us->∃ u,us=[u]/\RelV x u
 | _,_,.cons r .nil=>⟨_,rfl,r⟩
theorem Vals.rep {xs:List V}{us:List Value}(h:Vals xs us):∀ k:Nat,Vals (List.replicate k xs).flatten (List.replicate k us).flatten
 | 0=>.nil
 | k+1=>by
  rw[List.replicate_succ,List.replicate_succ,List.flatten_cons,List.flatten_cons];exact Vals.append h (Vals.rep h k)
section
variable {X:Cx}{pins:List (Addr×Obj)}{O:St}{H:Hp}{s:Shared}{l b:Addr}{xs ys zs:List V}
def Inv.cL {its its':List Value}{n:Nat}{f:Array Value->Array Value}{t':Nat}(I:Inv X pins O H s) (hH:H l=some (.lst xs))
  (e:s.heap.get? l=some { cls:=.type "list",data:=.seq its.toArray n }) (hf:f its.toArray=its'.toArray) (hv:Vals ys its') (hz:ys.length<=sizeLine):
  Inv X pins O (upd H l (.lst ys)) { s with heap:=s.heap.update l (Obj.mapSeq f),toks:=t' }:=by
 have q:=PySem.IsL.update e f;rw[hf] at q;refine I.write (x:=l) (e:=l) (by rw[hH];exact trivial) (.inl rfl) (λ b' u hb hu=>(Heap.get?_update_other s.heap (Obj.mapSeq f) (Ne.symm hb)).trans hu) ⟨_,q⟩ ?_;exact⟨hz,its',_,hv,q⟩
def Inv.Tp {its:List Value}{t':Nat}(I:Inv X pins O H s) (hv:Vals ys its) (hz:ys.length<=sizeLine):
  Inv X pins O (upd H s.heap.objs.size (.lst ys)) { s with heap:=s.heap.push { cls:=.type "list",data:=.seq its.toArray },toks:=t' }:=
 I.laid (λ _ _ q=>zHp _ q) (zA4 _) ⟨hz,its,0,hv,zA9 _ rfl⟩
theorem Inv.fresh (I:Inv X pins O H s):H s.heap.objs.size=none:=I.zw.fresh (zA4 _)
def Inv.jS (I:Inv X pins O H s) (hH:H l=some (.lst xs)):xs.length<=sizeLine/\∃ (its:List Value) (n:Nat),Vals xs its/\xs.length=its.length/\s.heap.get? l=some { cls:=.type "list",data:=.seq its.toArray n }:=by
 obtain⟨z,its,n,r,e⟩:=I.zw l _ hH;exact⟨z,its,n,r,r.length,e⟩
def UM {n:Nat}(h:n<=sizeLine):Builtin.List.listTooLong n=false:=by
 unfold Builtin.List.listTooLong;exact decide_eq_false (by omega)
end
section
variable {X:Cx}
def dD:V->List V->Hp->VK->Prop:=λ x vs H Q=>∃ l xs y,x=.ref l/\vs=[y]/\H l=some (.lst xs)/\xs.length<sizeLine/\Q .zi (upd H l (.lst (xs++[y])))
def cI:Zs X "list.append" dD:=by
 intro pins s O H x vs v us Q I rx rv h;obtain⟨l,xs,y,rfl,rfl,hH,hz,q⟩:=h;cases rx;obtain⟨u,rfl,ru⟩:=rv.one;obtain⟨z,its,n,r,hl,e⟩:=I.jS hH;refine call_meets F.slot_list_append ⟨_,e,rfl⟩ F.entry_list_append (F.args_list_append_2 _ _) (PySem.list_append l its.toArray n u (by rw[zA0];omega)) ⟨e,?_⟩;refine⟨.zi,_,I.cL (its':=its++[u]) hH e (by simp) (r.append (.cons ru .nil)) ?_,rfl,q⟩;rw[zD7,List.length_singleton];omega
def d5:V->List V->Hp->VK->Prop:=λ x vs H Q=>∃ l b xs zs,x=.ref l/\vs=[.ref b]/\H l=some (.lst xs)/\H b=some (.lst zs)/\xs.length+zs.length<=sizeLine/\Q .zi (upd H l (.lst (xs++zs)))
def Tc:Zs X "list.extend" d5:=by
 intro pins s O H x vs v us Q I rx rv h;obtain⟨l,b,xs,zs,rfl,rfl,hH,hB,hz,q⟩:=h;cases rx;obtain⟨u,rfl,ru⟩:=rv.one;cases ru;obtain⟨z,its,n,r,hl,e⟩:=I.jS hH;obtain⟨z2,its2,n2,r2,hl2,e2⟩:=I.jS hB;have hsz:its.toArray.size+its2.toArray.size<=sizeLine:=by rw[zA0,zA0];omega
 have hlong:¬ (!its.toArray.isEmpty&&Builtin.List.listTooLong (its.toArray.size+its2.toArray.size))=true:=by
  rw[UM hsz,Bool.and_false];exact Bool.false_ne_true
 refine call_meets F.slot_list_extend ⟨_,e,rfl⟩ F.entry_list_extend (F.args_list_extend_2 _ _)
  (AutoSeq1.list_extend_list_list_0 l its.toArray n b its2.toArray n2 hlong (by rw[zA0];omega) (by omega)) ⟨e,e2,?_⟩
 refine⟨.zi,_,I.cL (its':=its++its2) hH e (by simp) (r.append r2) ?_,rfl,q⟩;rw[zD7];omega
end
section
variable {prog:Program}{w:World}{A:Around}{E:Value->Shared->Prop}{s:Shared}
end
section
variable {X:Cx}
end
end L2
namespace Yd
open PySem PySem.W PySem.Calls PyProof.Rows
def Sg {P:Params}{h:Heap}:∀ (ns:List Int) (vs:List Value),WellAll P h vs (ns.map WData.int)->IntsAre vs ns:=by
 intro ns
 induction ns with
 | nil=>
  intro vs w;rw[List.map_nil] at w;cases w;exact .nil
 | cons n ns ih=>
  intro vs w;rw[zA6] at w;cases w with
  | cons a b=>
   cases a;exact .cons _ _ (ih _ b)
def Xf {l:OpenLaw}{n:Nat}(hn:l.most=some n) {P:Params}{h:Heap}{args:List WData}{vals:List Value}
  (hpre:l.row.toRowW.claim.pre args=true) (hwl:WellAll P h vals args):
  ∃ a vs ns,vals=[Value.ref a]/\args=[WData.list (ns.map WData.int)]/\h.get? a=some { cls:=.type "list",data:=.seq vs.toArray }/\IntsAre vs ns/\ns.length<=n:=by
 have hsh:WShape.hasAll [] args [.list .int]=true:=(pre_splitW hpre).1;have hc:l.pre.holds [] { args:=args }=true:=(pre_splitW hpre).2;obtain⟨d,r,rfl,h1,h2⟩:=hasAllW_cons hsh;obtain rfl:=hasAllW_nil h2;obtain⟨xs,rfl,h3⟩:=hasW_list h1;obtain⟨ns,rfl⟩:=items_int h3;have hlen:ns.length<=n:=by
  unfold OpenLaw.pre at hc;have h4:(WTm.not (.lt (.lit (.int (n:Int))) (.len (.arg 0)))).holds [] { args:=[.list (ns.map .int)] }=true:=by
   have h4:=(holds_andW hc).1;rw[hn] at h4;exact h4
  have h5:=condW_of h4 (w_not (w_lt w_lit (w_len_list (w_arg rfl))));rw[zA7] at h5;refine Nat.le_of_not_lt λ q=>?_;have q':(n:Int)<((ns.length:Nat):Int):=by omega
  first
   | (rw[decide_eq_true q'] at h5;exact absurd h5 (by decide))
   | (simp at h5;omega)
 cases hwl with
 | cons w1 w2=>
  cases w2;cases w1 with
  | list ho hall=>exact⟨_,_,ns,rfl,rfl,ho,Sg ns _ hall,hlen⟩
def Wg (l:OpenLaw) (args:List WData):l.row.toRowW.claim.post args (.bool true) args=true:=
 postW_of (r:=l.row.toRowW) (X:=(true == true))
  (show WShape.has [] (.bool true) .bool=true by first | rfl | decide | simp[WShape.has,WShape.arms,WShape.armsAll])
  (show (WTm.eq .res (.lit (.bool true))).value [] { args:=args,res:=some (.bool true),after:=args }=some (.bool (true == true)) from w_eq_bool (w_res rfl) w_lit) rfl
def Qx {l:OpenLaw}{n:Nat}{q:Program}{loose:List Str}{XP:(Str->Option Value)->Heap->Prop}{YP:World->Heap->Prop}{d:DefRec}
  (hn:l.most=some n) (hdf:d.params.defaults=[])
  (call:∀ (w:World) (s₀ s₁:Shared) (mg mb:Str->Option Value) (fa:Addr) (o:Obj) (pm cd doc:Value) (a:Addr) (vs:List Value) (ns:List Int),
   Ground q loose [] XP w s₀ mg mb s₁.heap->YP w s₁.heap->
   s₁.heap.get? fa=some o->o.data=.func (docDef d.name d.params d.body d.scope pm cd doc)->s₁.heap.CodeRec cd d.name->mg d.name=some (.ref fa)->
   s₁.heap.get? a=some { cls:=.type "list",data:=.seq vs.toArray }->IntsAre vs ns->ns.length<=n->s₁.gens=#[]->
   codeAny (model l.prog w) callerA (.call (.ref fa) ⟨[.ref a],[]⟩) (λ r s'=>r=.ok (.ret (.bool true))/\OldK s₁.heap s'.heap/\s'.os=s₁.os/\AllBare s'.gens) s₁):
  WalkO q loose XP YP l.row.toRowW d [] (λ f vs=>PySem.call f vs):=by
 intro w s₀ s₁ mg mb G Y fa o pm cd doc dV kV ho hd hcd hD hmg hg args vals as hpre hlay hrd hwl hlo;obtain rfl:dV=.none:=Dflts.none hD hdf;obtain rfl:kV=.none:=Dflts.noKw hD;obtain⟨a,vs,ns,rfl,rfl,hobj,hints,hlen⟩:=Xf hn hpre hwl;refine enter_call (codeAny_mono (call w s₀ s₁ mg mb fa o pm cd doc a vs ns G Y ho (fd_plain hd) hcd hmg hobj hints hlen hg) λ r s' hq=>?_);obtain⟨rfl,h2,h3,h4⟩:=hq;exact⟨.inl ⟨.bool true,.bool true,[],rfl,λ _=>rfl,.bool true,Wg l _,λ _=>⟨List.Pairwise.nil,λ _ hm=>(nomatch hm)⟩⟩,h2,h3,h4⟩
section
variable {prog:Program}{w:World}{A:Around}{E:Value->Shared->Prop}{s:Shared}{K:Frag}
end
end Yd
namespace L2
open PySem PySem.Spec PyProof.Rows
theorem ea:∀ {vs:List Value}{ns:List Int},IntsAre vs ns->Vals (ns.map V.int) vs
 | _,_,.nil=>.nil
 | _,_,.cons n t h=>.cons ⟨t,rfl⟩ (ea h)
def lR (H:Hp):Prop:=∀ b,H b=none\/∃ o xs,H b=some (.xI o (.lst xs))
def T6 {P:Program}{w:World}{K:zFr}{mg mb:Str->Option Value}{CX:uw}{k:Nat}{fa a:Addr}{fd:FuncData}{x:Str}{sp:Sp}{s₁:Shared}{vs:List Value}{ns:List Int}
  (KX:K.In s₁.heap) (hns:s₁.heap.Ns mainGlobals mg) (hb:s₁.heap.Ns builtinsNs mb) (hbb:∀ x:Str,x≠"__name__"->mb x=bootBuiltins x) (hlim:s₁.heap.NoLimit) (hg:s₁.gens=#[])
  (ha:s₁.heap.get? a=some { cls:=.type "list",data:=.seq vs.toArray }) (hi:IntsAre vs ns) (hl:ns.length<=sizeLine) (hr:yx k callerA)
  (F:∀ base:Heap,K.In base->base.Ns mainGlobals mg->vY P w K mg base CX k fa fd [x] sp) (hbind:∀ (s:Shared) (u:Value),BindsTo s fd ⟨[u],[]⟩ [(x,u)])
  (hsp:∀ H:Hp,lR H->zN K H a (ns.map V.int)->sp [.ref a] H (λ v _=>v=.bl true) λ _ _ _=>False)
  (hCX:∀ H e s',CX [] H s₁ (λ _ _ _=>False) e s'->False):
  codeAny (model P w) callerA (.call (.ref fa) ⟨[.ref a],[]⟩) (λ r s'=>r=.ok (.ret (.bool true))/\OldK s₁.heap s'.heap/\s'.os=s₁.os/\AllBare s'.gens) s₁:=by
 have rv:=ea hi;have lenV:=hi.length;have core:∀ H:Hp,lR H->zN K H a (ns.map V.int)->yS P w H s₁.heap->(∀ b,H b≠none->b=a)->(H a≠none->K.lookup a=none)->
   codeAny (model P w) callerA (.call (.ref fa) ⟨[.ref a],[]⟩) (λ r s'=>r=.ok (.ret (.bool true))/\OldK s₁.heap s'.heap/\s'.os=s₁.os/\AllBare s'.gens) s₁:=by
  intro H hO hS zw hA hK;have base_of:∀ {b:Addr}{o:Obj},s₁.heap.get? b=some o->H b=none->(tI s₁.heap H).get? b=some o:=λ e n=>S7 e n;have noA:∀ {b:Addr}{o:Obj}{es:Array DictEntry}{ep:Nat},s₁.heap.get? b=some o->o.data=.dict es ep->H b=none:=λ{b o es ep} e d=>by
   cases q:H b with
   | none=>rfl
   | some u=>
    have e':b=a:=hA b (by rw[q];simp);subst e';rw[ha] at e;cases e;have d':Data.seq vs.toArray _=Data.dict es ep:=d;cases d'
  have nsK:∀ {b:Addr}{m:Str->Option Value},s₁.heap.Ns b m->(tI s₁.heap H).Ns b m:=λ{b m} ⟨o,es,ep,e,d,r⟩=>⟨o,es,ep,base_of e (noA e d),d,r⟩;have hKb:K.In (tI s₁.heap H):=λ b o e=>base_of (KX b o e) (by
   cases q:H b with
   | none=>rfl
   | some u=>
    have e':b=a:=hA b (by rw[q];simp);subst e';rw[hK (by rw[q];simp)] at e;cases e)
  have hM:Mod K mg (tI s₁.heap H):=⟨hKb,nsK hns,⟨mb,nsK hb,hbb⟩,let ⟨mc,h1,h2⟩:=hlim;⟨mc,nsK h1,h2⟩⟩
  have e0:ke P w K mg (tI s₁.heap H) callerA [] s₁ H:=⟨rfl,hM,λ b o e=>UL e,Nat.le_of_eq (Sz _ _),trivial,λ b hb=>absurd (show b∈([]:List Addr) from hb) (by simp),zw,.of_eq hg⟩
  refine codeAny_mono ((F _ hKb (nsK hns)).run callerA [] s₁ H ⟨[.ref a],[]⟩ [.ref a] [.ref a] _ _ hr e0 (hbind s₁ (.ref a)) (.cons rfl .nil) (hsp H hO hS)) λ r s' h=>?_;cases r with
  | error e=>exact (hCX H e s' h).elim
  | ok fl=>
   cases fl with
   | next=>exact False.elim h
   | brk=>exact False.elim h
   | cont=>exact False.elim h
   | ret u=>
    obtain⟨v,H',os,bare,un,hok',r',q⟩:=h;have q':v=.bl true:=q;subst q';obtain rfl:u=Value.bool true:=r';refine⟨rfl,OldK.of_keep λ b o e=>?_,os,bare⟩;cases q:H b with
    | none=>exact un.keep b o e q (by intro z;exact absurd (show b∈([]:List Addr) from z) (by simp)) (by simp)
    | some u=>
     rcases hO b with z | ⟨ob,xs,z⟩
     .rw[q] at z;cases z
     .have z2:=un.tJ b ob _ z;obtain⟨e1,_⟩:=zw b _ z;obtain⟨e2,_⟩:=hok' b _ z2;rw[e] at e1;cases e1;exact e2
 cases hk:K.lookup a with
 | some o=>
  have e:=KX a o hk;rw[ha] at e;cases e;refine core (λ _=>none) (λ _=>.inl rfl) (.inr ⟨_,vs.toArray,_,hk,rfl,rfl,rfl,by rw[zA0,lenV];exact hl,by simpa using rv⟩) (λ b u z=>by have z':(none:Option HO)=some u:=z;cases z') (λ b z=>absurd rfl z) λ z=>absurd rfl z
 | none=>
  refine core (λ b=>if b=a then some (.xI { cls:=.type "list",data:=.seq vs.toArray } (.lst (ns.map V.int))) else none) (λ b=>?_) (.inl (.inr ⟨{ cls:=.type "list",data:=.seq vs.toArray },if_pos rfl⟩)) (λ b u z=>?_) (λ b z=>?_) λ _=>hk
  .by_cases hb:b=a
   .exact .inr ⟨_,_,if_pos hb⟩
   .exact .inl (if_neg hb)
  .by_cases hb:b=a
   .have z':=(if_pos hb).symm.trans z;cases z';subst hb;exact⟨ha,by rw[zA7];exact hl,vs,_,rv,ha⟩
   .have z':=(if_neg hb).symm.trans z;cases z'
  .by_cases hb:b=a
   .exact hb
   .exact absurd (if_neg hb) z
def Yg {l:PySem.W.OpenLaw}{n k:Nat}{q:Program}{loose:List Str}{XP:(Str->Option Value)->Heap->Prop}{YP:World->Heap->Prop}{d:DefRec}{K:Params->zFr}{CX:World->uw}{sp:World->Sp}{x:Str}
  (hn:l.most=some n) (hn2:n<=sizeLine) (hdf:d.params.defaults=[]) (hr:yx k callerA)
  (hY:∀ (w:World) (h:Heap),YP w h->(K w.params).In h)
  (F:∀ (w:World) (mg:Str->Option Value) (fa:Addr) (h:Heap),(K w.params).In h->h.Ns mainGlobals mg->mg d.name=some (.ref fa)->
   ∃ fd:FuncData,(∀ (s:Shared) (u:Value),BindsTo s fd ⟨[u],[]⟩ [(x,u)])/\
    ∀ base:Heap,(K w.params).In base->base.Ns mainGlobals mg->vY l.prog w (K w.params) mg base (CX w) k fa fd [x] (sp w))
  (hsp:∀ (w:World) (H:Hp) (a:Addr) (ns:List Int),ns.length<=n->lR H->zN (K w.params) H a (ns.map V.int)->sp w [.ref a] H (λ v _=>v=.bl true) λ _ _ _=>False)
  (hCX:∀ (w:World) (H:Hp) (s:Shared) (e:Value) (s':Shared),CX w [] H s (λ _ _ _=>False) e s'->False):
  PySem.W.WalkO q loose XP YP l.row.toRowW d [] (λ f vs=>PySem.call f vs):=by
 refine Yd.Qx hn hdf λ w s₀ s₁ mg mb fa o pm cd doc a vs ns G Y ho hd hcd hmg hobj hints hlen hg=>?_;have KX:=hY w _ Y;obtain⟨fd,hb,hF⟩:=F w mg fa _ KX G.T.g hmg;exact T6 KX G.T.g G.T.b G.T.builtins G.T.nolimit hg hobj hints (zE0 hlen hn2) hr hF hb (λ H hO hS=>hsp w H a ns hlen hO hS) λ H e s'=>hCX w H s₁ e s'
noncomputable def tL (s:Stmt):Arguments:=match s with
 | .FunctionDef _ a _ _ _ _ _ _ _ _=>a
 | _=>{ posonlyargs:=[],args:=[],vararg:=none,kwonlyargs:=[],kw_defaults:=[],kwarg:=none,defaults:=[] }
noncomputable def w_ (s:Stmt):List Stmt:=match s with
 | .FunctionDef _ _ b _ _ _ _ _ _ _=>b
 | _=>[]
noncomputable def zG (s:Stmt):Scope:=match s with
 | .FunctionDef _ _ _ _ _ _ sc _ _ _=>sc
 | _=>{ kind:=.function,names:=[],isGenerator:=false,isCoroutine:=false }
abbrev vh:uw:=λ _ _ _ _ _ _=>False
abbrev E0:XK:=λ _ _ _=>False
def Vm {X:Cx}:Passes vh X E0:=λ _ _ _ _ _ _ _ h=>h.elim
structure uu (K:zFr) (x qual:Str) (st:Stmt) (f:Addr) (fd:FuncData):Prop where
 ex:∃ (oc:Value) (od:Option Addr) (kV doc pm:Value) (an:Option Addr) (cdv ct:Value) (osl:Array (Option Value)),
  fd=PySem.W.fnOf x qual (tL st) (w_ st) (zG st) .none kV doc pm an cdv ct/\K.lookup f=some ⟨oc,od,.func fd,osl⟩/\PySem.W.codeIn K cdv qual=true
 kp:PySem.W.keepIn K (.ref f)=true
section
variable {P:Program}{w:World}{K:zFr}{mg:Str->Option Value}{base:Heap}
def uu.ok {x qual:Str}{st:Stmt}{f:Addr}{fd:FuncData}{N ps:List Str}{k:Nat}{sp:Sp}(F:uu K x qual st f fd) (S:yj N ps (zG st)) (len:∀ vs H Q E,sp vs H Q E->vs.length=ps.length)
  (hbody:∀ (cdv:Value) (A:Around) (outer:List Env) (s:Shared) (H:Hp) (vs:List V) (Q:VK) (E:XK),yx k (A.deeper (envOfC qual (zG st) s.heap.objs.size f cdv))->sp vs H Q E->
   ∃ t,xC (uO vh P w K mg base N qual (zG st) f cdv A outer s H E).sF (w_ st) t/\t { nx:=λ _ H'=>Q .zi H',rt:=Q } (start N vs) H):vY P w K mg base vh (k+1) f fd ps sp:=by
 obtain⟨oc,od,kV,doc,pm,an,cdv,ct,osl,rfl,lk,hcd⟩:=F.ex;refine Rc lk hcd S len λ A outer s H vs Q E hr hsp=>?_;obtain⟨t,h,q⟩:=hbody cdv A outer s H vs Q E hr hsp;exact⟨t,h.sF,q⟩
def uu.binds {x qual:Str}{st:Stmt}{f:Addr}{fd:FuncData}{ps:List Str}(F:uu K x qual st f fd)
  (h:∀ (kV doc pm:Value) (an:Option Addr) (cdv ct:Value) (us:List Value),us.length=ps.length->bindArgs (PySem.W.fnOf x qual (tL st) (w_ st) (zG st) .none kV doc pm an cdv ct) ⟨us,[]⟩=pure (ps.zip us)):Binds K fd ps []:=by
 obtain⟨oc,od,kV,doc,pm,an,cdv,ct,osl,rfl,lk,hcd⟩:=F.ex;exact .all (h kV doc pm an cdv ct)
def bV {x qual:Str}{st:Stmt}{f:Addr}{oc:Value}{od an:Option Addr}{osl:Array (Option Value)}{kV doc pm cdv ct:Value}(l:K.lookup f=some ⟨oc,od,.func (PySem.W.fnOf x qual (tL st) (w_ st) (zG st) .none kV doc pm an cdv ct),osl⟩)
  (c:PySem.W.codeIn K cdv qual=true) (k:PySem.W.keepIn K (.ref f)=true):uu K x qual st f (PySem.W.fnOf x qual (tL st) (w_ st) (zG st) .none kV doc pm an cdv ct):=⟨⟨oc,od,kV,doc,pm,an,cdv,ct,osl,rfl,l,c⟩,k⟩
end
def iw {A:Around}{k:Nat}(hr:yx k A):A.units+1<cLine:=Nat.lt_of_le_of_lt (Nat.add_le_add_left (by decide:1<=64) _) hr.units
section
variable {X:Cx}
def pv (i:Nat) {x:Str}{pos:Pos}(hN:X.N[i]?=some x:=by rfl) (hv:gw X.env.scope x:=by first | exact Or.inl rfl | exact Or.inr (Or.inl rfl) | exact Or.inr (Or.inr rfl)) (hd:(x == ("__debug__":Str))=false:=by decide)
  (hcd:(x == ("__classdict__":Str))=false:=by decide):PE X (.Name x pos) (kz i):=Wx hN hv hd hcd
end
end L2
namespace PySem
theorem hJ {env:Env}:∀ (l:List (Str×NameKind)) (acc:List (Str×Addr)),(∀ y∈l,y.2=.free->∃ c,env.cells.lookup y.1=some c)->
  ∃ cl,(forIn l acc (λ(x:Str×NameKind) r=>if (x.2 == NameKind.free)=true then do let a <- cellOf env x.1;pure (ForInStep.yield ((x.1,a)::r)) else pure (ForInStep.yield r)):Sem (List (Str×Addr)))=pure cl/\
   (∀ x c,cl.lookup x=some c->acc.lookup x=some c\/((x,NameKind.free)∈l/\env.cells.lookup x=some c))/\(∀ x,(x,NameKind.free)∈l\/(acc.lookup x).isSome->(cl.lookup x).isSome)
 | [],acc,_=>⟨acc,rfl,λ x c h=>.inl h,λ x h=>by simpa using h⟩
 | (n,k)::l,acc,h=>by
  by_cases hk:k=.free
  .subst hk;obtain⟨c,hc⟩:=h (n,.free) zMc rfl;obtain⟨cl,e1,e2,e3⟩:=hJ l ((n,c)::acc) λ y hy=>h y (zMo _ hy);refine⟨cl,?_,λ x d hx=>?_,λ x hx=>?_⟩
   .rw[List.forIn_cons];simp only[beq_self_eq_true,if_true,cellOf,hc];exact e1
   .rcases e2 x d hx with q | ⟨q1,q2⟩
    .rw[List.lookup_cons] at q;cases hxn:x == n with
     | true=>
      rw[hxn] at q;have:x=n:=by simpa using hxn
      subst this;refine .inr ⟨zMc,?_⟩;rw[hc];exact q
     | false=>rw[hxn] at q;exact .inl q
    .exact .inr ⟨zMo _ q1,q2⟩
   .refine e3 x ?_;rcases hx with hx | hx
    .rcases zA5.mp hx with q | q
     .have:x=n:=congrArg Prod.fst q;subst this;exact .inr (by simp[List.lookup_cons])
     .exact .inl q
    .refine .inr ?_;rw[List.lookup_cons];cases x == n <;> simp[hx]
  .have hb:(k == NameKind.free)=false:=by simpa using hk
   obtain⟨cl,e1,e2,e3⟩:=hJ l acc λ y hy=>h y (zMo _ hy);refine⟨cl,?_,λ x d hx=>?_,λ x hx=>?_⟩
   .rw[List.forIn_cons];simp only[hb,zC4,if_false];exact e1
   .rcases e2 x d hx with q | ⟨q1,q2⟩
    .exact .inl q
    .exact .inr ⟨zMo _ q1,q2⟩
   .refine e3 x ?_;rcases hx with hx | hx
    .rcases zA5.mp hx with q | q
     .exact absurd (congrArg Prod.snd q).symm hk
     .exact .inl q
    .exact .inr hx
def aP {scope:Scope}{env:Env}(h:∀ y∈scope.names,y.2=.free->∃ c,env.cells.lookup y.1=some c):
  ∃ cl,closureFor scope env=pure cl/\(∀ x c,cl.lookup x=some c->(x,NameKind.free)∈scope.names/\env.cells.lookup x=some c)/\∀ x,(x,NameKind.free)∈scope.names->(cl.lookup x).isSome:=by
 obtain⟨cl,e1,e2,e3⟩:=hJ (env:=env) scope.names [] h;refine⟨cl,?_,λ x c hx=>?_,λ x hx=>e3 x (.inl hx)⟩
 .simp only[closureFor];rw[e1];rfl
 .rcases e2 x c hx with q | q
  .simp at q
  .exact q
theorem cP {env:Env}:∀ {names:List (Str×NameKind)}{x:Str},names.lookup x=some .free->
  (names.map λ(n,k)=>if (k == NameKind.free&&env.scope.kind == .function&&env.kindOf n == some .cell) then (n,NameKind.cell) else (n,k)).lookup x=some .cell\/
  (names.map λ(n,k)=>if (k == NameKind.free&&env.scope.kind == .function&&env.kindOf n == some .cell) then (n,NameKind.cell) else (n,k)).lookup x=some .free
 | [],_,h=>by simp at h
 | (n,k)::r,x,h=>by
  have ih:=@cP env r x;show List.lookup x ((if (k == NameKind.free&&env.scope.kind == .function&&env.kindOf n == some .cell)=true then (n,NameKind.cell) else (n,k))::_)=_\/List.lookup x ((if (k == NameKind.free&&env.scope.kind == .function&&env.kindOf n == some .cell)=true then (n,NameKind.cell) else (n,k))::_)=_;cases hx:x == n with
  | true=>
   simp only[List.lookup_cons,hx] at h;cases h;by_cases hc:(NameKind.free == NameKind.free&&env.scope.kind == .function&&env.kindOf n == some .cell)=true
   .rw[if_pos hc];simp[List.lookup_cons,hx]
   .rw[if_neg hc];simp[List.lookup_cons,hx]
  | false=>
   simp only[List.lookup_cons,hx] at h;by_cases hc:(k == NameKind.free&&env.scope.kind == .function&&env.kindOf n == some .cell)=true
   .rw[if_pos hc];simp only[List.lookup_cons,hx];exact ih h
   .rw[if_neg hc];simp only[List.lookup_cons,hx];exact ih h
theorem dm {env:Env}:∀ {names:List (Str×NameKind)}{x:Str},(∀ y∈names,y.2≠.cell)->
  ((names.map λ(n,k)=>if (k == NameKind.free&&env.scope.kind == .function&&env.kindOf n == some .cell) then (n,NameKind.cell) else (n,k)).lookup x=some .cell\/
  (names.map λ(n,k)=>if (k == NameKind.free&&env.scope.kind == .function&&env.kindOf n == some .cell) then (n,NameKind.cell) else (n,k)).lookup x=some .free)->(x,NameKind.free)∈names
 | [],_,_,h=>by simp at h
 | (n,k)::r,x,hn,h=>by
  have ih:=@dm env r x λ y hy=>hn y (zMo _ hy);have h':List.lookup x ((if (k == NameKind.free&&env.scope.kind == .function&&env.kindOf n == some .cell)=true then (n,NameKind.cell) else (n,k))::_)=some .cell\/List.lookup x ((if (k == NameKind.free&&env.scope.kind == .function&&env.kindOf n == some .cell)=true then (n,NameKind.cell) else (n,k))::_)=some .free:=h;have hf:∀ k',((if (k == NameKind.free&&env.scope.kind == .function&&env.kindOf n == some .cell)=true then (n,NameKind.cell) else (n,k)):Str×NameKind)=(n,k')->(k'=.cell\/k'=.free)->k=.free:=by
   intro k' e hk';by_cases hc:(k == NameKind.free&&env.scope.kind == .function&&env.kindOf n == some .cell)=true
   .simp only[zE5] at hc;simpa using hc.1.1
   .rw[if_neg hc] at e;have:k=k':=congrArg Prod.snd e;subst this;rcases hk' with q | q
    .exact absurd q (hn (n,k) zMc)
    .exact q
  cases hx:x == n with
  | true=>
   have hxn:x=n:=by simpa using hx
   subst hxn;by_cases hc:(k == NameKind.free&&env.scope.kind == .function&&env.kindOf x == some .cell)=true
   .simp only[zE5] at hc;have:k=.free:=by simpa using hc.1.1
    subst this;exact zMc
   .rw[if_neg hc] at h';simp only[List.lookup_cons,beq_self_eq_true] at h';rcases h' with q | q
    .exact absurd (zD5 q) (hn (x,k) zMc)
    .have:=zD5 q;subst this;exact zMc
  | false=>
   refine zMo _ (ih ?_);by_cases hc:(k == NameKind.free&&env.scope.kind == .function&&env.kindOf n == some .cell)=true
   .rw[if_pos hc] at h';simp only[List.lookup_cons,hx] at h';exact h'
   .rw[if_neg hc] at h';simp only[List.lookup_cons,hx] at h';exact h'
end PySem
namespace L2
open PySem PySem.Spec PyProof.Rows
noncomputable def vD (pick:List (Option Nat)) (O:St):St:=pick.map λ o=>o.bind λ i=>(O[i]?).join
noncomputable def yP (X:Cx) (N':List Str) (scope:Scope) (cl:List (Str×Addr)) (C:Addr) (s:Shared) (H:Hp) (ex:List Addr):Cx:=
 { X with N:=N',s₀:=s,H₀:=H,env:=compEnvC scope cl C X.env,outer:=X.stack,stack:=X.stack,ex:=ex,fn:=λ _=>false,pn:=[],xe:=λ _ _=>False }
noncomputable def qB (N N':List Str) (pick:List (Option Nat)) (scope:Scope):Bool:=(N'.zip pick).all λ p=>match p.2 with
 | none=>true
 | some j=>decide (N[j]?=some p.1)&&decide (scope.names.lookup p.1=some .free)
structure qp (X:Cx) (N':List Str) (pick:List (Option Nat)) (scope:Scope):Prop where
 kind:scope.kind=.function
 cB:∀ y∈scope.names,y.2≠.cell
 names:∀ y∈scope.names,y.2=.local->scope.names.lookup y.1=some .local
 free:∀ y∈scope.names,y.2=.free->X.env.scope.names.lookup y.1=some .cell\/X.env.scope.names.lookup y.1=some .free
 len:pick.length=N'.length
 ok:qB X.N N' pick scope=true
def qB.get {N N':List Str}{pick:List (Option Nat)}{scope:Scope}(h:qB N N' pick scope=true) {i j:Nat}{x:Str}(h1:N'[i]?=some x) (h2:pick[i]?=some (some j)):N[j]?=some x/\scope.names.lookup x=some .free:=by
 unfold qB at h;have hm:(x,some j)∈N'.zip pick:=by
  refine zB7 (i:=i) ?_;rw[List.getElem?_zip_eq_some];exact⟨h1,h2⟩
 have q:=zE4.mp h _ hm;simp only[zE5,decide_eq_true_eq] at q;exact q
def vD.get {pick:List (Option Nat)}{O:St}{i:Nat}{v:V}(h:(vD pick O)[i]?=some (some v)):∃ j,pick[i]?=some (some j)/\O[j]?=some (some v):=by
 unfold vD at h;rw[zA3] at h;cases e:pick[i]? with
 | none=>rw[e] at h;cases h
 | some o=>
  rw[e] at h;cases o with
  | none=>simp at h
  | some j=>
   refine⟨j,rfl,?_⟩;simp only[Option.map_some,Option.some.injEq,zC9] at h;cases q:O[j]? with
   | none=>rw[q] at h;simp at h
   | some w=>rw[q] at h;simp at h;rw[h]
def PF (X:Cx) (ifs:List Expr) (t:TT):Prop:=∀ (pins:List (Addr×Obj)) (s:Shared) (O:St) (H:Hp) (Q:Bool->Hp->Prop),Inv X pins O H s->t O H Q->
 wpAny (model X.prog X.w) X.A (forIn ifs true λ c r=>if r=true then do let ok <- isTrue c X.env (eval c X.env);pure (ForInStep.yield ok) else pure (ForInStep.yield r)) (TP X pins O Q) X.xe s
def Wv {X:Cx}:PF X [] (λ _ H Q=>Q true H):=λ _ _ _ H _ I h=>wpAny_tests_nil ⟨H,I,h⟩
def Wu {X:Cx}{c:Expr}{t:TT}(h:PT X c t):PF X [c] t:=λ pins s O H Q I q=>wpAny_tests_one (h pins s O H Q I q)
def k5 (pick:List (Option Nat)) (wi:TI) (g:TG) (tc:TT) (te:TE):TE:=fun O H Q=>wi O H λ J H1=>∀ D,H1 D=none->∃ W:Nat->Nat->St->Hp->Prop,(∃ m,W 0 m (vD pick O) (upd H1 D (.lst [])))/\
 ∀ i m O H,W i m O H->(J.stop i H/\Q (.ref D) H)\/(J.go i H/\∀ x H',J.qq i H x H'->g x O H' fun O2 H2=>tc O2 H2 λ b H3=>
  if b=true then te O2 H3 λ y H4=>∃ ys m',H4 D=some (.lst ys)/\ys.length<sizeLine/\m'<m/\W (i+1) m' O2 (upd H4 D (.lst (ys++[y]))) else ∃ m',m'<m/\W (i+1) m' O2 H3)
section
variable {X:Cx}{pins:List (Addr×Obj)}{O:St}{H:Hp}{s:Shared}{N':List Str}{pick:List (Option Nat)}{scope:Scope}{cl:List (Str×Addr)}{C:Addr}{fp:List Addr}
def Sf (S:qp X N' pick scope) (I:Inv X pins O H s) (hfp:∀ b∈fp,v5 X pins H b) (hlt:∀ b∈fp,b<s.heap.objs.size)
  (c1:∀ x c,cl.lookup x=some c->(x,NameKind.free)∈scope.names/\X.env.cells.lookup x=some c) (c2:∀ x,(x,NameKind.free)∈scope.names->(cl.lookup x).isSome)
  {h1:Heap}{m1:Str->Option Value}{t':Nat}(hC:s.heap.objs.size<C) (old:∀ b o,s.heap.get? b=some o->h1.get? b=some o) (hns:h1.Ns C m1)
  (hD:h1.get? s.heap.objs.size=some { cls:=.type "list",data:=.seq #[] 0 }):
  Inv (yP X N' scope cl C s H fp) [] (vD pick O) (upd H s.heap.objs.size (.lst [])) { s with heap:=h1,toks:=t' }:=by
 have hDn:H s.heap.objs.size=none:=I.zw.fresh (zA4 _);have hCn:H C=none:=I.zw.fresh (zE3 hC);have clt:∀ x c,cl.lookup x=some c->c<s.heap.objs.size:=λ x c e=>by
  obtain⟨v,q⟩:=I.cell x c (c1 x c e).2;exact q.lt
 refine⟨⟨I.ok.mod,S.kind,I.ok.glob,I.ok.blt,zE3 hC,λ x y c e1 e2=>I.ok.inj x y c (c1 x c e1).2 (c1 y c e2).2,λ x hx=>?_,λ x c hf _=>absurd (show false=true from hf) Bool.false_ne_true,I.ok.hd,I.ok.frames,.inl rfl,
  λ b hb=>⟨zB3 (Nat.lt_trans (hlt b hb) hC),λ x c e=>(hfp b hb).2.2.2.2.1 x c (c1 x c e).2⟩,I.bs,zE0 I.ok.qa I.sz,λ b o e hb=>?_,λ b hb z=>?_,I.stack,I.eJ⟩,
  rfl,I.bare,Un.laid old (zA4 _) hDn,⟨m1,hns,λ i x v e1 e2 e3=>?_⟩,λ x c e=>?_,?_,λ x c e=>?_,λ p hp=>absurd (show p∈([]:List (Addr×Obj)) from hp) (by simp),I.zw.laid old (zA4 _) ?_,?_⟩
 .exact Option.isSome_iff_exists.mp (c2 x (dm S.cB hx))
 .rcases (hfp b hb).2.2.2.1 with z | z
  .exact I.ok.o4 b o e z
  .exact absurd (zC3 (zA8 (I.ok.bs b o e).1) z) (zE1 _)
 .rcases zA5.mp (I.k9 b z) with q | q
  .exact (hfp b hb).2.1 q
  .exact (hfp b hb).2.2.1 q
 .obtain⟨j,p1,p2⟩:=vD.get e2;obtain⟨q1,q2⟩:=qB.get S.ok e1 p1;obtain⟨m0,n0,l0⟩:=I.loc;have hm:(x,NameKind.free)∈scope.names:=PySem.mem_of_lookup q2;have hk:X.env.scope.names.lookup x=some .cell\/X.env.scope.names.lookup x=some .free:=S.free _ hm rfl;obtain⟨u,r,l⟩:=l0 j x v q1 p2 (.inr hk);refine⟨u,r,.inr ⟨cP q2,?_⟩⟩;rcases l with ⟨k,_⟩ | ⟨_,c,e,z⟩
  .have k':X.env.scope.names.lookup x=some .local:=k;rcases hk with hk | hk <;> (rw[k'] at hk;cases hk)
  .obtain⟨c',e'⟩:=Option.isSome_iff_exists.mp (c2 x hm);have e'':=(c1 x c' e').2;rw[e] at e'';cases e'';obtain⟨o,z1,z2⟩:=z;exact⟨c,e',o,old _ _ z1,z2⟩
 .obtain⟨v,o,z1,z2⟩:=I.cell x c (c1 x c e).2;exact⟨v,o,old _ _ z1,z2⟩
 .show upd H s.heap.objs.size (.lst []) C=none;rw[yE (Nat.ne_of_gt hC)];exact hCn
 .show upd H s.heap.objs.size (.lst []) c=none;rw[yE (zB3 (clt x c e))];exact I.uH x c (c1 x c e).2
 .exact⟨zD4 _,[],0,.nil,hD⟩
 .show (vD pick O).length=N'.length;unfold vD;rw[zA7];exact S.len
def Sd {O':St}{H':Hp}{s':Shared}{oC:Obj}(I:Inv X pins O H s) (hfp:∀ b∈fp,v5 X pins H b) (hC:s.heap.objs.size<C)
  (I':Inv (yP X N' scope cl C s H fp) [] O' H' s') (hoC:s'.heap.get? C=some oC):Inv X (pins++[(C,oC)]) O H' s':=by
 have J:Inv X pins O H' s':=I.Qp (ch:=fp) I'.os I'.base I'.zw I'.bare λ b hb=>⟨(hfp b hb).2.2.2.1,(hfp b hb).2.1,(hfp b hb).2.2.2.2.1,(hfp b hb).2.2.2.2.2⟩;refine J.jr λ p hp=>(zB9.mp hp).elim (λ z=>J.pin p (zB4 _ z)) λ z=>?_;obtain rfl:p=(C,oC):=zB6.mp z;refine⟨hoC,I'.free,Nat.ne_of_gt (Nat.lt_trans I.lt hC),I.c8 (zE3 hC),λ v hv=>?_⟩;obtain⟨m,⟨o,es,ep,ho,hd,_⟩,_⟩:=I'.loc;have ho':s'.heap.get? C=some o:=ho;rw[hoC] at ho';cases ho';rw[hd] at hv;cases hv
def bA {O':St}{H':Hp}{s':Shared}{oC:Obj}{h':Heap}(I:Inv X pins O H s) (hC:s.heap.objs.size<C) (J:Inv X (pins++[(C,oC)]) O' H' s') (hs:Heap.SameBut C s'.heap h'):Inv X pins O' H' { s' with heap:=h' }:=by
 have J':=J.pO;have hp:=J.pin (C,oC) (zB4 _ (zB4 _ (zB6.mpr rfl)));have lt:∀ c,c<s.heap.objs.size->c≠C:=λ c h=>zB3 (Nat.lt_trans h hC);refine J'.turned (t':=s'.toks) (it:=C) (λ b o hb e=>hs.extBut b o hb e) hp.2.1 hp.2.2.1 (.inr (zE0 I.sz (zE3 hC))) (λ x c e z=>?_) (λ p hq z=>?_)
 .obtain⟨v,q⟩:=I.cell x c e;exact lt c q.lt z
 .exact lt p.1 (zA8 (I.pin p hq).1) z
end
section
variable {X:Cx}{N':List Str}{pick:List (Option Nat)}{scope:Scope}{elt iter tg:Expr}{ifs:List Expr}{pos:Pos}{wi:TI}{g:TG}{tc:TT}{te:TE}
def Tz {pins:List (Addr×Obj)}{O:St}{H:Hp}{s:Shared}{it C:Addr}{fp:List Addr}{tn:Nat->Heap->Prop}{J:It}{cl:List (Str×Addr)}{W:Nat->Nat->St->Hp->Prop}{Q:V->Hp->Prop}{R:Result->Shared->Prop}{D:Addr}
  (hc:X.calm=true) (hg:PG (yP X N' scope cl C s H fp) tg g) (hf:PF (yP X N' scope cl C s H fp) ifs tc) (he:PE (yP X N' scope cl C s H fp) elt te)
  (T:Turn X.prog X.w X.K tg J fp it tn) (hfp:∀ b∈fp,v5 X pins H b) (hstat:∀ b∈fp,b≠C/\b∉vu X.stack/\∀ x c,cl.lookup x=some c->c≠b)
  (turn:∀ i m O H,W i m O H->(J.stop i H/\Q (.ref D) H)\/(J.go i H/\∀ x H',J.qq i H x H'->g x O H' fun O2 H2=>tc O2 H2 λ b H3=>
   if b=true then te O2 H3 λ y H4=>∃ ys m',H4 D=some (.lst ys)/\ys.length<sizeLine/\m'<m/\W (i+1) m' O2 (upd H4 D (.lst (ys++[y]))) else ∃ m',m'<m/\W (i+1) m' O2 H3))
  (fin:∀ O' H' s',Inv (yP X N' scope cl C s H fp) [] O' H' s'->Q (.ref D) H'->R (.ok .next) s')
  {m0:Nat}{O0:St}{H0:Hp}{s0:Shared}(I0:Inv (yP X N' scope cl C s H fp) [] O0 H0 s0) (t0:tn 0 s0.heap) (f0:∀ b∈fp,H0 b=none) (w0:W 0 m0 O0 H0):
  codeAny (model X.prog X.w) X.A (.compLoop (.ListComp elt [⟨tg,iter,ifs,0⟩] scope pos) 0 (.ref it) (.ref D) (compEnvC scope cl C X.env)) R s0:=by
 have stat:∀ {H':Hp},(∀ b∈fp,H' b=none)->∀ b∈fp,v5 (yP X N' scope cl C s H fp) [] H' b:=λ hn b hb=>⟨hn b hb,(hstat b hb).1,(hstat b hb).2.1,.inl hb,(hstat b hb).2.2,λ p hp=>absurd (show p∈([]:List (Addr×Obj)) from hp) (by simp)⟩;refine codeAny_loop rfl (λ n s'=>∃ i O' H',Inv (yP X N' scope cl C s H fp) [] O' H' s'/\tn i s'.heap/\(∀ b∈fp,H' b=none)/\W i n O' H') (λ n s3 hI=>?_) m0 ⟨0,O0,H0,I0,t0,f0,w0⟩;obtain⟨i,O3,H3,I3,st3,fr3,w3⟩:=hI;show wpAny _ X.A ((compTurn (.ListComp elt [⟨tg,iter,ifs,0⟩] scope pos) 0 (.ref it) (.ref D) (compEnvC scope cl C X.env)).onRaise (λ x=>do noteFrame x (compEnvC scope cl C X.env);theTreesLotGoes x)) _ _ s3;refine wpAny_noted ?_;rw[compTurn_list];refine zWb (wpAny_standAt (zWb ?_));rcases turn i n O3 H3 w3 with ⟨stop,qn⟩ | ⟨go,step⟩
 .refine zF (T.done (yP X N' scope cl C s H fp) rfl rfl rfl hc i [] s3 O3 H3 _ I3 (stat fr3) st3 stop) λ r s4 ⟨hr,I4⟩=>?_;subst hr;exact zD1 (fin O3 H3 s4 I4 qn)
 .refine zF (T.item (yP X N' scope cl C s H fp) rfl rfl rfl hc i [] s3 O3 H3 _ I3 (stat fr3) st3 go) λ r s4 ⟨u,hr,h4⟩=>?_;subst hr;refine zWb (zF h4 λ _ s5 ⟨x,H5,I5,r5,y5,st5,fr5⟩=>?_);have I5':=I5.pinned (stat fr5) (T.obj _ _ st5);refine zWb (wpAny_mono (hg _ s5 O3 H5 x u _ I5' r5 (step x H5 y5)) (λ _ s6 ⟨O6,H6,I6,q6⟩=>?_) λ _ _ z=>False.elim z);refine zWb (wpAny_mono (hf _ s6 O6 H6 _ I6 q6) (λ ok s7 ⟨H7,I7,q7⟩=>?_) λ _ _ z=>False.elim z);have back:∀ {H8:Hp}{s8:Shared},Inv (yP X N' scope cl C s H fp) ([]++og fp s5.heap) O6 H8 s8->(∃ m',m'<n/\W (i+1) m' O6 H8)->∃ m,m<n/\∃ i O' H',Inv (yP X N' scope cl C s H fp) [] O' H' s8/\tn i s8.heap/\(∀ b∈fp,H' b=none)/\W i m O' H':=λ{H8 s8} I8 ⟨m',hm,w8⟩=>by
   refine⟨m',hm,i+1,O6,H8,I8.pO,T.keep _ _ _ st5 λ b hb o e=>(I8.pin (b,o) (zB4 _ (zB4 _ (lp hb e)))).1,λ b hb=>?_,w8⟩;obtain⟨o,e,d⟩:=T.obj _ _ st5 b hb;exact (I8.pin (b,o) (zB4 _ (zB4 _ (lp hb e)))).2.1
  cases ok with
  | false=>
   rw[if_neg Bool.false_ne_true] at q7;exact zD1 ⟨rfl,back I7 q7⟩
  | true=>
   rw[if_pos rfl] at q7;refine zWb (zWb (wpAny_mono (he _ s7 O6 H7 _ I7 q7) (λ uy s8 ⟨y,H8,I8,r8,ys,m',e8,z8,hm,w8⟩=>?_) λ _ _ z=>False.elim z));refine zWb (wpAny_mono (cI (X:=yP X N' scope cl C s H fp) _ s8 O6 H8 (.ref D) [y] (.ref D) [uy] (λ _ H9=>W (i+1) m' O6 H9) I8 rfl (.cons r8 .nil) ⟨D,ys,y,rfl,rfl,e8,z8,w8⟩) (λ _ s9 ⟨_,H9,I9,_,q9⟩=>?_) λ _ _ z=>False.elim z);exact zD1 (zD1 ⟨rfl,back I9 ⟨m',hm,q9⟩⟩)
def c_ {pins:List (Addr×Obj)}{O:St}{H:Hp}{s:Shared}{it:Addr}{fp:List Addr}{tn:Nat->Heap->Prop}{J:It}{cl:List (Str×Addr)}{Q:V->Hp->Prop}{E:Value->Shared->Prop}{RR:Value->Addr->Result->Shared->Prop}
  (S:qp X N' pick scope) (hc:X.calm=true) (hg:∀ cl C s H fp,PG (yP X N' scope cl C s H fp) tg g) (hf:∀ cl C s H fp,PF (yP X N' scope cl C s H fp) ifs tc) (he:∀ cl C s H fp,PE (yP X N' scope cl C s H fp) elt te)
  (c1:∀ x c,cl.lookup x=some c->(x,NameKind.free)∈scope.names/\X.env.cells.lookup x=some c) (c2:∀ x,(x,NameKind.free)∈scope.names->(cl.lookup x).isSome)
  (I:Inv X pins O H s) (T:Turn X.prog X.w X.K tg J fp it tn) (t0:tn 0 s.heap) (hfp:∀ b∈fp,v5 X pins H b)
  (rd:∀ D,H D=none->∃ W:Nat->Nat->St->Hp->Prop,(∃ m,W 0 m (vD pick O) (upd H D (.lst [])))/\
   ∀ i m O H,W i m O H->(J.stop i H/\Q (.ref D) H)\/(J.go i H/\∀ x H',J.qq i H x H'->g x O H' fun O2 H2=>tc O2 H2 λ b H3=>
    if b=true then te O2 H3 λ y H4=>∃ ys m',H4 D=some (.lst ys)/\ys.length<sizeLine/\m'<m/\W (i+1) m' O2 (upd H4 D (.lst (ys++[y]))) else ∃ m',m'<m/\W (i+1) m' O2 H3))
  (fin:∀ C D oC H' s',s.heap.objs.size<C->Inv X (pins++[(C,oC)]) O H' s'->s'.heap.get? C=some oC->(∃ m,s'.heap.Ns C m)->Q (.ref D) H'->RR (.ref D) C (.ok .next) s'):
  wpAny (model X.prog X.w) X.A (newList []) (λ acc s₃=>wpAny (model X.prog X.w) X.A (newFunctionEnv scope X.env.globals cl [] X.env.qual none .none (some X.env)) (λ cenv s₄=>
   codeAny (model X.prog X.w) X.A (.compStart (.ListComp elt [⟨tg,iter,ifs,0⟩] scope pos) 0 (.ref it) acc { cenv with scope:=relabel scope X.env }) (RR acc cenv.locals) s₄) E s₃) E s:=by
 refine wpAny_newObj_type (wpAny_newFunctionEnv S.cB (by intro y hy;simp at hy) (λ h₁ hns₁ hsb₁=>?_) S.kind);dsimp only at hns₁ hsb₁ ⊢;generalize hH2:s.heap.push { cls:=.type "list",dict:=none,data:=.seq ([]:List Value).toArray }=H2 at hns₁ hsb₁ ⊢;have hC:H2.objs.size=s.heap.objs.size+1:=by rw[<- hH2,Heap.size_push]
 have hlt:s.heap.objs.size<H2.objs.size:=by rw[hC];exact zE2 _
 have old:∀ b o,s.heap.get? b=some o->h₁.get? b=some o:=λ b o e=>hsb₁.extBut b o (zB3 (Nat.lt_trans (zA8 e) hlt)) (zHp _ (hH2▸zHp _ e));have hacc:h₁.get? s.heap.objs.size=some { cls:=.type "list",data:=.seq #[] 0 }:=hsb₁.extBut _ _ (zB3 hlt) (zHp _ (hH2▸zA9 _ rfl));have hflt:∀ b∈fp,b<s.heap.objs.size:=λ b hb=>by
  obtain⟨o,e,_⟩:=T.obj _ _ t0 b hb;exact zA8 e
 have hDn:H s.heap.objs.size=none:=I.zw.fresh (zA4 _);obtain⟨W,⟨m0,w0⟩,turn⟩:=rd s.heap.objs.size hDn;have I0:=Sf (t':=s.toks+([]:List (Str×Value)).length) S I hfp hflt c1 c2 hlt old hns₁ hacc;have t1:tn 0 h₁:=T.keep _ _ _ t0 λ b _ o e=>old b o e;have hst:∀ b∈fp,b≠H2.objs.size/\b∉vu X.stack/\∀ x c,cl.lookup x=some c->c≠b:=λ b hb=>I0.ok.iQ b hb |> λ q=>⟨q.1,I0.ok.oU b hb,q.2⟩
 have loop:codeAny (model X.prog X.w) X.A (.compLoop (.ListComp elt [⟨tg,iter,ifs,0⟩] scope pos) 0 (.ref it) (.ref s.heap.objs.size) (compEnvC scope cl H2.objs.size X.env)) (RR (.ref s.heap.objs.size) H2.objs.size) { s with heap:=h₁,toks:=s.toks+([]:List (Str×Value)).length }:=by
  refine Tz (O:=O) hc (hg _ _ _ _ _) (hf _ _ _ _ _) (he _ _ _ _ _) T hfp hst turn (fun O' H' s' I' q=>?_) I0 t1 (λ b hb=>?_) w0
  .obtain⟨m,hn,_⟩:=I'.loc;have hn':s'.heap.Ns H2.objs.size m:=hn;obtain⟨oC,es,ep,ho,hr⟩:=id hn';exact fin _ _ oC H' s' hlt (Sd I hfp hlt I' ho) ho ⟨m,hn'⟩ q
  .show upd H s.heap.objs.size (.lst []) b=none;rw[yE (zB3 (hflt b hb))];exact (hfp b hb).1
 exact codeAny_compStart_list loop (T.self _ 0 _ _ _ t1 loop)
def W8 (S:qp X N' pick scope) (hc:X.calm=true) (hi:PI X tg iter wi) (hg:∀ cl C s H fp,PG (yP X N' scope cl C s H fp) tg g) (hf:∀ cl C s H fp,PF (yP X N' scope cl C s H fp) ifs tc) (he:∀ cl C s H fp,PE (yP X N' scope cl C s H fp) elt te)
  (hs:∀ x,foldedSetIterable iter X.env x=pure x:=by intro _;rfl):PE X (.ListComp elt [⟨tg,iter,ifs,0⟩] scope pos) (k5 pick wi g tc te):=by
 intro pins s O H Q I h;obtain⟨cl,hclos,c1,c2⟩:=aP (scope:=scope) (env:=X.env) λ y hy hk=>I.ok.has y.1 (S.free y hy hk);rw[eval_ListComp];refine wpAny_comprehension_free (use:=none) rfl hs hclos S.kind S.names (zF (hi pins s O H _ I h) λ v s1 h1=>zF h1 λ itv s2 h2=>?_);obtain⟨it,fp,tn,J,H2,e,I2,T,st2,f2,rd⟩:=h2;subst e;refine c_ (RR:=λ acc C=>compPost (model X.prog X.w) X.A X.xe none (EP X pins O Q) acc C) S hc hg hf he c1 c2 I2 T st2 f2 rd λ C D oC H' s' hC J' ho hn q=>?_;obtain⟨m,hn⟩:=hn;exact⟨m,hn,λ h' hs'=>⟨.ref D,H',bA I2 hC J' hs',rfl,q⟩⟩
def XY {i:Nat}{y:Str}{py spos:Pos}(S:qp X N' pick scope) (hc:X.calm=true) (hi:PI X tg iter wi) (hg:∀ cl C s H fp,PG (yP X N' scope cl C s H fp) tg g) (hf:∀ cl C s H fp,PF (yP X N' scope cl C s H fp) ifs tc) (he:∀ cl C s H fp,PE (yP X N' scope cl C s H fp) elt te)
  (hN:X.N.Nodup) (hy:X.N[i]?=some y) (hx:Loc X.env.scope y)
  (hsw:swapsWith (.ListComp elt [⟨tg,iter,ifs,0⟩] scope pos) (some (.Name y py)) spos.line X.env=pure true:=by rfl)
  (hfn:X.fn y=true\/X.env.scope.names.lookup y=some .local:=by first | exact .inl rfl | exact .inr rfl | assumption)
  (hs:∀ x,foldedSetIterable iter X.env x=pure x:=by intro _;rfl):PS X (.Assign [.Name y py] (.ListComp elt [⟨tg,iter,ifs,0⟩] scope pos) spos) (pQ (k5 pick wi g tc te) (qY i)):=by
 intro pins s O H Q I h;obtain⟨cl,hclos,c1,c2⟩:=aP (scope:=scope) (env:=X.env) λ y hy hk=>I.ok.has y.1 (S.free y hy hk);rw[exec_Assign_Name_used _ _ _ _ hsw];refine zWb (wpAny_standAt (zWb ?_));show wpAny _ X.A (do let _ <- comprehension (.ListComp elt [⟨tg,iter,ifs,0⟩] scope pos) scope X.env _ (newList []) false (eval iter X.env) (some (assign (.Name y py) X.env))) _ _ s;refine zWb (wpAny_mono (wpAny_comprehension_free (use:=some (assign (.Name y py) X.env)) (Q:=λ _ s'=>SP X pins Q .next s') rfl hs hclos S.kind S.names
  (zF (hi pins s O H _ I h) λ v s1 h1=>zF h1 λ itv s2 h2=>?_)) (λ _ s' hq=>zD1 (zD1 hq)) λ _ _ e=>e)
 obtain⟨it,fp,tn,J,H2,e,I2,T,st2,f2,rd⟩:=h2;subst e;refine c_ (Q:=λ x H1=>qY i x O H1 Q.nx) (RR:=λ acc C=>compPost (model X.prog X.w) X.A X.xe (some (assign (.Name y py) X.env)) (λ _ s'=>SP X pins Q .next s') acc C) S hc hg hf he c1 c2 I2 T st2 f2 rd λ C D oC H' s' hC J' ho hn q=>?_;show wpAny _ X.A (assign (.Name y py) X.env (.ref D)) _ _ _;refine wpAny_assign_Name (k8 J' hN hy hx (v:=.ref D) rfl (λ s3 J3=>?_) hfn);have hp:=(J3.pin (C,oC) (zB4 _ (zB4 _ (zB6.mpr rfl)))).1;obtain⟨m,o,es,ep,ho',hr⟩:=hn;have:o=oC:=zD5 (ho'.symm.trans ho);subst this;exact⟨m,⟨o,es,ep,hp,hr⟩,λ h' hs'=>⟨_,H',bA I2 hC J3 hs',q⟩⟩
end
end L2
namespace L3
open PySem PySem.Spec L2
open PyProof.Rows hiding St
inductive D where
 | zi | bl (b:Bool) | int (i:Int) | str (x:Str) | tup (ds:List D) | yF (ds:List D) | ref (a:Addr)
def p7 (K:zFr) (H:Hp) (a:Addr) (xs:List V):Prop:=
 (∃ o,H a=some (.xI o (.lst xs)))\/
  ∃ (o:Obj) (its:Array Value) (n:Nat),K.lookup a=some o/\o.cls=.type "list"/\o.dict=none/\o.data=.seq its n/\its.size<=sizeLine/\Vals xs its.toList
def p7.sq {K:zFr}{H:Hp}{a:Addr}{xs:List V}(h:p7 K H a xs):zN K H a xs:=by
 rcases h with h | h
 .exact .inl (.inr h)
 .exact .inr h
mutual
noncomputable def zg (K:zFr) (H:Hp):D->V->Prop
 | .zi,v=>v=.zi
 | .bl b,v=>v=.bl b
 | .int i,v=>v=.int i
 | .str x,v=>v=.str x
 | .tup ds,v=>∃ a xs,v=.ref a/\zS K H a xs/\zm K H ds xs
 | .yF ds,v=>∃ a xs,v=.ref a/\p7 K H a xs/\zm K H ds xs
 | .ref a,v=>v=.ref a
noncomputable def zm (K:zFr) (H:Hp):List D->List V->Prop
 | [],xs=>xs=[]
 | d::ds,xs=>∃ x r,xs=x::r/\zg K H d x/\zm K H ds r
end
structure Ext (H H':Hp):Prop where
 tup:∀ b xs,H b=some (.tup xs)->H' b=some (.tup xs)
 xI:∀ b o u,H b=some (.xI o u)->H' b=some (.xI o u)
def Ext.refl (H:Hp):Ext H H:=⟨λ _ _ h=>h,λ _ _ _ h=>h⟩
def Ext.trans {H H1 H2:Hp}(a:Ext H H1) (b:Ext H1 H2):Ext H H2:=⟨λ c xs h=>b.tup c xs (a.tup c xs h),λ c o u h=>b.xI c o u (a.xI c o u h)⟩
def Ext.new {H:Hp}{p:Addr}(h:H p=none) (o:HO):Ext H (upd H p o):=
 ⟨λ b xs q=>by rw[yE (sH q h)];exact q,λ b ob u q=>by rw[yE (sH q h)];exact q⟩
theorem Ext.lst {H:Hp}{p:Addr}{xs:List V}(h:H p=some (.lst xs)) (o:HO):Ext H (upd H p o):=
 ⟨λ b ys q=>by rw[yE (o7 q h (by intro z;cases z))];exact q,λ b ob u q=>by rw[yE (o7 q h (by intro z;cases z))];exact q⟩
def Ext.m9 {K:zFr}{H H':Hp}{a:Addr}{xs:List V}(e:Ext H H') (h:zS K H a xs):zS K H' a xs:=by
 rcases h with (h | ⟨o,h⟩) | h
 .exact .inl (.inl (e.tup _ _ h))
 .exact .inl (.inr ⟨o,e.xI _ _ _ h⟩)
 .exact .inr h
def Ext.mB {K:zFr}{H H':Hp}{a:Addr}{xs:List V}(e:Ext H H') (h:p7 K H a xs):p7 K H' a xs:=by
 rcases h with ⟨o,h⟩ | h
 .exact .inl ⟨o,e.xI _ _ _ h⟩
 .exact .inr h
section
variable {K:zFr}{H H':Hp}
mutual
theorem zg.ext (e:Ext H H'):∀ (d:D) {v:V},zg K H d v->zg K H' d v
 | .zi,v,h=>by simpa only [zg] using h
 | .bl b,v,h=>by simpa only [zg] using h
 | .int i,v,h=>by simpa only [zg] using h
 | .str x,v,h=>by simpa only [zg] using h
 | .ref a,v,h=>by simpa only [zg] using h
 | .tup ds,v,h=>by
  simp only[zg] at h ⊢;obtain⟨a,xs,h1,h2,h3⟩:=h;exact⟨a,xs,h1,e.m9 h2,zm.ext e ds h3⟩
 | .yF ds,v,h=>by
  simp only[zg] at h ⊢;obtain⟨a,xs,h1,h2,h3⟩:=h;exact⟨a,xs,h1,e.mB h2,zm.ext e ds h3⟩
theorem zm.ext (e:Ext H H'):∀ (ds:List D) {xs:List V},zm K H ds xs->zm K H' ds xs
 | [],xs,h=>by simpa only [zm] using h
 | d::ds,xs,h=>by
  simp only[zm] at h ⊢;obtain⟨x,r,h1,h2,h3⟩:=h;exact⟨x,r,h1,zg.ext e d h2,zm.ext e ds h3⟩
end
theorem zm.length:∀ {ds:List D}{xs:List V},zm K H ds xs->ds.length=xs.length
 | [],xs,h=>by simp only[zm] at h;subst h;rfl
 | d::ds,xs,h=>by
  simp only[zm] at h;obtain⟨x,r,h1,_,h3⟩:=h;subst h1;simp[zm.length h3]
theorem zm.get:∀ {ds:List D}{xs:List V}{i:Nat}{d:D},zm K H ds xs->ds[i]?=some d->∃ x,xs[i]?=some x/\zg K H d x
 | [],_,i,d,_,e=>by simp at e
 | c::ds,xs,i,d,h,e=>by
  simp only[zm] at h;obtain⟨x,r,h1,h2,h3⟩:=h;subst h1;cases i with
  | zero=>simp at e;subst e;exact⟨x,rfl,h2⟩
  | succ i=>
   obtain⟨y,e1,e2⟩:=zm.get (i:=i) h3 (by simpa using e);exact⟨y,by simpa using e1,e2⟩
theorem zm.append:∀ {ds es:List D}{xs ys:List V},zm K H ds xs->zm K H es ys->zm K H (ds++es) (xs++ys)
 | [],es,xs,ys,h,h'=>by simp only[zm] at h;subst h;simpa using h'
 | d::ds,es,xs,ys,h,h'=>by
  simp only[zm] at h;obtain⟨x,r,h1,h2,h3⟩:=h;subst h1;show zm K H (d::(ds++es)) (x::(r++ys));simp only[zm];exact⟨x,r++ys,rfl,h2,zm.append h3 h'⟩
def zm.nil:zm K H [] []:=by simp only[zm]
def zm.cons {d:D}{ds:List D}{x:V}{xs:List V}(h:zg K H d x) (h':zm K H ds xs):zm K H (d::ds) (x::xs):=by
 simp only[zm];exact⟨x,xs,rfl,h,h'⟩
def zm.snoc {d:D}{ds:List D}{x:V}{xs:List V}(h':zm K H ds xs) (h:zg K H d x):zm K H (ds++[d]) (xs++[x]):=h'.append (.cons h .nil)
theorem zm.ints:∀ {ns:List Int}{xs:List V},zm K H (ns.map D.int) xs->xs=ns.map V.int
 | [],xs,h=>by simpa only [List.map_nil,zm] using h
 | n::ns,xs,h=>by
  rw[zA6] at h;simp only[zm,zg] at h;obtain⟨x,r,h1,h2,h3⟩:=h;subst h1 h2;rw[zA6,zm.ints h3]
theorem zm.jJ:∀ (ns:List Int),zm K H (ns.map D.int) (ns.map V.int)
 | []=>.nil
 | n::ns=>.cons (by simp only[zg]) (zm.jJ ns)
end
inductive O where
 | lst (ds:List D)
 | ya (kvs:List (Key×D))
abbrev SS:=Addr->Option O
def yV (K:zFr) (H:Hp):List (Key×D)->List (Key×V)->Prop:=Paired λ p q=>p.1=q.1/\zg K H p.2 q.2
noncomputable def qf (K:zFr) (H:Hp) (a:Addr):O->Prop
 | .lst ds=>∃ xs,H a=some (.lst xs)/\zm K H ds xs
 | .ya kvs=>∃ vs,H a=some (.dK vs)/\yV K H kvs vs
def zI (K:zFr) (H:Hp) (S:SS):Prop:=∀ a o,S a=some o->qf K H a o
noncomputable def ups (S:SS) (a:Addr) (o:O):SS:=λ b=>if b=a then some o else S b
def tY {S:SS}{a:Addr}{o:O}:ups S a o a=some o:=by unfold ups;rw[if_pos rfl]
def u_ {S:SS}{a b:Addr}{o:O}(h:b≠a):ups S a o b=S b:=by unfold ups;rw[if_neg h]
def Sx (S S':SS):Prop:=∀ b o,S b=some o->S' b=some o
def Sx.refl (S:SS):Sx S S:=λ _ _ h=>h
def Sx.trans {S S1 S2:SS}(a:Sx S S1) (b:Sx S1 S2):Sx S S2:=λ c o h=>b c o (a c o h)
def Sx.new {S:SS}{p:Addr}(h:S p=none) (o:O):Sx S (ups S p o):=λ b u q=>by
 rw[u_ (by intro z;subst z;rw[h] at q;cases q)];exact q
theorem Sx.none {S S':SS}(e:Sx S S') {p:Addr}(h:S' p=Option.none):S p=Option.none:=by
 cases q:S p with
 | none=>rfl
 | some o=>rw[e p o q] at h;cases h
section
variable {K:zFr}{H H':Hp}{S:SS}
def qf.has {a:Addr}{o:O}(h:qf K H a o):H a≠none:=by
 cases o with
 | lst ds=>obtain⟨xs,h,_⟩:=h;rw[h];simp
 | ya kvs=>obtain⟨xs,h,_⟩:=h;rw[h];simp
theorem zI.none (r:zI K H S) {p:Addr}(h:H p=Option.none):S p=Option.none:=by
 cases q:S p with
 | none=>rfl
 | some o=>exact absurd h (r p o q).has
theorem yV.ext (e:Ext H H') {kvs:List (Key×D)}{vs:List (Key×V)}(h:yV K H kvs vs):yV K H' kvs vs:=
 Paired.lu h λ p q z=>⟨z.1,zg.ext e p.2 z.2⟩
def qf.keep {a:Addr}{o:O}(e:Ext H H') (k:∀ u,H a=some u->H' a=some u) (h:qf K H a o):qf K H' a o:=by
 cases o with
 | lst ds=>obtain⟨xs,h1,h2⟩:=h;exact⟨xs,k _ h1,zm.ext e ds h2⟩
 | ya kvs=>obtain⟨xs,h1,h2⟩:=h;exact⟨xs,k _ h1,h2.ext e⟩
theorem zI.keep (e:Ext H H') (k:∀ a u o,S a=some o->H a=some u->H' a=some u) (r:zI K H S):zI K H' S:=λ a o h=>(r a o h).keep e λ u q=>k a u o h q
theorem zI.new {p:Addr}{u:HO}(hp:H p=Option.none) (r:zI K H S):zI K (upd H p u) S:=
 r.keep (Ext.new hp u) λ a v o _ q=>by rw[yE (sH q hp)];exact q
theorem zI.ups {p:Addr}{u:HO}{o:O}(e:Ext H (upd H p u)) (hn:qf K (upd H p u) p o) (r:zI K H S):zI K (upd H p u) (ups S p o):=λ a o' h=>by
 by_cases ha:a=p
 .subst ha;rw[tY] at h;cases h;exact hn
 .rw[u_ ha] at h;exact (r a o' h).keep e λ v q=>by rw[yE ha];exact q
end
abbrev yc:=List (Option D)
def yQ (K:zFr) (H:Hp) (Y:yc) (O:St):Prop:=Y.length=O.length/\∀ (i:Nat) (d:D),Y[i]?=some (some d)->∃ v,O[i]?=some (some v)/\zg K H d v
theorem yQ.ext {K:zFr}{H H':Hp}{Y:yc}{O:St}(e:Ext H H') (r:yQ K H Y O):yQ K H' Y O:=⟨r.1,λ i d h=>by
 obtain⟨v,h1,h2⟩:=r.2 i d h;exact⟨v,h1,zg.ext e d h2⟩⟩
theorem yQ.set {K:zFr}{H:Hp}{Y:yc}{O:St}(i:Nat) {d:D}{v:V}(r:yQ K H Y O) (h:zg K H d v):yQ K H (Y.set i (some d)) (O.set i (some v)):=by
 refine⟨by rw[List.length_set,List.length_set];exact r.1,λ j c hc=>?_⟩;rw[List.getElem?_set] at hc ⊢;by_cases hj:i=j
 .subst hj;rw[if_pos rfl] at hc ⊢;by_cases hl:i < Y.length
  .rw[if_pos hl] at hc;rw[if_pos (by rw[<- r.1];exact hl)];cases hc;exact⟨v,rfl,h⟩
  .rw[if_neg hl] at hc;cases hc
 .rw[if_neg hj] at hc ⊢;exact r.2 j c hc
abbrev DK:=D->SS->Prop
abbrev zt:=yc->SS->DK->Prop
abbrev y9:=yc->SS->(Bool->SS->Prop)->Prop
abbrev yk:=yc->SS->(List D->SS->Prop)->Prop
def ye (t:zt):Prop:=∀ Y S (Q Q':DK),(∀ d S',Q d S'->Q' d S')->t Y S Q->t Y S Q'
def w6 (t:y9):Prop:=∀ Y S (Q Q':Bool->SS->Prop),(∀ d S',Q d S'->Q' d S')->t Y S Q->t Y S Q'
def tS (t:yk):Prop:=∀ Y S (Q Q':List D->SS->Prop),(∀ d S',Q d S'->Q' d S')->t Y S Q->t Y S Q'
noncomputable def wu (K:zFr) (H:Hp) (Q:VK):DK:=λ d S'=>∀ v H',zg K H' d v->Ext H H'->zI K H' S'->Q v H'
def o_ (K:zFr) (H:Hp) (Q:Bool->Hp->Prop):Bool->SS->Prop:=λ b S'=>∀ H',Ext H H'->zI K H' S'->Q b H'
def R6 (K:zFr) (H:Hp) (Q:List V->Hp->Prop):List D->SS->Prop:=λ ds S'=>∀ vs H',zm K H' ds vs->Ext H H'->zI K H' S'->Q vs H'
def wL (K:zFr) (H:Hp) (Q:St->Hp->Prop):yc->SS->Prop:=fun Y S'=>∀ O H',yQ K H' Y O->Ext H H'->zI K H' S'->Q O H'
def wu.ext {K:zFr}{H H':Hp}{Q:VK}(e:Ext H H') {d:D}{S:SS}(h:wu K H Q d S):wu K H' Q d S:=λ v H2 r x q=>h v H2 r (e.trans x) q
def o_.ext {K:zFr}{H H':Hp}{Q:Bool->Hp->Prop}(e:Ext H H') {d:Bool}{S:SS}(h:o_ K H Q d S):o_ K H' Q d S:=λ H2 x q=>h H2 (e.trans x) q
def wL.ext {K:zFr}{H H':Hp}{Q:St->Hp->Prop}(e:Ext H H') {d:yc}{S:SS}(h:wL K H Q d S):wL K H' Q d S:=λ v H2 r x q=>h v H2 r (e.trans x) q
def zL (K:zFr) (t:zt):TE:=fun O H Q=>∃ Y S,yQ K H Y O/\zI K H S/\t Y S (wu K H Q)
def xR (K:zFr) (t:y9):TT:=fun O H Q=>∃ Y S,yQ K H Y O/\zI K H S/\t Y S (o_ K H Q)
def xZ (K:zFr) (t:yk):TA:=fun O H Q=>∃ Y S,yQ K H Y O/\zI K H S/\t Y S (R6 K H Q)
structure PD (X:Cx) (e:Expr) (t:zt):Prop where
 mo:ye t
 pe:PE X e (zL X.K t)
structure xD (X:Cx) (e:Expr) (t:y9):Prop where
 mo:w6 t
 pt:PT X e (xR X.K t)
structure xE (X:Cx) (es:List Expr) (t:yk):Prop where
 mo:tS t
 pa:PA X es (xZ X.K t)
def PE.imp {X:Cx}{e:Expr}{t t':TE}(h:PE X e t) (hi:∀ O H Q,t' O H Q->t O H Q):PE X e t':=λ pins s O H Q I q=>h pins s O H Q I (hi O H Q q)
def PT.imp {X:Cx}{e:Expr}{t t':TT}(h:PT X e t) (hi:∀ O H Q,t' O H Q->t O H Q):PT X e t':=λ pins s O H Q I q=>h pins s O H Q I (hi O H Q q)
def PA.imp {X:Cx}{e:List Expr}{t t':TA}(h:PA X e t) (hi:∀ O H Q,t' O H Q->t O H Q):PA X e t':=λ pos pins s O H Q I q=>h pos pins s O H Q I (hi O H Q q)
def PS.imp {X:Cx}{e:Stmt}{t t':TS}(h:PS X e t) (hi:∀ D O H,t' D O H->t D O H):PS X e t':=λ pins s O H Q I q=>h pins s O H Q I (hi Q O H q)
def xC.imp {X:Cx}{e:List Stmt}{t t':TS}(h:xC X e t) (hi:∀ D O H,t' D O H->t D O H):xC X e t':=λ pins s O H Q I q=>h pins s O H Q I (hi Q O H q)
section
variable {X:Cx}{K:zFr}
def zL.go {t:zt}{O:St}{H:Hp}{Q:VK}{Y:yc}{S:SS}{R:DK}(mo:ye t) (r1:yQ K H Y O) (r2:zI K H S) (h:t Y S R) (k:∀ d S' v H',R d S'->zg K H' d v->Ext H H'->zI K H' S'->Q v H'):zL K t O H Q:=
 ⟨Y,S,r1,r2,mo Y S _ _ (λ d S' q v H' a b c=>k d S' v H' q a b c) h⟩
def xR.go {t:y9}{O:St}{H:Hp}{Q:Bool->Hp->Prop}{Y:yc}{S:SS}{R:Bool->SS->Prop}(mo:w6 t) (r1:yQ K H Y O) (r2:zI K H S) (h:t Y S R) (k:∀ d S' H',R d S'->Ext H H'->zI K H' S'->Q d H'):xR K t O H Q:=
 ⟨Y,S,r1,r2,mo Y S _ _ (λ d S' q H' b c=>k d S' H' q b c) h⟩
def xZ.go {t:yk}{O:St}{H:Hp}{Q:List V->Hp->Prop}{Y:yc}{S:SS}{R:List D->SS->Prop}(mo:tS t) (r1:yQ K H Y O) (r2:zI K H S) (h:t Y S R) (k:∀ d S' v H',R d S'->zm K H' d v->Ext H H'->zI K H' S'->Q v H'):xZ K t O H Q:=
 ⟨Y,S,r1,r2,mo Y S _ _ (λ d S' q v H' a b c=>k d S' v H' q a b c) h⟩
def y8 (i:Nat):zt:=fun Y S Q=>match Y[i]? with
 | some (some d)=>Q d S
 | _=>False
def dC (d:D):zt:=λ _ S Q=>Q d S
def za (i:Nat) {x:Str}{pos:Pos}(h:PE X (.Name x pos) (kz i)):PD X (.Name x pos) (y8 i):=by
 refine⟨fun Y S Q Q' hq h=>?_,PE.imp h fun O H Q hu=>?_⟩
 .unfold y8 at h ⊢;split at h
  .exact hq _ _ h
  .exact h
 .obtain⟨Y,S,r1,r2,h⟩:=hu;unfold y8 at h;split at h
  .rename_i d e;obtain⟨v,h1,h2⟩:=r1.2 i d e;exact⟨v,h1,h v H h2 (Ext.refl H) r2⟩
  .exact h.elim
def dC.mo (d:D):ye (dC d):=λ _ _ _ _ hq h=>hq _ _ h
def oq {e:Expr}{d:D}{v:V}(h:PE X e (tC v)) (r:∀ H,zg X.K H d v):PD X e (dC d):=
 ⟨dC.mo d,PE.imp h λ _ H _ ⟨_,_,_,r2,h⟩=>h v H (r H) (Ext.refl H) r2⟩
def zh {i j pos}:PD X (.Constant (.int i) j pos) (dC (.int i)):=oq WA λ _=>by simp only[zg]
def rK {i j pos}:PD X (.Constant (.bool i) j pos) (dC (.bl i)):=oq WM λ _=>by simp only[zg]
def qH {j pos}:PD X (.Constant .none j pos) (dC .zi):=oq W6 λ _=>by simp only[zg]
def jw {x j pos}:PD X (.Constant (.str x) j pos) (dC (.str x)):=oq W2 λ _=>by simp only[zg]
abbrev yR:=D->D->SS->DK->Prop
def xr (f:yR):Prop:=∀ x y S (Q Q':DK),(∀ d S',Q d S'->Q' d S')->f x y S Q->f x y S Q'
def xt (K:zFr) (f:yR) (r:R2):Prop:=∀ x y d e H S Q,zg K H d x->zg K H e y->zI K H S->f d e S (wu K H Q)->r x y H Q
def yp (f:yR) (ta tb:zt):zt:=fun Y S Q=>ta Y S λ x S1=>tb Y S1 λ y S2=>f x y S2 Q
def yp.mo {f:yR}{ta tb:zt}(hf:xr f) (ha:ye ta) (hb:ye tb):ye (yp f ta tb):=fun Y S Q Q' hq h=>
 ha Y S _ _ (λ x S1 h=>hb Y S1 _ _ (λ y S2 h=>hf x y S2 _ _ hq h) h) h
def mx {f:yR}{r:R2}{ta tb:zt}(hr:xt K f r) (hf:xr f) (ha:ye ta) (hb:ye tb) {O:St}{H:Hp}{Q:VK}(h:zL K (yp f ta tb) O H Q):pP r (zL K ta) (zL K tb) O H Q:=by
 obtain⟨Y,S,r1,r2,h⟩:=h;refine zL.go ha r1 r2 h λ x S1 v H1 h1 q1 e1 p1=>?_;refine zL.go hb (r1.ext e1) p1 h1 λ y S2 w H2 h2 q2 e2 p2=>?_;exact hr v w x y H2 S2 Q (zg.ext e2 x q1) q2 p2 (hf x y S2 _ _ (λ d S' z=>z.ext (e1.trans e2)) h2)
def sy {a b:Expr}{op:Operator}{pos:Pos}{f:yR}{r:R2}{ta tb:zt}(ho:yd X (binaryOp op) r) (hr:xt X.K f r) (hf:xr f) (ha:PD X a ta) (hb:PD X b tb):PD X (.BinOp a op b pos) (yp f ta tb):=
 ⟨yp.mo hf ha.mo hb.mo,PE.imp (W3 ho ha.pe hb.pe) λ _ _ _ h=>mx hr hf ha.mo hb.mo h⟩
def d_ {a b:Expr}{op:CmpOp}{pos:Pos}{f:yR}{r:R2}{ta tb:zt}(ho:yd X (compareOp op) r) (hr:xt X.K f r) (hf:xr f) (ha:PD X a ta) (hb:PD X b tb) (hm:behindInMarks op b=false):PD X (.Compare a [op] [b] pos) (yp f ta tb):=
 ⟨yp.mo hf ha.mo hb.mo,PE.imp (WH ho ha.pe hb.pe hm) λ _ _ _ h=>mx hr hf ha.mo hb.mo h⟩
def uk (t:zt):y9:=fun Y S Q=>t Y S λ x S1=>match x with
 | .bl b=>Q b S1
 | _=>False
def uk.mo {t:zt}(h:ye t):w6 (uk t):=fun Y S Q Q' hq q=>h Y S _ _ (λ d S' z=>by
 cases d <;> first
  | exact hq _ _ z
  | exact z) q
def qD {a b:Expr}{op:CmpOp}{pos:Pos}{f:yR}{r:R2}{ta tb:zt}(ho:yd X (compareOp op) r) (hr:xt X.K f r) (hf:xr f) (ha:PD X a ta) (hb:PD X b tb) (hm:behindInMarks op b=false):xD X (.Compare a [op] [b] pos) (uk (yp f ta tb)):=by
 refine⟨uk.mo (yp.mo hf ha.mo hb.mo),PT.imp (XS ho ha.pe hb.pe hm) fun O H Q h=>?_⟩;obtain⟨Y,S,r1,r2,h⟩:=h;refine mx hr hf ha.mo hb.mo ⟨Y,S,r1,r2,yp.mo hf ha.mo hb.mo Y S _ _ (λ d S' z v H' a b c=>?_) h⟩;cases d with
 | bl k=>simp only[zg] at a;exact⟨k,a,z H' b c⟩
 | zi=>exact z.elim
 | int _=>exact z.elim
 | str _=>exact z.elim
 | tup _=>exact z.elim
 | yF _=>exact z.elim
 | ref _=>exact z.elim
def fI (C:Int->Int->Prop) (g:Int->Int->D):yR:=λ x y S Q=>match x,y with
 | .int i,.int j=>C i j/\Q (g i j) S
 | _,_=>False
def fI.mo {C:Int->Int->Prop}{g:Int->Int->D}:xr (fI C g):=λ x y S Q Q' hq h=>by
 unfold fI at h ⊢;split at h
 .exact⟨h.1,hq _ _ h.2⟩
 .exact h.elim
def x9 (g:Int->Int->D):yR:=λ x y S Q=>match x,y with
 | .int i,.int j=>Q (g i j) S
 | _,_=>False
def x9.mo {g:Int->Int->D}:xr (x9 g):=λ x y S Q Q' hq h=>by
 unfold x9 at h ⊢;split at h
 .exact hq _ _ h
 .exact h.elim
def fI.fits {C:Int->Int->Prop}{g:Int->Int->D}{g':Int->Int->V}(hg:∀ i j H,zg K H (g i j) (g' i j)):xt K (fI C g) (rI C g'):=λ x y d e H S Q h1 h2 h3 h=>by
 unfold fI at h;split at h
 .simp only[zg] at h1 h2;exact⟨_,_,h1,h2,h.1,h.2 _ H (hg _ _ H) (Ext.refl H) h3⟩
 .exact h.elim
def x9.fits {g:Int->Int->D}{g':Int->Int->V}(hg:∀ i j H,zg K H (g i j) (g' i j)):xt K (x9 g) (vm g'):=λ x y d e H S Q h1 h2 h3 h=>by
 unfold x9 at h;split at h
 .simp only[zg] at h1 h2;exact⟨_,_,h1,h2,h _ H (hg _ _ H) (Ext.refl H) h3⟩
 .exact h.elim
variable {a b c:Expr}{ta tb tc:zt}{pos:Pos}
def rF (ha:PD X a ta) (hb:PD X b tb):PD X (.BinOp a .Sub b pos) (yp (x9 λ i j=>.int (i-j)) ta tb):=sy Vp (x9.fits λ _ _ _=>by simp only[zg]) x9.mo ha hb
def yW (ha:PD X a ta) (hb:PD X b tb):PD X (.BinOp a .Mod b pos) (yp (fI (λ _ j=>0<j) λ i j=>.int (i%j)) ta tb):=sy Vx (fI.fits λ _ _ _=>by simp only[zg]) fI.mo ha hb
def vF (ha:PD X a ta) (hb:PD X b tb):PD X (.BinOp a .FloorDiv b pos) (yp (fI xP λ i j=>.int (i/j)) ta tb):=sy V6 (fI.fits λ _ _ _=>by simp only[zg]) fI.mo ha hb
def rG (ha:PD X a ta) (hb:PD X b tb):PD X (.BinOp a .Pow b pos) (yp (fI rn λ i j=>.int (i ^ j.toNat)) ta tb):=sy Vq (fI.fits λ _ _ _=>by simp only[zg]) fI.mo ha hb
abbrev iM:yR:=x9 λ i j=>.bl (decide (i<=j))
abbrev iO:yR:=x9 λ i j=>.bl (decide (j<=i))
def fit_le:xt K iM (vm λ i j=>.bl (decide (i<=j))):=x9.fits λ _ _ _=>by simp only[zg]
def Rg:xt K iO (vm λ i j=>.bl (decide (j<=i))):=x9.fits λ _ _ _=>by simp only[zg]
def dX (ha:PD X a ta) (hb:PD X b tb):PD X (.Compare a [.GtE] [b] pos) (yp iO ta tb):=d_ V4 Rg x9.mo ha hb (rM _)
def WO (ha:PD X a ta) (hb:PD X b tb):xD X (.Compare a [.LtE] [b] pos) (uk (yp iM ta tb)):=qD j8 fit_le x9.mo ha hb (rM _)
end
section
variable {X:Cx}{K:zFr}{a b c:Expr}{ta tb tc:zt}{pos:Pos}
def nk (ta tb:zt):zt:=fun Y S Q=>ta Y S λ x S1=>match x with
 | .bl k=>if k=true then tb Y S1 Q else Q (.bl false) S1
 | _=>False
def nh (ta:zt):zt:=fun Y S Q=>ta Y S λ x S1=>match x with
 | .bl k=>Q (.bl (!k)) S1
 | _=>False
def wH {c:Prop} [Decidable c] {A B A' B':Prop}(h1:A->A') (h2:B->B') (h:if c then A else B):if c then A' else B':=by
 by_cases q:c
 .rw[if_pos q] at h ⊢;exact h1 h
 .rw[if_neg q] at h ⊢;exact h2 h
def nk.mo (ha:ye ta) (hb:ye tb):ye (nk ta tb):=fun Y S Q Q' hq h=>ha Y S _ _ (λ x S1 z=>by
 cases x <;> first
  | exact wH (hb Y S1 _ _ hq) (hq _ _) z
  | exact z) h
def nh.mo (ha:ye ta):ye (nh ta):=fun Y S Q Q' hq h=>ha Y S _ _ (λ x S1 z=>by
 cases x <;> first
  | exact hq _ _ z
  | exact z) h
def jy {op} {t:zt}(h:PD X a t):PD X (.BoolOp op [a] pos) t:=⟨h.mo,W4 h.pe⟩
variable {rest:List Expr}
def j6 (ha:PD X a ta) (hb:PD X (.BoolOp .And (b::rest) pos) tb):PD X (.BoolOp .And (a::b::rest) pos) (nk ta tb):=by
 refine⟨nk.mo ha.mo hb.mo,PE.imp (WN ha.pe hb.pe) fun O H Q hu=>?_⟩;obtain⟨Y,S,r1,r2,h⟩:=hu;refine zL.go ha.mo r1 r2 h λ x S1 v H1 h1 q1 e1 p1=>?_;cases x with
 | bl k=>
  simp only[zg] at q1;refine⟨k,q1,wH (λ z=>?_) (λ z=>?_) h1⟩
  .exact zL.go hb.mo (r1.ext e1) p1 z λ y S2 w H2 h2 q2 e2 p2=>h2 w H2 q2 (e1.trans e2) p2
  .exact z _ H1 (by simp only[zg]) e1 p1
 | zi=>exact h1.elim
 | int _=>exact h1.elim
 | str _=>exact h1.elim
 | tup _=>exact h1.elim
 | yF _=>exact h1.elim
 | ref _=>exact h1.elim
def WZ (ha:PD X a ta):PD X (.UnaryOp .Not a pos) (nh ta):=by
 refine⟨nh.mo ha.mo,PE.imp (W5 ha.pe) fun O H Q hu=>?_⟩;obtain⟨Y,S,r1,r2,h⟩:=hu;refine zL.go ha.mo r1 r2 h λ x S1 v H1 h1 q1 e1 p1=>?_;cases x with
 | bl k=>
  simp only[zg] at q1;exact⟨k,q1,h1 _ H1 (by simp only[zg]) e1 p1⟩
 | zi=>exact h1.elim
 | int _=>exact h1.elim
 | str _=>exact h1.elim
 | tup _=>exact h1.elim
 | yF _=>exact h1.elim
 | ref _=>exact h1.elim
def oY (t u:y9):y9:=fun Y S Q=>t Y S λ k S1=>if k=true then u Y S1 Q else Q false S1
def oV (t u:y9):y9:=fun Y S Q=>t Y S λ k S1=>if k=true then Q true S1 else u Y S1 Q
def oW (t:y9):y9:=fun Y S Q=>t Y S λ k S1=>Q (!k) S1
variable {t u:y9}
def oY.mo (h:w6 t) (h':w6 u):w6 (oY t u):=fun Y S _ _ hq z=>h Y S _ _ (λ k S1 z=>wH (h' Y S1 _ _ hq) (hq _ _) z) z
def oV.mo (h:w6 t) (h':w6 u):w6 (oV t u):=fun Y S _ _ hq z=>h Y S _ _ (λ k S1 z=>wH (hq _ _) (h' Y S1 _ _ hq) z) z
def oW.mo (h:w6 t):w6 (oW t):=fun Y S _ _ hq z=>h Y S _ _ (λ k S1 z=>hq _ _ z) z
structure wN (X:Cx) (e:Expr) (t:y9):Prop where
 mo:w6 t
 pw:PW X e (xR X.K t)
def PW.imp {e:Expr}{t t':TT}(h:PW X e t) (hi:∀ O H Q,t' O H Q->t O H Q):PW X e t':=λ whole pins s O H Q I q=>h whole pins s O H Q I (hi O H Q q)
theorem wN.pt {e:Expr}{t:y9}(h:wN X e t):xD X e t:=⟨h.mo,PW.pt h.pw⟩
def mR (h:xD X a t):wN X (.BoolOp .And [a] pos) t:=⟨h.mo,XJ h.pt⟩
def ju (h:xD X a t):wN X (.BoolOp .Or [a] pos) t:=⟨h.mo,XH h.pt⟩
def mS (ha:xD X a t) (hb:wN X (.BoolOp .And (b::rest) pos) u):wN X (.BoolOp .And (a::b::rest) pos) (oY t u):=by
 refine⟨oY.mo ha.mo hb.mo,PW.imp (XM ha.pt hb.pw) fun O H Q hu=>?_⟩;obtain⟨Y,S,r1,r2,h⟩:=hu;refine xR.go ha.mo r1 r2 h λ k S1 H1 h1 e1 p1=>wH (λ z=>?_) (λ z=>z H1 e1 p1) h1;exact xR.go hb.mo (r1.ext e1) p1 z λ y S2 H2 h2 e2 p2=>h2 H2 (e1.trans e2) p2
def jv (ha:xD X a t) (hb:wN X (.BoolOp .Or (b::rest) pos) u):wN X (.BoolOp .Or (a::b::rest) pos) (oV t u):=by
 refine⟨oV.mo ha.mo hb.mo,PW.imp (XI ha.pt hb.pw) fun O H Q hu=>?_⟩;obtain⟨Y,S,r1,r2,h⟩:=hu;refine xR.go ha.mo r1 r2 h λ k S1 H1 h1 e1 p1=>wH (λ z=>z H1 e1 p1) (λ z=>?_) h1;exact xR.go hb.mo (r1.ext e1) p1 z λ y S2 H2 h2 e2 p2=>h2 H2 (e1.trans e2) p2
def qC (ha:xD X a t):xD X (.UnaryOp .Not a pos) (oW t):=by
 refine⟨oW.mo ha.mo,PT.imp (XR ha.pt) fun O H Q hu=>?_⟩;obtain⟨Y,S,r1,r2,h⟩:=hu;exact xR.go ha.mo r1 r2 h λ k S1 H1 h1 e1 p1=>h1 H1 e1 p1
def ni (t:y9) (ta tb:zt):zt:=fun Y S Q=>t Y S λ k S1=>if k=true then ta Y S1 Q else tb Y S1 Q
def ni.mo (h:w6 t) (ha:ye ta) (hb:ye tb):ye (ni t ta tb):=fun Y S _ _ hq z=>h Y S _ _ (λ k S1 z=>wH (ha Y S1 _ _ hq) (hb Y S1 _ _ hq) z) z
def dW (hc:xD X c t) (ha:PD X a ta) (hb:PD X b tb):PD X (.IfExp c a b pos) (ni t ta tb):=by
 refine⟨ni.mo hc.mo ha.mo hb.mo,PE.imp (WB hc.pt ha.pe hb.pe) fun O H Q hu=>?_⟩;obtain⟨Y,S,r1,r2,h⟩:=hu;refine xR.go hc.mo r1 r2 h λ k S1 H1 h1 e1 p1=>wH (λ z=>?_) (λ z=>?_) h1
 .exact zL.go ha.mo (r1.ext e1) p1 z λ y S2 w H2 h2 q2 e2 p2=>h2 w H2 q2 (e1.trans e2) p2
 .exact zL.go hb.mo (r1.ext e1) p1 z λ y S2 w H2 h2 q2 e2 p2=>h2 w H2 q2 (e1.trans e2) p2
def vi (d:D) (S:SS) (Q:Bool->SS->Prop):Prop:=match d with
 | .zi=>Q false S
 | .bl k=>Q k S
 | .int i=>Q (i != 0) S
 | .str x=>x.length<=sizeLine/\Q ((x.length:Int) != 0) S
 | .tup ds=>Q (!ds.isEmpty) S
 | .yF ds=>Q (!ds.isEmpty) S
 | .ref p=>match S p with
  | some (.lst ds)=>Q (!ds.isEmpty) S
  | some (.ya kvs)=>Q (!kvs.isEmpty) S
  | none=>False
def av (ta:zt):y9:=fun Y S Q=>ta Y S λ x S1=>vi x S1 Q
def vi.mo {d:D}{S:SS}{Q Q':Bool->SS->Prop}(hq:∀ k S',Q k S'->Q' k S') (h:vi d S Q):vi d S Q':=by
 cases d with
 | str x=>exact⟨h.1,hq _ _ h.2⟩
 | ref p=>
  unfold vi at h ⊢;dsimp only at h ⊢;split at h
  .exact hq _ _ h
  .exact hq _ _ h
  .exact h
 | _=>exact hq _ _ h
theorem zm.isEmpty {H:Hp}{ds:List D}{xs:List V}(h:zm K H ds xs):ds.isEmpty=xs.isEmpty:=by
 have:=h.length;cases ds <;> cases xs <;> simp_all
def QC {α β:Type}{F:α->β->Prop}{xs:List α}{ys:List β}(h:Paired F xs ys):xs.isEmpty=ys.isEmpty:=by cases h <;> rfl
def vi.fits {H:Hp}{d:D}{v:V}{S:SS}{Q:Bool->Hp->Prop}(r:zg K H d v) (p:zI K H S) (h:vi d S (o_ K H Q)):∃ k,gz K v H k/\Q k H:=by
 cases d with
 | zi=>simp only[zg] at r;subst r;exact⟨false,rfl,h H (.refl H) p⟩
 | bl k=>simp only[zg] at r;subst r;exact⟨k,rfl,h H (.refl H) p⟩
 | int i=>simp only[zg] at r;subst r;exact⟨_,rfl,h H (.refl H) p⟩
 | str x=>simp only[zg] at r;subst r;exact⟨_,⟨h.1,rfl⟩,h.2 H (.refl H) p⟩
 | tup ds=>
  simp only[zg] at r;obtain⟨a,xs,rfl,r1,r2⟩:=r;exact⟨_,.inr (.inl ⟨xs,r1,by rw[r2.isEmpty]⟩),h H (.refl H) p⟩
 | yF ds=>
  simp only[zg] at r;obtain⟨a,xs,rfl,r1,r2⟩:=r;exact⟨_,.inl ⟨xs,r1.sq,by rw[r2.isEmpty]⟩,h H (.refl H) p⟩
 | ref a=>
  simp only[zg] at r;subst r;unfold vi at h;dsimp only at h;split at h
  .rename_i ds e;obtain⟨xs,e1,r2⟩:=p a _ e;exact⟨_,.inl ⟨xs,zN.of e1,by rw[r2.isEmpty]⟩,h H (.refl H) p⟩
  .rename_i kvs e;obtain⟨xs,e1,r2⟩:=p a _ e;exact⟨_,.inr (.inr ⟨xs,e1,by rw[QC r2]⟩),h H (.refl H) p⟩
  .exact h.elim
def u9 (ha:PD X a ta) (he:∀ whole,isTrue a X.env whole=(do let v <- whole;standAt a.pos;holding [v] (truthy v)):=by intro _;rfl):xD X a (av ta):=by
 refine⟨fun Y S Q Q' hq h=>ha.mo Y S _ _ (λ x S1 z=>vi.mo hq z) h,PT.imp (XQ ha.pe he) fun O H Q hu=>?_⟩;obtain⟨Y,S,r1,r2,h⟩:=hu;refine zL.go ha.mo r1 r2 h λ x S1 v H1 h1 q1 e1 p1=>?_;exact vi.fits q1 p1 (vi.mo (λ k S' z=>z.ext e1) h1)
def lJ:yk:=λ _ S Q=>Q [] S
def rY (te:zt) (tr:yk):yk:=fun Y S Q=>te Y S λ x S1=>tr Y S1 λ xs S2=>Q (x::xs) S2
variable {e:Expr}{es:List Expr}{te:zt}{tA:yk}
def rY.mo (h:ye te) (h':tS tA):tS (rY te tA):=fun Y S _ _ hq z=>h Y S _ _ (λ x S1 z=>h' Y S1 _ _ (λ xs S2 z=>hq _ _ z) z) z
def zk:xE X [] lJ:=⟨λ _ _ _ _ hq h=>hq _ _ h,PA.imp qI fun O H Q ⟨_,_,_,r2,h⟩=>h [] H .nil (.refl H) r2⟩
def ze (ha:PD X e te) (hr:xE X es tA) (hs:starEach (e::es) X.env=(false,eval e X.env)::starEach es X.env:=by rfl):xE X (e::es) (rY te tA):=by
 refine⟨rY.mo ha.mo hr.mo,PA.imp (rL ha.pe hr.pa hs) fun O H Q hu=>?_⟩;obtain⟨Y,S,r1,r2,h⟩:=hu;refine zL.go ha.mo r1 r2 h λ x S1 v H1 h1 q1 e1 p1=>?_;refine xZ.go hr.mo (r1.ext e1) p1 h1 λ xs S2 w H2 h2 q2 e2 p2=>?_;exact h2 (v::w) H2 (.cons (zg.ext e2 x q1) q2) (e1.trans e2) p2
def aC (t:yk):zt:=fun Y S Q=>t Y S λ ds S1=>ds.length<=sizeLine/\Q (.tup ds) S1
def aG (t:yk):zt:=fun Y S Q=>t Y S λ ds S1=>ds.length<=sizeLine/\∀ p,S1 p=none->Q (.ref p) (ups S1 p (.lst ds))
def yn {k} (h:xE X es tA):PD X (.Tuple es k pos) (aC tA):=by
 refine⟨fun Y S _ _ hq z=>h.mo Y S _ _ (λ ds S1 z=>⟨z.1,hq _ _ z.2⟩) z,PE.imp (W0 h.pa) fun O H Q hu=>?_⟩;obtain⟨Y,S,r1,r2,h'⟩:=hu;refine xZ.go h.mo r1 r2 h' λ ds S1 xs H1 h1 q1 e1 p1=>⟨by rw[<- q1.length];exact h1.1,λ p hp=>?_⟩;refine h1.2 _ _ ?_ (e1.trans (.new hp _)) (p1.new hp);simp only[zg];exact⟨p,xs,rfl,zS.of yL,zm.ext (.new hp _) ds q1⟩
def wC (h:xE X es tA):PD X (.List es pos) (aG tA):=by
 refine⟨fun Y S _ _ hq z=>h.mo Y S _ _ (λ ds S1 z=>⟨z.1,λ p hp=>hq _ _ (z.2 p hp)⟩) z,PE.imp (W7 h.pa) fun O H Q hu=>?_⟩;obtain⟨Y,S,r1,r2,h'⟩:=hu;refine xZ.go h.mo r1 r2 h' λ ds S1 xs H1 h1 q1 e1 p1=>⟨by rw[<- q1.length];exact h1.1,λ p hp=>?_⟩;refine h1.2 p (p1.none hp) _ _ (by simp only[zg]) (e1.trans (.new hp _)) ?_;exact p1.ups (.new hp _) ⟨xs,yL,zm.ext (.new hp _) ds q1⟩
def xX:yR:=λ x y S Q=>match x,y with
 | .tup ds,.int i=>match zR ds i with
  | some d=>Q d S
  | none=>False
 | .yF ds,.int i=>match zR ds i with
  | some d=>Q d S
  | none=>False
 | .ref p,.int i=>match S p with
  | some (.lst ds)=>match zR ds i with
   | some d=>Q d S
   | none=>False
  | _=>False
 | _,_=>False
def xX.mo:xr xX:=λ x y S Q Q' hq h=>by
 unfold xX at h ⊢;split at h
 .skip
  split at h
  .exact hq _ _ h
  .exact h
 .skip
  split at h
  .exact hq _ _ h
  .exact h
 .skip
  split at h
  .skip
   split at h
   .exact hq _ _ h
   .exact h
  .exact h.elim
 .exact h.elim
theorem zm.zR {H:Hp}{ds:List D}{xs:List V}{i:Int}{d:D}(h:zm K H ds xs) (e:L2.zR ds i=some d):∃ x,L2.zR xs i=some x/\zg K H d x:=by
 unfold L2.zR at e ⊢;rw[h.length] at e;cases q:wG xs.length i with
 | none=>rw[q] at e;cases e
 | some j=>
  rw[q] at e;exact h.get e
def xX.fits:xt K xX (dw K):=λ x y d e H S Q h1 h2 h3 h=>by
 unfold xX at h;split at h
 .split at h
  .rename_i q;simp only[zg] at h1 h2;obtain⟨a,xs,rfl,r1,r2⟩:=h1;obtain⟨x',e1,e2⟩:=r2.zR q;exact .inr (.inl ⟨a,xs,_,x',rfl,h2,r1,e1,h x' H e2 (.refl H) h3⟩)
  .exact h.elim
 .split at h
  .rename_i q;simp only[zg] at h1 h2;obtain⟨a,xs,rfl,r1,r2⟩:=h1;obtain⟨x',e1,e2⟩:=r2.zR q;exact .inl ⟨a,xs,_,x',rfl,h2,r1.sq,e1,h x' H e2 (.refl H) h3⟩
  .exact h.elim
 .split at h
  .rename_i q0;split at h
   .rename_i q;simp only[zg] at h1 h2;subst h1;obtain⟨xs,r1,r2⟩:=h3 _ _ q0;obtain⟨x',e1,e2⟩:=r2.zR q;exact .inl ⟨_,xs,_,x',rfl,h2,zN.of r1,e1,h x' H e2 (.refl H) h3⟩
   .exact h.elim
  .exact h.elim
 .exact h.elim
def zC (ha:PD X a ta) (hb:PD X b tb) (hs:Zp b:=by exact λ _ _=>rfl):PD X (.Subscript a b pos) (yp xX ta tb):=
 ⟨yp.mo xX.mo ha.mo hb.mo,PE.imp (W9 TR ha.pe hb.pe hs) λ _ _ _ h=>mx xX.fits xX.mo ha.mo hb.mo h⟩
abbrev xx:=List D->SS->DK->Prop
def vV (f:xx):Prop:=∀ ds S (Q Q':DK),(∀ d S',Q d S'->Q' d S')->f ds S Q->f ds S Q'
def uW (K:zFr) (f:xx) (r:List V->Hp->VK->Prop):Prop:=∀ xs ds H S Q,zm K H ds xs->zI K H S->f ds S (wu K H Q)->r xs H Q
def xA (f:xx) (t:yk):zt:=fun Y S Q=>t Y S λ ds S1=>f ds S1 Q
def xA.mo {f:xx}(hf:vV f) (h:tS tA):ye (xA f tA):=fun Y S _ _ hq z=>h Y S _ _ (λ ds S1 z=>hf ds S1 _ _ hq z) z
def e9 {f:xx}{r:List V->Hp->VK->Prop}(hf:vV f) (hr:uW K f r) (h:tS tA) {O:St}{H:Hp}{Q:VK}(hu:zL K (xA f tA) O H Q):m5 r (xZ K tA) O H Q:=by
 obtain⟨Y,S,r1,r2,h'⟩:=hu;refine xZ.go h r1 r2 h' λ ds S1 xs H1 h1 q1 e1 p1=>?_;exact hr xs ds H1 S1 Q q1 p1 (hf ds S1 _ _ (λ d S' z=>z.ext e1) h1)
def sA {f:xx}{r:List V->Hp->VK->Prop}{e:Expr}(h:PE X e (m5 r (xZ X.K tA))) (hf:vV f) (hr:uW X.K f r) (ha:tS tA):PD X e (xA f tA):=
 ⟨xA.mo hf ha,PE.imp h λ _ _ _ hu=>e9 hf hr ha hu⟩
noncomputable def yf (d:D) (S:SS):Option (List D):=match d with
 | .tup ds=>some ds
 | .yF ds=>some ds
 | .ref p=>match S p with
  | some (.lst ds)=>some ds
  | _=>none
 | _=>none
theorem yf.sq {H:Hp}{S:SS}{d:D}{v:V}{ds:List D}(r:zg K H d v) (p:zI K H S) (e:yf d S=some ds):∃ a xs,v=.ref a/\(zN K H a xs\/zS K H a xs)/\zm K H ds xs:=by
 unfold yf at e;split at e
 .cases e;simp only[zg] at r;obtain⟨a,xs,h1,h2,h3⟩:=r;exact⟨a,xs,h1,.inr h2,h3⟩
 .cases e;simp only[zg] at r;obtain⟨a,xs,h1,h2,h3⟩:=r;exact⟨a,xs,h1,.inl h2.sq,h3⟩
 .split at e
  .rename_i q;cases e;simp only[zg] at r;subst r;obtain⟨xs,h1,h2⟩:=p _ _ q;exact⟨_,xs,rfl,.inl (zN.of h1),h2⟩
  .cases e
 .cases e
def zm.one {H:Hp}{d:D}{xs:List V}(h:zm K H [d] xs):∃ x,xs=[x]/\zg K H d x:=by
 simp only[zm] at h;obtain⟨x,r,rfl,h2,rfl⟩:=h;exact⟨x,rfl,h2⟩
def zm.two {H:Hp}{d d':D}{xs:List V}(h:zm K H [d,d'] xs):∃ x y,xs=[x,y]/\zg K H d x/\zg K H d' y:=by
 simp only[zm] at h;obtain⟨x,r,rfl,h2,y,r',rfl,h3,rfl⟩:=h;exact⟨x,y,rfl,h2,h3⟩
def vO:xx:=λ ds S Q=>match ds with
 | [d]=>match yf d S with
  | some ds=>Q (.int ds.length) S
  | none=>match d with
   | .str z=>z.length<=sizeLine/\Q (.int z.length) S
   | _=>False
 | _=>False
def vO.mo:vV vO:=λ ds S Q Q' hq h=>by
 unfold vO at h ⊢;split at h
 .skip
  split at h
  .exact hq _ _ h
  .split at h
   .exact⟨h.1,hq _ _ h.2⟩
   .exact h.elim
 .exact h.elim
abbrev XG (K:zFr):List V->Hp->VK->Prop:=λ xs H Q=>(∃ p ys,xs=[.ref p]/\(zN K H p ys\/zS K H p ys)/\Q (.int ys.length) H)\/(∃ z,xs=[.str z]/\z.length<=sizeLine/\Q (.int z.length) H)
def vO.fits:uW K vO (XG K):=λ xs ds H S Q h0 h2 h=>by
 unfold vO at h;split at h
 .obtain⟨x,hx,h1⟩:=h0.one;subst hx;split at h
  .rename_i e;obtain⟨a,ys,rfl,q,r⟩:=yf.sq h1 h2 e;refine .inl ⟨a,ys,rfl,q,?_⟩;rw[<- r.length];exact h _ H (by simp only[zg]) (.refl H) h2
  .split at h
   .simp only[zg] at h1;subst h1;exact .inr ⟨_,rfl,h.1,h.2 _ H (by simp only[zg]) (.refl H) h2⟩
   .exact h.elim
 .exact h.elim
def vN:xx:=λ ds S Q=>match ds with
 | [d]=>match yf d S with
  | some ds=>∀ p,S p=none->Q (.ref p) (ups S p (.lst ds))
  | none=>False
 | _=>False
def vN.mo:vV vN:=λ ds S Q Q' hq h=>by
 unfold vN at h ⊢;split at h
 .skip
  split at h
  .exact λ p hp=>hq _ _ (h p hp)
  .exact h.elim
 .exact h.elim
def vN.fits:uW K vN (λ xs H Q=>∃ p ys,xs=[.ref p]/\(zN K H p ys\/zS K H p ys)/\∀ l,H l=none->Q (.ref l) (upd H l (.lst ys))):=λ xs ds H S Q h0 h2 h=>by
 unfold vN at h;split at h
 .obtain⟨x,hx,h1⟩:=h0.one;subst hx;split at h
  .rename_i e;obtain⟨a,ys,rfl,q,r⟩:=yf.sq h1 h2 e;refine⟨a,ys,rfl,q,λ l hl=>?_⟩;exact h l (h2.none hl) _ _ (by simp only[zg]) (.new hl _) (h2.ups (.new hl _) ⟨ys,yL,zm.ext (.new hl _) _ r⟩)
  .exact h.elim
 .exact h.elim
def vM:xx:=λ ds S Q=>match ds with
 | [.tup ds]=>Q (.tup ds) S
 | [.yF ds]=>Q (.tup ds) S
 | [.ref p]=>match S p with
  | some (.lst ds)=>Q (.tup ds) S
  | _=>False
 | _=>False
def vM.mo:vV vM:=λ ds S Q Q' hq h=>by
 unfold vM at h ⊢;split at h
 .exact hq _ _ h
 .exact hq _ _ h
 .skip
  split at h
  .exact hq _ _ h
  .exact h.elim
 .exact h.elim
def vM.fits:uW K vM (λ xs H Q=>∃ p ys,xs=[.ref p]/\((zN K H p ys/\∀ l,H l=none->Q (.ref l) (upd H l (.tup ys)))\/(zS K H p ys/\Q (.ref p) H))):=λ xs ds H S Q h0 h2 h=>by
 unfold vM at h;split at h
 .obtain⟨x,hx,h1⟩:=h0.one;subst hx;have h1':=h1;simp only[zg] at h1;obtain⟨a,xs,rfl,r1,r2⟩:=h1;exact⟨a,xs,rfl,.inr ⟨r1,h _ H h1' (.refl H) h2⟩⟩
 .obtain⟨x,hx,h1⟩:=h0.one;subst hx;simp only[zg] at h1;obtain⟨a,xs,rfl,r1,r2⟩:=h1;refine⟨a,xs,rfl,.inl ⟨r1.sq,λ l hl=>h _ _ ?_ (.new hl _) (h2.new hl)⟩⟩;simp only[zg];exact⟨l,xs,rfl,zS.of yL,zm.ext (.new hl _) _ r2⟩
 .obtain⟨x,hx,h1⟩:=h0.one;subst hx;split at h
  .rename_i e;simp only[zg] at h1;subst h1;obtain⟨xs,r1,r2⟩:=h2 _ _ e;refine⟨_,xs,rfl,.inl ⟨zN.of r1,λ l hl=>h _ _ ?_ (.new hl _) (h2.new hl)⟩⟩;simp only[zg];exact⟨l,xs,rfl,zS.of yL,zm.ext (.new hl _) _ r2⟩
  .exact h.elim
 .exact h.elim
def vw (g:Int->Int->D):xx:=λ ds S Q=>match ds with
 | [.int i,.int j]=>Q (g i j) S
 | _=>False
def vw.mo {g:Int->Int->D}:vV (vw g):=λ ds S Q Q' hq h=>by
 unfold vw at h ⊢;split at h
 .exact hq _ _ h
 .exact h.elim
def vw.fits {g:Int->Int->D}{g':Int->Int->V}(hg:∀ i j H,zg K H (g i j) (g' i j)):uW K (vw g) (λ xs H Q=>∃ i j,xs=[.int i,.int j]/\Q (g' i j) H):=λ xs ds H S Q h0 h2 h=>by
 unfold vw at h;split at h
 .obtain⟨x,y,hx,h1,h3⟩:=h0.two;subst hx;simp only[zg] at h1 h3;subst h1 h3;exact⟨_,_,rfl,h _ H (hg _ _ H) (.refl H) h2⟩
 .exact h.elim
def zad:yR:=λ x y S Q=>match x,y with
 | .ref p,.ref q=>match S p,S q with
  | some (.lst ds),some (.lst es)=>ds.length+es.length<=sizeLine/\∀ r,S r=none->Q (.ref r) (ups S r (.lst (ds++es)))
  | _,_=>False
 | _,_=>False
def sU (to te:zt):zt:=fun Y S Q=>to Y S λ x S1=>match x with
 | .ref p=>(∃ ds,S1 p=some (.lst ds))/\te Y S1 λ y S2=>match S2 p with
  | some (.lst ds)=>ds.length<sizeLine/\Q .zi (ups S2 p (.lst (ds++[y])))
  | _=>False
 | _=>False
def sU.mo {to te:zt}(h:ye to) (h':ye te):ye (sU to te):=fun Y S Q Q' hq z=>h Y S _ _ (λ x S1 z=>by
 cases x with
 | ref p=>
  refine⟨z.1,h' Y S1 _ _ (λ y S2 w=>?_) z.2⟩;split at w
  .exact⟨w.1,hq _ _ w.2⟩
  .exact w.elim
 | _=>exact z) z
def Vk {o e:Expr}{to te:zt}{e0:Expr}(hpe:PE X e0 (k7 X.K "list" dD (zL X.K to) (k6 (zL X.K te) k0))) (h:ye to) (h':ye te):PD X e0 (sU to te):=by
 refine⟨sU.mo h h',PE.imp hpe fun O H Q hu=>?_⟩;obtain⟨Y,S,r1,r2,z⟩:=hu;refine zL.go h r1 r2 z λ x S1 v H1 h1 q1 e1 p1=>?_;cases x with
 | ref p=>
  obtain⟨⟨ds,hd⟩,h1⟩:=h1;simp only[zg] at q1;subst q1;obtain⟨xs,g1,g2⟩:=p1 _ _ hd;refine⟨.inl ⟨rfl,xs,zN.of g1⟩,?_⟩;refine zL.go h' (r1.ext e1) p1 h1 λ y S2 w H2 h2 q2 e2 p2=>?_;split at h2
  .rename_i ds' e3;obtain⟨xs',g3,g4⟩:=p2 _ _ e3;refine⟨p,xs',w,rfl,rfl,g3,by rw[<- g4.length];exact h2.1,?_⟩;have e4:Ext H2 (upd H2 p (.lst (xs'++[w]))):=.lst g3 _;exact h2.2 _ _ (by simp only[zg]) ((e1.trans e2).trans e4) (p2.ups e4 ⟨_,yL,zm.ext e4 _ (g4.snoc q2)⟩)
  .exact h2.elim
 | zi=>exact h1.elim
 | bl _=>exact h1.elim
 | int _=>exact h1.elim
 | str _=>exact h1.elim
 | tup _=>exact h1.elim
 | yF _=>exact h1.elim
end
structure rj where
 nx:yc->SS->Prop
 rt:DK
 bk:yc->SS->Prop:=λ _ _=>False
 ct:yc->SS->Prop:=λ _ _=>False
abbrev yI:=rj->yc->SS->Prop
structure rj.Le (E E':rj):Prop where
 nx:∀ Y S,E.nx Y S->E'.nx Y S
 rt:∀ d S,E.rt d S->E'.rt d S
 bk:∀ Y S,E.bk Y S->E'.bk Y S
 ct:∀ Y S,E.ct Y S->E'.ct Y S
def uU (t:yI):Prop:=∀ E E' Y S,rj.Le E E'->t E Y S->t E' Y S
noncomputable def uN (K:zFr) (H:Hp) (D:Ends):rj:=⟨wL K H D.nx,wu K H D.rt,wL K H D.bk,wL K H D.ct⟩
theorem uN.ext {K:zFr}{H H':Hp}{D:Ends}(e:Ext H H'):(uN K H D).Le (uN K H' D):=⟨λ _ _ h=>wL.ext e h,λ _ _ h=>wu.ext e h,λ _ _ h=>wL.ext e h,λ _ _ h=>wL.ext e h⟩
def kq (K:zFr) (t:yI):TS:=λ D O H=>∃ Y S,yQ K H Y O/\zI K H S/\t (uN K H D) Y S
structure ve (X:Cx) (st:Stmt) (t:yI):Prop where
 mo:uU t
 ps:PS X st (kq X.K t)
structure vU (X:Cx) (st:List Stmt) (t:yI):Prop where
 mo:uU t
 ps:xC X st (kq X.K t)
section
variable {X:Cx}{K:zFr}{st:Stmt}{rest:List Stmt}{t u:yI}{pos:Pos}{e:Expr}{te:zt}
def aD:yI:=λ E Y S=>E.nx Y S
def ng (t u:yI):yI:=λ E Y S=>t { E with nx:=u E } Y S
def ng.mo (h:uU t) (h':uU u):uU (ng t u):=λ E E' Y S hE z=>h { E with nx:=u E } { E' with nx:=u E' } Y S ⟨fun Y S q=>h' E E' Y S hE q,hE.rt,hE.bk,hE.ct⟩ z
def xn:vU X [] aD:=⟨λ _ _ _ _ hE h=>hE.nx _ _ h,xC.imp XU λ D O H ⟨Y,S,r1,r2,h⟩=>h O H r1 (.refl H) r2⟩
def zE (h:ve X st t):vU X [st] t:=⟨h.mo,XT h.ps⟩
def zA (h:ve X st t) (h':vU X rest u):vU X (st::rest) (ng t u):=by
 refine⟨ng.mo h.mo h'.mo,xC.imp (XW h.ps h'.ps) λ D O H hu=>?_⟩;obtain⟨Y,S,r1,r2,z⟩:=hu;refine⟨Y,S,r1,r2,h.mo { uN X.K H D with nx:=u (uN X.K H D) } _ Y S ⟨fun Y' S' q O' H' q1 q2 q3=>?_,λ _ _ q=>q,λ _ _ q=>q,λ _ _ q=>q⟩ z⟩;exact⟨Y',S',q1,q3,h'.mo _ _ Y' S' (uN.ext q2) q⟩
def lL (te:zt):yI:=λ E Y S=>te Y S λ _ S1=>E.nx Y S1
def wV (he:PD X e te) (hs:swapsWith e none pos.line X.env=pure false:=by rfl):ve X (.Expr e pos) (lL te):=by
 refine⟨λ E E' Y S hE z=>he.mo Y S _ _ (λ _ _ q=>hE.nx _ _ q) z,PS.imp (Wc he.pe hs) λ D O H hu=>?_⟩;obtain⟨Y,S,r1,r2,z⟩:=hu;exact zL.go he.mo r1 r2 z λ x S1 v H1 h1 q1 e1 p1=>h1 O H1 (r1.ext e1) e1 p1
def iY (te:zt):yI:=λ E Y S=>te Y S E.rt
def z_ (he:PD X e te):ve X (.Return (some e) pos) (iY te):=by
 refine⟨λ E E' Y S hE z=>he.mo Y S _ _ (λ _ _ q=>hE.rt _ _ q) z,PS.imp (X_ he.pe) λ D O H hu=>?_⟩;obtain⟨Y,S,r1,r2,z⟩:=hu;exact zL.go he.mo r1 r2 z λ x S1 v H1 h1 q1 e1 p1=>h1 v H1 q1 e1 p1
def aI (c:y9) (t u:yI):yI:=λ E Y S=>c Y S λ k S1=>if k=true then t E Y S1 else u E Y S1
def xo {c:Expr}{p q:List Stmt}{tc:y9}(hc:xD X c tc) (h:vU X p t) (h':vU X q u):ve X (.If c p q pos) (aI tc t u):=by
 refine⟨λ E E' Y S hE z=>hc.mo Y S _ _ (λ k S1 z=>wH (h.mo _ _ Y S1 hE) (h'.mo _ _ Y S1 hE) z) z,PS.imp (Wa hc.pt h.ps h'.ps) λ D O H hu=>?_⟩;obtain⟨Y,S,r1,r2,z⟩:=hu;refine xR.go hc.mo r1 r2 z λ k S1 H1 h1 e1 p1=>wH (λ z=>?_) (λ z=>?_) h1
 .exact⟨Y,S1,r1.ext e1,p1,h.mo _ _ Y S1 (uN.ext e1) z⟩
 .exact⟨Y,S1,r1.ext e1,p1,h'.mo _ _ Y S1 (uN.ext e1) z⟩
abbrev y_:=D->yc->SS->(yc->SS->Prop)->Prop
abbrev wy:=List D->yc->SS->(yc->SS->Prop)->Prop
def nR (t:y_):Prop:=∀ d Y S (Q Q':yc->SS->Prop),(∀ Y S,Q Y S->Q' Y S)->t d Y S Q->t d Y S Q'
def Zt (t:wy):Prop:=∀ d Y S (Q Q':yc->SS->Prop),(∀ Y S,Q Y S->Q' Y S)->t d Y S Q->t d Y S Q'
noncomputable def pN (K:zFr) (t:y_):TG:=λ v O H Q=>∃ d Y S,zg K H d v/\yQ K H Y O/\zI K H S/\t d Y S (wL K H Q)
noncomputable def e7 (K:zFr) (t:wy):tP:=λ v O H Q=>∃ d Y S,zm K H d v/\yQ K H Y O/\zI K H S/\t d Y S (wL K H Q)
structure tR (X:Cx) (e:Expr) (t:y_):Prop where
 mo:nR t
 pg:PG X e (pN X.K t)
structure lP (X:Cx) (es:List Expr) (t:wy):Prop where
 mo:Zt t
 pg:uT X es (e7 X.K t)
def PG.imp {e:Expr}{t t':TG}(h:PG X e t) (hi:∀ v O H Q,t' v O H Q->t v O H Q):PG X e t':=λ pins s O H v w Q I r q=>h pins s O H v w Q I r (hi v O H Q q)
def uT.imp {e:List Expr}{t t':tP}(h:uT X e t) (hi:∀ v O H Q,t' v O H Q->t v O H Q):uT X e t':=λ pins s O H v w Q I r q=>h pins s O H v w Q I r (hi v O H Q q)
def hName (i:Nat):y_:=λ d Y S Q=>Q (Y.set i (some d)) S
def WY {e:Expr}{i:Nat}(h:PG X e (qY i)):tR X e (hName i):=
 ⟨λ _ _ _ _ _ hq z=>hq _ _ z,PG.imp h λ v O H Q ⟨d,Y,S,r1,r2,r3,z⟩=>z _ H (r2.set i r1) (.refl H) r3⟩
def iz:wy:=λ ds Y S Q=>ds=[]/\Q Y S
def i3 (t:y_) (u:wy):wy:=λ ds Y S Q=>match ds with
 | d::r=>t d Y S fun Y' S'=>u r Y' S' Q
 | []=>False
def qF:lP X [] iz:=by
 refine⟨λ _ _ _ _ _ hq z=>⟨z.1,hq _ _ z.2⟩,uT.imp Wo λ v O H Q hu=>?_⟩;obtain⟨d,Y,S,r1,r2,r3,z1,z2⟩:=hu;subst z1;simp only[zm] at r1;exact⟨r1,z2 O H r2 (.refl H) r3⟩
def wB {e:Expr}{es:List Expr}{t:y_}{u:wy}(h:tR X e t) (h':lP X es u) (hs:(assignEach (e::es) X.env).map (·.2)=assign e X.env::(assignEach es X.env).map (·.2):=by rfl):lP X (e::es) (i3 t u):=by
 refine⟨λ ds Y S Q Q' hq z=>?_,uT.imp (Wq h.pg h'.pg hs) λ v O H Q hu=>?_⟩
 .cases ds with
  | nil=>exact z
  | cons d r=>exact h.mo d Y S _ _ (fun Y' S' z=>h'.mo r Y' S' _ _ hq z) z
 .obtain⟨ds,Y,S,r1,r2,r3,z⟩:=hu;cases ds with
  | nil=>exact z.elim
  | cons d r=>
   simp only[zm] at r1;obtain⟨x,xs,rfl,q1,q2⟩:=r1;refine⟨x,xs,rfl,d,Y,S,q1,r2,r3,h.mo d Y S _ _ (fun Y' S' z O' H' g1 g2 g3=>?_) z⟩;exact⟨r,Y',S',zm.ext g2 r q2,g1,g3,h'.mo r Y' S' _ _ (fun Y2 S2 z2=>wL.ext g2 z2) z⟩
def l8 (n:Nat) (t:wy):y_:=λ d Y S Q=>match d with
 | .tup ds=>ds.length=n/\t ds Y S Q
 | _=>False
def WX {e:Expr}{n:Nat}{t:wy}(h:PG X e (bU X.K n (e7 X.K t))) (hm:Zt t):tR X e (l8 n t):=by
 refine⟨λ d Y S Q Q' hq z=>?_,PG.imp h λ v O H Q hu=>?_⟩
 .cases d with
  | tup ds=>exact⟨z.1,hm ds Y S _ _ hq z.2⟩
  | _=>exact z
 .obtain⟨d,Y,S,r1,r2,r3,z⟩:=hu;cases d with
  | tup ds=>
   simp only[zg] at r1;obtain⟨a,xs,rfl,q1,q2⟩:=r1;exact⟨a,xs,rfl,q1,by rw[<- q2.length];exact z.1,ds,Y,S,q2,r2,r3,z.2⟩
  | zi=>exact z.elim
  | bl _=>exact z.elim
  | int _=>exact z.elim
  | str _=>exact z.elim
  | yF _=>exact z.elim
  | ref _=>exact z.elim
def va (te:zt) (g:y_):yI:=λ E Y S=>te Y S λ x S1=>g x Y S1 E.nx
def va.mo {g:y_}(h:ye te) (h':nR g):uU (va te g):=λ E E' Y S hE z=>h Y S _ _ (λ x S1 q=>h' x Y S1 _ _ (fun Y S q=>hE.nx _ _ q) q) z
def Ym {g:y_}(h:ye te) (h':nR g) {D:Ends}{O:St}{H:Hp}(hu:kq K (va te g) D O H):pQ (zL K te) (pN K g) D O H:=by
 obtain⟨Y,S,r1,r2,z⟩:=hu;refine zL.go h r1 r2 z λ x S1 v H1 h1 q1 e1 p1=>?_;exact⟨x,Y,S1,q1,r1.ext e1,p1,h' x Y S1 _ _ (fun Y S q=>wL.ext e1 q) h1⟩
def WU {tg e:Expr}{g:y_}(he:PD X e te) (hg:tR X tg g) (hs:swapsWithSole [tg] e pos.line X.env=pure false:=by rfl) (hw:swappedStores [tg] e X.env=pure none:=by rfl)
  (h1:(assignEach [tg] X.env).map (·.2)=[assign tg X.env]:=by rfl):ve X (.Assign [tg] e pos) (va te g):=
 ⟨va.mo he.mo hg.mo,PS.imp (dF he.pe hg.pg hs hw h1) λ _ _ _ hu=>Ym he.mo hg.mo hu⟩
def WR {e0:Stmt}{i:Nat}(h:PS X e0 (pQ (zL X.K te) (qY i))) (hm:ye te):ve X e0 (va te (hName i)):=by
 refine⟨va.mo hm λ _ _ _ _ _ hq z=>hq _ _ z,PS.imp h λ D O H hu=>?_⟩;obtain⟨Y,S,r1,r2,z⟩:=hu;refine zL.go hm r1 r2 z λ x S1 v H1 h1 q1 e1 p1=>?_;exact h1 _ H1 ((r1.ext e1).set i q1) e1 p1
end
structure pK where
 items:List D
 keep:SS->Prop
abbrev wx:=yc->SS->(pK->SS->Prop)->Prop
def lV (t:wx):Prop:=∀ Y S (Q Q':pK->SS->Prop),(∀ I S',Q I S'->Q' I S')->t Y S Q->t Y S Q'
def nS (K:zFr) (H1:Hp) (J:It) (I:pK):Prop:=∀ (i:Nat) (H:Hp) (S:SS),Ext H1 H->zI K H S->I.keep S->
 (∀ d,I.items[i]?=some d->J.go i H/\∀ x H',J.qq i H x H'->Ext H H'/\zI K H' S/\zg K H' d x)/\(I.items.length<=i->J.stop i H)
def R7 (K:zFr) (H:Hp) (R:It->Hp->Prop):pK->SS->Prop:=λ I S1=>∀ J H1,Ext H H1->zI K H1 S1->nS K H1 J I->R J H1
def xY (K:zFr) (t:wx):TI:=fun O H R=>∃ Y S,yQ K H Y O/\zI K H S/\t Y S (R7 K H R)
structure ra (X:Cx) (tg iter:Expr) (t:wx):Prop where
 mo:lV t
 pi:PI X tg iter (xY X.K t)
def PI.imp {X:Cx}{tg e:Expr}{t t':TI}(h:PI X tg e t) (hi:∀ O H Q,t' O H Q->t O H Q):PI X tg e t':=λ pins s O H Q I q=>h pins s O H Q I (hi O H Q q)
section
variable {X:Cx}{K:zFr}{tg e:Expr}{te:zt}{pos:Pos}
theorem zm.at {H:Hp}{ds:List D}{xs:List V}{i:Nat}{d:D}{x:V}(r:zm K H ds xs) (h1:ds[i]?=some d) (h2:xs[i]?=some x):zg K H d x:=by
 obtain⟨y,e1,e2⟩:=r.get h1;rw[h2] at e1;cases e1;exact e2
noncomputable def vl (lo:Int) (n:Nat):List D:=(List.range n).map λ(k:Nat)=>D.int (lo+(k:Int))
def XD {lo:Int}{n i:Nat}{d:D}(h:(vl lo n)[i]?=some d):i<n/\d=.int (lo+(i:Int)):=by
 unfold vl at h;rw[zA3] at h;cases q:(List.range n)[i]? with
 | none=>rw[q] at h;cases h
 | some j=>
  rw[q] at h;obtain⟨h1,h2⟩:=zA2.mp q;rw[zC5] at h1;rw[List.getElem_range] at h2;subst h2;cases h;exact⟨h1,rfl⟩
def XC (lo:Int) (n:Nat):(vl lo n).length=n:=by unfold vl;rw[zA7,zC5]
def nS.range {H1:Hp}{lo:Int}{n:Nat}:nS K H1 (lW lo n) ⟨vl lo n,λ _=>True⟩:=λ i H S _ x2 _=>by
 refine⟨λ d hd=>?_,λ hl=>by rw[show (pK.mk (vl lo n) λ _=>True).items=vl lo n from rfl,XC] at hl;exact hl⟩;obtain⟨h1,rfl⟩:=XD hd;refine⟨h1,λ x H' q=>?_⟩;obtain⟨rfl,rfl⟩:=q;exact⟨.refl _,x2,by simp only[zg]⟩
def ig (t:yk):wx:=fun Y S R=>t Y S λ ds S1=>match ds with
 | [.int j]=>(-(2 ^ 62)<=j/\j<2 ^ 62)/\R ⟨vl 0 j.toNat,λ _=>True⟩ S1
 | _=>False
variable {tA:yk}
def WW (h:PI X tg e (bI (xZ X.K tA))) (hm:tS tA):ra X tg e (ig tA):=by
 refine⟨fun Y S Q Q' hq z=>hm Y S _ _ (λ ds S1 z=>?_) z,PI.imp h fun O H R hu=>?_⟩
 .split at z
  .exact⟨z.1,hq _ _ z.2⟩
  .exact z.elim
 .obtain⟨Y,S,r1,r2,z⟩:=hu;refine xZ.go hm r1 r2 z λ ds S1 xs H1 h1 q1 e1 p1=>?_;split at h1
  .obtain⟨x,rfl,q⟩:=q1.one;simp only[zg] at q;subst q;exact⟨_,rfl,h1.1.1,h1.1.2,h1.2 _ H1 e1 p1 .range⟩
  .exact h1.elim
def nj (ti:wx) (g:y_) (tb:yI):yI:=λ E Y S=>ti Y S λ I S1=>∃ W:Nat->yc->SS->Prop,W 0 Y S1/\(∀ i Y S,W i Y S->I.keep S)/\
 (∀ i d Y S,I.items[i]?=some d->W i Y S->g d Y S fun Y2 S2=>tb { E with nx:=W (i+1),ct:=W (i+1),bk:=E.nx } Y2 S2)/\∀ Y S,W I.items.length Y S->E.nx Y S
def nj.mo {ti:wx}{g:y_}{tb:yI}(hi:lV ti) (hg:nR g) (hb:uU tb):uU (nj ti g tb):=λ E E' Y S hE z=>hi Y S _ _ (λ I S1 ⟨W,w0,wk,ws,wd⟩=>by
 refine⟨W,w0,wk,λ i d Y S hd hw=>hg d Y S _ _ (fun Y2 S2 z=>hb { E with nx:=W (i+1),ct:=W (i+1),bk:=E.nx } { E' with nx:=W (i+1),ct:=W (i+1),bk:=E'.nx } Y2 S2 ⟨λ _ _ q=>q,hE.rt,hE.nx,λ _ _ q=>q⟩ z) (ws i d Y S hd hw),fun Y S q=>hE.nx _ _ (wd Y S q)⟩) z
def wb {iter:Expr}{body:List Stmt}{ti:wx}{g:y_}{tb:yI}(hp:PassesOwn (model X.prog X.w) X.A X.env X.xe) (hc:X.calm=true) (hi:ra X tg iter ti) (hg:tR X tg g) (hb:vU X body tb)
  (hs:∀ x,foldedSetIterable iter X.env x=pure x:=by intro _;rfl):ve X (.For tg iter body [] pos) (nj ti g tb):=by
 refine⟨nj.mo hi.mo hg.mo hb.mo,PS.imp (Wb hp hc hi.pi hg.pg hb.ps hs) λ D O H hu=>?_⟩;obtain⟨Y,S,r1,r2,z⟩:=hu;refine⟨Y,S,r1,r2,hi.mo Y S _ _ (λ I S1 hW J H1 e1 p1 rep=>?_) z⟩;obtain⟨W,w0,wk,ws,wd⟩:=hW;refine⟨λ i m O H2=>m=I.items.length-i/\i<=I.items.length/\Ext H1 H2/\∃ Y S,yQ X.K H2 Y O/\zI X.K H2 S/\W i Y S,⟨_,rfl,zD4 _,.refl _,Y,S1,r1.ext e1,p1,w0⟩,?_⟩;rintro i m O2 H2 ⟨rfl,hi',x2,Y2,S2,q1,q2,w2⟩;obtain⟨g1,g2⟩:=rep i H2 S2 x2 q2 (wk i Y2 S2 w2);by_cases hl:i<I.items.length
 .have hd:I.items[i]?=some I.items[i]:=by simp[hl]
  obtain⟨go,yl⟩:=g1 _ hd;refine .inr ⟨go,fun O' H'=>Ext H1 H'/\∃ Y S,yQ X.K H' Y O'/\zI X.K H' S/\W (i+1) Y S,fun O' H' q=>⟨_,by omega,rfl,hl,q⟩,λ x H3 hy=>?_⟩;obtain⟨x3,p3,d3⟩:=yl x H3 hy;refine⟨_,Y2,S2,d3,q1.ext x3,p3,hg.mo _ Y2 S2 _ _ (fun Y4 S4 z4 O4 H4 a1 a2 a3=>?_) (ws i _ Y2 S2 hd w2)⟩;refine⟨Y4,S4,a1,a3,hb.mo _ _ Y4 S4 ⟨fun Y5 S5 w5 O5 H5 b1 b2 b3=>⟨((x2.trans x3).trans a2).trans b2,Y5,S5,b1,b3,w5⟩,λ _ _ q=>wu.ext (((e1.trans x2).trans x3).trans a2) q,λ _ _ q=>wL.ext (((e1.trans x2).trans x3).trans a2) q,fun Y5 S5 w5 O5 H5 b1 b2 b3=>⟨((x2.trans x3).trans a2).trans b2,Y5,S5,b1,b3,w5⟩⟩ z4⟩
 .have e:i=I.items.length:=by omega
  subst e;exact .inl ⟨g2 (zA4 _),wd Y2 S2 w2 O2 H2 q1 (e1.trans x2) q2⟩
abbrev s_:=List D->SS->DK->Prop
def gC (sp:s_):Prop:=∀ ds S (Q Q':DK),(∀ d S',Q d S'->Q' d S')->sp ds S Q->sp ds S Q'
noncomputable def tf (K:zFr) (sp:s_):Sp:=λ vs H Q _=>∃ ds S,zm K H ds vs/\zI K H S/\sp ds S (wu K H Q)
def iZ (sp:s_) (t:yk):zt:=fun Y S Q=>t Y S λ ds S1=>sp ds S1 Q
def Vj {sp:s_}{E:XK}{e:Expr}(h:PE X e (eI (tf X.K sp) [] E (xZ X.K tA))) (hs:gC sp) (hm:tS tA):PD X e (iZ sp tA):=by
 refine⟨fun Y S Q Q' hq z=>hm Y S _ _ (λ ds S1 z=>hs ds S1 _ _ hq z) z,PE.imp h fun O H Q hu=>?_⟩;obtain⟨Y,S,r1,r2,z⟩:=hu;refine xZ.go hm r1 r2 z λ ds S1 xs H1 h1 q1 e1 p1=>?_;rw[List.append_nil];exact⟨ds,S1,q1,p1,hs ds S1 _ _ (λ d S' q=>wu.ext e1 q) h1⟩
noncomputable def tp (N:List Str) (ds:List D):yc:=ds.map some++List.replicate (N.length-ds.length) none
def yQ.init {H:Hp}{N:List Str}{ds:List D}{vs:List V}(r:zm K H ds vs):yQ K H (tp N ds) (start N vs):=by
 have hl:=r.length;refine⟨by unfold tp L2.start;simp[hl],λ i d h=>?_⟩;unfold tp at h;have hi:i<ds.length:=by
  rcases Nat.lt_or_ge i ds.length with q | q
  .exact q
  .rw[List.getElem?_append_right (by simpa using q),List.getElem?_replicate] at h;split at h <;> cases h
 rw[List.getElem?_append_left (by simpa using hi),zA3] at h;cases q:ds[i]? with
 | none=>rw[q] at h;cases h
 | some d'=>
  rw[q] at h;cases h;obtain⟨x,e1,e2⟩:=r.get q;refine⟨x,?_,e2⟩;unfold L2.start;rw[List.getElem?_append_left (by simpa using by omega),zA3,e1];rfl
def SX {P:Program}{w:World}{K:zFr}{mg:Str->Option Value}{base:Heap}{x qual:Str}{st:Stmt}{f:Addr}{fd:FuncData}{N ps:List Str}{k:Nat}{sp:s_}(F:uu K x qual st f fd) (Sc:yj N ps (zG st))
  (len:∀ ds S Q,sp ds S Q->ds.length=ps.length)
  (hbody:∀ (cdv:Value) (A:Around) (outer:List Env) (s:Shared) (H:Hp) (E:XK),yx k (A.deeper (envOfC qual (zG st) s.heap.objs.size f cdv))->
   ∃ t,vU (uO vh P w K mg base N qual (zG st) f cdv A outer s H E).sF (w_ st) t/\∀ ds S Q,sp ds S Q->t { nx:=λ _ S'=>Q .zi S',rt:=Q } (tp N ds) S):vY P w K mg base vh (k+1) f fd ps (tf K sp):=by
 refine F.ok Sc (λ vs H Q E h=>?_) λ cdv A outer s H vs Q E hr h=>?_
 .obtain⟨ds,S,r1,_,z⟩:=h;rw[<- r1.length];exact len _ _ _ z
 .obtain⟨ds,S,r1,r2,z⟩:=h;obtain⟨t,ht,hq⟩:=hbody cdv A outer s H E hr;refine⟨_,ht.ps,tp N ds,S,.init r1,r2,ht.mo { nx:=λ _ S'=>wu K H Q .zi S',rt:=wu K H Q } _ _ _ ⟨fun Y S' q O' H' _ b c=>q .zi H' (by simp only[zg]) b c,λ _ _ q=>q,λ _ _ q=>False.elim q,λ _ _ q=>False.elim q⟩ (hq ds S _ z)⟩
noncomputable def vE (pick:List (Option Nat)) (Y:yc):yc:=pick.map λ o=>o.bind λ i=>(Y[i]?).join
theorem yQ.pick {H:Hp}{Y:yc}{O:St}(r:yQ K H Y O) (pick:List (Option Nat)):yQ K H (vE pick Y) (vD pick O):=by
 refine⟨by unfold vE vD;simp,λ i d h=>?_⟩;unfold vE at h;rw[zA3] at h;cases q:pick[i]? with
 | none=>rw[q] at h;cases h
 | some o=>
  rw[q] at h;cases o with
  | none=>simp at h
  | some j=>
   simp only[Option.map_some,zC9,Option.some.injEq] at h;have hj:Y[j]?=some (some d):=by
    cases q2:Y[j]? with
    | none=>rw[q2] at h;cases h
    | some o2=>rw[q2] at h;simp only[Option.join_some] at h;rw[h]
   obtain⟨v,e1,e2⟩:=r.2 j d hj;refine⟨v,?_,e2⟩;unfold vD;rw[zA3,q];simp[e1]
def qe (Y Y':yc):Prop:=Y.length=Y'.length/\∀ (i:Nat) d,Y[i]?=some (some d)->Y'[i]?=some (some d)
def qe.rep {H:Hp}{Y Y':yc}{O:St}(h:qe Y Y') (r:yQ K H Y' O):yQ K H Y O:=⟨h.1.trans r.1,λ i d q=>r.2 i d (h.2 i d q)⟩
structure lQ (X:Cx) (ifs:List Expr) (t:y9):Prop where
 mo:w6 t
 pf:PF X ifs (xR X.K t)
def PF.imp {ifs:List Expr}{t t':TT}(h:PF X ifs t) (hi:∀ O H Q,t' O H Q->t O H Q):PF X ifs t':=λ pins s O H Q I q=>h pins s O H Q I (hi O H Q q)
def au:y9:=λ _ S Q=>Q true S
def rD:lQ X [] au:=⟨λ _ _ _ _ hq z=>hq _ _ z,PF.imp Wv λ _ H _ ⟨_,_,_,r2,z⟩=>z H (.refl H) r2⟩
def mW {c:Expr}{t:y9}(h:xD X c t):lQ X [c] t:=⟨h.mo,Wu h.pt⟩
section
variable {N':List Str}{pick:List (Option Nat)}{scope:Scope}{elt iter:Expr}{ifs:List Expr}{ti:wx}{g:y_}{tc:y9}
end
end
end L3
namespace L2
open PySem PySem.Spec PyProof.Rows
def Sq (K:zFr) (tl:TE):TI:=fun O H R=>tl O H λ x H1=>∃ a,x=.ref a/\(((∃ xs,zN K H1 a xs)/\R (Zv K a) H1)\/((∃ xs,zS K H1 a xs)/\R (Zu K a) H1))
def Wk {X:Cx}{tg l:Expr}{tl:TE}(hl:PE X l tl):PI X tg l (Sq X.K tl):=by
 intro pins s O H R I h;refine zF (hl pins s O H _ I h) λ v s1 ⟨x,H1,I1,r1,a,hx,q1⟩=>?_;subst hx;cases r1;have new:∀ b∈[s1.heap.objs.size],v5 X pins H1 b:=λ b hb=>by
  obtain rfl:b=s1.heap.objs.size:=zB6.mp hb;exact I1.lA (zA4 _) (I1.zw.fresh (zA4 _))
 rcases q1 with ⟨⟨xs,hq⟩,q⟩ | ⟨⟨xs,hq⟩,q⟩
 .obtain⟨its,_,pl,_⟩:=I1.list hq;exact wpAny_pyIter_list pl.isList ⟨_,_,_,_,H1,rfl,I1.kept (t':=s1.toks) λ b o eo=>zHp _ eo,Yv a _,⟨_,zA9 _ rfl,rfl,rfl⟩,new,q⟩
 .obtain⟨its,_,pt,_⟩:=I1.tuple hq;exact wpAny_pyIter_tuple (show s1.heap.IsTuple a its.toArray from pt) ⟨_,_,_,_,H1,rfl,I1.kept (t':=s1.toks) λ b o eo=>zHp _ eo,Ys a _,⟨_,zA9 _ rfl,rfl,rfl⟩,new,q⟩
section
variable {X:Cx}
end
end L2
namespace L3
open PySem PySem.Spec L2
open PyProof.Rows hiding St
structure Bt (mg:Str->Option Value):Prop where
 len:mg "len"=none
 range:mg "range"=none
 any:mg "any"=none
 all:mg "all"=none
 sorted:mg "sorted"=none
 isinstance:mg "isinstance"=none
 bool:mg "bool"=none
 int:mg "int"=none
 str:mg "str"=none
 list:mg "list"=none
 tuple:mg "tuple"=none
 max:mg "max"=none
 min:mg "min"=none
section
variable {X:Cx}{K:zFr}{a b c e:Expr}{es:List Expr}{ta tb tc te:zt}{tA:yk}{pos p:Pos}
def um {N':List Str}{pick:List (Option Nat)}{scope esc:Scope}{N:List Str}(hE:X.env.scope=esc:=by rfl) (hN:X.N=N:=by rfl) (h1:scope.kind=.function:=by rfl) (h2:scope.names.all (λ y=>decide (y.2≠.cell))=true:=by decide +kernel)
  (h3:scope.names.all (λ y=>!decide (y.2=.local)||decide (scope.names.lookup y.1=some .local))=true:=by decide +kernel)
  (h4:scope.names.all (λ y=>!decide (y.2=.free)||(decide (esc.names.lookup y.1=some .cell)||decide (esc.names.lookup y.1=some .free)))=true:=by decide +kernel)
  (h5:pick.length=N'.length:=by rfl) (h6:qB N N' pick scope=true:=by decide +kernel):qp X N' pick scope:=by
 refine⟨h1,λ y hy=>?_,λ y hy hl=>?_,λ y hy hf=>?_,h5,by rw[hN];exact h6⟩
 .exact of_decide_eq_true (zE4.mp h2 y hy)
 .have:=zE4.mp h3 y hy;rw[decide_eq_true hl] at this;simpa using this
 .have:=zE4.mp h4 y hy;rw[decide_eq_true hf] at this;rw[hE];simpa using this
def ym (i:Nat) {x:Str}(hN:X.N.Nodup) (hi:X.N[i]?=some x:=by rfl) (hx:Loc X.env.scope x:=by first | exact Or.inl rfl | exact Or.inr rfl) (hf:X.fn x=true\/X.env.scope.names.lookup x=some .local:=by first | exact .inl rfl | exact .inr rfl):tR X (.Name x pos) (hName i):=
 WY (Wt hN hi hx hf)
def qG {k:Nat}{t:wy}{n:Nat}(h:lP X es t) (hc:X.calm=true:=by rfl) (hn:(assignEach es X.env).length=n:=by rfl) (hst:(assignEach es X.env).findIdx? (·.1)=none:=by rfl):tR X (.Tuple es k pos) (l8 n t):=
 WX (Wr hc h.pg hn hst) h.mo
def zW (i:Nat) {x:Str}{pos':Pos}(hN:X.N.Nodup) (he:PD X e te) (hi:X.N[i]?=some x:=by rfl) (hx:Loc X.env.scope x:=by first | exact Or.inl rfl | exact Or.inr rfl) (hs:swapsWith e (some (.Name x pos')) pos.line X.env=pure false:=by rfl)
  (hf:X.fn x=true\/X.env.scope.names.lookup x=some .local:=by first | exact .inl rfl | exact .inr rfl):ve X (.Assign [.Name x pos'] e pos) (va te (hName i)):=
 WR (XZ hN hi hx he.pe hs hf) he.mo
def ie (te:zt):wx:=fun Y S R=>te Y S λ x S1=>match x with
 | .tup ds=>R ⟨ds,λ _=>True⟩ S1
 | .yF ds=>R ⟨ds,λ _=>True⟩ S1
 | .ref p=>match S1 p with
  | some (.lst ds)=>R ⟨ds,λ S=>S p=some (.lst ds)⟩ S1
  | _=>False
 | _=>False
def xG {tg:Expr}(h:PD X e te):ra X tg e (ie te):=by
 refine⟨fun Y S Q Q' hq z=>h.mo Y S _ _ (λ x S1 z=>?_) z,?_⟩
 .cases x with
  | ref p=>
   dsimp only at z ⊢;split at z
   .exact hq _ _ z
   .exact z.elim
  | yF ds=>exact hq _ _ z
  | tup ds=>exact hq _ _ z
  | _=>exact z
 .refine PI.imp (Wk h.pe) fun O H R hu=>?_
  obtain⟨Y,S,r1,r2,z⟩:=hu;refine zL.go h.mo r1 r2 z λ x S1 v H1 h1 q1 e1 p1=>?_;cases x with
  | tup ds=>
   simp only[zg] at q1;obtain⟨a,xs,rfl,g1,g2⟩:=q1;refine⟨a,rfl,.inr ⟨⟨xs,g1⟩,h1 _ H1 e1 p1 λ i H2 S2 x1 x2 _=>⟨λ d hd=>?_,λ hl=>⟨xs,x1.m9 g1,by rw[<- g2.length];exact hl⟩⟩⟩⟩;obtain⟨y,hy,_⟩:=g2.get hd;refine⟨⟨xs,y,x1.m9 g1,hy⟩,λ x H' q=>?_⟩;obtain⟨rfl,q⟩:=q;exact⟨.refl _,x2,(zm.ext x1 ds g2).at hd (q xs (x1.m9 g1))⟩
  | ref p=>
   dsimp only at h1;split at h1
   .rename_i ds e2;simp only[zg] at q1;subst q1;obtain⟨xs0,g1,_⟩:=p1 _ _ e2;refine⟨p,rfl,.inl ⟨⟨xs0,zN.of g1⟩,h1 _ H1 e1 p1 λ i H2 S2 x1 x2 hk=>?_⟩⟩;obtain⟨xs,g3,g4⟩:=x2 _ _ hk;refine⟨λ d hd=>?_,λ hl=>⟨xs,zN.of g3,by rw[<- g4.length];exact hl⟩⟩;obtain⟨y,hy,_⟩:=g4.get hd;refine⟨⟨xs,y,zN.of g3,hy⟩,λ x H' q=>?_⟩;obtain⟨rfl,q⟩:=q;exact⟨.refl _,x2,g4.at hd (q xs (zN.of g3))⟩
   .exact h1.elim
  | yF ds=>
   simp only[zg] at q1;obtain⟨a,xs,rfl,g1,g2⟩:=q1;refine⟨a,rfl,.inl ⟨⟨xs,g1.sq⟩,h1 _ H1 e1 p1 λ i H2 S2 x1 x2 _=>⟨λ d hd=>?_,λ hl=>⟨xs,(x1.mB g1).sq,by rw[<- g2.length];exact hl⟩⟩⟩⟩;obtain⟨y,hy,_⟩:=g2.get hd;refine⟨⟨xs,y,(x1.mB g1).sq,hy⟩,λ x H' q=>?_⟩;obtain⟨rfl,q⟩:=q;exact⟨.refl _,x2,(zm.ext x1 ds g2).at hd (q xs (x1.mB g1).sq)⟩
  | zi=>exact h1.elim
  | bl _=>exact h1.elim
  | int _=>exact h1.elim
  | str _=>exact h1.elim
end
end L3
namespace L4
open PySem PySem.W PyProof.Rows
noncomputable def yr {α:Type}(n:Nat) (lt:Nat->Nat->Bool):KasT α->(α->Prop)->Prop
 | .ret a,Q=>Q a
 | .ask i j k,Q=>i<n/\j<n/\yr n lt (k (lt i j)) Q
theorem yr.mono {α:Type}{n:Nat}{lt:Nat->Nat->Bool}{Q Q':α->Prop}(hq:∀ a,Q a->Q' a):∀ {t:KasT α},yr n lt t Q->yr n lt t Q'
 | .ret _,h=>hq _ h
 | .ask _ _ _,h=>⟨h.1,h.2.1,yr.mono hq h.2.2⟩
theorem yr.bind {α β:Type}{n:Nat}{lt:Nat->Nat->Bool}{f:α->KasT β}{Q:β->Prop}:∀ {t:KasT α},yr n lt t (λ a=>yr n lt (f a) Q)->yr n lt (t.bind f) Q
 | .ret _,h=>h
 | .ask _ _ _,h=>⟨h.1,h.2.1,yr.bind h.2.2⟩
section
variable {n:Nat}{lt:Nat->Nat->Bool}
def Le (lt:Nat->Nat->Bool) (a b:Nat):Prop:=lt b a=false
structure Ord (lt:Nat->Nat->Bool):Prop where
 tr:∀ a b c,Le lt a b->Le lt b c->Le lt a c
 as:∀ a b,lt a b=true->Le lt a b
def Ord.refl (o:Ord lt) (a:Nat):Le lt a a:=by
 cases h:lt a a with
 | false=>exact h
 | true=>exact o.as a a h
def xf (n:Nat) (p:Array Nat):Prop:=p.Perm (List.range n).toArray
theorem xf.size {p:Array Nat}(h:xf n p):p.size=n:=by rw[Array.Perm.size_eq h];simp
def xf.below {p:Array Nat}(h:xf n p) {i:Nat}(hi:i<n):p.getD i 0<n:=by
 have hs:=h.size;have hm:p.getD i 0∈p:=by
  rw[Array.getD_eq_getD_getElem?,zB8 (by omega)];exact Array.getElem_mem (by omega)
 have:p.getD i 0∈(List.range n).toArray:=(Array.Perm.mem_iff h).mp hm;simpa using this
def oO {p q:Array Nat}{i j:Nat}(h:p[i]?=q[j]?):p.getD i 0=q.getD j 0:=by rw[Array.getD_eq_getD_getElem?,Array.getD_eq_getD_getElem?,h]
def vd (lt:Nat->Nat->Bool) (p:Array Nat) (k:Nat):Prop:=∀ i j,i<=j->j<k->Le lt (p.getD i 0) (p.getD j 0)
def uX (lt:Nat->Nat->Bool) (p:Array Nat) (k:Nat):Prop:=∀ i j,i<=j->j<k->Le lt (p.getD j 0) (p.getD i 0)
def vd.next (o:Ord lt) {p:Array Nat}{k:Nat}(h:vd lt p k) (hk:1<=k) (hl:Le lt (p.getD (k-1) 0) (p.getD k 0)):vd lt p (k+1):=λ i j hij hj=>by
 by_cases hjk:j<k
 .exact h i j hij hjk
 .have e:j=k:=by omega
  subst e;by_cases hi:i=j
  .subst hi;exact o.refl _
  .exact o.tr _ _ _ (h i (j-1) (by omega) (by omega)) hl
def uX.next (o:Ord lt) {p:Array Nat}{k:Nat}(h:uX lt p k) (hk:1<=k) (hl:Le lt (p.getD k 0) (p.getD (k-1) 0)):uX lt p (k+1):=λ i j hij hj=>by
 by_cases hjk:j<k
 .exact h i j hij hjk
 .have e:j=k:=by omega
  subst e;by_cases hi:i=j
  .subst hi;exact o.refl _
  .exact o.tr _ _ _ hl (h i (j-1) (by omega) (by omega))
theorem gp (o:Ord lt) {p:Array Nat}(hp:xf n p):∀ (f a:Nat),1<=a->a+f<=n->vd lt p a->
  yr n lt (kas_asc p f a) λ m=>a<=m/\m<=a+f/\vd lt p m/\(m=a+f\/lt (p.getD m 0) (p.getD (m-1) 0)=true)
 | 0,a,_,_,hs=>⟨zA4 _,zA4 _,hs,.inl rfl⟩
 | f+1,a,h1,h2,hs=>by
  refine⟨hp.below (by omega),hp.below (by omega),?_⟩;cases c:lt (p.getD a 0) (p.getD (a-1) 0) with
  | true=>exact⟨zA4 _,by omega,hs,.inr c⟩
  | false=>
   refine yr.mono ?_ (gp o hp f (a+1) (by omega) (by omega) (hs.next o h1 c));rintro m ⟨g1,g2,g3,g4⟩;exact⟨by omega,by omega,g3,g4.imp (λ e=>by omega) id⟩
def pZ {p:Array Nat}(hp:xf n p) (i j:Nat):xf n (kas_rev p i j):=Array.Perm.trans (mirror_perm _ _ _ _) hp
def p_ {p:Array Nat}(hp:xf n p) {i j:Nat}(hj:j<=n) (k:Nat):(kas_rev p i j).getD k 0=if i<=k/\k<j then p.getD (i+j-1-k) 0 else p.getD k 0:=by
 have e:=getElem?_mirror_all (xs:=p) (i:=i) (j:=j) (by rw[hp.size];exact hj) k;split
 .rename_i h;rw[if_pos h] at e;exact oO e
 .rename_i h;rw[if_neg h] at e;exact oO e
def rev_eq (o:Ord lt) {p:Array Nat}(hp:xf n p) {i j:Nat}(hj:j<=n) (he:∀ a b,i<=a->a<j->i<=b->b<j->Le lt (p.getD a 0) (p.getD b 0)) (k:Nat):
  Le lt ((kas_rev p i j).getD k 0) (p.getD k 0)/\Le lt (p.getD k 0) ((kas_rev p i j).getD k 0):=by
 rw[p_ hp hj];split
 .rename_i h;exact⟨he _ _ (by omega) (by omega) h.1 h.2,he _ _ h.1 h.2 (by omega) (by omega)⟩
 .exact⟨o.refl _,o.refl _⟩
def uX.of_eq (o:Ord lt) {p q:Array Nat}{k:Nat}(h:uX lt p k) (e:∀ k,Le lt (q.getD k 0) (p.getD k 0)/\Le lt (p.getD k 0) (q.getD k 0)):uX lt q k:=λ i j hij hj=>
 o.tr _ _ _ (e j).1 (o.tr _ _ _ (h i j hij hj) (e i).2)
def fq (lt:Nat->Nat->Bool) (p:Array Nat) (m q:Nat):Prop:=∀ a b,m-(q+1)<=a->a<m->m-(q+1)<=b->b<m->Le lt (p.getD a 0) (p.getD b 0)
theorem lH (o:Ord lt):∀ (f:Nat) (p:Array Nat) (m q:Nat),xf n p->1<=m->m+f<=n->uX lt p m->q+1<=m->fq lt p m q->
  yr n lt (kas_desc f p m q) λ r=>xf n r.1/\m<=r.2.1/\r.2.1<=m+f/\uX lt r.1 r.2.1/\r.2.2+1<=r.2.1/\fq lt r.1 r.2.1 r.2.2
 | 0,p,m,q,hp,_,_,hd,hq,hb=>⟨hp,zA4 _,zA4 _,hd,hq,hb⟩
 | f+1,p,m,q,hp,h1,h2,hd,hq,hb=>by
  have one:∀ p':Array Nat,fq lt p' (m+1) 0:=λ p' a b a1 a2 b1 b2=>by
   have:a=b:=by omega
   subst this;exact o.refl _
  refine⟨hp.below (by omega),hp.below (by omega),?_⟩;cases c:lt (p.getD m 0) (p.getD (m-1) 0) with
  | true=>
   dsimp only;rw[if_pos rfl];have hl:=o.as _ _ c;by_cases h0:q>0
   .rw[if_pos h0];have e:=rev_eq o hp (i:=m-(q+1)) (j:=m) (by omega) hb;have hp':=pZ hp (m-(q+1)) m;refine yr.mono ?_ (lH o f _ (m+1) 0 hp' (by omega) (by omega) ((hd.of_eq o e).next o h1 (o.tr _ _ _ (e m).1 (o.tr _ _ _ hl (e (m-1)).2))) (by omega) (one _));rintro r ⟨a1,a2,a3,a4⟩;exact⟨a1,by omega,by omega,a4⟩
   .rw[if_neg h0];refine yr.mono ?_ (lH o f _ (m+1) 0 hp (by omega) (by omega) (hd.next o h1 hl) (by omega) (one _));rintro r ⟨a1,a2,a3,a4⟩;exact⟨a1,by omega,by omega,a4⟩
  | false=>
   dsimp only;rw[if_neg Bool.false_ne_true];refine⟨hp.below (by omega),hp.below (by omega),?_⟩;cases d:lt (p.getD (m-1) 0) (p.getD m 0) with
   | true=>exact⟨hp,zA4 _,(by show m<=m+(f+1);omega),hd,hq,hb⟩
   | false=>
    dsimp only;rw[if_neg Bool.false_ne_true];refine yr.mono ?_ (lH o f _ (m+1) (q+1) hp (by omega) (by omega) (hd.next o h1 d) (by omega) λ a b a1 a2 b1 b2=>?_)
    .rintro r ⟨a1,a2,a3,a4⟩;exact⟨a1,by omega,by omega,a4⟩
    .by_cases ha:a=m
     .by_cases hb':b=m
      .subst ha;subst hb';exact o.refl _
      .subst ha;exact o.tr _ _ _ d (hb (a-1) b (by omega) (by omega) (by omega) (by omega))
     .by_cases hb':b=m
      .subst hb';exact o.tr _ _ _ (hb a (b-1) (by omega) (by omega) (by omega) (by omega)) c
      .exact hb a b (by omega) (by omega) (by omega) (by omega)
def eF (o:Ord lt) {p:Array Nat}{m:Nat}(hp:xf n p) (h1:1<=m) (h2:m<=n) (hd:uX lt p m):yr n lt (kas_tail3 m n p) λ r=>xf n r.2/\r.1<=n/\vd lt r.2 r.1:=by
 refine yr.bind (yr.mono ?_ (gp o (pZ hp 0 m) (n-m) m h1 (by omega) λ i j hij hj=>?_))
 .rintro k ⟨a1,a2,a3,_⟩;exact⟨pZ hp 0 m,by omega,a3⟩
 .rw[p_ hp h2,p_ hp h2,if_pos ⟨zD4 _,by omega⟩,if_pos ⟨zD4 _,hj⟩];exact hd _ _ (by omega) (by omega)
def a9 (o:Ord lt) {p:Array Nat}{m:Nat}(hp:xf n p) (h1:1<=m) (h2:m<n) (hd:uX lt p m) (hl:lt (p.getD m 0) (p.getD (m-1) 0)=true):yr n lt (kas_descPart m n p) λ r=>xf n r.2/\r.1<=n/\vd lt r.2 r.1:=by
 refine yr.bind (yr.mono ?_ (lH o (n-(m+1)) p (m+1) 0 hp (by omega) (by omega) (hd.next o h1 (o.as _ _ hl)) (by omega) λ a b a1 a2 b1 b2=>?_))
 .rintro⟨p',m',q'⟩ ⟨a1,a2,a3,a4,a5,a6⟩;dsimp only at a1 a2 a3 a4 a5 a6 ⊢;by_cases h0:q'>0
  .rw[if_pos h0];exact eF o (pZ a1 _ _) (by omega) (by omega) (a4.of_eq o (rev_eq o a1 (i:=m'-(q' + 1)) (j:=m') (by omega) a6))
  .rw[if_neg h0];exact eF o a1 (by omega) (by omega) a4
 .have:a=b:=by omega
  subst this;exact o.refl _
def RL (o:Ord lt) {p:Array Nat}(hp:xf n p) (h1:1<=n):yr n lt (kas_count n p) λ r=>xf n r.2/\r.1<=n/\vd lt r.2 r.1:=by
 refine yr.bind (yr.mono ?_ (gp o hp (n-1) 1 (zA4 _) (by omega) λ i j hij hj=>?_))
 .rintro m ⟨a1,a2,a3,a4⟩;by_cases hm:m=n
  .rw[if_pos (by simp[hm])];exact⟨hp,by omega,a3⟩
  .rw[if_neg (by simp[hm])];have hl:lt (p.getD m 0) (p.getD (m-1) 0)=true:=a4.resolve_left (by omega);by_cases h2:m>1
   .rw[if_pos h2];refine⟨hp.below (by omega),hp.below (by omega),?_⟩;cases c:lt (p.getD 0 0) (p.getD (m-1) 0) with
    | true=>exact⟨hp,by omega,a3⟩
    | false=>
     dsimp only;rw[if_neg Bool.false_ne_true];have all:∀ a b,0<=a->a<m->0<=b->b<m->Le lt (p.getD a 0) (p.getD b 0):=λ a b _ ha _ hb=>
      o.tr _ _ _ (a3 a (m-1) (by omega) (by omega)) (o.tr _ _ _ c (a3 0 b (by omega) hb))
     have e:=rev_eq o hp (i:=0) (j:=m) (by omega) all;refine a9 o (pZ hp 0 m) (by omega) (by omega) (λ i j hij hj=>o.tr _ _ _ (e j).1 (o.tr _ _ _ (all _ _ (zD4 _) hj (zD4 _) (by omega)) (e i).2)) ?_;rw[p_ hp (by omega),p_ hp (by omega),if_neg (by omega),if_pos (by omega)];cases q:lt (p.getD m 0) (p.getD (0+m-1-(m-1)) 0) with
     | true=>rfl
     | false=>
      have:=o.tr _ _ _ (all (m-1) (0+m-1-(m-1)) (zD4 _) (by omega) (zD4 _) (by omega)) q;unfold Le at this;rw[this] at hl;cases hl
   .rw[if_neg h2];have e:m=1:=by omega
    subst e;refine a9 o hp (zA4 _) (by omega) (λ i j hij hj=>?_) hl;have:i=j:=by omega
    subst this;exact o.refl _
 .have:i=j:=by omega
  subst this;exact o.refl _
theorem jq {p:Array Nat}{k:Nat}(hp:xf n p) (hk:k<n) (hs:vd lt p k) (o:Ord lt):∀ (f l r:Nat),r-l<=f->l<=r->r<=k->(∀ i,i<l->Le lt (p.getD i 0) (p.getD k 0))->(∀ i,r<=i->i<k->lt (p.getD k 0) (p.getD i 0)=true)->
  yr n lt (kas_place p k f l r) λ m=>m<=k/\(∀ i,i<m->Le lt (p.getD i 0) (p.getD k 0))/\(∀ i,m<=i->i<k->lt (p.getD k 0) (p.getD i 0)=true)
 | 0,l,r,h0,h1,h2,ha,hb=>by
  have:l=r:=by omega
  subst this;exact⟨h2,ha,hb⟩
 | f+1,l,r,h0,h1,h2,ha,hb=>by
  unfold kas_place;by_cases hlr:l≥r
  .rw[if_pos hlr];have:l=r:=by omega
   subst this;exact⟨h2,ha,hb⟩
  .rw[if_neg hlr];refine⟨hp.below hk,hp.below (by omega),?_⟩;cases c:lt (p.getD k 0) (p.getD ((l+r)/2) 0) with
   | true=>
    dsimp only;rw[if_pos rfl];refine jq hp hk hs o f l ((l+r)/2) (by omega) (by omega) (by omega) ha λ i hi hik=>?_;cases q:lt (p.getD k 0) (p.getD i 0) with
    | true=>rfl
    | false=>
     have:=o.tr _ _ _ (hs ((l+r)/2) i hi hik) q;unfold Le at this;rw[this] at c;cases c
   | false=>
    dsimp only;rw[if_neg Bool.false_ne_true];refine jq hp hk hs o f ((l+r)/2+1) r (by omega) (by omega) h2 (λ i hi=>?_) hb;exact o.tr _ _ _ (hs i ((l+r)/2) (by omega) (by omega)) c
theorem Zd (o:Ord lt):∀ (f:Nat) (p:Array Nat) (k:Nat),xf n p->k+f=n->vd lt p k->yr n lt (kas_bin f p k) λ r=>xf n r/\vd lt r n
 | 0,p,k,hp,h1,hs=>by
  have:k=n:=by omega
  subst this;exact⟨hp,hs⟩
 | f+1,p,k,hp,h1,hs=>by
  refine yr.bind (yr.mono ?_ (jq hp (by omega) hs o k 0 k (by omega) (zD4 _) (zA4 _) (λ i hi=>absurd hi (Nat.not_lt_zero _)) λ i hi hik=>absurd hik (by omega)));rintro l ⟨a1,a2,a3⟩;refine Zd o f _ (k+1) (Array.Perm.trans (bubble_perm _ _ _) hp) (by omega) λ i j hij hj=>?_;have ev:∀ x,(bubble p k (k-l)).getD x 0=if x=l then p.getD k 0 else if l<x/\x<=k then p.getD (x-1) 0 else p.getD x 0:=λ x=>by
   have e:=getElem?_bubble (xs:=p) (src:=k) (by rw[hp.size];omega) (k-l) (by omega) x;rw[show k-(k-l)=l by omega] at e;split
   .rename_i h;rw[if_pos h] at e;exact oO e
   .rename_i h;rw[if_neg h] at e;split
    .rename_i h';rw[if_pos h'] at e;exact oO e
    .rename_i h';rw[if_neg h'] at e;exact oO e
  rw[ev i,ev j];by_cases hi:i=l
  .rw[if_pos hi];by_cases hj':j=l
   .rw[if_pos hj'];exact o.refl _
   .rw[if_neg hj',if_pos ⟨by omega,by omega⟩];exact o.as _ _ (a3 (j-1) (by omega) (by omega))
  .rw[if_neg hi];by_cases hj':j=l
   .rw[if_pos hj',if_neg (by omega)];exact a2 i (by omega)
   .rw[if_neg hj'];by_cases hi2:l<i/\i<=k
    .rw[if_pos hi2,if_pos ⟨by omega,by omega⟩];exact hs _ _ (by omega) (by omega)
    .rw[if_neg hi2];by_cases hj2:l<j/\j<=k
     .rw[if_pos hj2];exact hs _ _ (by omega) (by omega)
     .rw[if_neg hj2];exact hs _ _ hij (by omega)
def YW (o:Ord lt) (h1:1<=n):yr n lt (kas_sort n) λ r=>xf n r/\vd lt r n:=by
 have hp:xf n (List.range n).toArray:=Array.Perm.refl _;refine yr.bind (yr.mono ?_ (RL o hp h1));rintro⟨m,p⟩ ⟨a1,a2,a3⟩;dsimp only at a1 a2 a3 ⊢;by_cases hm:m<n
 .rw[if_pos hm];refine Zd o _ p (max m 1) a1 (by omega) ?_;by_cases h0:m=0
  .subst h0;intro i j hij hj;have:i=j:=by omega
   subst this;exact o.refl _
  .rw[show max m 1=m by omega];exact a3
 .rw[if_neg hm];have:m=n:=by omega
  subst this;exact⟨a1,a3⟩
end
end L4
namespace L4
open PySem PySem.W PySem.Calls PyProof.Rows
section
variable {prog:Program}{w:World}{A:Around}{E:Value->Shared->Prop}{s:Shared}
def Core (prog:Program) (w:World) (A:Around) (E:Value->Shared->Prop) (vs:List Value) (Out:Array Value->Prop) (s6:Shared):Prop:=
 wpAny (model prog w) A (keyKind' vs.toArray) (fun κ s'=>s'=s6/\wpAny (model prog w) A ((sortRuns').run (SortSt.mk' κ (vs.toArray.zip vs.toArray) #[] 7 none))
  (λ r s''=>s''=s6/\failedOf r.2=none/\Out ((arrOf r.2).map (·.2))/\(arrOf r.2).size=vs.length) E s') E s6
def jW {a:Addr}{vs:List Value}{n:Nat}{P:PySem.Fin->Shared->Prop}{Out:Array Value->Prop}(ho:s.heap.get? a=some (seqObj "list" vs.toArray n)) (hz:vs.length<=sizeLine)
  (core:2<=vs.length->∀ s6:Shared,(∀ b o,b≠a->s.heap.get? b=some o->s6.heap.get? b=some o)->Core prog w A E vs Out s6) (short:vs.length<2->Out vs.toArray)
  (fin:∀ out:Array Value,Out out->out.size=vs.length->P (.done (.ret .none)) { s with heap:=sortedHeap s.heap a vs out }):
  wpAny (model prog w) A (Builtin.«list.sort» ⟨[.ref a],[]⟩) P E s:=by
 have ha:a<s.heap.objs.size:=zA8 ho;obtain⟨e1,g1⟩:∃ e1,(s.heap.update a (Obj.mapSeq λ _=>#[])).get? a=some (seqObj "list" #[] e1):=⟨_,get?_update_seq ho (λ _=>#[])⟩
 have hz':vs.toArray.size<=sizeLine:=by rw[zA0];exact hz
 have g6:(((s.heap.update a (Obj.mapSeq λ _=>#[])).push (seqObj "tuple" vs.toArray 0)).push (seqObj "list" #[] 0)).get? a=some (seqObj "list" #[] e1):=zHp _ (zHp _ g1);have keep:∀ b o,b≠a->s.heap.get? b=some o->(((s.heap.update a (Obj.mapSeq λ _=>#[])).push (seqObj "tuple" vs.toArray 0)).push (seqObj "list" #[] 0)).get? b=some o:=
  λ b o hb e=>zHp _ (zHp _ (by rw[Heap.get?_update_ne _ _ _ _ hb];exact e))
 rw[list_sort_plain];refine zWb (listItems_at ho rfl (zWb (listUpdate_at ho rfl (zWb (seqEpoch_at g1 rfl (zWb (wpAny_newTuple (zWb (wpAny_newList (wpAny_holding ?_))) (by simpa using hz))))) hz' (zD4 _))));by_cases h2:vs.toArray.size<2
 .rw[if_pos h2,if_pos h2];have e2:(arrOf (SortSt.mk' general' (vs.toArray.zip vs.toArray) #[] 7 none)).map (·.2)=vs.toArray:=by
   show (vs.toArray.zip vs.toArray).map (·.2)=vs.toArray;apply Array.ext (by simp);intro i h1 h2;simp
  refine zWb (zD1 ?_);dsimp only;rw[StateT.run_pure];refine zWb (zD1 ?_);dsimp only;refine zWb (seqEpoch_at g6 rfl (zWb (listUpdate_at g6 rfl ?_ (zD4 _) ?_)))
  .simp only[bne_self_eq_false,zC4,if_false];have q:=fin _ (e2▸short (by simpa using h2)) (by rw[e2];simp);exact zD1 q
  .show (((arrOf (SortSt.mk' general' (vs.toArray.zip vs.toArray) #[] 7 none)).map (·.2))).size<=sizeLine+1;rw[e2];omega
 .rw[if_neg h2,if_neg h2];have h2':2<=vs.length:=by simpa using h2
  refine zWb (wpAny_mono (core h2' _ keep) (fun κ s7 ⟨hs,h7⟩=>?_) λ _ _ z=>z);subst hs;refine zWb (wpAny_mono h7 (λ r s8 ⟨hs,hf,hout,hsz⟩=>?_) λ _ _ z=>z);subst hs;obtain⟨⟨⟩,st⟩:=r;refine zWb (seqEpoch_at g6 rfl (zWb (listUpdate_at g6 rfl ?_ (zD4 _) ?_)))
  .have hf':failedOf st=none:=hf;rw[hf'];simp only[bne_self_eq_false,zC4,if_false];exact zD1 (fin _ hout (by rw[Array.size_map];exact hsz))
  .show ((arrOf st).map (·.2)).size<=sizeLine+1;rw[Array.size_map];have:(arrOf st).size=vs.length:=hsz;omega
def YV {l:Addr}{vs:List Value}{Q:Value->Shared->Prop}{Out:Array Value->Prop}(hl:s.heap.IsList l vs.toArray) (hz:vs.length<=sizeLine)
  (core:2<=vs.length->∀ s6:Shared,(∀ b o,s.heap.get? b=some o->s6.heap.get? b=some o)->Core prog w A.in1.in1 E vs Out s6) (short:vs.length<2->Out vs.toArray)
  (fin:∀ out:Array Value,Out out->out.size=vs.length->Q (.ref (s.heap.objs.size+1)) { s with heap:=sortedAll s.heap vs out }):
  wpAny (model prog w) A (call (.builtin "sorted") [.ref l]) Q E s:=by
 have hsz:((s.heap.push (seqObj "list" #[] 0)).update s.heap.objs.size (Obj.mapSeq (·++vs.toArray))).objs.size=s.heap.objs.size+1:=by
  rw[Heap.size_update,size_push']
 have hoL:(((s.heap.push (seqObj "list" #[] 0)).update s.heap.objs.size (Obj.mapSeq (·++vs.toArray))).push (seqObj "list" vs.toArray 0)).get? (s.heap.objs.size+1)=some (seqObj "list" vs.toArray 0):=hsz▸zA9 _ rfl;have keep:∀ b o,s.heap.get? b=some o->(((s.heap.push (seqObj "list" #[] 0)).update s.heap.objs.size (Obj.mapSeq (·++vs.toArray))).push (seqObj "list" vs.toArray 0)).get? b=some o:=λ b o q=>
  zHp _ (by rw[Heap.get?_update_ne _ _ _ _ (zB3 (zA8 q))];exact zHp _ q)
 refine Calls.call_function_entry kind_sorted plain_sorted entry_sorted (args_sorted1 _) ?_;unfold Builtin.«sorted»;refine zWb (m:=checkCount "sorted" 1 1 _) (zD1 (zWb (collect_list hl (zWb (wpAny_newList ?_ hz)) hz)));show wpAny _ _ _ _ _ { s with heap:=((s.heap.push (seqObj "list" #[] 0)).update s.heap.objs.size (Obj.mapSeq (·++vs.toArray))).push (seqObj "list" vs.toArray 0) };rw[hsz];refine zWb (wpAny_holding (wpAny_call_entry slot_list_sort ⟨_,hoL,rfl⟩ entry_list_sort (jW hoL hz (λ h2 s6 k=>core h2 s6 λ b o q=>k b o ?_ (keep b o q)) short λ out h1 h2=>⟨_,rfl,?_⟩) (args_list_sort _)))
 .exact zB3 (Nat.lt_succ_of_lt (zA8 q))
 .exact zD1 ⟨_,rfl,fin out h1 h2⟩
end
end L4
namespace L4
open PySem PySem.W PySem.Calls PyProof.Rows L2
theorem jZ:∀ a b:List Int,HT.lexLt a b=true->HT.lexLt b a=false
 | [],[],h=>by cases h
 | [],_::_,_=>rfl
 | _::_,[],h=>by cases h
 | x::a,y::b,h=>by
  rw[HT.sI] at h ⊢;by_cases e:x=y
  .subst e;rw[if_pos rfl] at h ⊢;exact jZ a b h
  .rw[if_neg e] at h;rw[if_neg (Ne.symm e)];have:=of_decide_eq_true h;exact decide_eq_false (by omega)
theorem cT:∀ a b:List Int,HT.lexLt a b=false->HT.lexLt b a=false->a=b
 | [],[],_,_=>rfl
 | [],_::_,h,_=>by cases h
 | _::_,[],_,h=>by cases h
 | x::a,y::b,h,h'=>by
  rw[HT.sI] at h h';by_cases e:x=y
  .subst e;rw[if_pos rfl] at h h';rw[cT a b h h']
  .rw[if_neg e] at h;rw[if_neg (Ne.symm e)] at h';have h1:=of_decide_eq_false h;have h2:=of_decide_eq_false h';omega
theorem jY:∀ a b c:List Int,HT.lexLt b a=false->HT.lexLt c b=false->HT.lexLt c a=false
 | [],[],[],_,_=>rfl
 | [],[],_::_,_,h=>h
 | [],_::_,[],_,h=>by cases h
 | [],_::_,_::_,_,_=>rfl
 | _::_,[],_,h,_=>by cases h
 | _::_,_::_,[],_,h=>by cases h
 | x::a,y::b,z::c,h,h'=>by
  rw[HT.sI] at h h' ⊢;by_cases e1:y=x
  .subst e1;rw[if_pos rfl] at h;by_cases e2:z=y
   .subst e2;rw[if_pos rfl] at h' ⊢;exact jY a b c h h'
   .rw[if_neg e2] at h' ⊢;exact h'
  .rw[if_neg e1] at h;have h1:=of_decide_eq_false h;by_cases e2:z=y
   .subst e2;rw[if_neg e1];exact h
   .rw[if_neg e2] at h';have h2:=of_decide_eq_false h';rw[if_neg (by omega)];exact decide_eq_false (by omega)
theorem jt {α:Type}{r:α->α->Prop}(an:∀ a b,r a b->r b a->a=b):∀ {l₁ l₂:List α},l₁.Perm l₂->l₁.Pairwise r->l₂.Pairwise r->l₁=l₂
 | [],l₂,h,_,_=>(List.nil_perm.mp h).symm
 | a::l₁,[],h,_,_=>absurd (List.perm_nil.mp h) (by simp)
 | a::l₁,b::l₂,h,h1,h2=>by
  have hab:a=b:=by
   have ha:a∈b::l₂:=h.mem_iff.mp zMc;have hb:b∈a::l₁:=h.mem_iff.mpr zMc;rcases zA5.mp ha with e | ha
   .exact e
   .rcases zA5.mp hb with e | hb
    .exact e.symm
    .exact an _ _ (List.rel_of_pairwise_cons h1 hb) (List.rel_of_pairwise_cons h2 ha)
  subst hab;rw[jt an (List.Perm.cons_inv h) (List.pairwise_cons.mp h1).2 (List.pairwise_cons.mp h2).2]
noncomputable def xu (rows:List (List Int)):List (List Int):=rows.mergeSort λ a b=>!HT.lexLt b a
def tq (rows:List (List Int)):(xu rows).Perm rows:=List.mergeSort_perm _ _
def kA (rows:List (List Int)):(xu rows).Pairwise λ a b=>HT.lexLt b a=false:=by
 have:=List.pairwise_mergeSort (le:=λ a b:List Int=>!HT.lexLt b a) (λ a b c h1 h2=>by simp at h1 h2 ⊢;exact jY a b c h1 h2)
  (λ a b=>by
   cases h:HT.lexLt b a with
   | false=>simp
   | true=>simp[jZ b a h]) rows
 exact this.imp λ h=>by simpa using h
def eN {rows out:List (List Int)}(hp:out.Perm rows) (hs:out.Pairwise λ a b=>HT.lexLt b a=false):out=xu rows:=
 jt (λ a b h1 h2=>cT a b h2 h1) (hp.trans (tq rows).symm) hs (kA rows)
noncomputable def pW (rows:List (List Int)) (i j:Nat):Bool:=HT.lexLt (rows.getD i []) (rows.getD j [])
def Xz (rows:List (List Int)):Ord (pW rows):=⟨λ _ _ _ h1 h2=>jY _ _ _ h1 h2,λ _ _ h=>jZ _ _ h⟩
section
variable {prog:Program}{w:World}{A:Around}{E:Value->Shared->Prop}{s:Shared}{Q:Bool->Shared->Prop}
theorem bf {b:Bool}:∀ (ns ms:List Int) (us ws:List Value) (i:Nat),IntsAre us ns->IntsAre ws ms->Q (HT.lexLt ns ms) s->KatLex prog w A b (decide (ns.length<ms.length)) Q (us.zip ws) i s
 | [],[],_,_,_,.nil,.nil,h=>kat_nil (by simpa [HT.lexLt] using h)
 | [],_::_,_,_,_,.nil,.cons _ _ _,h=>kat_nil (by simpa [HT.lexLt] using h)
 | _::_,[],_,_,_,.cons _ _ _,.nil,h=>kat_nil (by simpa [HT.lexLt] using h)
 | n::ns,m::ms,_,_,i,.cons _ t hu,.cons _ u hw,h=>by
  rw[HT.sI] at h;refine kat_cons (SeqAt.EqAt.int_int n t m u prog w _ _ (kat_go (λ e=>kat_yes ?_) λ e=>kat_no ?_))
  .have e':n=m:=by simpa using e
   rw[if_pos e'] at h;rw[show decide ((n::ns).length<(m::ms).length)=decide (ns.length<ms.length) by simp];exact bf ns ms _ _ (i+1) hu hw h
  .have e':¬ n=m:=by simpa using e
   rw[if_neg e'] at h;cases b&&i == 0 with
   | true=>exact kat_lt_int h
   | false=>exact kat_one _ _ (lt_int h)
def tQ (h:Heap):List Value->List (List Int)->Prop:=Paired λ v r=>r≠[]/\∃ b o its n,v=.ref b/\h.get? b=some o/\o.cls=.type "tuple"/\o.data=.seq its n/\IntsAre its.toList r
theorem tQ.bZ {h:Heap}:∀ {vs:List Value}{rows:List (List Int)},tQ h vs rows->∃ fs,KatTups h vs fs/\fs.length=vs.length/\∀ v∈fs,∃ n t,v=Value.int n t
 | _,_,.nil=>⟨[],KatTups.nil,rfl,λ _ hv=>absurd hv (by simp)⟩
 | _,_,.cons ⟨hne,b,o,its,n,hv,ho,hc,hd,hi⟩ r=>by
  obtain⟨fs,h1,h2,h3⟩:=tQ.bZ r;subst hv;obtain⟨its⟩:=its;cases hi with
  | nil=>exact absurd rfl hne
  | cons k t _=>exact⟨.int k t::fs,KatTups.cons ho hc hd rfl h1,by simp[h2],λ v hv=>(zA5.mp hv).elim (λ e=>⟨k,t,e⟩) (h3 v)⟩
theorem Paired.at' {α β:Type}{F:α->β->Prop}:∀ {l₁:List α}{l₂:List β}{i:Nat},Paired F l₁ l₂->i<l₁.length->∀ (d:α) (e:β),F (l₁.getD i d) (l₂.getD i e)
 | _,_,_,.nil,h,_,_=>absurd h (by simp)
 | _,_,0,.cons r _,_,_,_=>r
 | _,_,i+1,.cons _ t,h,d,e=>by simpa using Paired.at' (i:=i) t (by simpa using h) d e
def tQ.ask {vs:List Value}{rows:List (List Int)}{b:Bool}(r:tQ s.heap vs rows) {i j:Nat}(hi:i<vs.length) (hj:j<vs.length) {C:Bool->Shared->Prop}(h:C (pW rows i j) s):kas_ask prog w A (tuples' b) vs i j C s:=by
 obtain⟨_,b1,o1,its1,n1,e1,g1,_,d1,q1⟩:=Paired.at' r hi Value.none [];obtain⟨_,b2,o2,its2,n2,e2,g2,_,d2,q2⟩:=Paired.at' r hj Value.none [];unfold kas_ask;rw[e1,e2];refine kat_lt g1 d1 g2 d2 ?_;have l1:=q1.length;have l2:=q2.length;rw[zD2] at l1 l2;rw[l1,l2];exact bf _ _ _ _ 0 q1 q2 h
theorem fY {α:Type}{n:Nat}{lt:Nat->Nat->Bool}{cmp:Nat->Nat->(Bool->Shared->Prop)->Shared->Prop}{Q:α->Shared->Prop}(hc:∀ i j C,i<n->j<n->C (lt i j) s->cmp i j C s):∀ {t:KasT α},yr n lt t (λ a=>Q a s)->t.kasWp cmp Q s
 | .ret _,h=>h
 | .ask i j _,h=>hc i j _ h.1 h.2.1 (fY hc h.2.2)
def nN (vs:List Value) (rows:List (List Int)) (out:Array Value):Prop:=
 ∃ idx:List Nat,idx.Perm (List.range vs.length)/\out.toList=idx.map (λ i=>vs.getD i Value.none)/\(idx.map λ i=>rows.getD i []).Pairwise λ a b=>HT.lexLt b a=false
def YS {rows:List (List Int)}{p:Array Nat}{n:Nat}(hn:p.size=n) (h:vd (pW rows) p n):(p.toList.map λ i=>rows.getD i []).Pairwise λ a b=>HT.lexLt b a=false:=by
 rw[List.pairwise_map,List.pairwise_iff_getElem];intro i j hi hj hij;have:=h i j (zE3 hij) (by rw[<- hn];simpa using hj);simp only[zD2] at hi hj;unfold Le pW at this;simpa [Array.getD_eq_getD_getElem?,hi,hj] using this
def i_ {vs:List Value}{rows:List (List Int)}(r:tQ s.heap vs rows) (h2:2<=vs.length) (h64:vs.length<64):Core prog w A E vs (nN vs rows) s:=by
 obtain⟨fs,t,hl,hf⟩:=r.bZ;unfold Core;refine kat_kind (T:=.type "int") t (by omega) (λ v hv=>?_) rfl ⟨rfl,?_⟩
 .obtain⟨n,t,rfl⟩:=hf v hv;exact Looks.of_pure rfl
 .refine kat_run (ks:=vs) (Q:=λ st s''=>s''=s/\failedOf st=none/\nN vs rows ((arrOf st).map (·.2))/\(arrOf st).size=vs.length) (G:=λ p s''=>s''=s/\xf vs.length p/\vd (pW rows) p vs.length) rfl h2 h64 (λ p st s' hs ha hfl hg=>?_) ?_
  .obtain⟨h1,h3,h4⟩:=hg;refine⟨h1,hfl,⟨p.toList,?_,?_,YS hs h4⟩,by rw[ha,Array.size_map];exact hs⟩
   .have:=Array.Perm.toList h3;simpa using this
   .rw[kat_snds rfl ha]
  .exact fY (λ i j C hi hj hC=>r.ask hi hj hC) (yr.mono (λ p hp=>⟨rfl,hp⟩) (YW (Xz rows) (by omega)))
end
section
variable {X:Cx}
def Qa:yK X (.builtin "sorted") (λ xs H Q=>∃ p ys,∃ rows:List (List Int),xs=[.ref p]/\zN X.K H p ys/\Paired (λ v r=>r≠[]/\∃ b,v=V.ref b/\zS X.K H b (r.map V.int)) ys rows/\rows.length<64/\
  ∀ (l:Addr) (idx:List Nat),H l=none->idx.Perm (List.range ys.length)->(idx.map λ i=>rows.getD i []).Pairwise (λ a b=>HT.lexLt b a=false)->Q (.ref l) (upd H l (.lst (idx.map λ i=>ys.getD i .zi)))):=by
 intro pins s O H xs us Q I r h;obtain⟨p,ys,rows,rfl,hq,hr,h64,q⟩:=h;obtain⟨u,rfl,ru⟩:=vals1 r;cases ru;obtain⟨its,rv,pl,hz⟩:=I.list hq;have hl:=rv.length;have hlr:ys.length=rows.length:=Paired.length hr;have rows_at:∀ h6:Heap,(∀ b o,s.heap.get? b=some o->h6.get? b=some o)->tQ h6 its rows:=λ h6 k=>by
  clear q hz hl hlr h64 hq pl r
  induction hr generalizing its with
  | nil=>cases rv;exact .nil
  | cons g t ih=>
   cases rv with
   | cons r1 r2=>
    refine .cons ?_ (ih _ r2);obtain⟨hne,b,rfl,hb⟩:=g;cases r1;obtain⟨its2,rv2,⟨o,e,hc,n,hd⟩,_⟩:=I.tuple hb;exact⟨hne,b,o,_,n,rfl,k _ _ e,hc,hd,by simpa using intsAre_of rv2⟩
 refine YV (Out:=nN its rows) pl.isList (by rw[<- hl];exact hz) (λ h2 s6 k=>i_ (rows_at _ k) h2 (by omega)) (λ h1=>?_) λ out ho hs=>?_
 .refine⟨List.range its.length,.refl _,?_,?_⟩
  .refine List.ext_getElem (by simp) λ i h1 h2=>?_;simp at h1;simp[h1]
  .rw[List.pairwise_map,List.pairwise_iff_getElem];intro i j hi hj hij;simp at hi hj;omega
 .obtain⟨idx,g1,g2,g3⟩:=ho;obtain⟨e,ho⟩:=sortedAll_at s.heap its out;have hfr:H (s.heap.objs.size+1)=none:=I.zw.fresh (Nat.le_succ _);have g1':idx.Perm (List.range ys.length):=by rw[hl];exact g1
  refine⟨.ref (s.heap.objs.size+1),_,I.laid (t':=s.toks) (o:=.lst (idx.map λ i=>ys.getD i .zi)) (λ b o q=>sortedAll_old q) (Nat.le_succ _) ?_,rfl,q _ idx hfr g1' g3⟩;refine⟨by rw[zA7,g1'.length_eq,zC5];exact hz,out.toList,e,?_,by simpa using ho⟩;rw[g2];have hlt:∀ i∈idx,i<ys.length:=λ i hi=>by simpa using g1'.mem_iff.mp hi
  clear g1 g1' g2 g3 q
  induction idx with
  | nil=>exact .nil
  | cons i idx ih=>
   refine .cons ?_ (ih λ j hj=>hlt j (zMo _ hj));have hi:=hlt i zMc;obtain⟨u,e1,e2⟩:=rv.get (i:=i) (x:=ys[i]) (by simp[hi]);have e3:its.getD i Value.none=u:=by simp[e1]
   have e4:ys.getD i .zi=ys[i]:=by simp[hi]
   show RelV (ys.getD i .zi) (its.getD i Value.none);rw[e3,e4];exact e2
end
end L4
namespace L2
open PySem PySem.Spec PyProof.Rows
noncomputable def tH (ty T:String):Bool:=ty == T||(ty == "bool"&&T == "int")
noncomputable def mz (ty T:String):Bool:=PySem.W.kitMeta T&&decide ((fastBuiltinMro ty).map (λ l=>l.contains (Value.type T))=some (tH ty T))
def Yr:(["NoneType","bool","int","str","tuple","list","dict"].all λ ty=>["int","bool","tuple","list","str"].all λ T=>mz ty T)=true:=by decide +kernel
def T9 {K:zFr}{ty T:String}(h:mz ty T=true):PySem.W.kitOne K (.type ty) (.type T)=some (tH ty T):=by
 unfold mz at h;rw[zE5] at h;unfold PySem.W.kitOne;split
 .rename_i e;have e':ty=T:=by have:=eq_of_beq e;injection this
  subst e';simp[tH]
 .show (if PySem.W.kitMeta T=true then PySem.W.subIn K (.type ty) (.type T) else none)=_;rw[if_pos h.1];exact of_decide_eq_true h.2
noncomputable def Zm (K:zFr) (H:Hp):V->String->Prop
 | .zi,t=>t="NoneType"
 | .bl _,t=>t="bool"
 | .int _,t=>t="int"
 | .str _,t=>t="str"
 | .ref a,t=>(t="tuple"/\∃ xs,zS K H a xs)\/(t="list"/\∃ xs,zN K H a xs)\/(t="dict"/\∃ kvs,H a=some (.dK kvs))
 | _,_=>False
def Qn {X:Cx}:yK X (.builtin "isinstance") (λ xs H Q=>∃ x T ty,xs=[x,.ty T]/\Zm X.K H x ty/\mz ty T=true/\Q (.bl (tH ty T)) H):=by
 intro pins s O H xs us Q I r h;obtain⟨x,T,ty,rfl,hx,hT,q⟩:=h;obtain⟨u,c,rfl,ru,rc⟩:=vals2 r;cases (show c=Value.type T from rc);have e:PySem.W.kitOne X.K (.type ty) (.type T)=some (tH ty T):=T9 hT;have fin:∀ tk,EP X pins O Q (.bool (tH ty T)) { s with toks:=tk }:=λ tk=>⟨.bl _,H,I.tok tk,rfl,q⟩;cases x with
 | zi=>cases (show u=Value.none from ru);cases (show ty=_ from hx);exact PySem.W.kia_one PySem.W.kitx_none I.vt True.intro e (λ z=>nomatch z) fin
 | bl y=>cases (show u=Value.bool y from ru);cases (show ty=_ from hx);exact PySem.W.kia_one PySem.W.kitx_bool I.vt True.intro e (λ z=>nomatch z) fin
 | int i=>obtain⟨t,rfl⟩:=(show ∃ t,u=Value.int i t from ru);cases (show ty=_ from hx);exact PySem.W.kia_one PySem.W.kitx_int I.vt True.intro e (λ z=>nomatch z) fin
 | str y=>obtain⟨t,rfl⟩:=(show ∃ t,u=Value.str y t from ru);cases (show ty=_ from hx);exact PySem.W.kia_one PySem.W.kitx_str I.vt True.intro e (λ z=>nomatch z) fin
 | ref a=>
  cases (show u=Value.ref a from ru);rcases hx with ⟨rfl,ys,hq⟩ | ⟨rfl,ys,hq⟩ | ⟨rfl,kvs,hq⟩
  .obtain⟨its,_,⟨o,h1,h2,_⟩,_⟩:=I.tuple hq;exact PySem.W.kia_one PySem.W.kitx_tuple I.vt ⟨o,h1,h2⟩ e (λ z=>nomatch z) fin
  .obtain⟨its,_,⟨o,n,h1,h2,_⟩,_⟩:=I.list hq;exact PySem.W.kia_one PySem.W.kitx_list I.vt ⟨o,h1,h2⟩ e (λ z=>nomatch z) fin
  .obtain⟨_,_,vs,_,p⟩:=(show yZ X.prog X.w H s.heap a (.dK kvs) from I.zw a _ hq)
   obtain⟨o,es,ep,h1,h2,_⟩:=p;exact PySem.W.kia_one PySem.W.kitx_dict I.vt ⟨o,h1,h2.1⟩ e (λ z=>nomatch z) fin
 | pj _=>exact hx.elim
 | lB _=>exact hx.elim
 | ty _=>exact hx.elim
end L2
namespace L3
open PySem PySem.Spec L2
open PyProof.Rows hiding St
section
variable {X:Cx}{K:zFr}{a b c e:Expr}{es:List Expr}{ta tb tc te:zt}{tA:yk}{pos p q:Pos}
def om (hm:X.mg "len"=none) (ha:xE X (e::es) tA) (hg:Gl X "len":=by rfl) (he:starEach (e::es) X.env=(false,eval e X.env)::starEach es X.env:=by rfl) (hpl:(backTo pos (starEach es X.env)).any (·.1)=false:=by rfl):PD X (.Call (.Name "len" p) (e::es) [] pos) (xA vO tA):=
 sA (su (Ql.or Qk) hg hm PySem.boot_len ha.pa (by decide) (by decide) he hpl) vO.mo vO.fits ha.mo
def j5 (hm:X.mg "list"=none) (ha:xE X (e::es) tA) (hg:Gl X "list":=by rfl) (he:starEach (e::es) X.env=(false,eval e X.env)::starEach es X.env:=by rfl) (hpl:(backTo pos (starEach es X.env)).any (·.1)=false:=by rfl):PD X (.Call (.Name "list" p) (e::es) [] pos) (xA vN tA):=
 sA (oj Qi hg hm PyProof.Rows.boot_list ha.pa (by decide) (by decide) he hpl) vN.mo vN.fits ha.mo
def rE (hm:X.mg "tuple"=none) (ha:xE X (e::es) tA) (hg:Gl X "tuple":=by rfl) (he:starEach (e::es) X.env=(false,eval e X.env)::starEach es X.env:=by rfl) (hpl:(backTo pos (starEach es X.env)).any (·.1)=false:=by rfl):PD X (.Call (.Name "tuple" p) (e::es) [] pos) (xA vM tA):=
 sA (oj RX hg hm PyProof.Rows.boot_tuple ha.pa (by decide) (by decide) he hpl) vM.mo vM.fits ha.mo
abbrev aa:xx:=vw λ i j=>.int (if j>i then j else i)
abbrev b_:xx:=vw λ i j=>.int (if j<i then j else i)
def rH (hm:X.mg "max"=none) (ha:xE X (e::es) tA) (hc:X.calm=true:=by rfl) (hg:Gl X "max":=by rfl) (he:starEach (e::es) X.env=(false,eval e X.env)::starEach es X.env:=by rfl) (hpl:(backTo pos (starEach es X.env)).any (·.1)=false:=by rfl):PD X (.Call (.Name "max" p) (e::es) [] pos) (xA aa tA):=
 sA (su (Qh hc) hg hm boot_max ha.pa (by decide) (by decide) he hpl) vw.mo (vw.fits λ _ _ _=>by simp only[zg]) ha.mo
def mZ (hm:X.mg "min"=none) (ha:xE X (e::es) tA) (hc:X.calm=true:=by rfl) (hg:Gl X "min":=by rfl) (he:starEach (e::es) X.env=(false,eval e X.env)::starEach es X.env:=by rfl) (hpl:(backTo pos (starEach es X.env)).any (·.1)=false:=by rfl):PD X (.Call (.Name "min" p) (e::es) [] pos) (xA b_ tA):=
 sA (su (Qg hc) hg hm boot_min ha.pa (by decide) (by decide) he hpl) vw.mo (vw.fits λ _ _ _=>by simp only[zg]) ha.mo
noncomputable def xF (r:List Int):D:=.tup (r.map D.int)
theorem pV {H:Hp}:∀ {rows:List (List Int)}{ys:List V},zm K H (rows.map xF) ys->(∀ r∈rows,r≠[])->Paired (λ v r=>r≠[]/\∃ b,v=V.ref b/\zS K H b (r.map V.int)) ys rows
 | [],ys,h,_=>by simp only[List.map_nil,zm] at h;subst h;exact .nil
 | r::rows,ys,h,hn=>by
  rw[zA6] at h;simp only[zm,xF,zg] at h;obtain⟨x,ys',rfl,⟨a,xs,rfl,g1,g2⟩,h3⟩:=h;rw[g2.ints] at g1;exact .cons ⟨hn r zMc,a,rfl,g1⟩ (pV h3 λ r' hr=>hn r' (zMo _ hr))
def cK {α:Type}{rows:List α}{d:α}{idx:List Nat}(h:idx.Perm (List.range rows.length)):(idx.map λ i=>rows.getD i d).Perm rows:=by
 refine (h.map _).trans ?_;have:(List.range rows.length).map (λ i=>rows.getD i d)=rows:=by
  refine List.ext_getElem (by simp) λ i h1 h2=>?_;simp[h2]
 rw[this]
theorem zm.perm {H:Hp}{rows:List (List Int)}{ys:List V}(h:zm K H (rows.map xF) ys):∀ {idx:List Nat},(∀ i∈idx,i<rows.length)->zm K H ((idx.map λ i=>rows.getD i []).map xF) (idx.map λ i=>ys.getD i .zi)
 | [],_=>.nil
 | i::idx,hi=>by
  have h1:=hi i zMc;obtain⟨x,e1,e2⟩:=h.get (i:=i) (d:=xF rows[i]) (by simp[h1]);refine .cons ?_ (zm.perm h λ j hj=>hi j (zMo _ hj));have e3:ys.getD i .zi=x:=by simp[e1]
  have e4:rows.getD i []=rows[i]:=by simp[h1]
  show zg K H (xF (rows.getD i [])) (ys.getD i .zi);rw[e3,e4];exact e2
def qE {tg:Expr}(hm:X.mg "range"=none) (ha:xE X [a] tA) (hg:Gl X "range":=by rfl) (hs:starEach [a] X.env=[(false,eval a X.env)]:=by rfl):ra X tg (.Call (.Name "range" p) [a] [] pos) (ig tA):=WW (Wm hg hm ha.pa hs) ha.mo
noncomputable def t_ (d:D) (S:SS):Option String:=match d with
 | .zi=>some "NoneType"
 | .bl _=>some "bool"
 | .int _=>some "int"
 | .str _=>some "str"
 | .tup _=>some "tuple"
 | .yF _=>some "list"
 | .ref p=>match S p with
  | some (.lst _)=>some "list"
  | some (.ya _)=>some "dict"
  | none=>none
def lK (T:String) (te:zt):zt:=fun Y S Q=>te Y S λ x S1=>match t_ x S1 with
 | some ty=>Q (.bl (tH ty T)) S1
 | none=>False
def t_.ok {H:Hp}{d:D}{v:V}{S:SS}{ty:String}(r:zg K H d v) (p:zI K H S) (h:t_ d S=some ty):Zm K H v ty/\ty∈["NoneType","bool","int","str","tuple","list","dict"]:=by
 cases d with
 | zi=>simp only[zg] at r;subst r;cases h;exact⟨rfl,by simp⟩
 | bl _=>simp only[zg] at r;subst r;cases h;exact⟨rfl,by simp⟩
 | int _=>simp only[zg] at r;subst r;cases h;exact⟨rfl,by simp⟩
 | str _=>simp only[zg] at r;subst r;cases h;exact⟨rfl,by simp⟩
 | tup ds=>
  simp only[zg] at r;obtain⟨a,xs,rfl,g1,_⟩:=r;cases h;exact⟨.inl ⟨rfl,xs,g1⟩,by simp⟩
 | yF ds=>
  simp only[zg] at r;obtain⟨a,xs,rfl,g1,_⟩:=r;cases h;exact⟨.inr (.inl ⟨rfl,xs,g1.sq⟩),by simp⟩
 | ref a=>
  simp only[zg] at r;subst r;unfold t_ at h;dsimp only at h;split at h
  .rename_i e;cases h;obtain⟨xs,g1,_⟩:=p _ _ e;exact⟨.inr (.inl ⟨rfl,xs,zN.of g1⟩),by simp⟩
  .rename_i e;cases h;obtain⟨xs,g1,_⟩:=p _ _ e;exact⟨.inr (.inr ⟨rfl,xs,g1⟩),by simp⟩
  .cases h
def dU {T:String}{x:Str}(hT:T∈["int","bool","tuple","list","str"]) (hm:X.mg "isinstance"=none) (hm2:X.mg x=none) (hv:bootBuiltins x=some (.type T)) (hg2:Gl X x) (hn:x≠"__name__") (hd:(x == ("__debug__":Str))=false) (he:PD X e te) (hg:Gl X "isinstance":=by rfl)
  (h1:starEach (e::[.Name x q]) X.env=(false,eval e X.env)::starEach [.Name x q] X.env:=by rfl) (h2:(backTo pos (starEach [.Name x q] X.env)).any (·.1)=false:=by rfl) (h3:starEach [.Name x q] X.env=(false,eval (.Name x q) X.env)::starEach [] X.env:=by rfl):
  PD X (.Call (.Name "isinstance" p) [e,.Name x q] [] pos) (lK T te):=by
 refine⟨fun Y S Q Q' hq z=>he.mo Y S _ _ (λ y S1 z=>?_) z,PE.imp (su Qn hg hm boot_isinstance (rL he.pe (rL (WK (v:=.ty T) hg2 hm2 hv rfl hn hd) qI h3) h1) (by decide) (by decide) h1 h2) fun O H Q hu=>?_⟩
 .split at z
  .exact hq _ _ z
  .exact z
 .obtain⟨Y,S,r1,r2,z⟩:=hu;refine zL.go he.mo r1 r2 z λ y S1 v H1 z1 q1 e1 p1=>?_;split at z1
  .rename_i ty ht;obtain⟨g1,g2⟩:=t_.ok q1 p1 ht;refine⟨v,T,ty,rfl,g1,?_,z1 _ H1 (by simp only[zg]) e1 p1⟩;exact zE4.mp (zE4.mp Yr ty g2) T hT
  .exact z1.elim
def Vc (T:Bt X.mg) (he:PD X e te) (hg:Gl X "isinstance":=by rfl) (hg2:Gl X "bool":=by rfl) (h1:starEach (e::[.Name "bool" q]) X.env=(false,eval e X.env)::starEach [.Name "bool" q] X.env:=by rfl) (h2:(backTo pos (starEach [.Name "bool" q] X.env)).any (·.1)=false:=by rfl) (h3:starEach [.Name "bool" q] X.env=(false,eval (.Name "bool" q) X.env)::starEach [] X.env:=by rfl):
  PD X (.Call (.Name "isinstance" p) [e,.Name "bool" q] [] pos) (lK "bool" te):=dU (by simp) T.isinstance T.bool PyProof.Rows.boot_bool hg2 (by decide) (by decide) he hg h1 h2 h3
def Vb (T:Bt X.mg) (he:PD X e te) (hg:Gl X "isinstance":=by rfl) (hg2:Gl X "int":=by rfl) (h1:starEach (e::[.Name "int" q]) X.env=(false,eval e X.env)::starEach [.Name "int" q] X.env:=by rfl) (h2:(backTo pos (starEach [.Name "int" q] X.env)).any (·.1)=false:=by rfl) (h3:starEach [.Name "int" q] X.env=(false,eval (.Name "int" q) X.env)::starEach [] X.env:=by rfl):
  PD X (.Call (.Name "isinstance" p) [e,.Name "int" q] [] pos) (lK "int" te):=dU (by simp) T.isinstance T.int PyProof.Rows.boot_int hg2 (by decide) (by decide) he hg h1 h2 h3
def ua {o:Expr}{to:zt}{apos cpos:Pos}(ho:PD X o to) (he:PD X e te)
  (hbase:attributeBase o "append" X.env (eval o X.env)=eval o X.env:=by rfl)
  (hfew:((backTo cpos (starEach [e] X.env)).all (λ x=>!x.1)&&(backToKw cpos (keywordEach [] X.env)).all (λ x=>x.1.isSome)
   && decide ([e].length+([]:List Keyword).length+(if ([]:List Keyword).isEmpty then 0 else 1)<30))=true:=by rfl)
  (hline:(apos.endLine == cpos.line)=true:=by rfl) (hs:starEach [e] X.env=(false,eval e X.env)::starEach [] X.env:=by rfl) (hplain:(backTo cpos (starEach [] X.env)).any (·.1)=false:=by rfl):
  PD X (.Call (.Attribute o "append" apos) [e] [] cpos) (sU to te):=
 Vk (o:=o) (e:=e) (dM PySem.F.plainAttrs_list PySem.F.slot_list_append PySem.F.type_list_append cI ho.pe (rL he.pe qI hs) hbase hfew hline hs hplain) ho.mo he.mo
structure FD (P:Program) (w:World) (K:zFr) (mg:Str->Option Value) (base:Heap) (x:Str) (k:Nat) (ps:List Str) (sp:s_):Prop where
 ex:∃ (f:Addr) (fd:FuncData),vY P w K mg base vh k f fd ps (tf K sp)/\mg x=some (.ref f)/\PySem.W.keepIn K (.ref f)=true/\Binds K fd ps []
 mo:gC sp
def zX {x:Str}{k:Nat}{ps:List Str}{sp:s_}(F:FD X.prog X.w X.K X.mg X.base x k ps sp) (hr:yx k X.A) (ha:xE X (e::es) tA) (hg:Gl X x:=by rfl) (hdb:(x == ("__debug__":Str))=false:=by decide)
  (he:starEach (e::es) X.env=(false,eval e X.env)::starEach es X.env:=by rfl) (hpl:(backTo pos (starEach es X.env)).any (·.1)=false:=by rfl):PD X (.Call (.Name x p) (e::es) [] pos) (iZ sp tA):=by
 obtain⟨⟨f,fd,h1,h2,h3,h4⟩,hm⟩:=F;exact Vj (E:=E0) (WJ h1 hr hg h2 h3 h4 .nil Vm ha.pa hdb he hpl) hm ha.mo
end
section
variable {P:Program}{w:World}{K:zFr}{mg:Str->Option Value}{base:Heap}{f:Addr}{fd:FuncData}
end
def Rl {S:SS}{p:Addr}{ds:List D}{Q:DK}(e:S p=some (.lst ds)) (h:Q (.tup ds) S):vM [.ref p] S Q:=by
 unfold vM;dsimp only;rw[e];exact h
def Rm {S:SS}{d:D}{ds:List D}{Q:DK}(e:yf d S=some ds) (h:∀ p,S p=none->Q (.ref p) (ups S p (.lst ds))):vN [d] S Q:=by
 unfold vN;dsimp only;rw[e];exact h
def Rn {S:SS}{d:D}{ds:List D}{Q:DK}(e:yf d S=some ds) (h:Q (.int ds.length) S):vO [d] S Q:=by
 unfold vO;dsimp only;rw[e];exact h
def Yy {S:SS}{p:Addr}{ds:List D}{Q:Bool->SS->Prop}(e:S p=some (.lst ds)) (h:Q (!ds.isEmpty) S):vi (.ref p) S Q:=by
 unfold vi;dsimp only;rw[e];exact h
def Rq {S:SS}{p:Addr}{ds:List D}{i:Int}{d:D}{Q:DK}(e:S p=some (.lst ds)) (e2:L2.zR ds i=some d) (h:Q d S):xX (.ref p) (.int i) S Q:=by
 unfold xX;dsimp only;rw[e];dsimp only;rw[e2];exact h
def Ro {S:SS}{ds:List D}{i:Int}{d:D}{Q:DK}(e2:L2.zR ds i=some d) (h:Q d S):xX (.tup ds) (.int i) S Q:=by
 unfold xX;dsimp only;rw[e2];exact h
def Rp {S:SS}{ds:List D}{i:Int}{d:D}{Q:DK}(e2:L2.zR ds i=some d) (h:Q d S):xX (.yF ds) (.int i) S Q:=by
 unfold xX;dsimp only;rw[e2];exact h
inductive T where
 | zi | bl (b:Bool) | int (i:Int) | str (x:Str) | tup (ts:List T) | lst (ts:List T) | zO
mutual
noncomputable def eqT:T->T->Bool
 | .zi,.zi=>true
 | .bl a,.bl b=>a == b
 | .bl a,.int b=>(if a then 1 else 0) == b
 | .int a,.bl b=>a == (if b then 1 else 0)
 | .int a,.int b=>a == b
 | .str a,.str b=>a == b
 | .tup a,.tup b=>xK a b
 | .lst a,.lst b=>xK a b
 | .zO,.zO=>true
 | _,_=>false
noncomputable def xK:List T->List T->Bool
 | [],[]=>true
 | a::as,b::bs=>eqT a b&&xK as bs
 | _,_=>false
end
mutual
noncomputable def dep:T->Nat
 | .tup ts=>1+yC ts
 | .lst ts=>1+yC ts
 | .zO=>cLine
 | _=>0
noncomputable def yC:List T->Nat
 | []=>0
 | t::ts=>max (dep t) (yC ts)
end
noncomputable def jA:List T->Bool
 | []=>true
 | .int _::ts=>jA ts
 | _=>false
def VC (ns:List Int):jA (ns.map T.int)=true:=by
 induction ns with
 | nil=>rfl
 | cons n ns ih=>exact ih
mutual
noncomputable def Sn (S:SS):T->D->Prop
 | .zi,d=>d=.zi
 | .bl b,d=>d=.bl b
 | .int i,d=>d=.int i
 | .str x,d=>d=.str x
 | .tup ts,d=>∃ ds,d=.tup ds/\zl S ts ds
 | .lst ts,d=>∃ ds,((d=.yF ds/\jA ts=true)\/∃ a,d=.ref a/\S a=some (.lst ds))/\zl S ts ds
 | .zO,d=>∃ a kvs,d=.ref a/\S a=some (.ya kvs)
noncomputable def zl (S:SS):List T->List D->Prop
 | [],ds=>ds=[]
 | t::ts,ds=>∃ c cs,ds=c::cs/\Sn S t c/\zl S ts cs
end
mutual
theorem lE:∀ t:T,eqT t t=true
 | .zi=>by simp[eqT]
 | .bl b=>by simp[eqT]
 | .int i=>by simp[eqT]
 | .str x=>by simp[eqT]
 | .tup ts=>by simp only[eqT];exact iR ts
 | .lst ts=>by simp only[eqT];exact iR ts
 | .zO=>by simp[eqT]
theorem iR:∀ ts:List T,xK ts ts=true
 | []=>by simp[xK]
 | t::ts=>by simp only[xK,lE t,iR ts,Bool.and_self]
end
theorem uL:∀ ts us:List T,xK ts us=((List.range (min ts.length us.length)).all (λ j=>eqT (ts.getD j .zi) (us.getD j .zi))&&ts.length == us.length)
 | [],[]=>by simp[xK]
 | [],_::_=>by simp[xK]
 | _::_,[]=>by simp[xK]
 | t::ts,u::us=>by
  simp only[xK,uL ts us,zC0];rw[show min (ts.length+1) (us.length+1)=min ts.length us.length+1 by omega,List.range_succ_eq_map,List.all_cons,List.all_map];have:(ts.length+1 == us.length+1)=(ts.length == us.length):=by rw[zC7];simp
  rw[this,Bool.and_assoc];rfl
theorem zl.length {S:SS}:∀ {ts:List T}{ds:List D},zl S ts ds->ts.length=ds.length
 | [],ds,h=>by simp only[zl] at h;subst h;rfl
 | t::ts,ds,h=>by
  simp only[zl] at h;obtain⟨c,cs,rfl,_,h2⟩:=h;simp[zl.length h2]
section
variable {X:Cx}{pins:List (Addr×Obj)}{O:St}{H:Hp}{s:Shared}{S:SS}
def b8 (I:Inv X pins O H s) {a:Addr}{xs ys:List V}(h1:zS X.K H a xs) (h2:zN X.K H a ys):False:=by
 obtain⟨_,_,⟨o,e,c,_⟩,_⟩:=I.tuple h1;obtain⟨_,_,⟨o',n,e',c',_⟩,_⟩:=I.list h2;rw[e] at e';cases e';rw[c] at c'
 injection c' with q
 exact absurd q (by decide)
def Sn.yO (p:zI X.K H S) {ts:List T}{d:D}{x:V}(h:Sn S (.lst ts) d) (r:zg X.K H d x):∃ a xs ds,x=.ref a/\zN X.K H a xs/\zm X.K H ds xs/\zl S ts ds:=by
 simp only[Sn] at h;obtain⟨ds,⟨h,_⟩ | ⟨a,h,e⟩,h2⟩:=h
 .subst h;simp only[zg] at r;obtain⟨a,xs,rfl,g1,g2⟩:=r;exact⟨a,xs,ds,rfl,g1.sq,g2,h2⟩
 .subst h;simp only[zg] at r;obtain⟨xs,g1,g2⟩:=p _ _ e;exact⟨a,xs,ds,r,zN.of g1,g2,h2⟩
def Sn.yM {ts:List T}{d:D}{x:V}(h:Sn S (.tup ts) d) (r:zg X.K H d x):∃ a xs ds,x=.ref a/\zS X.K H a xs/\zm X.K H ds xs/\zl S ts ds:=by
 simp only[Sn] at h;obtain⟨ds,rfl,h2⟩:=h;simp only[zg] at r;obtain⟨a,xs,rfl,g1,g2⟩:=r;exact⟨a,xs,ds,rfl,g1,g2,h2⟩
def Sn.rX (p:zI X.K H S) {d:D}{x:V}(h:Sn S .zO d) (r:zg X.K H d x):∃ a vs,x=.ref a/\H a=some (.dK vs):=by
 simp only[Sn] at h;obtain⟨a,kvs,rfl,e⟩:=h;simp only[zg] at r;obtain⟨xs,g1,g2⟩:=p _ _ e;exact⟨a,xs,r,g1⟩
def bC (I:Inv X pins O H s) {a:Addr}{vs:List (Key×V)}(h:H a=some (.dK vs)):∃ o,s.heap.get? a=some o/\o.cls=.type "dict":=by
 obtain⟨_,_,_,_,o,_,_,e,c⟩:=(show yZ X.prog X.w H s.heap a (.dK vs) from I.zw a _ h)
 exact⟨o,e,c.1.1⟩
def b9 (I:Inv X pins O H s) {a:Addr}{xs:List V}{vs:List (Key×V)}(h1:zS X.K H a xs) (h2:H a=some (.dK vs)):False:=by
 obtain⟨_,_,⟨o,e,c,_⟩,_⟩:=I.tuple h1;obtain⟨o',e',c'⟩:=bC I h2;rw[e] at e';cases e';rw[c] at c'
 injection c' with q
 exact absurd q (by decide)
def bB (I:Inv X pins O H s) {a:Addr}{xs:List V}{vs:List (Key×V)}(h1:zN X.K H a xs) (h2:H a=some (.dK vs)):False:=by
 obtain⟨_,_,⟨o,n,e,c,_⟩,_⟩:=I.list h1;obtain⟨o',e',c'⟩:=bC I h2;rw[e] at e';cases e';rw[c] at c'
 injection c' with q
 exact absurd q (by decide)
theorem Sn.flat {t:T}{d:D}{x:V}(h:Sn S t d) (r:zg X.K H d x):match t with
  | .zi=>x=.zi
  | .bl b=>x=.bl b
  | .int i=>x=.int i
  | .str y=>x=.str y
  | _=>True:=by
 cases t <;> first
  | trivial
  | (simp only[Sn] at h;subst h;simpa only [zg] using r)
mutual
theorem my (I:Inv X pins O H s) (p:zI X.K H S):∀ (t u:T) {d e:D}{x:V},Sn S t d->Sn S u e->zg X.K H d x->zg X.K H e x->t=u
 | .tup ts,u,d,e,x,h1,h2,r1,r2=>by
  obtain⟨a,xs,ds,rfl,g1,g2,g3⟩:=h1.yM r1;cases u with
  | zO=>obtain⟨_,_,q,g⟩:=h2.rX p r2;cases q;exact (b9 I g1 g).elim
  | tup us=>
   obtain⟨a',xs',ds',q,k1,k2,k3⟩:=h2.yM r2;cases q;have:=I.kx g1 k1;subst this;rw[kr I p ts us g3 k3 g2 k2]
  | lst us=>
   obtain⟨a',xs',ds',q,k1,k2,k3⟩:=h2.yO p r2;cases q;exact (b8 I g1 k1).elim
  | zi=>exact nomatch h2.flat r2
  | bl _=>exact nomatch h2.flat r2
  | int _=>exact nomatch h2.flat r2
  | str _=>exact nomatch h2.flat r2
 | .lst ts,u,d,e,x,h1,h2,r1,r2=>by
  obtain⟨a,xs,ds,rfl,g1,g2,g3⟩:=h1.yO p r1;cases u with
  | zO=>obtain⟨_,_,q,g⟩:=h2.rX p r2;cases q;exact (bB I g1 g).elim
  | lst us=>
   obtain⟨a',xs',ds',q,k1,k2,k3⟩:=h2.yO p r2;cases q;have:=I.jX g1 k1;subst this;rw[kr I p ts us g3 k3 g2 k2]
  | tup us=>
   obtain⟨a',xs',ds',q,k1,k2,k3⟩:=h2.yM r2;cases q;exact (b8 I k1 g1).elim
  | zi=>exact nomatch h2.flat r2
  | bl _=>exact nomatch h2.flat r2
  | int _=>exact nomatch h2.flat r2
  | str _=>exact nomatch h2.flat r2
 | .zi,u,d,e,x,h1,h2,r1,r2=>by
  have q:=h1.flat r1;subst q;cases u with
  | zO=>obtain⟨_,_,q,g⟩:=h2.rX p r2;cases q
  | zi=>rfl
  | tup us=>obtain⟨_,_,_,q,_⟩:=h2.yM r2;cases q
  | lst us=>obtain⟨_,_,_,q,_⟩:=h2.yO p r2;cases q
  | bl _=>exact nomatch h2.flat r2
  | int _=>exact nomatch h2.flat r2
  | str _=>exact nomatch h2.flat r2
 | .bl b,u,d,e,x,h1,h2,r1,r2=>by
  have q:=h1.flat r1;subst q;cases u with
  | zO=>obtain⟨_,_,q,g⟩:=h2.rX p r2;cases q
  | bl _=>have q:=h2.flat r2;cases q;rfl
  | tup us=>obtain⟨_,_,_,q,_⟩:=h2.yM r2;cases q
  | lst us=>obtain⟨_,_,_,q,_⟩:=h2.yO p r2;cases q
  | zi=>exact nomatch h2.flat r2
  | int _=>exact nomatch h2.flat r2
  | str _=>exact nomatch h2.flat r2
 | .int b,u,d,e,x,h1,h2,r1,r2=>by
  have q:=h1.flat r1;subst q;cases u with
  | zO=>obtain⟨_,_,q,g⟩:=h2.rX p r2;cases q
  | int _=>have q:=h2.flat r2;cases q;rfl
  | tup us=>obtain⟨_,_,_,q,_⟩:=h2.yM r2;cases q
  | lst us=>obtain⟨_,_,_,q,_⟩:=h2.yO p r2;cases q
  | zi=>exact nomatch h2.flat r2
  | bl _=>exact nomatch h2.flat r2
  | str _=>exact nomatch h2.flat r2
 | .str b,u,d,e,x,h1,h2,r1,r2=>by
  have q:=h1.flat r1;subst q;cases u with
  | zO=>obtain⟨_,_,q,g⟩:=h2.rX p r2;cases q
  | str _=>have q:=h2.flat r2;cases q;rfl
  | tup us=>obtain⟨_,_,_,q,_⟩:=h2.yM r2;cases q
  | lst us=>obtain⟨_,_,_,q,_⟩:=h2.yO p r2;cases q
  | zi=>exact nomatch h2.flat r2
  | bl _=>exact nomatch h2.flat r2
  | int _=>exact nomatch h2.flat r2
 | .zO,u,d,e,x,h1,h2,r1,r2=>by
  obtain⟨a,vs,rfl,g⟩:=h1.rX p r1;cases u with
  | zO=>rfl
  | tup us=>obtain⟨_,_,_,q,g1,_⟩:=h2.yM r2;cases q;exact (b9 I g1 g).elim
  | lst us=>obtain⟨_,_,_,q,g1,_⟩:=h2.yO p r2;cases q;exact (bB I g1 g).elim
  | zi=>exact nomatch h2.flat r2
  | bl _=>exact nomatch h2.flat r2
  | int _=>exact nomatch h2.flat r2
  | str _=>exact nomatch h2.flat r2
theorem kr (I:Inv X pins O H s) (p:zI X.K H S):∀ (ts us:List T) {ds es:List D}{xs:List V},zl S ts ds->zl S us es->zm X.K H ds xs->zm X.K H es xs->ts=us
 | [],us,ds,es,xs,h1,h2,r1,r2=>by
  have e:=h1.length.trans (r1.length.trans (r2.length.symm.trans h2.length.symm));cases us with
  | nil=>rfl
  | cons _ _=>simp at e
 | t::ts,[],ds,es,xs,h1,h2,r1,r2=>by
  have e:=h1.length.trans (r1.length.trans (r2.length.symm.trans h2.length.symm));simp at e
 | t::ts,u::us,ds,es,xs,h1,h2,r1,r2=>by
  simp only[zl] at h1 h2;obtain⟨c,cs,rfl,a1,a2⟩:=h1;obtain⟨c',cs',rfl,b1,b2⟩:=h2;simp only[zm] at r1 r2;obtain⟨y,ys,rfl,g1,g2⟩:=r1;obtain⟨y',ys',q,k1,k2⟩:=r2;cases q;rw[my I p t u a1 b1 g1 k1,kr I p ts us a2 b2 g2 k2]
end
def zl.get {ts:List T}{ds:List D}(h:zl S ts ds):∀ {j:Nat},j<ts.length->∃ c,ds[j]?=some c/\Sn S (ts.getD j .zi) c:=by
 induction ts generalizing ds with
 | nil=>intro j hj;simp at hj
 | cons t ts ih=>
  intro j hj;simp only[zl] at h;obtain⟨c,cs,rfl,h1,h2⟩:=h;cases j with
  | zero=>exact⟨c,rfl,h1⟩
  | succ j=>
   obtain⟨c',e,h3⟩:=ih h2 (j:=j) (by simpa using hj);exact⟨c',by simpa using e,by simpa using h3⟩
theorem aA:∀ {ts:List T}{j:Nat},j<ts.length->dep (ts.getD j .zi)<=yC ts
 | [],j,h=>by simp at h
 | t::ts,0,_=>by simp only[yC,List.getD_cons_zero];omega
 | t::ts,j+1,h=>by
  have:=aA (ts:=ts) (j:=j) (by simpa using h);simp only[yC,List.getD_cons_succ];omega
mutual
theorem ah (I:Inv X pins O H s) (p:zI X.K H S):∀ (t u:T) {A:Around}{d e:D}{x y:V}{a b:Value},A.units+dep t<cLine->A.units+dep u<cLine->Sn S t d->Sn S u e->zg X.K H d x->zg X.K H e y->RelV x a->RelV y b->SeqAt.EqAt A s a b (eqT t u)
 | .zi,u,A,d,e,x,y,a,b,hu,hu',h1,h2,r1,r2,v1,v2=>by
  have q:=h1.flat r1;subst q;cases v1;cases u with
  | zO=>simp only[dep] at hu';omega
  | zi=>have q:=h2.flat r2;subst q;cases v2;simp only[eqT];exact SeqAt.EqAt.same _
  | bl b=>have q:=h2.flat r2;subst q;cases v2;simp only[eqT];exact SeqAt.EqAt.none_bool _
  | int i=>have q:=h2.flat r2;subst q;obtain⟨t,rfl⟩:=v2;simp only[eqT];exact SeqAt.EqAt.none_int _ _
  | str i=>have q:=h2.flat r2;subst q;obtain⟨t,rfl⟩:=v2;simp only[eqT];exact SeqAt.EqAt.none_str _ _
  | tup us=>obtain⟨a',xs',ds',rfl,k1,k2,k3⟩:=h2.yM r2;cases v2;obtain⟨_,_,pt,_⟩:=I.tuple k1;simp only[eqT];exact SeqAt.EqAt.none_tuple pt (by omega)
  | lst us=>obtain⟨a',xs',ds',rfl,k1,k2,k3⟩:=h2.yO p r2;cases v2;obtain⟨_,_,pl,_⟩:=I.list k1;simp only[eqT];exact SeqAt.EqAt.none_list pl.isList (by omega)
 | .bl c,u,A,d,e,x,y,a,b,hu,hu',h1,h2,r1,r2,v1,v2=>by
  have q:=h1.flat r1;subst q;cases v1;cases u with
  | zO=>simp only[dep] at hu';omega
  | zi=>have q:=h2.flat r2;subst q;cases v2;simp only[eqT];exact SeqAt.EqAt.bool_none _
  | bl b=>have q:=h2.flat r2;subst q;cases v2;simp only[eqT];exact SeqAt.EqAt.bool_bool _ _
  | int i=>have q:=h2.flat r2;subst q;obtain⟨t,rfl⟩:=v2;simp only[eqT];exact SeqAt.EqAt.bool_int _ _ _
  | str i=>have q:=h2.flat r2;subst q;obtain⟨t,rfl⟩:=v2;simp only[eqT];exact SeqAt.EqAt.bool_str _ _ _
  | tup us=>obtain⟨a',xs',ds',rfl,k1,k2,k3⟩:=h2.yM r2;cases v2;obtain⟨_,_,pt,_⟩:=I.tuple k1;simp only[eqT];exact SeqAt.EqAt.bool_tuple _ pt (by omega)
  | lst us=>obtain⟨a',xs',ds',rfl,k1,k2,k3⟩:=h2.yO p r2;cases v2;obtain⟨_,_,pl,_⟩:=I.list k1;simp only[eqT];exact SeqAt.EqAt.bool_list _ pl.isList (by omega)
 | .int c,u,A,d,e,x,y,a,b,hu,hu',h1,h2,r1,r2,v1,v2=>by
  have q:=h1.flat r1;subst q;obtain⟨tk,rfl⟩:=v1;cases u with
  | zO=>simp only[dep] at hu';omega
  | zi=>have q:=h2.flat r2;subst q;cases v2;simp only[eqT];exact SeqAt.EqAt.int_none _ _
  | bl b=>have q:=h2.flat r2;subst q;cases v2;simp only[eqT];exact SeqAt.EqAt.int_bool _ _ _
  | int i=>have q:=h2.flat r2;subst q;obtain⟨t,rfl⟩:=v2;simp only[eqT];exact SeqAt.EqAt.int_int _ _ _ _
  | str i=>have q:=h2.flat r2;subst q;obtain⟨t,rfl⟩:=v2;simp only[eqT];exact SeqAt.EqAt.int_str _ _ _ _
  | tup us=>obtain⟨a',xs',ds',rfl,k1,k2,k3⟩:=h2.yM r2;cases v2;obtain⟨_,_,pt,_⟩:=I.tuple k1;simp only[eqT];exact SeqAt.EqAt.int_tuple _ _ pt (by omega)
  | lst us=>obtain⟨a',xs',ds',rfl,k1,k2,k3⟩:=h2.yO p r2;cases v2;obtain⟨_,_,pl,_⟩:=I.list k1;simp only[eqT];exact SeqAt.EqAt.int_list _ _ pl.isList (by omega)
 | .str c,u,A,d,e,x,y,a,b,hu,hu',h1,h2,r1,r2,v1,v2=>by
  have q:=h1.flat r1;subst q;obtain⟨tk,rfl⟩:=v1;cases u with
  | zO=>simp only[dep] at hu';omega
  | zi=>have q:=h2.flat r2;subst q;cases v2;simp only[eqT];exact SeqAt.EqAt.str_none _ _
  | bl b=>have q:=h2.flat r2;subst q;cases v2;simp only[eqT];exact SeqAt.EqAt.str_bool _ _ _
  | int i=>have q:=h2.flat r2;subst q;obtain⟨t,rfl⟩:=v2;simp only[eqT];exact SeqAt.EqAt.str_int _ _ _ _
  | str i=>have q:=h2.flat r2;subst q;obtain⟨t,rfl⟩:=v2;simp only[eqT];exact SeqAt.EqAt.str_str _ _ _ _
  | tup us=>obtain⟨a',xs',ds',rfl,k1,k2,k3⟩:=h2.yM r2;cases v2;obtain⟨_,_,pt,_⟩:=I.tuple k1;simp only[eqT];exact SeqAt.EqAt.str_tuple _ _ pt (by omega)
  | lst us=>obtain⟨a',xs',ds',rfl,k1,k2,k3⟩:=h2.yO p r2;cases v2;obtain⟨_,_,pl,_⟩:=I.list k1;simp only[eqT];exact SeqAt.EqAt.str_list _ _ pl.isList (by omega)
 | .tup ts,u,A,d,e,x,y,a,b,hu,hu',h1,h2,r1,r2,v1,v2=>by
  have hd1:=h1;have hr1:=r1;obtain⟨l,xs,ds,rfl,g1,g2,g3⟩:=h1.yM r1;cases v1;obtain⟨its,w1,pt,_⟩:=I.tuple g1;simp only[dep] at hu;cases u with
  | zO=>simp only[dep] at hu';omega
  | zi=>have q:=h2.flat r2;subst q;cases v2;simp only[eqT];exact SeqAt.EqAt.tuple_none pt (by omega)
  | bl b=>have q:=h2.flat r2;subst q;cases v2;simp only[eqT];exact SeqAt.EqAt.tuple_bool _ pt (by omega)
  | int i=>have q:=h2.flat r2;subst q;obtain⟨t,rfl⟩:=v2;simp only[eqT];exact SeqAt.EqAt.tuple_int _ _ pt (by omega)
  | str i=>have q:=h2.flat r2;subst q;obtain⟨t,rfl⟩:=v2;simp only[eqT];exact SeqAt.EqAt.tuple_str _ _ pt (by omega)
  | tup us=>
   by_cases hlb:(Value.ref l)=b
   .subst hlb;have hy:y=.ref l:=RelV.inj v2 rfl;subst hy;have:=my I p (.tup ts) (.tup us) hd1 h2 hr1 r2;rw[<- this,lE];exact SeqAt.EqAt.same _
   .obtain⟨l',xs',ds',rfl,k1,k2,k3⟩:=h2.yM r2;cases v2;obtain⟨its',w2,pt',_⟩:=I.tuple k1;simp only[dep] at hu';have e1:its.toArray.size=ts.length:=by rw[zA0,<- w1.length,<- g2.length,<- g3.length]
    have e2:its'.toArray.size=us.length:=by rw[zA0,<- w2.length,<- k2.length,<- k3.length]
    have q:=SeqAt.RcAt.tuples (A:=A) (e:=λ j=>eqT (ts.getD j .zi) (us.getD j .zi)) pt pt' (by omega) λ j h1 h2=>by
     have:=rW I p ts us (A:=A.in1) (by show A.units+1+yC ts<cLine;omega) (by show A.units+1+yC us<cLine;omega) g3 k3 g2 k2 w1 w2 j (by simpa using h1) (by simpa using h2);simpa using this
    rw[e1,e2] at q;have q':=SeqAt.EqAt.of_refs (λ z=>hlb (by rw[z])) q;simp only[eqT,uL];exact q'
  | lst us=>obtain⟨l',xs',ds',rfl,k1,k2,k3⟩:=h2.yO p r2;cases v2;obtain⟨_,_,pl,_⟩:=I.list k1;simp only[eqT];exact SeqAt.EqAt.tuple_list pt pl.isList (by omega)
 | .lst ts,u,A,d,e,x,y,a,b,hu,hu',h1,h2,r1,r2,v1,v2=>by
  have hd1:=h1;have hr1:=r1;obtain⟨l,xs,ds,rfl,g1,g2,g3⟩:=h1.yO p r1;cases v1;obtain⟨its,w1,pl,_⟩:=I.list g1;simp only[dep] at hu;cases u with
  | zO=>simp only[dep] at hu';omega
  | zi=>have q:=h2.flat r2;subst q;cases v2;simp only[eqT];exact SeqAt.EqAt.list_none pl.isList (by omega)
  | bl b=>have q:=h2.flat r2;subst q;cases v2;simp only[eqT];exact SeqAt.EqAt.list_bool _ pl.isList (by omega)
  | int i=>have q:=h2.flat r2;subst q;obtain⟨t,rfl⟩:=v2;simp only[eqT];exact SeqAt.EqAt.list_int _ _ pl.isList (by omega)
  | str i=>have q:=h2.flat r2;subst q;obtain⟨t,rfl⟩:=v2;simp only[eqT];exact SeqAt.EqAt.list_str _ _ pl.isList (by omega)
  | tup us=>obtain⟨l',xs',ds',rfl,k1,k2,k3⟩:=h2.yM r2;cases v2;obtain⟨_,_,pt,_⟩:=I.tuple k1;simp only[eqT];exact SeqAt.EqAt.list_tuple pl.isList pt (by omega)
  | lst us=>
   by_cases hlb:(Value.ref l)=b
   .subst hlb;have hy:y=.ref l:=RelV.inj v2 rfl;subst hy;have:=my I p (.lst ts) (.lst us) hd1 h2 hr1 r2;rw[<- this,lE];exact SeqAt.EqAt.same _
   .obtain⟨l',xs',ds',rfl,k1,k2,k3⟩:=h2.yO p r2;cases v2;obtain⟨its',w2,pl',_⟩:=I.list k1;simp only[dep] at hu';have e1:its.toArray.size=ts.length:=by rw[zA0,<- w1.length,<- g2.length,<- g3.length]
    have e2:its'.toArray.size=us.length:=by rw[zA0,<- w2.length,<- k2.length,<- k3.length]
    have hne:l≠l':=λ z=>hlb (by rw[z]);by_cases hsz:ts.length=us.length
    .have q:=SeqAt.RcAt.lists (A:=A) (e:=λ j=>eqT (ts.getD j .zi) (us.getD j .zi)) pl.isList pl'.isList (by rw[e1,e2];exact hsz) (by omega) λ j h1 h2=>by
      have:=rW I p ts us (A:=A.in1) (by show A.units+1+yC ts<cLine;omega) (by show A.units+1+yC us<cLine;omega) g3 k3 g2 k2 w1 w2 j (by simpa using h1) (by simpa using h2);simpa using this
     rw[e1] at q;have q':=SeqAt.EqAt.of_refs hne q;simp only[eqT,uL];rw[<- hsz,Nat.min_self];simpa using q'
    .have q:=SeqAt.RcAt.lists_lengths (A:=A) pl.isList pl'.isList (by rw[e1,e2];simpa using hsz) (by omega);have q':=SeqAt.EqAt.of_refs hne q;simp only[eqT,uL];have:(ts.length == us.length)=false:=by simpa using hsz
     rw[this,Bool.and_false];exact q'
 | .zO,u,A,d,e,x,y,a,b,hu,hu',h1,h2,r1,r2,v1,v2=>by simp only[dep] at hu;omega
theorem rW (I:Inv X pins O H s) (p:zI X.K H S):∀ (ts us:List T) {A:Around}{ds es:List D}{xs ys:List V}{its its':List Value},A.units+yC ts<cLine->A.units+yC us<cLine->zl S ts ds->zl S us es->zm X.K H ds xs->zm X.K H es ys->Vals xs its->Vals ys its'->
  ∀ (j:Nat) (h1:j<its.length) (h2:j<its'.length),SeqAt.EqAt A s its[j] its'[j] (eqT (ts.getD j .zi) (us.getD j .zi))
 | [],us,A,ds,es,xs,ys,its,its',hu,hu',s1,s2,r1,r2,v1,v2,j,h1,h2=>by
  rw[<- v1.length,<- r1.length,<- s1.length] at h1;simp at h1
 | t::ts,[],A,ds,es,xs,ys,its,its',hu,hu',s1,s2,r1,r2,v1,v2,j,h1,h2=>by
  rw[<- v2.length,<- r2.length,<- s2.length] at h2;simp at h2
 | t::ts,u::us,A,ds,es,xs,ys,its,its',hu,hu',s1,s2,r1,r2,v1,v2,j,h1,h2=>by
  simp only[zl] at s1 s2;obtain⟨c,cs,rfl,a1,a2⟩:=s1;obtain⟨c',cs',rfl,b1,b2⟩:=s2;simp only[zm] at r1 r2;obtain⟨y,ys,rfl,g1,g2⟩:=r1;obtain⟨y',ys',rfl,k1,k2⟩:=r2;cases v1 with
  | cons m1 m2=>
   cases v2 with
   | cons n1 n2=>
    simp only[yC] at hu hu';cases j with
    | zero=>simpa using ah I p t u (A:=A) (by omega) (by omega) a1 b1 g1 k1 m1 n1
    | succ j=>simpa using rW I p ts us (A:=A) (by omega) (by omega) a2 b2 g2 k2 m2 n2 j (by simpa using h1) (by simpa using h2)
end
end
section
variable {X:Cx}{pins:List (Addr×Obj)}{O:St}{H:Hp}{s:Shared}{S:SS}
theorem X8 (I:Inv X pins O H s) (p:zI X.K H S):∀ (t u:T) {A:Around}{d e:D}{x y:V}{a b:Value},A.units+dep t<cLine->A.units+dep u<cLine->Sn S t d->Sn S u e->zg X.K H d x->zg X.K H e y->RelV x a->RelV y b->SeqAt.RcAt A s a b (eqT t u)
 | .zi,u,A,d,e,x,y,a,b,hu,hu',h1,h2,r1,r2,v1,v2=>by
  have q:=h1.flat r1;subst q;cases v1;cases u with
  | zO=>simp only[dep] at hu';omega
  | zi=>have q:=h2.flat r2;subst q;cases v2;simp only[eqT];exact SeqAt.RcAt.none_none
  | bl c2=>have q:=h2.flat r2;subst q;cases v2;simp only[eqT];exact SeqAt.RcAt.none_bool _
  | int c2=>have q:=h2.flat r2;subst q;obtain⟨tk2,rfl⟩:=v2;simp only[eqT];exact SeqAt.RcAt.none_int _ _
  | str c2=>have q:=h2.flat r2;subst q;obtain⟨tk2,rfl⟩:=v2;simp only[eqT];exact SeqAt.RcAt.none_str _ _
  | tup c2=>obtain⟨l',xs',ds',rfl,k1,k2,k3⟩:=h2.yM r2;cases v2;obtain⟨its',w2,pt',_⟩:=I.tuple k1;simp only[dep] at hu';simp only[eqT];exact SeqAt.RcAt.none_tuple pt' (by omega)
  | lst c2=>obtain⟨l',xs',ds',rfl,k1,k2,k3⟩:=h2.yO p r2;cases v2;obtain⟨its',w2,pl',_⟩:=I.list k1;simp only[dep] at hu';simp only[eqT];exact SeqAt.RcAt.none_list pl'.isList (by omega)
 | .bl c,u,A,d,e,x,y,a,b,hu,hu',h1,h2,r1,r2,v1,v2=>by
  have q:=h1.flat r1;subst q;cases v1;cases u with
  | zO=>simp only[dep] at hu';omega
  | zi=>have q:=h2.flat r2;subst q;cases v2;simp only[eqT];exact SeqAt.RcAt.bool_none _
  | bl c2=>have q:=h2.flat r2;subst q;cases v2;simp only[eqT];exact SeqAt.RcAt.bool_bool _ _
  | int c2=>have q:=h2.flat r2;subst q;obtain⟨tk2,rfl⟩:=v2;simp only[eqT];exact SeqAt.RcAt.bool_int _ _ _
  | str c2=>have q:=h2.flat r2;subst q;obtain⟨tk2,rfl⟩:=v2;simp only[eqT];exact SeqAt.RcAt.bool_str _ _ _
  | tup c2=>obtain⟨l',xs',ds',rfl,k1,k2,k3⟩:=h2.yM r2;cases v2;obtain⟨its',w2,pt',_⟩:=I.tuple k1;simp only[dep] at hu';simp only[eqT];exact SeqAt.RcAt.bool_tuple _ pt' (by omega)
  | lst c2=>obtain⟨l',xs',ds',rfl,k1,k2,k3⟩:=h2.yO p r2;cases v2;obtain⟨its',w2,pl',_⟩:=I.list k1;simp only[dep] at hu';simp only[eqT];exact SeqAt.RcAt.bool_list _ pl'.isList (by omega)
 | .int c,u,A,d,e,x,y,a,b,hu,hu',h1,h2,r1,r2,v1,v2=>by
  have q:=h1.flat r1;subst q;obtain⟨tk,rfl⟩:=v1;cases u with
  | zO=>simp only[dep] at hu';omega
  | zi=>have q:=h2.flat r2;subst q;cases v2;simp only[eqT];exact SeqAt.RcAt.int_none _ _
  | bl c2=>have q:=h2.flat r2;subst q;cases v2;simp only[eqT];exact SeqAt.RcAt.int_bool _ _ _
  | int c2=>have q:=h2.flat r2;subst q;obtain⟨tk2,rfl⟩:=v2;simp only[eqT];exact SeqAt.RcAt.int_int _ _ _ _
  | str c2=>have q:=h2.flat r2;subst q;obtain⟨tk2,rfl⟩:=v2;simp only[eqT];exact SeqAt.RcAt.int_str _ _ _ _
  | tup c2=>obtain⟨l',xs',ds',rfl,k1,k2,k3⟩:=h2.yM r2;cases v2;obtain⟨its',w2,pt',_⟩:=I.tuple k1;simp only[dep] at hu';simp only[eqT];exact SeqAt.RcAt.int_tuple _ _ pt' (by omega)
  | lst c2=>obtain⟨l',xs',ds',rfl,k1,k2,k3⟩:=h2.yO p r2;cases v2;obtain⟨its',w2,pl',_⟩:=I.list k1;simp only[dep] at hu';simp only[eqT];exact SeqAt.RcAt.int_list _ _ pl'.isList (by omega)
 | .str c,u,A,d,e,x,y,a,b,hu,hu',h1,h2,r1,r2,v1,v2=>by
  have q:=h1.flat r1;subst q;obtain⟨tk,rfl⟩:=v1;cases u with
  | zO=>simp only[dep] at hu';omega
  | zi=>have q:=h2.flat r2;subst q;cases v2;simp only[eqT];exact SeqAt.RcAt.str_none _ _
  | bl c2=>have q:=h2.flat r2;subst q;cases v2;simp only[eqT];exact SeqAt.RcAt.str_bool _ _ _
  | int c2=>have q:=h2.flat r2;subst q;obtain⟨tk2,rfl⟩:=v2;simp only[eqT];exact SeqAt.RcAt.str_int _ _ _ _
  | str c2=>have q:=h2.flat r2;subst q;obtain⟨tk2,rfl⟩:=v2;simp only[eqT];exact SeqAt.RcAt.str_str _ _ _ _
  | tup c2=>obtain⟨l',xs',ds',rfl,k1,k2,k3⟩:=h2.yM r2;cases v2;obtain⟨its',w2,pt',_⟩:=I.tuple k1;simp only[dep] at hu';simp only[eqT];exact SeqAt.RcAt.str_tuple _ _ pt' (by omega)
  | lst c2=>obtain⟨l',xs',ds',rfl,k1,k2,k3⟩:=h2.yO p r2;cases v2;obtain⟨its',w2,pl',_⟩:=I.list k1;simp only[dep] at hu';simp only[eqT];exact SeqAt.RcAt.str_list _ _ pl'.isList (by omega)
 | .tup c,u,A,d,e,x,y,a,b,hu,hu',h1,h2,r1,r2,v1,v2=>by
  obtain⟨l,xs,ds,rfl,g1,g2,g3⟩:=h1.yM r1;cases v1;obtain⟨its,w1,pt,_⟩:=I.tuple g1;simp only[dep] at hu;cases u with
  | zO=>simp only[dep] at hu';omega
  | zi=>have q:=h2.flat r2;subst q;cases v2;simp only[eqT];exact SeqAt.RcAt.tuple_none pt (by omega)
  | bl c2=>have q:=h2.flat r2;subst q;cases v2;simp only[eqT];exact SeqAt.RcAt.tuple_bool _ pt (by omega)
  | int c2=>have q:=h2.flat r2;subst q;obtain⟨tk2,rfl⟩:=v2;simp only[eqT];exact SeqAt.RcAt.tuple_int _ _ pt (by omega)
  | str c2=>have q:=h2.flat r2;subst q;obtain⟨tk2,rfl⟩:=v2;simp only[eqT];exact SeqAt.RcAt.tuple_str _ _ pt (by omega)
  | tup c2=>
   obtain⟨l',xs',ds',rfl,k1,k2,k3⟩:=h2.yM r2;cases v2;obtain⟨its',w2,pt',_⟩:=I.tuple k1;simp only[dep] at hu';have e1:its.toArray.size=c.length:=by rw[zA0,<- w1.length,<- g2.length,<- g3.length]
   have e2:its'.toArray.size=c2.length:=by rw[zA0,<- w2.length,<- k2.length,<- k3.length]
   have q:=SeqAt.RcAt.tuples (A:=A) (e:=λ j=>eqT (c.getD j .zi) (c2.getD j .zi)) pt pt' (by omega) λ j h1 h2=>by
    have:=rW I p c c2 (A:=A.in1) (by show A.units+1+yC c<cLine;omega) (by show A.units+1+yC c2<cLine;omega) g3 k3 g2 k2 w1 w2 j (by simpa using h1) (by simpa using h2);simpa using this
   rw[e1,e2] at q;simp only[eqT,uL];exact q
  | lst c2=>obtain⟨l',xs',ds',rfl,k1,k2,k3⟩:=h2.yO p r2;cases v2;obtain⟨its',w2,pl',_⟩:=I.list k1;simp only[dep] at hu';simp only[eqT];exact SeqAt.RcAt.tuple_list pt pl'.isList (by omega)
 | .lst c,u,A,d,e,x,y,a,b,hu,hu',h1,h2,r1,r2,v1,v2=>by
  obtain⟨l,xs,ds,rfl,g1,g2,g3⟩:=h1.yO p r1;cases v1;obtain⟨its,w1,pl,_⟩:=I.list g1;simp only[dep] at hu;cases u with
  | zO=>simp only[dep] at hu';omega
  | zi=>have q:=h2.flat r2;subst q;cases v2;simp only[eqT];exact SeqAt.RcAt.list_none pl.isList (by omega)
  | bl c2=>have q:=h2.flat r2;subst q;cases v2;simp only[eqT];exact SeqAt.RcAt.list_bool _ pl.isList (by omega)
  | int c2=>have q:=h2.flat r2;subst q;obtain⟨tk2,rfl⟩:=v2;simp only[eqT];exact SeqAt.RcAt.list_int _ _ pl.isList (by omega)
  | str c2=>have q:=h2.flat r2;subst q;obtain⟨tk2,rfl⟩:=v2;simp only[eqT];exact SeqAt.RcAt.list_str _ _ pl.isList (by omega)
  | tup c2=>obtain⟨l',xs',ds',rfl,k1,k2,k3⟩:=h2.yM r2;cases v2;obtain⟨its',w2,pt',_⟩:=I.tuple k1;simp only[dep] at hu';simp only[eqT];exact SeqAt.RcAt.list_tuple pl.isList pt' (by omega)
  | lst c2=>
   obtain⟨l',xs',ds',rfl,k1,k2,k3⟩:=h2.yO p r2;cases v2;obtain⟨its',w2,pl',_⟩:=I.list k1;simp only[dep] at hu';have e1:its.toArray.size=c.length:=by rw[zA0,<- w1.length,<- g2.length,<- g3.length]
   have e2:its'.toArray.size=c2.length:=by rw[zA0,<- w2.length,<- k2.length,<- k3.length]
   by_cases hsz:c.length=c2.length
   .have q:=SeqAt.RcAt.lists (A:=A) (e:=λ j=>eqT (c.getD j .zi) (c2.getD j .zi)) pl.isList pl'.isList (by rw[e1,e2];exact hsz) (by omega) λ j h1 h2=>by
     have:=rW I p c c2 (A:=A.in1) (by show A.units+1+yC c<cLine;omega) (by show A.units+1+yC c2<cLine;omega) g3 k3 g2 k2 w1 w2 j (by simpa using h1) (by simpa using h2);simpa using this
    rw[e1] at q;simp only[eqT,uL];rw[<- hsz,Nat.min_self];simpa using q
   .have q:=SeqAt.RcAt.lists_lengths (A:=A) pl.isList pl'.isList (by rw[e1,e2];simpa using hsz) (by omega);simp only[eqT,uL];have z:(c.length == c2.length)=false:=by simpa using hsz
    rw[z,Bool.and_false];exact q
 | .zO,u,A,d,e,x,y,a,b,hu,hu',h1,h2,r1,r2,v1,v2=>by simp only[dep] at hu;omega
theorem X6 (I:Inv X pins O H s) (p:zI X.K H S):∀ (t u:T) {A:Around}{d e:D}{x y:V}{a b:Value},A.units+dep t<cLine->A.units+dep u<cLine->Sn S t d->Sn S u e->zg X.K H d x->zg X.K H e y->RelV x a->RelV y b->SeqAt.RcNeAt A s a b (!eqT t u)
 | .zi,u,A,d,e,x,y,a,b,hu,hu',h1,h2,r1,r2,v1,v2=>by
  have q:=h1.flat r1;subst q;cases v1;cases u with
  | zO=>simp only[dep] at hu';omega
  | zi=>have q:=h2.flat r2;subst q;cases v2;simp only[eqT,zB2,zB5];exact SeqAt.RcNeAt.none_none
  | bl c2=>have q:=h2.flat r2;subst q;cases v2;simp only[eqT,zB2,zB5];exact SeqAt.RcNeAt.none_bool _
  | int c2=>have q:=h2.flat r2;subst q;obtain⟨tk2,rfl⟩:=v2;simp only[eqT,zB2,zB5];exact SeqAt.RcNeAt.none_int _ _
  | str c2=>have q:=h2.flat r2;subst q;obtain⟨tk2,rfl⟩:=v2;simp only[eqT,zB2,zB5];exact SeqAt.RcNeAt.none_str _ _
  | tup c2=>obtain⟨l',xs',ds',rfl,k1,k2,k3⟩:=h2.yM r2;cases v2;obtain⟨its',w2,pt',_⟩:=I.tuple k1;simp only[dep] at hu';simp only[eqT,zB2,zB5];exact SeqAt.RcNeAt.none_tuple pt' (by omega)
  | lst c2=>obtain⟨l',xs',ds',rfl,k1,k2,k3⟩:=h2.yO p r2;cases v2;obtain⟨its',w2,pl',_⟩:=I.list k1;simp only[dep] at hu';simp only[eqT,zB2,zB5];exact SeqAt.RcNeAt.none_list pl'.isList (by omega)
 | .bl c,u,A,d,e,x,y,a,b,hu,hu',h1,h2,r1,r2,v1,v2=>by
  have q:=h1.flat r1;subst q;cases v1;cases u with
  | zO=>simp only[dep] at hu';omega
  | zi=>have q:=h2.flat r2;subst q;cases v2;simp only[eqT,zB2,zB5];exact SeqAt.RcNeAt.bool_none _
  | bl c2=>have q:=h2.flat r2;subst q;cases v2;simp only[eqT];exact SeqAt.RcNeAt.bool_bool _ _
  | int c2=>have q:=h2.flat r2;subst q;obtain⟨tk2,rfl⟩:=v2;simp only[eqT];exact SeqAt.RcNeAt.bool_int _ _ _
  | str c2=>have q:=h2.flat r2;subst q;obtain⟨tk2,rfl⟩:=v2;simp only[eqT,zB2,zB5];exact SeqAt.RcNeAt.bool_str _ _ _
  | tup c2=>obtain⟨l',xs',ds',rfl,k1,k2,k3⟩:=h2.yM r2;cases v2;obtain⟨its',w2,pt',_⟩:=I.tuple k1;simp only[dep] at hu';simp only[eqT,zB2,zB5];exact SeqAt.RcNeAt.bool_tuple _ pt' (by omega)
  | lst c2=>obtain⟨l',xs',ds',rfl,k1,k2,k3⟩:=h2.yO p r2;cases v2;obtain⟨its',w2,pl',_⟩:=I.list k1;simp only[dep] at hu';simp only[eqT,zB2,zB5];exact SeqAt.RcNeAt.bool_list _ pl'.isList (by omega)
 | .int c,u,A,d,e,x,y,a,b,hu,hu',h1,h2,r1,r2,v1,v2=>by
  have q:=h1.flat r1;subst q;obtain⟨tk,rfl⟩:=v1;cases u with
  | zO=>simp only[dep] at hu';omega
  | zi=>have q:=h2.flat r2;subst q;cases v2;simp only[eqT,zB2,zB5];exact SeqAt.RcNeAt.int_none _ _
  | bl c2=>have q:=h2.flat r2;subst q;cases v2;simp only[eqT];exact SeqAt.RcNeAt.int_bool _ _ _
  | int c2=>have q:=h2.flat r2;subst q;obtain⟨tk2,rfl⟩:=v2;simp only[eqT];exact SeqAt.RcNeAt.int_int _ _ _ _
  | str c2=>have q:=h2.flat r2;subst q;obtain⟨tk2,rfl⟩:=v2;simp only[eqT,zB2,zB5];exact SeqAt.RcNeAt.int_str _ _ _ _
  | tup c2=>obtain⟨l',xs',ds',rfl,k1,k2,k3⟩:=h2.yM r2;cases v2;obtain⟨its',w2,pt',_⟩:=I.tuple k1;simp only[dep] at hu';simp only[eqT,zB2,zB5];exact SeqAt.RcNeAt.int_tuple _ _ pt' (by omega)
  | lst c2=>obtain⟨l',xs',ds',rfl,k1,k2,k3⟩:=h2.yO p r2;cases v2;obtain⟨its',w2,pl',_⟩:=I.list k1;simp only[dep] at hu';simp only[eqT,zB2,zB5];exact SeqAt.RcNeAt.int_list _ _ pl'.isList (by omega)
 | .str c,u,A,d,e,x,y,a,b,hu,hu',h1,h2,r1,r2,v1,v2=>by
  have q:=h1.flat r1;subst q;obtain⟨tk,rfl⟩:=v1;cases u with
  | zO=>simp only[dep] at hu';omega
  | zi=>have q:=h2.flat r2;subst q;cases v2;simp only[eqT,zB2,zB5];exact SeqAt.RcNeAt.str_none _ _
  | bl c2=>have q:=h2.flat r2;subst q;cases v2;simp only[eqT,zB2,zB5];exact SeqAt.RcNeAt.str_bool _ _ _
  | int c2=>have q:=h2.flat r2;subst q;obtain⟨tk2,rfl⟩:=v2;simp only[eqT,zB2,zB5];exact SeqAt.RcNeAt.str_int _ _ _ _
  | str c2=>have q:=h2.flat r2;subst q;obtain⟨tk2,rfl⟩:=v2;simp only[eqT];exact SeqAt.RcNeAt.str_str _ _ _ _
  | tup c2=>obtain⟨l',xs',ds',rfl,k1,k2,k3⟩:=h2.yM r2;cases v2;obtain⟨its',w2,pt',_⟩:=I.tuple k1;simp only[dep] at hu';simp only[eqT,zB2,zB5];exact SeqAt.RcNeAt.str_tuple _ _ pt' (by omega)
  | lst c2=>obtain⟨l',xs',ds',rfl,k1,k2,k3⟩:=h2.yO p r2;cases v2;obtain⟨its',w2,pl',_⟩:=I.list k1;simp only[dep] at hu';simp only[eqT,zB2,zB5];exact SeqAt.RcNeAt.str_list _ _ pl'.isList (by omega)
 | .tup c,u,A,d,e,x,y,a,b,hu,hu',h1,h2,r1,r2,v1,v2=>by
  obtain⟨l,xs,ds,rfl,g1,g2,g3⟩:=h1.yM r1;cases v1;obtain⟨its,w1,pt,_⟩:=I.tuple g1;simp only[dep] at hu;cases u with
  | zO=>simp only[dep] at hu';omega
  | zi=>have q:=h2.flat r2;subst q;cases v2;simp only[eqT,zB2,zB5];exact SeqAt.RcNeAt.tuple_none pt (by omega)
  | bl c2=>have q:=h2.flat r2;subst q;cases v2;simp only[eqT,zB2,zB5];exact SeqAt.RcNeAt.tuple_bool _ pt (by omega)
  | int c2=>have q:=h2.flat r2;subst q;obtain⟨tk2,rfl⟩:=v2;simp only[eqT,zB2,zB5];exact SeqAt.RcNeAt.tuple_int _ _ pt (by omega)
  | str c2=>have q:=h2.flat r2;subst q;obtain⟨tk2,rfl⟩:=v2;simp only[eqT,zB2,zB5];exact SeqAt.RcNeAt.tuple_str _ _ pt (by omega)
  | tup c2=>
   obtain⟨l',xs',ds',rfl,k1,k2,k3⟩:=h2.yM r2;cases v2;obtain⟨its',w2,pt',_⟩:=I.tuple k1;simp only[dep] at hu';have e1:its.toArray.size=c.length:=by rw[zA0,<- w1.length,<- g2.length,<- g3.length]
   have e2:its'.toArray.size=c2.length:=by rw[zA0,<- w2.length,<- k2.length,<- k3.length]
   have q:=SeqAt.RcNeAt.tuples (A:=A) (e:=λ j=>eqT (c.getD j .zi) (c2.getD j .zi)) pt pt' (by omega) λ j h1 h2=>by
    have:=rW I p c c2 (A:=A.in1) (by show A.units+1+yC c<cLine;omega) (by show A.units+1+yC c2<cLine;omega) g3 k3 g2 k2 w1 w2 j (by simpa using h1) (by simpa using h2);simpa using this
   rw[e1,e2] at q;simp only[eqT,uL];exact q
  | lst c2=>obtain⟨l',xs',ds',rfl,k1,k2,k3⟩:=h2.yO p r2;cases v2;obtain⟨its',w2,pl',_⟩:=I.list k1;simp only[dep] at hu';simp only[eqT,zB2,zB5];exact SeqAt.RcNeAt.tuple_list pt pl'.isList (by omega)
 | .lst c,u,A,d,e,x,y,a,b,hu,hu',h1,h2,r1,r2,v1,v2=>by
  obtain⟨l,xs,ds,rfl,g1,g2,g3⟩:=h1.yO p r1;cases v1;obtain⟨its,w1,pl,_⟩:=I.list g1;simp only[dep] at hu;cases u with
  | zO=>simp only[dep] at hu';omega
  | zi=>have q:=h2.flat r2;subst q;cases v2;simp only[eqT,zB2,zB5];exact SeqAt.RcNeAt.list_none pl.isList (by omega)
  | bl c2=>have q:=h2.flat r2;subst q;cases v2;simp only[eqT,zB2,zB5];exact SeqAt.RcNeAt.list_bool _ pl.isList (by omega)
  | int c2=>have q:=h2.flat r2;subst q;obtain⟨tk2,rfl⟩:=v2;simp only[eqT,zB2,zB5];exact SeqAt.RcNeAt.list_int _ _ pl.isList (by omega)
  | str c2=>have q:=h2.flat r2;subst q;obtain⟨tk2,rfl⟩:=v2;simp only[eqT,zB2,zB5];exact SeqAt.RcNeAt.list_str _ _ pl.isList (by omega)
  | tup c2=>obtain⟨l',xs',ds',rfl,k1,k2,k3⟩:=h2.yM r2;cases v2;obtain⟨its',w2,pt',_⟩:=I.tuple k1;simp only[dep] at hu';simp only[eqT,zB2,zB5];exact SeqAt.RcNeAt.list_tuple pl.isList pt' (by omega)
  | lst c2=>
   obtain⟨l',xs',ds',rfl,k1,k2,k3⟩:=h2.yO p r2;cases v2;obtain⟨its',w2,pl',_⟩:=I.list k1;simp only[dep] at hu';have e1:its.toArray.size=c.length:=by rw[zA0,<- w1.length,<- g2.length,<- g3.length]
   have e2:its'.toArray.size=c2.length:=by rw[zA0,<- w2.length,<- k2.length,<- k3.length]
   by_cases hsz:c.length=c2.length
   .have q:=SeqAt.RcNeAt.lists (A:=A) (e:=λ j=>eqT (c.getD j .zi) (c2.getD j .zi)) pl.isList pl'.isList (by rw[e1,e2];exact hsz) (by omega) λ j h1 h2=>by
     have:=rW I p c c2 (A:=A.in1) (by show A.units+1+yC c<cLine;omega) (by show A.units+1+yC c2<cLine;omega) g3 k3 g2 k2 w1 w2 j (by simpa using h1) (by simpa using h2);simpa using this
    rw[e1] at q;simp only[eqT,uL];rw[<- hsz,Nat.min_self];simpa using q
   .have q:=SeqAt.RcNeAt.lists_lengths (A:=A) pl.isList pl'.isList (by rw[e1,e2];simpa using hsz) (by omega);simp only[eqT,uL];have z:(c.length == c2.length)=false:=by simpa using hsz
    rw[z,Bool.and_false];exact q
 | .zO,u,A,d,e,x,y,a,b,hu,hu',h1,h2,r1,r2,v1,v2=>by simp only[dep] at hu;omega
end
def jo (K:zFr) (neg:Bool):R2:=λ x y H Q=>∃ S d e t u,zg K H d x/\zg K H e y/\zI K H S/\Sn S t d/\Sn S u e/\dep t<=60/\dep u<=60/\Q (.bl (cond neg (!eqT t u) (eqT t u))) H
def wZ (neg:Bool):yR:=λ x y S Q=>∃ t u,Sn S t x/\Sn S u y/\dep t<=60/\dep u<=60/\Q (.bl (cond neg (!eqT t u) (eqT t u))) S
def wZ.mo {neg:Bool}:xr (wZ neg):=λ _ _ _ _ _ hq ⟨t,u,a,b,c,d,h⟩=>⟨t,u,a,b,c,d,hq _ _ h⟩
def wZ.fits {K:zFr}{neg:Bool}:xt K (wZ neg) (jo K neg):=λ x y d e H S Q h1 h2 h3 ⟨t,u,a,b,c,c',h⟩=>⟨S,d,e,t,u,h1,h2,h3,a,b,c,c',h _ H (by simp only[zg]) (.refl H) h3⟩
section
variable {X:Cx}{a b:Expr}{ta tb:zt}{pos:Pos}
def cj (hu:X.A.units+64<cLine):yd X (compareOp .Eq) (jo X.K false):=by
 intro pins s O H x y v u Q I rx ry h;obtain⟨S,d,e,t,u',a1,a2,a3,a4,a5,a6,a7,q⟩:=h;exact X8 I a3 t u' (A:=X.A) (by omega) (by omega) a4 a5 a1 a2 rx ry X.prog X.w X.xe _ ⟨.bl _,H,I,rfl,q⟩
def Vr (hu:X.A.units+64<cLine):yd X (compareOp .NotEq) (jo X.K true):=by
 intro pins s O H x y v u Q I rx ry h;obtain⟨S,d,e,t,u',a1,a2,a3,a4,a5,a6,a7,q⟩:=h;exact X6 I a3 t u' (A:=X.A) (by omega) (by omega) a4 a5 a1 a2 rx ry X.prog X.w X.xe _ ⟨.bl _,H,I,rfl,q⟩
def dY {k:Nat}(hr:yx k X.A) (ha:PD X a ta) (hb:PD X b tb):PD X (.Compare a [.Eq] [b] pos) (yp (wZ false) ta tb):=d_ (cj hr.units) wZ.fits wZ.mo ha hb (rM _)
def wU {k:Nat}(hr:yx k X.A) (ha:PD X a ta) (hb:PD X b tb):xD X (.Compare a [.Eq] [b] pos) (uk (yp (wZ false) ta tb)):=qD (cj hr.units) wZ.fits wZ.mo ha hb (rM _)
def dN {k:Nat}(hr:yx k X.A) (ha:PD X a ta) (hb:PD X b tb):xD X (.Compare a [.NotEq] [b] pos) (uk (yp (wZ true) ta tb)):=qD (Vr hr.units) wZ.fits wZ.mo ha hb (rM _)
def dy (K:zFr) (neg:Bool):R2:=λ x y H Q=>∃ S d e u ts ds,zg K H d x/\zg K H e y/\zI K H S/\Sn S u d/\yf e S=some ds/\zl S ts ds/\dep u<=60/\yC ts<=60/\Q (.bl (cond neg (!(ts.any λ t=>eqT t u)) (ts.any λ t=>eqT t u))) H
def sO (neg:Bool):yR:=λ x y S Q=>∃ u ts ds,Sn S u x/\yf y S=some ds/\zl S ts ds/\dep u<=60/\yC ts<=60/\Q (.bl (cond neg (!(ts.any λ t=>eqT t u)) (ts.any λ t=>eqT t u))) S
def sO.mo {neg:Bool}:xr (sO neg):=λ _ _ _ _ _ hq ⟨u,ts,ds,a,b,c,d,e,h⟩=>⟨u,ts,ds,a,b,c,d,e,hq _ _ h⟩
def sO.fits {K:zFr}{neg:Bool}:xt K (sO neg) (dy K neg):=λ x y d e H S Q h1 h2 h3 ⟨u,ts,ds,a,b,c,c',c2,h⟩=>⟨S,d,e,u,ts,ds,h1,h2,h3,a,b,c,c',c2,h _ H (by simp only[zg]) (.refl H) h3⟩
open Classical in
noncomputable def uQ (its:List Value) (ts:List T) (u:T) (v:Value):Bool:=if h:∃ j,its[j]?=some v then eqT (ts.getD (Classical.choose h) .zi) u else false
def gq {pins:List (Addr×Obj)}{O:St}{H:Hp}{s:Shared}{S:SS}(I:Inv X pins O H s) (p:zI X.K H S) {ts:List T}{ds:List D}{xs:List V}{its:List Value}(h1:zl S ts ds) (h2:zm X.K H ds xs) (h3:Vals xs its) (u:T) {j:Nat}{v:Value}(hj:its[j]?=some v):
  uQ its ts u v=eqT (ts.getD j .zi) u:=by
 have h:∃ j,its[j]?=some v:=⟨j,hj⟩
 unfold uQ;rw[dif_pos h];have hc:=Classical.choose_spec h;have lt:∀ i,its[i]?=some v->i<ts.length:=λ i hi=>by
  rw[h1.length,h2.length,h3.length];exact (zA2.mp hi).1
 obtain⟨c1,e1,s1⟩:=h1.get (lt _ hc);obtain⟨c2,e2,s2⟩:=h1.get (lt _ hj);obtain⟨x1,f1,r1⟩:=h2.get e1;obtain⟨x2,f2,r2⟩:=h2.get e2;obtain⟨v1,g1,q1⟩:=h3.get f1;obtain⟨v2,g2,q2⟩:=h3.get f2;rw[hc] at g1;cases g1;rw[hj] at g2;cases g2;have hx:=q1.inj q2;subst hx;rw[my I p _ _ s1 s2 r1 r2]
def Zj {pins:List (Addr×Obj)}{O:St}{H:Hp}{s:Shared}{S:SS}(I:Inv X pins O H s) (p:zI X.K H S) {ts:List T}{ds:List D}{xs:List V}{its:List Value}(h1:zl S ts ds) (h2:zm X.K H ds xs) (h3:Vals xs its) (u:T):its.any (uQ its ts u)=ts.any λ t=>eqT t u:=by
 have hl:ts.length=its.length:=by rw[h1.length,h2.length,h3.length]
 rw[zC7,zD0,zD0];constructor
 .rintro⟨v,hv,h⟩;obtain⟨j,hj,rfl⟩:=List.mem_iff_getElem.mp hv;rw[gq I p h1 h2 h3 u (j:=j) (by simp[hj])] at h;have hj':j<ts.length:=by omega
  exact⟨ts[j],List.getElem_mem hj',by simpa [hj'] using h⟩
 .rintro⟨t,ht,h⟩;obtain⟨j,hj,rfl⟩:=List.mem_iff_getElem.mp ht;have hj':j<its.length:=by omega
  exact⟨its[j],List.getElem_mem hj',by rw[gq I p h1 h2 h3 u (j:=j) (by simp[hj'])];simpa [hj] using h⟩
def Zk {pins:List (Addr×Obj)}{O:St}{H:Hp}{s:Shared}{S:SS}(I:Inv X pins O H s) (p:zI X.K H S) {ts:List T}{ds:List D}{xs:List V}{its:List Value}(h1:zl S ts ds) (h2:zm X.K H ds xs) (h3:Vals xs its) {u:T}{d:D}{x:V}{v:Value}(hu:Sn S u d) (hd:zg X.K H d x) (hx:RelV x v) {A:Around}(b1:A.units+yC ts<cLine) (b2:A.units+dep u<cLine) {y:Value}(hy:y∈its):
  SeqAt.EqAt A s y v (uQ its ts u y):=by
 obtain⟨j,hj,rfl⟩:=List.mem_iff_getElem.mp hy;have hjt:j<ts.length:=by rw[h1.length,h2.length,h3.length];exact hj
 rw[gq I p h1 h2 h3 u (j:=j) (by simp[hj])];obtain⟨c1,e1,s1⟩:=h1.get hjt;obtain⟨x1,f1,r1⟩:=h2.get e1;obtain⟨v1,g1,q1⟩:=h3.get f1;have:its[j]=v1:=by
  have:=zA2.mp g1;exact this.2
 rw[this];have:=aA hjt;exact ah I p _ u (A:=A) (by omega) b2 s1 hu r1 hd q1 hx
def V3 (hu:X.A.units+64<cLine):yd X (compareOp .In) (dy X.K false):=by
 intro pins s O H x y v w Q I rx ry h;obtain⟨S,d,e,u,ts,ds,a1,a2,a3,a4,a5,a6,a7,a8,q⟩:=h;obtain⟨l,xs,rfl,g1,g2⟩:=yf.sq a2 a3 a5;cases ry;rcases g1 with g1 | g1
 .obtain⟨its,w1,pl,_⟩:=I.list g1;refine SeqAt.in_listAt (uQ its ts u) pl.isList (λ y hy=>Zk I a3 a6 g2 w1 a4 a1 rx (A:=X.A.in1) (by show X.A.units+1+_<_;omega) (by show X.A.units+1+_<_;omega) (by simpa using hy)) ⟨.bl _,H,I,rfl,?_⟩;rw[show its.toArray.any (uQ its ts u)=its.any (uQ its ts u) by simp,Zj I a3 a6 g2 w1];exact q
 .obtain⟨its,w1,pt,_⟩:=I.tuple g1;refine SeqAt.in_tupleAt (uQ its ts u) pt (λ y hy=>Zk I a3 a6 g2 w1 a4 a1 rx (A:=X.A.in1) (by show X.A.units+1+_<_;omega) (by show X.A.units+1+_<_;omega) (by simpa using hy)) ⟨.bl _,H,I,rfl,?_⟩;rw[show its.toArray.any (uQ its ts u)=its.any (uQ its ts u) by simp,Zj I a3 a6 g2 w1];exact q
def WQ {k:Nat}(hr:yx k X.A) (ha:PD X a ta) (hb:PD X b tb) (hm:behindInMarks .In b=false:=by rfl):xD X (.Compare a [.In] [b] pos) (uk (yp (sO false) ta tb)):=qD (V3 hr.units) sO.fits sO.mo ha hb hm
end
end L3
namespace L2
open PySem PySem.Spec PyProof.Rows
section
variable {κ:Type} [DecidableEq κ]
noncomputable def xQ (kvs:List (κ × V)) (k:κ):Option V:=(kvs.find? λ kv=>decide (kv.1=k)).map (·.2)
noncomputable def putK (kvs:List (κ × V)) (k:κ) (v:V):List (κ × V):=
 if (kvs.any λ kv=>decide (kv.1=k))=true then kvs.map (λ kv=>if kv.1=k then (kv.1,v) else kv) else kvs++[(k,v)]
def km {p:κ × V}{r:List (κ × V)}{k:κ}(e:p.1=k):xQ (p::r) k=some p.2:=by simp[xQ,List.find?_cons,e]
def ko {p:κ × V}{r:List (κ × V)}{k:κ}(e:¬ p.1=k):xQ (p::r) k=xQ r k:=by simp[xQ,List.find?_cons,e]
theorem eh (k:κ):∀ kvs:List (κ × V),(kvs.any λ kv=>decide (kv.1=k))=(xQ kvs k).isSome
 | []=>rfl
 | p::r=>by
  rw[List.any_cons];by_cases e:p.1=k
  .simp only[km e,decide_eq_true e,Bool.true_or,Option.isSome_some]
  .rw[ko e,decide_eq_false e,Bool.false_or];exact eh k r
def cU (kvs:List (κ × V)) (k:κ) (v:V):(putK kvs k v).length<=kvs.length+1:=by
 unfold putK;split
 .rw[zA7];omega
 .rw[zD7,zC0,List.length_nil];omega
def vS.TX {o:Option V}{u:Option Value}(r:vS o u):o.isSome=u.isSome:=by
 cases o with
 | none=>cases u with
  | none=>rfl
  | some _=>exact (show False from r).elim
 | some _=>cases u with
  | none=>exact (show False from r).elim
  | some _=>rfl
theorem vS.getD {o:Option V}{u:Option Value}{d:V}{d':Value}(r:vS o u) (rd:RelV d d'):RelV (o.getD d) (u.getD d'):=by
 cases o with
 | none=>cases u with
  | none=>exact rd
  | some _=>exact (show False from r).elim
 | some _=>cases u with
  | none=>exact (show False from r).elim
  | some _=>exact r
def KV.val {kvs:List (κ × V)}{vs:List (κ × Value)}(r:KV kvs vs) (k:κ):vS (xQ kvs k) (valueAt vs k):=by
 unfold KV at r
 induction r with
 | nil=>exact True.intro
 | @cons p q ps qs h t ih=>
  obtain⟨h1,h2⟩:=h;by_cases e:p.1=k
  .have e':q.1=k:=h1.symm.trans e;have b:valueAt (q::qs) k=some q.2:=by simp[valueAt,List.find?_cons,e']
   rw[km e,b];exact h2
  .have e':¬ q.1=k:=λ z=>e (h1.trans z);have b:valueAt (q::qs) k=valueAt qs k:=by simp[valueAt,List.find?_cons,e']
   rw[ko e,b];exact ih
theorem KV.any {kvs:List (κ × V)}{vs:List (κ × Value)}(r:KV kvs vs) (k:κ):(kvs.any λ kv=>decide (kv.1=k))=vs.any λ kv=>decide (kv.1=k):=by
 unfold KV at r
 induction r with
 | nil=>rfl
 | cons h t ih=>rw[List.any_cons,List.any_cons,ih,h.1]
def KV.u7 {kvs:List (κ × V)}{vs:List (κ × Value)}(r:KV kvs vs) (k:κ) {y:V}{u:Value}(ry:RelV y u):
  KV (kvs.map λ kv=>if kv.1=k then (kv.1,y) else kv) (vs.map λ kv=>if kv.1=k then (kv.1,u) else kv):=by
 unfold KV at r ⊢
 induction r with
 | nil=>exact .nil
 | @cons p q ps qs h t ih=>
  rw[zA6,zA6];refine .cons ?_ ih;obtain⟨h1,h2⟩:=h;by_cases e:p.1=k
  .rw[if_pos e,if_pos (h1.symm.trans e)];exact⟨h1,ry⟩
  .rw[if_neg e,if_neg (λ z=>e (h1.trans z))];exact⟨h1,h2⟩
def KV.put {kvs:List (κ × V)}{vs:List (κ × Value)}(r:KV kvs vs) (k:κ) {y:V}{u:Value}(ry:RelV y u):KV (putK kvs k y) (stored vs k u):=by
 unfold putK stored;rw[r.any k];by_cases e:(vs.any λ kv=>decide (kv.1=k))=true
 .rw[if_pos e,if_pos e];exact r.u7 k ry
 .rw[if_neg e,if_neg e];exact Paired.snoc r ⟨rfl,ry⟩
theorem KV.length {kvs:List (κ × V)}{vs:List (κ × Value)}(r:KV kvs vs):kvs.length=vs.length:=Paired.length r
end
def l6 {P:Program}{w:World}{k:Key}{u:Value}(r:RelV (kV k) u):(we P w).is k u=true:=by
 cases k with
 | inl i=>obtain⟨t,e⟩:=(show ∃ t,u=Value.int i t from r);subst e;exact Te P w i t
 | inr x=>obtain⟨t,e⟩:=(show ∃ t,u=Value.str x t from r);subst e;exact Td P w x t
theorem bx {P:Program}{w:World}:∀ {ks:List Key}{us:List Value},Vals (ks.map kV) us->ItemsAre (we P w) ks us
 | [],_,r=>by rw[List.map_nil] at r;cases r;exact .nil
 | k::ks,_,r=>by
  rw[zA6] at r;cases r with
  | cons h t=>exact .cons (l6 h) (bx t)
abbrev KT (H:Hp):List (List Key×V)->List (List Key×Addr×Value)->Prop:=Paired λ p q=>p.1=q.1/\H q.2.1=some (.tup (p.1.map kV))/\RelV p.2 q.2.2
def KT.val {H:Hp}{kvs:List (List Key×V)}{xs:List (List Key×Addr×Value)}(r:KT H kvs xs) (k:List Key):vS (xQ kvs k) ((atKey xs k).map (·.2)):=by
 induction r with
 | nil=>exact True.intro
 | @cons p q ps qs h t ih=>
  obtain⟨h1,_,h2⟩:=h;by_cases e:p.1=k
  .have e':q.1=k:=h1.symm.trans e;have b:atKey (q::qs) k=some q.2:=by simp[atKey,List.find?_cons,e']
   rw[km e,b];exact h2
  .have e':¬ q.1=k:=λ z=>e (h1.trans z);have b:atKey (q::qs) k=atKey qs k:=by simp[atKey,List.find?_cons,e']
   rw[ko e,b];exact ih
def KT.u7 {H:Hp}{kvs:List (List Key×V)}{xs:List (List Key×Addr×Value)}(r:KT H kvs xs) (k:List Key) {y:V}{u:Value}(ry:RelV y u):
  KT H (kvs.map λ kv=>if kv.1=k then (kv.1,y) else kv) (xs.map (putAt k u)):=by
 induction r with
 | nil=>exact .nil
 | @cons p q ps qs h t ih=>
  rw[zA6,zA6];refine .cons ?_ ih;obtain⟨h1,h2,h3⟩:=h;unfold putAt;by_cases e:p.1=k
  .rw[if_pos e,if_pos (h1.symm.trans e)];exact⟨h1,h2,ry⟩
  .rw[if_neg e,if_neg (λ z=>e (h1.trans z))];exact⟨h1,h2,h3⟩
def KT.put {H:Hp}{kvs:List (List Key×V)}{xs:List (List Key×Addr×Value)}(r:KT H kvs xs) (k:List Key) {b:Addr}{y:V}{u:Value}(hb:H b=some (.tup (k.map kV))) (ry:RelV y u):
  KT H (putK kvs k y) (storedH xs k b u):=by
 have e:(kvs.any λ kv=>decide (kv.1=k))=(atKey xs k).isSome:=by
  rw[eh,(r.val k).TX,Option.isSome_map]
 unfold putK storedH;rw[e];by_cases q:(atKey xs k).isSome=true
 .rw[if_pos q,if_pos q];exact r.u7 k ry
 .rw[if_neg q,if_neg q];exact Paired.snoc r ⟨rfl,hb,ry⟩
def KT.keeps {H H':Hp}{kvs:List (List Key×V)}{xs:List (List Key×Addr×Value)}(r:KT H kvs xs) (ht:∀ b ys,H b=some (.tup ys)->H' b=some (.tup ys)):KT H' kvs xs:=
 Paired.lu r λ _ _ z=>⟨z.1,ht _ _ z.2.1,z.2.2⟩
section
variable {P:Program}{w:World}{H:Hp}{h:Heap}{a:Addr}
def dn {u:HO}(ok:yS P w H h) (e:Rd H a u):yZ P w H h a u:=e.ok ok
def q_ {kvs:List (Key×V)}(ok:yS P w H h) (e:Rd H a (.dK kvs)):kvs.length<=sizeLine/\(a == sysModules)=false/\∃ vs,KV kvs vs/\h.DictOf (we P w) a vs:=
 show yZ P w H h a (.dK kvs) from dn ok e
def R8 {kvs:List (Key×V)}(ok:yS P w H h) (e:H a=some (.dK kvs)):kvs.length<=sizeLine/\(a == sysModules)=false/\∃ vs,KV kvs vs/\h.DictOf (we P w) a vs:=q_ ok (.inl e)
def l5 {ks:List Key}(ok:yS P w H h) (e:H a=some (.tup (ks.map kV))):(tupleKind (we P w)).is h ks a:=by
 obtain⟨_,its,r,o,h1,h2,n,h3⟩:=(show yZ P w H h a (.tup (ks.map kV)) from ok a _ e)
 exact⟨o,its.toArray,n,h1,h2,h3,by simpa using bx r⟩
def oZ {kvs:List (List Key×V)}(ok:yS P w H h) (e:Rd H a (.dT kvs)):kvs.length<=sizeLine/\(a == sysModules)=false/\
  ∃ xs,KT H kvs xs/\h.DictOfH (tupleKind (we P w)) a xs:=by
 obtain⟨z,y,xs,r,o,es,ep,h1,h2,h3,h4,h5⟩:=(show yZ P w H h a (.dT kvs) from dn ok e)
 refine⟨z,y,xs,r,o,es,ep,h1,h2,h3,h4,λ x hx=>?_,h5⟩;have all:∀ {l:List (List Key×V)}{m:List (List Key×Addr×Value)},KT H l m->∀ x∈m,(tupleKind (we P w)).is h x.1 x.2.1:=by
  intro l m q
  induction q with
  | nil=>intro x hx;exact nomatch hx
  | @cons p q ps qs hq t ih=>
   intro x hx;rcases zA5.mp hx with e | hx
   .subst e;exact l5 ok (by rw[<- hq.1];exact hq.2.1)
   .exact ih x hx
 exact all r x hx
def R3 {kvs:List (List Key×V)}(ok:yS P w H h) (e:H a=some (.dT kvs)):kvs.length<=sizeLine/\(a == sysModules)=false/\
  ∃ xs,KT H kvs xs/\h.DictOfH (tupleKind (we P w)) a xs:=oZ ok (.inl e)
end
def tW (H:Hp) (a:Addr) (y:V) (r:Option V):Prop:=
 (∃ kvs k,Rd H a (.dK kvs)/\y=kV k/\r=xQ kvs k)\/∃ kvs k b,Rd H a (.dT kvs)/\y=.ref b/\H b=some (.tup (k.map kV))/\r=xQ kvs k
def mr (H:Hp) (a:Addr) (y v:V) (H':Hp):Prop:=
 (∃ kvs k,H a=some (.dK kvs)/\y=kV k/\kvs.length<sizeLine/\H'=upd H a (.dK (putK kvs k v)))\/
 ∃ kvs k b,H a=some (.dT kvs)/\y=.ref b/\H b=some (.tup (k.map kV))/\kvs.length<sizeLine/\H'=upd H a (.dT (putK kvs k v))
theorem tW.k {H:Hp}{a:Addr}{kvs:List (Key×V)}{k:Key}(e:H a=some (.dK kvs)):tW H a (kV k) (xQ kvs k):=.inl ⟨kvs,k,.inl e,rfl,rfl⟩
theorem mr.k {H:Hp}{a:Addr}{kvs:List (Key×V)}{k:Key}{v:V}(e:H a=some (.dK kvs)) (hl:kvs.length<sizeLine):mr H a (kV k) v (upd H a (.dK (putK kvs k v))):=.inl ⟨kvs,k,e,rfl,hl,rfl⟩
section
variable {X:Cx}{pins:List (Addr×Obj)}{O:St}{H:Hp}{s:Shared}{a:Addr}{y v:V}{u r:Value}{o:Option V}{A:Around}{E:Value->Shared->Prop}
def Inv.big (I:Inv X pins O H s):sysModules<s.heap.objs.size:=by
 have h:mainGlobals<s.heap.objs.size:=(I.mod.glob.keeps I.bk).lt;exact Nat.lt_trans (by decide) h
def RH {Q:Value->Shared->Prop}(hu:A.units+1<cLine) (I:Inv X pins O H s) (g:tW H a y (some v)) (ry:RelV y u) (h:∀ w' s',Inv X pins O H s'->RelV v w'->Q w' s'):
  wpAny (model X.prog X.w) A (getItem (.ref a) u) Q E s:=by
 rcases g with ⟨kvs,k,e,ey,l⟩ | ⟨kvs,k,b,e,ey,eb,l⟩
 .subst ey;obtain⟨z,hd,vs,rel,dd⟩:=q_ I.zw e;obtain⟨w',hw,rw'⟩:=vS.some_of (v:=v) (o:=valueAt vs k) (by rw[l];exact rel.val k);exact wpAny_getItem_of (l6 ry) dd.mapOf hw (h w' _ (I.tok _) rw')
 .subst ey;cases (show u=Value.ref b from ry);obtain⟨z,hd,xs,rel,dd⟩:=oZ I.zw e;obtain⟨w',hw,rw'⟩:=vS.some_of (v:=v) (o:=(atKey xs k).map (·.2)) (by rw[l];exact rel.val k);obtain⟨p,hp,Sv⟩:=zOm hw;refine wpAny_getItem_heap (tupleKind_room_in1 hu) (l5 I.zw eb) dd hp ?_;rw[Sv];exact h w' _ (I.tok _) rw'
def aB {h':Heap}{t':Nat}{ob:HO}(I:Inv X pins O H s) (mu:nQ (H a)) (hs:Heap.SameBut a s.heap h') (he:∃ q,h'.get? a=some q) (new:yZ X.prog X.w (upd H a ob) h' a ob):
  Inv X pins O (upd H a ob) { s with heap:=h',toks:=t' }:=
 I.write (x:=a) (e:=a) mu (.inl rfl) (λ b q hb z=>(hs.2 b hb).trans z) he new
def RA {P:Program}{w:World}{H':Hp}{h':Heap}{kvs:List (Key×V)}{vs:List (Key×Value)}(z:kvs.length<=sizeLine) (hd:(a == sysModules)=false) (rel:KV kvs vs) (dd:h'.DictOf (we P w) a vs):
  yZ P w H' h' a (.dK kvs):=⟨z,hd,vs,rel,dd⟩
def RF {H':Hp}{Q:Unit->Shared->Prop}(hu:A.units+1<cLine) (I:Inv X pins O H s) (g:mr H a y v H') (ry:RelV y u) (rv:RelV v r) (h:∀ s',Inv X pins O H' s'->Q () s'):
  wpAny (model X.prog X.w) A (setItem (.ref a) u r) Q E s:=by
 rcases g with ⟨kvs,k,e,ey,l,eH⟩ | ⟨kvs,k,b,e,ey,eb,l,eH⟩
 .subst ey eH;obtain⟨z,hd,vs,rel,dd⟩:=R8 I.zw e;have hz:vs.length<=sizeLine:=by rw[<- rel.length];exact z
  have hl:(putK kvs k v).length<=sizeLine:=by have:=cU kvs k v;omega
  refine wpAny_setItem_pairs (hsz:=hz) (l6 ry) dd λ h' dd' hs=>h _ ?_;have he:∃ q,h'.get? a=some q:=let ⟨q,_,_,hq,_⟩:=dd';⟨q,hq⟩
  exact aB I (by rw[e];exact True.intro) hs he (RA hl hd (rel.put k rv) dd')
 .subst ey eH;cases (show u=Value.ref b from ry);obtain⟨z,hd,xs,rel,dd⟩:=R3 I.zw e;have hz:xs.length<=sizeLine:=by rw[<- Paired.length rel];exact z
  have hl:(putK kvs k v).length<=sizeLine:=by have:=cU kvs k v;omega
  refine wpAny_setItem_heap (hsz:=hz) (tupleKind_room_in1 hu) (l5 I.zw eb) dd λ h' dd' hs=>h _ ?_;obtain⟨q,es,ep,hq,h2,h3,h4,_,h5⟩:=dd';refine aB I (by rw[e];exact True.intro) hs ⟨q,hq⟩ ⟨hl,hd,_,(rel.put k eb rv).keeps λ c ys ec=>?_,q,es,ep,hq,h2,h3,h4,h5⟩;rw[yE (o7 ec e (λ z=>nomatch z))];exact ec
end
section
variable {X:Cx}{pins:List (Addr×Obj)}{O:St}{H:Hp}{s:Shared}{a:Addr}{kvs:List (Key×V)}{k:Key}{u:Value}{A:Around}{E:Value->Shared->Prop}
def RG {Q:Value->Shared->Prop}(I:Inv X pins O H s) (e:Rd H a (.dK kvs)) (h:∀ t s',Inv X pins O H s'->Q (.int kvs.length t) s'):wpAny (model X.prog X.w) A (call (.builtin "len") [.ref a]) Q E s:=by
 obtain⟨z,hd,vs,rel,dd⟩:=q_ I.zw e;refine call_len_dict hd dd (by rw[<- rel.length];rw[sizeLine_eq] at z;omega) ?_;rw[<- rel.length];exact h _ _ (I.tok _)
end
def gB (i:Expr):Prop:=∀ ov iv,subscripted i false ov iv=operate [ov,iv] (getItem ov iv)
def YL {prog:Program}{w:World}{A:Around}{E:Value->Shared->Prop}{s:Shared}{env:Env}{value slice:Expr}{pos:Pos}{T id:String}{Q:Value->Shared->Prop}
  (hl:typeLookup (.type T) "__getitem__"=pure (some (.builtin id))) (hs:gB slice)
  (h:wpAny (model prog w) A (eval value env) (λ o s₁=>wpAny (model prog w) A (eval slice env) (λ i s₂=>s₂.TypeIs o T/\wpAny (model prog w) A (getItem o i) Q E s₂) E s₁) E s):
  wpAny (model prog w) A (eval (.Subscript value slice pos) env) Q E s:=by
 refine Subscript_ (wpAny_mono h (λ o s₁ h₁=>wpAny_mono h₁ (λ i s₂ h₂=>?_) λ _ _ x=>x) λ _ _ x=>x);obtain⟨hT,h₂⟩:=h₂;unfold subscriptTail;refine zWb ?_;rw[getitemInPython_of_ne hT.not_modules];refine zWb (wpAny_specialOf hT hl ?_);have fin:wpAny (model prog w) A (subscripted slice false o i) (λ r s₃=>wpAny (model prog w) A (letTemporaryGo value o r >>= λ _=>pure r) Q E s₃) E s₂:=by
  rw[hs o i];exact wpAny_operating (wpAny_mono h₂ (λ r s₃ h₃=>zWb (wpAny_letTemporaryGo (zD1 h₃))) λ _ _ x=>x)
 first
  | exact zD1 (zWb fin)
  | exact zWb (zD1 (zWb fin))
  | exact zWb fin
def RC {X:Cx}{pins:List (Addr×Obj)}{O:St}{H:Hp}{s:Shared}{a:Addr}{y:V}{o:Option V}(I:Inv X pins O H s) (g:tW H a y o):s.TypeIs (.ref a) "dict":=by
 rcases g with ⟨kvs,k,e,_,_⟩ | ⟨kvs,k,b,e,_,_,_⟩
 .obtain⟨_,_,vs,_,dd⟩:=q_ I.zw e;exact dd.typeIs
 .obtain⟨_,_,xs,_,dd⟩:=oZ I.zw e;exact dd.typeIs
def YI (td ty:TE):TE:=fun O H Q=>td O H λ x H1=>ty O H1 λ y H2=>∃ a v,x=.ref a/\tW H2 a y (some v)/\Q v H2
def Xv (td ty tv:TE):TS:=λ D O H=>tv O H λ v H1=>td O H1 λ x H2=>ty O H2 λ y H3=>∃ a H4,x=.ref a/\mr H3 a y v H4/\D.nx O H4
section
variable {X:Cx}{o i e value:Expr}{pos pos' tpos:Pos}{td ty tv:TE}
def WG (hu:X.A.units+1<cLine) (ho:PE X o td) (hi:PE X i ty) (hs:gB i):PE X (.Subscript o i pos) (YI td ty):=by
 intro pins s O H Q I h;refine YL PySem.F.slot_dict_getitem.lookup hs (zF (ho pins s O H _ I h) λ u s1 ⟨x,H1,I1,rx,q1⟩=>zF (hi pins s1 O H1 _ I1 q1) λ iv s2 ⟨y,H2,I2,ry,a,v,ex,g,q2⟩=>?_);subst ex;obtain rfl:u=Value.ref a:=rx;exact⟨RC I2 g,RH hu I2 g ry λ w' s3 I3 rw'=>⟨v,H2,I3,rw',q2⟩⟩
def Wd (hu:X.A.units+1<cLine) (ho:PE X o td) (hi:PE X i ty) (hv:PE X value tv) (hs:swapsWith value (some (.Subscript o i pos')) pos.line X.env=pure false):
  PS X (.Assign [.Subscript o i pos'] value pos) (Xv td ty tv):=by
 intro pins s O H D I h;refine wpAny_Assign_Subscript (zF (hv pins s O H _ I h) λ r s1 ⟨v,H1,I1,rv,q1⟩=>zF (ho pins s1 O H1 _ I1 q1) λ u s2 ⟨x,H2,I2,rx,q2⟩=>zF (hi pins s2 O H2 _ I2 q2) λ iv s3 ⟨y,H3,I3,ry,a,H4,ex,g,q3⟩=>?_) hs;subst ex;obtain rfl:u=Value.ref a:=rx;exact RF hu I3 g ry rv λ s4 I4=>⟨O,H4,I4,q3⟩
end
def RB {P:Program}{w:World}{H:Hp}(h:Heap) (hb:sysModules<h.objs.size):yZ P w H (h.push { cls:=.type "dict",data:=.dict #[] }) h.objs.size (.dK []):=
 ⟨zD4 _,beq_eq_false_iff_ne.mpr (Ne.symm (zB3 hb)),[],.nil,Heap.DictOf.new h⟩
def YG:TE:=λ _ H Q=>∀ p,H p=none->Q (.ref p) (upd H p (.dK []))
section
variable {X:Cx}{pos:Pos}
def WD:PE X (.Dict [] [] pos) YG:=λ pins s O H Q I h=>
 wpAny_Dict_empty ⟨.ref s.heap.objs.size,_,I.laid (a:=s.heap.objs.size) (o:=.dK []) (t':=s.toks) (λ _ _ q=>zHp _ q) (zA4 _) (RB s.heap I.big),rfl,h _ (I.zw.fresh (zA4 _))⟩
end
structure M2 (X:Cx) (o:Expr) (m:Str) (apos:Pos) (e f:Expr) (cpos:Pos):Prop where
 base:attributeBase o m X.env (eval o X.env)=eval o X.env
 oS:((backTo cpos (starEach [e,f] X.env)).all (λ x=>!x.1)&&(backToKw cpos (keywordEach [] X.env)).all (λ x=>x.1.isSome)
  && decide (([e,f]:List Expr).length+([]:List Keyword).length+(if ([]:List Keyword).isEmpty then 0 else 1)<30))=true
 line:(apos.endLine == cpos.line)=true
 trees:backTo cpos (starEach [e,f] X.env)=[(false,eval e X.env),(false,eval f X.env)]
def Zx (H:Hp) (a:Addr):Prop:=(∃ kvs,Rd H a (.dK kvs))\/∃ kvs,Rd H a (.dT kvs)
def Sb {X:Cx}{pins:List (Addr×Obj)}{O:St}{H:Hp}{s:Shared}{a:Addr}(I:Inv X pins O H s) (d:Zx H a):
  s.TypeIs (.ref a) "dict"/\(∀ b,Value.ref a=.ref b->∃ ob,s.heap.get? b=some ob/\ob.dict=none)/\(a == sysModules)=false:=by
 rcases d with ⟨kvs,e⟩ | ⟨kvs,e⟩
 .obtain⟨_,hd,vs,_,dd⟩:=q_ I.zw e;refine⟨dd.typeIs,λ b q=>?_,hd⟩;cases q;obtain⟨ob,_,_,h1,h2,_⟩:=dd;exact⟨ob,h1,h2.2.1⟩
 .obtain⟨_,hd,xs,_,dd⟩:=oZ I.zw e;refine⟨dd.typeIs,λ b q=>?_,hd⟩;cases q;obtain⟨ob,_,_,h1,h2,_⟩:=dd;exact⟨ob,h1,h2.2.1⟩
section
variable {X:Cx}{pins:List (Addr×Obj)}{O:St}{H:Hp}{s:Shared}{a:Addr}{y d:V}{u r:Value}{o:Option V}{A:Around}{E:Value->Shared->Prop}
def RI {Q:Value->Shared->Prop}(hu:A.units+1<cLine) (I:Inv X pins O H s) (g:tW H a y o) (ry:RelV y u) (rd:RelV d r) (h:∀ w' s',Inv X pins O H s'->RelV (o.getD d) w'->Q w' s'):
  wpAny (model X.prog X.w) A (call (.builtin "dict.get") [.ref a,u,r]) Q E s:=by
 rcases g with ⟨kvs,k,e,ey,l⟩ | ⟨kvs,k,b,e,ey,eb,l⟩
 .subst ey;obtain⟨z,hd,vs,rel,dd⟩:=q_ I.zw e;refine call_meetsIn PySem.F.slot_dict_get dd.typeIs PySem.F.entry_dict_get (PySem.F.args_dict_get_3 _ _ _) (meets_dict_get_default (we X.prog X.w) a (l6 ry) hd r) ⟨_,dd.mapOf,h _ _ (I.tok _) ?_⟩;rw[l];exact (rel.val k).getD rd
 .subst ey;cases (show u=Value.ref b from ry);obtain⟨z,hd,xs,rel,dd⟩:=oZ I.zw e;refine call_meetsIn PySem.F.slot_dict_get dd.typeIs PySem.F.entry_dict_get (PySem.F.args_dict_get_3 _ _ _) (meetsH_dict_get_default (tupleKind (we X.prog X.w)) a b hd r) ⟨tupleKind_room_in1 hu,k,xs,l5 I.zw eb,dd,h _ _ (I.tok _) ?_⟩;rw[l];exact (rel.val k).getD rd
end
def YH (td ty tx:TE):TE:=fun O H Q=>td O H λ x H1=>∃ a,x=.ref a/\Zx H1 a/\ty O H1 λ y H2=>tx O H2 λ z H3=>∃ o,tW H3 a y o/\Q (o.getD z) H3
section
variable {X:Cx}{o e f:Expr}{apos cpos:Pos}{td ty tx:TE}
def WE (hu:X.A.units+1<cLine) (ho:PE X o td) (he:PE X e ty) (hf:PE X f tx) (m:M2 X o "get" apos e f cpos):PE X (.Call (.Attribute o "get" apos) [e,f] [] cpos) (YH td ty tx):=by
 intro pins s O H Q I h;refine wpAny_Call_method m.base m.oS m.line PySem.F.plainAttrs_dict PySem.F.slot_dict_get PySem.F.type_dict_get (zF (ho pins s O H _ I h) λ u s1 ⟨x,H1,I1,rx,a,ex,d,q1⟩=>?_);subst ex;obtain rfl:u=Value.ref a:=rx;obtain⟨t1,t2,_⟩:=Sb I1 d;refine⟨t1,t2,?_⟩;rw[m.trees];refine Calls.callWith_builtin rfl (Calls.evalArgs_plain (Calls.spliced_cons (zF (he pins s1 O H1 _ I1 q1) λ iv s2 ⟨y,H2,I2,ry,q2⟩=>
  Calls.spliced_cons (zF (hf pins s2 O H2 _ I2 q2) λ fv s3 ⟨z,H3,I3,rz,ov,g,q3⟩=>Calls.spliced_nil ?_))))
 exact RI hu I3 g ry rz λ w' s4 I4 rw'=>⟨_,H3,I4,rw',q3⟩
end
section
variable {X:Cx}{pins:List (Addr×Obj)}{O:St}{H:Hp}{s:Shared}{a:Addr}{kvs:List (Key×V)}{A:Around}{E:Value->Shared->Prop}
end
section
variable {X:Cx}{pins:List (Addr×Obj)}{O:St}{H:Hp}{s:Shared}{a:Addr}{y:V}{u:Value}{A:Around}{E:Value->Shared->Prop}
end
end L2
namespace L3
open PySem PySem.Spec L2
open PyProof.Rows hiding St
noncomputable def v8 (kvs:List (Key×D)) (k:Key):Option D:=(kvs.find? λ kv=>decide (kv.1=k)).map (·.2)
noncomputable def putD (kvs:List (Key×D)) (k:Key) (v:D):List (Key×D):=
 if (kvs.any λ kv=>decide (kv.1=k))=true then kvs.map (λ kv=>if kv.1=k then (kv.1,v) else kv) else kvs++[(k,v)]
section
variable {K:zFr}{H:Hp}
theorem yV.val:∀ {kvs:List (Key×D)}{vs:List (Key×V)},yV K H kvs vs->∀ k,(v8 kvs k=none/\xQ vs k=none)\/∃ d v,v8 kvs k=some d/\xQ vs k=some v/\zg K H d v
 | _,_,.nil,k=>.inl ⟨rfl,rfl⟩
 | (a,d)::kvs,(b,v)::vs,.cons ⟨e,r⟩ t,k=>by
  have e':a=b:=e;subst e';by_cases h:a=k
  .subst h;exact .inr ⟨d,v,by simp[v8],by simp[xQ],r⟩
  .rcases yV.val t k with ⟨h1,h2⟩ | ⟨d',v',h1,h2,h3⟩
   .exact .inl ⟨by simpa [v8,h] using h1,by simpa [xQ,h] using h2⟩
   .exact .inr ⟨d',v',by simpa [v8,h] using h1,by simpa [xQ,h] using h2,h3⟩
theorem yV.any {kvs:List (Key×D)}{vs:List (Key×V)}(h:yV K H kvs vs) (k:Key):(kvs.any λ kv=>decide (kv.1=k))=vs.any λ kv=>decide (kv.1=k):=by
 induction h with
 | nil=>rfl
 | cons r _ ih=>rw[List.any_cons,List.any_cons,ih,r.1]
def yV.len {kvs:List (Key×D)}{vs:List (Key×V)}(h:yV K H kvs vs):kvs.length=vs.length:=Paired.length h
theorem yV.u7 {k:Key}{d:D}{v:V}(r:zg K H d v):∀ {kvs:List (Key×D)}{vs:List (Key×V)},yV K H kvs vs->yV K H (kvs.map λ kv=>if kv.1=k then (kv.1,d) else kv) (vs.map λ kv=>if kv.1=k then (kv.1,v) else kv)
 | _,_,.nil=>.nil
 | (a1,a2)::_,(b1,b2)::_,.cons ⟨e,q⟩ t=>by
  have e':a1=b1:=e;subst e';refine .cons ?_ (yV.u7 r t);by_cases hk:a1=k
  .simp[hk,r]
  .simpa [hk] using q
theorem yV.snoc {k:Key}{d:D}{v:V}(r:zg K H d v):∀ {kvs:List (Key×D)}{vs:List (Key×V)},yV K H kvs vs->yV K H (kvs++[(k,d)]) (vs++[(k,v)])
 | _,_,.nil=>.cons ⟨rfl,r⟩ .nil
 | _,_,.cons q t=>.cons q (yV.snoc r t)
def yV.put {kvs:List (Key×D)}{vs:List (Key×V)}(h:yV K H kvs vs) (k:Key) {d:D}{v:V}(r:zg K H d v):yV K H (putD kvs k d) (putK vs k v):=by
 unfold putD putK;rw[h.any k];split
 .exact yV.u7 r h
 .exact yV.snoc r h
end
section
variable {X:Cx}{K:zFr}{o i e f v:Expr}{td ty tx tv:zt}{pos pos' apos cpos:Pos}
def aJ:zt:=λ _ S Q=>∀ p,S p=none->Q (.ref p) (ups S p (.ya []))
def Vg:PD X (.Dict [] [] pos) aJ:=by
 refine⟨λ _ _ _ _ hq z p hp=>hq _ _ (z p hp),PE.imp WD fun O H Q hu p hp=>?_⟩;obtain⟨Y,S,r1,r2,z⟩:=hu;exact z p (r2.none hp) _ _ (by simp only[zg]) (.new hp _) (r2.ups (.new hp _) ⟨[],yL,.nil⟩)
def aM (td ty:zt):zt:=fun Y S Q=>td Y S λ x S1=>ty Y S1 λ y S2=>∃ p kvs k d,x=.ref p/\y=.int k/\S2 p=some (.ya kvs)/\v8 kvs (.inl k)=some d/\Q d S2
def dZ {k:Nat}(hr:yx k X.A) (ho:PD X o td) (hi:PD X i ty) (hs:gB i:=by exact λ _ _=>rfl):PD X (.Subscript o i pos) (aM td ty):=by
 refine⟨fun Y S Q Q' hq z=>ho.mo Y S _ _ (λ x S1 z=>hi.mo Y S1 _ _ (λ y S2 ⟨p,kvs,k,d,a,b,c,e,h⟩=>⟨p,kvs,k,d,a,b,c,e,hq _ _ h⟩) z) z,PE.imp (WG (iw hr) ho.pe hi.pe hs) fun O H Q hu=>?_⟩;obtain⟨Y,S,r1,r2,z⟩:=hu;refine zL.go ho.mo r1 r2 z λ x S1 w H1 h1 q1 e1 p1=>?_;refine zL.go hi.mo (r1.ext e1) p1 h1 λ y S2 w2 H2 h2 q2 e2 p2=>?_;obtain⟨p,kvs,k,d,rfl,rfl,c1,c2,h⟩:=h2;simp only[zg] at q1 q2;subst q1 q2;obtain⟨vs,g1,g2⟩:=p2 _ _ c1;rcases yV.val g2 (.inl k) with ⟨n1,_⟩ | ⟨d',v',n1,n2,n3⟩
 .rw[c2] at n1;cases n1
 .rw[c2] at n1;cases n1;exact⟨p,v',rfl,n2▸tW.k (k:=Sum.inl k) g1,h v' H2 n3 (e1.trans e2) p2⟩
def aL (td ty tx:zt):zt:=fun Y S Q=>td Y S λ x S1=>∃ p,x=.ref p/\(∃ kvs,S1 p=some (.ya kvs))/\ty Y S1 λ y S2=>tx Y S2 λ z S3=>∃ k kvs,y=.int k/\S3 p=some (.ya kvs)/\Q ((v8 kvs (.inl k)).getD z) S3
def Vh {k:Nat}(hr:yx k X.A) (ho:PD X o td) (he:PD X e ty) (hf:PD X f tx) (m:M2 X o "get" apos e f cpos:=by exact⟨rfl,rfl,rfl,rfl⟩):PD X (.Call (.Attribute o "get" apos) [e,f] [] cpos) (aL td ty tx):=by
 refine⟨fun Y S Q Q' hq z=>ho.mo Y S _ _ (λ x S1 ⟨p,a,b,z⟩=>⟨p,a,b,he.mo Y S1 _ _ (λ y S2 z=>hf.mo Y S2 _ _ (λ w S3 ⟨k,kvs,a,b,h⟩=>⟨k,kvs,a,b,hq _ _ h⟩) z) z⟩) z,PE.imp (WE (iw hr) ho.pe he.pe hf.pe m) fun O H Q hu=>?_⟩;obtain⟨Y,S,r1,r2,z⟩:=hu;refine zL.go ho.mo r1 r2 z λ x S1 w H1 h1 q1 e1 p1=>?_;obtain⟨p,rfl,⟨kvs0,c0⟩,h1⟩:=h1;simp only[zg] at q1;subst q1;obtain⟨vs0,g0,_⟩:=p1 _ _ c0;refine⟨p,rfl,.inl ⟨vs0,.inl g0⟩,?_⟩;refine zL.go he.mo (r1.ext e1) p1 h1 λ y S2 w2 H2 h2 q2 e2 p2=>?_;refine zL.go hf.mo ((r1.ext e1).ext e2) p2 h2 λ y3 S3 w3 H3 h3 q3 e3 p3=>?_;obtain⟨k,kvs,rfl,c1,h⟩:=h3;simp only[zg] at q2;subst q2;obtain⟨vs,g1,g2⟩:=p3 _ _ c1;refine⟨xQ vs (.inl k),tW.k (k:=Sum.inl k) g1,?_⟩;rcases yV.val g2 (.inl k) with ⟨n1,n2⟩ | ⟨d',v',n1,n2,n3⟩
 .rw[n1] at h;rw[n2];exact h _ H3 q3 ((e1.trans e2).trans e3) p3
 .rw[n1] at h;rw[n2];exact h _ H3 n3 ((e1.trans e2).trans e3) p3
def aK (td ty tv:zt):yI:=λ E Y S=>tv Y S λ v S1=>td Y S1 λ x S2=>ty Y S2 λ y S3=>∃ p kvs k,x=.ref p/\y=.int k/\S3 p=some (.ya kvs)/\kvs.length<sizeLine/\E.nx Y (ups S3 p (.ya (putD kvs (.inl k) v)))
theorem Ext.dK {H:Hp}{p:Addr}{kvs:List (Key×V)}(h:H p=some (.dK kvs)) (o:HO):Ext H (upd H p o):=
 ⟨λ b ys q=>by rw[yE (o7 q h (by intro z;cases z))];exact q,λ b ob u q=>by rw[yE (o7 q h (by intro z;cases z))];exact q⟩
def WT {k:Nat}(hr:yx k X.A) (ho:PD X o td) (hi:PD X i ty) (hv:PD X v tv) (hs:swapsWith v (some (.Subscript o i pos')) pos.line X.env=pure false:=by rfl):ve X (.Assign [.Subscript o i pos'] v pos) (aK td ty tv):=by
 refine⟨λ E E' Y S hE z=>hv.mo Y S _ _ (λ w S1 z=>ho.mo Y S1 _ _ (λ x S2 z=>hi.mo Y S2 _ _ (λ y S3 ⟨p,kvs,k,a,b,c,d,h⟩=>⟨p,kvs,k,a,b,c,d,hE.nx _ _ h⟩) z) z) z,PS.imp (Wd (iw hr) ho.pe hi.pe hv.pe hs) λ D O H hu=>?_⟩;obtain⟨Y,S,r1,r2,z⟩:=hu;refine zL.go hv.mo r1 r2 z λ w S1 w1 H1 h1 q1 e1 p1=>?_;refine zL.go ho.mo (r1.ext e1) p1 h1 λ x S2 w2 H2 h2 q2 e2 p2=>?_;refine zL.go hi.mo ((r1.ext e1).ext e2) p2 h2 λ y S3 w3 H3 h3 q3 e3 p3=>?_;obtain⟨p,kvs,k,rfl,rfl,c1,c2,h⟩:=h3;simp only[zg] at q2 q3;subst q2 q3;obtain⟨vs,g1,g2⟩:=p3 _ _ c1;have e4:Ext H3 (upd H3 p (.dK (putK vs (.inl k) w1))):=.dK g1 _;refine⟨p,_,rfl,mr.k (k:=Sum.inl k) g1 (by rw[<- g2.len];exact c2),?_⟩;exact h O _ ((((r1.ext e1).ext e2).ext e3).ext e4) (((e1.trans e2).trans e3).trans e4) (p3.ups e4 ⟨_,yL,(yV.put g2 _ (zg.ext (e2.trans e3) w q1)).ext e4⟩)
def Qm:yK X (.builtin "len") (λ xs H Q=>∃ p kvs,xs=[.ref p]/\H p=some (.dK kvs)/\Q (.int kvs.length) H):=by
 intro pins s O H xs us Q I r h;obtain⟨p,kvs,rfl,e,q⟩:=h;obtain⟨u,rfl,ru⟩:=vals1 r;cases ru;exact RG I (.inl e) λ t s' I'=>⟨.int _,H,I',⟨_,rfl⟩,q⟩
def ab:xx:=λ ds S Q=>∃ p kvs,ds=[.ref p]/\S p=some (.ya kvs)/\Q (.int kvs.length) S
def Vf {es:List Expr}{tA:yk}{p:Pos}(hm:X.mg "len"=none) (ha:xE X (e::es) tA) (hg:Gl X "len":=by rfl) (he:starEach (e::es) X.env=(false,eval e X.env)::starEach es X.env:=by rfl) (hpl:(backTo pos (starEach es X.env)).any (·.1)=false:=by rfl):PD X (.Call (.Name "len" p) (e::es) [] pos) (xA ab tA):=
 sA (su Qm hg hm PySem.boot_len ha.pa (by decide) (by decide) he hpl) (λ _ _ _ _ hq ⟨p,kvs,a,b,h⟩=>⟨p,kvs,a,b,hq _ _ h⟩) (λ xs ds H S Q h0 h2 ⟨p,kvs,a,b,h⟩=>by
  subst a;obtain⟨x,rfl,h1⟩:=h0.one;simp only[zg] at h1;subst h1;obtain⟨vs,g1,g2⟩:=h2 _ _ b;refine⟨p,vs,rfl,g1,?_⟩;rw[<- g2.len];exact h _ H (by simp only[zg]) (.refl H) h2) ha.mo
end
end L3
namespace L3
open PySem L2
section
variable {S S':SS}
mutual
theorem Sn.sx (h:Sx S S'):∀ (t:T) {d:D},Sn S t d->Sn S' t d
 | .zi,d,q=>by simpa only [Sn] using q
 | .bl b,d,q=>by simpa only [Sn] using q
 | .int i,d,q=>by simpa only [Sn] using q
 | .str x,d,q=>by simpa only [Sn] using q
 | .tup ts,d,q=>by
  simp only[Sn] at q ⊢;obtain⟨ds,q1,q2⟩:=q;exact⟨ds,q1,zl.sx h ts q2⟩
 | .lst ts,d,q=>by
  simp only[Sn] at q ⊢;obtain⟨ds,q1,q2⟩:=q;refine⟨ds,?_,zl.sx h ts q2⟩;rcases q1 with q1 | ⟨a,q1,q3⟩
  .exact .inl q1
  .exact .inr ⟨a,q1,h _ _ q3⟩
 | .zO,d,q=>by
  simp only[Sn] at q ⊢;obtain⟨a,kvs,q1,q2⟩:=q;exact⟨a,kvs,q1,h _ _ q2⟩
theorem zl.sx (h:Sx S S'):∀ (ts:List T) {ds:List D},zl S ts ds->zl S' ts ds
 | [],ds,q=>by simpa only [zl] using q
 | t::ts,ds,q=>by
  simp only[zl] at q ⊢;obtain⟨c,cs,q1,q2,q3⟩:=q;exact⟨c,cs,q1,Sn.sx h t q2,zl.sx h ts q3⟩
end
def zl.nil:zl S [] []:=by simp only[zl]
def zl.cons {t:T}{ts:List T}{d:D}{ds:List D}(h:Sn S t d) (h':zl S ts ds):zl S (t::ts) (d::ds):=by
 simp only[zl];exact⟨d,ds,rfl,h,h'⟩
theorem zl.append:∀ {ts us:List T}{ds es:List D},zl S ts ds->zl S us es->zl S (ts++us) (ds++es)
 | [],us,ds,es,h,h'=>by simp only[zl] at h;subst h;simpa using h'
 | t::ts,us,ds,es,h,h'=>by
  simp only[zl] at h;obtain⟨c,cs,rfl,h1,h2⟩:=h;exact zl.cons h1 (zl.append h2 h')
theorem zl.iB:∀ {ts:List T}{ds:List D}{i:Nat}{t:T},zl S ts ds->ts[i]?=some t->∃ d,ds[i]?=some d/\Sn S t d
 | [],_,i,t,_,e=>by simp at e
 | u::ts,ds,i,t,h,e=>by
  simp only[zl] at h;obtain⟨c,cs,rfl,h1,h2⟩:=h;cases i with
  | zero=>simp at e;subst e;exact⟨c,rfl,h1⟩
  | succ i=>
   obtain⟨y,e1,e2⟩:=zl.iB (i:=i) h2 (by simpa using e);exact⟨y,by simpa using e1,e2⟩
theorem zl.iE:∀ {ts:List T}{ds:List D}{i:Nat}{d:D},zl S ts ds->ds[i]?=some d->∃ t,ts[i]?=some t/\Sn S t d
 | [],ds,i,t,h,e=>by simp only[zl] at h;subst h;simp at e
 | u::ts,ds,i,t,h,e=>by
  simp only[zl] at h;obtain⟨c,cs,rfl,h1,h2⟩:=h;cases i with
  | zero=>simp at e;subst e;exact⟨u,rfl,h1⟩
  | succ i=>
   obtain⟨y,e1,e2⟩:=zl.iE (i:=i) h2 (by simpa using e);exact⟨y,by simpa using e1,e2⟩
def zl.len {ts:List T}{ds:List D}(h:zl S ts ds):ds.length=ts.length:=(L3.zl.length h).symm
theorem zl.at {ts:List T}{ds:List D}{i:Int}{t:T}(h:zl S ts ds) (e:L2.zR ts i=some t):∃ d,L2.zR ds i=some d/\Sn S t d:=by
 unfold L2.zR at e ⊢;rw[h.len];cases q:L2.wG ts.length i with
 | none=>rw[q] at e;cases e
 | some j=>
  rw[q] at e;exact h.iB e
theorem zl.eX:∀ {ts:List T}{ds:List D}{t:T}{d:D}(i:Nat),zl S ts ds->Sn S t d->zl S (ts.set i t) (ds.set i d)
 | [],ds,t,d,i,h,_=>by simp only[zl] at h;subst h;simpa using zl.nil
 | u::ts,ds,t,d,0,h,hd=>by
  simp only[zl] at h;obtain⟨c,cs,rfl,h1,h2⟩:=h;exact zl.cons hd h2
 | u::ts,ds,t,d,i+1,h,hd=>by
  simp only[zl] at h;obtain⟨c,cs,rfl,h1,h2⟩:=h;exact zl.cons h1 (zl.eX i h2 hd)
def zl.empty {ts:List T}{ds:List D}(h:zl S ts ds):ds.isEmpty=ts.isEmpty:=by
 have:=h.len;cases ds <;> cases ts <;> simp_all
end
end L3
namespace L5
open PySem L2 L3
noncomputable def zM (S:SS) (Z:Addr->Prop):SS:=open Classical in λ a=>if Z a then none else S a
section
variable {S S' S1:SS}{Z Z':Addr->Prop}{a p:Addr}
def vL (h:¬ Z a):zM S Z a=S a:=if_neg h
def iy (h:Z a):zM S Z a=none:=if_pos h
def uF {o:O}(h:zM S Z a=some o):¬ Z a/\S a=some o:=by
 by_cases z:Z a
 .rw[iy z] at h;cases h
 .rw[vL z] at h;exact⟨z,h⟩
def l7 (S:SS) (Z:Addr->Prop):Sx (zM S Z) S:=λ _ _ h=>(uF h).2
def wq (h:Sx S S'):Sx (zM S Z) (zM S' Z):=λ b o q=>by
 obtain⟨q1,q2⟩:=uF q;rw[vL q1];exact h _ _ q2
def uG (h:∀ a,Z' a->Z a):Sx (zM S Z) (zM S Z'):=λ b o q=>by
 obtain⟨q1,q2⟩:=uF q;rw[vL (λ z=>q1 (h _ z))];exact q2
def qW (h:Sx S S') (hp:S p=none):Sx (zM S Z) (zM S' λ a=>Z a\/a=p):=λ b o q=>by
 obtain⟨q1,q2⟩:=uF q;rw[vL]
 .exact h _ _ q2
 .rintro (z | z)
  .exact q1 z
  .subst z;rw[hp] at q2;cases q2
def Sy {o:O}(h:Z p):zM (ups S p o) Z=zM S Z:=by
 funext b;by_cases z:Z b
 .rw[iy z,iy z]
 .rw[vL z,vL z,u_ (λ e=>z (by rw[e];exact h))]
end
inductive C where
 | lst (ts:List T) | ya (kvs:List (Key×T))
noncomputable def yt (S:SS):List (Key×T)->List (Key×D)->Prop
 | [],l=>l=[]
 | (k,t)::r,l=>∃ d m,l=(k,d)::m/\Sn S t d/\yt S r m
theorem yt.sx {S S':SS}(h:Sx S S'):∀ {a:List (Key×T)}{b:List (Key×D)},yt S a b->yt S' a b
 | [],_,q=>q
 | (k,t)::r,_,q=>by
  obtain⟨d,m,q1,q2,q3⟩:=q;exact⟨d,m,q1,Sn.sx h t q2,yt.sx h q3⟩
noncomputable def uS (S:SS):C->O->Prop
 | .lst ts,.lst ds=>zl S ts ds
 | .ya a,.ya b=>yt S a b
 | _,_=>False
theorem uS.sx {S S':SS}(h:Sx S S'):∀ {c:C}{o:O},uS S c o->uS S' c o
 | .lst ts,.lst ds,q=>zl.sx h ts q
 | .ya a,.ya b,q=>yt.sx h q
inductive W where
 | im (t:T) | own (c:C)
abbrev Ev:=List (Option W)
structure ER (S:SS) (Z:Addr->Prop) (Y:yc) (J:Ev):Prop where
 zd:∀ a,Z a->S a≠none
 im:∀ (i:Nat) t,J[i]?=some (some (.im t))->∃ d,Y[i]?=some (some d)/\Sn (zM S Z) t d
 ow:∀ (i:Nat) c,J[i]?=some (some (.own c))->∃ p o,Y[i]?=some (some (.ref p))/\S p=some o/\uS (zM S Z) c o/\Z p
def Vw (S:SS) (Z:Addr->Prop) (y:T) (d:D):Prop:=Sn (zM S Z) y d\/∃ ts p ds,y=.lst ts/\d=.ref p/\S p=some (.lst ds)/\zl (zM S Z) ts ds/\Z p
abbrev Rk:=SS->SS->(Addr->Prop)->T->D->Prop
def Zo:Rk:=λ _ S' Z y d=>Vw S' Z y d
def xO:Rk:=λ _ S' Z y d=>Sn (zM S' Z) y d
def zH:Rk:=λ S S' Z y d=>Sn (zM S' Z) y d/\∀ ts,y=.lst ts->∃ p ds,d=.ref p/\S p=none/\S' p=some (.lst ds)/\zl (zM S' λ a=>Z a\/a=p) ts ds
class Cl (R:Rk):Prop where
 cl:∀ {S S1 S':SS}{Z:Addr->Prop}{y:T}{d:D},Sx S S1->R S1 S' Z y d->R S S' Z y d
 of:∀ {S S':SS}{Z:Addr->Prop}{y:T}{d:D},(∀ ts,y≠.lst ts)->Sn (zM S' Z) y d->R S S' Z y d
instance:Cl Zo:=⟨λ _ h=>h,λ _ h=>.inl h⟩
instance:Cl xO:=⟨λ _ h=>h,λ _ h=>h⟩
instance:Cl zH:=⟨λ s h=>⟨h.1,λ ts e=>by
 obtain⟨p,ds,h1,h2,h3⟩:=h.2 ts e;exact⟨p,ds,h1,s.none h2,h3⟩⟩,λ n h=>⟨h,λ ts e=>absurd e (n ts)⟩⟩
section
variable {S S' S1:SS}{Z Z':Addr->Prop}{Y:yc}{J:Ev}{y:T}{d:D}
def ER.grow (h:ER S Z Y J) (s:Sx S S'):ER S' Z Y J:=
 ⟨λ a z q=>h.zd a z (s.none q),λ i t e=>by
  obtain⟨d,h1,h2⟩:=h.im i t e;exact⟨d,h1,Sn.sx (wq s) t h2⟩,λ i ts e=>by
  obtain⟨p,ds,h1,h2,h3,h4⟩:=h.ow i ts e;exact⟨p,ds,h1,s _ _ h2,uS.sx (wq s) h3,h4⟩⟩
def Vw.grow (h:Vw S Z y d) (s:Sx S S'):Vw S' Z y d:=by
 rcases h with h | ⟨ts,p,ds,h1,h2,h3,h4,h5⟩
 .exact .inl (Sn.sx (wq s) y h)
 .exact .inr ⟨ts,p,ds,h1,h2,s _ _ h3,zl.sx (wq s) ts h4,h5⟩
def Vw.sn (h:Vw S Z y d):Sn S y d:=by
 rcases h with h | ⟨ts,p,ds,rfl,rfl,h3,h4,_⟩
 .exact Sn.sx (l7 S Z) y h
 .simp only[Sn];exact⟨ds,.inr ⟨p,rfl,h3⟩,zl.sx (l7 S Z) ts h4⟩
theorem Vw.zi (h:Vw S Z .zi d):d=.zi:=by
 rcases h with h | ⟨_,_,_,h,_⟩
 .simpa only [Sn] using h
 .cases h
theorem Vw.bl {b:Bool}(h:Vw S Z (.bl b) d):d=.bl b:=by
 rcases h with h | ⟨_,_,_,h,_⟩
 .simpa only [Sn] using h
 .cases h
theorem Vw.int {b:Int}(h:Vw S Z (.int b) d):d=.int b:=by
 rcases h with h | ⟨_,_,_,h,_⟩
 .simpa only [Sn] using h
 .cases h
theorem Vw.str {b:Str}(h:Vw S Z (.str b) d):d=.str b:=by
 rcases h with h | ⟨_,_,_,h,_⟩
 .simpa only [Sn] using h
 .cases h
theorem Vw.tup {ts:List T}(h:Vw S Z (.tup ts) d):∃ ds,d=.tup ds/\zl (zM S Z) ts ds:=by
 rcases h with h | ⟨_,_,_,h,_⟩
 .simpa only [Sn] using h
 .cases h
theorem Vw.lst {ts:List T}(h:Vw S Z (.lst ts) d):∃ ds,(d=.yF ds\/∃ a,d=.ref a/\S a=some (.lst ds))/\zl (zM S Z) ts ds:=by
 rcases h with h | ⟨us,p,ds,h1,h2,h3,h4,_⟩
 .simp only[Sn] at h;obtain⟨ds,h1,h2⟩:=h;refine⟨ds,?_,h2⟩;rcases h1 with h1 | ⟨a,h1,h3⟩
  .exact .inl h1.1
  .exact .inr ⟨a,h1,(uF h3).2⟩
 .cases h1;exact⟨ds,.inr ⟨p,h2,h3⟩,h4⟩
noncomputable def x_:T->Option (List T)
 | .tup ts=>some ts
 | .lst ts=>some ts
 | _=>none
@[simp] theorem zab (ts:List T):x_ (.tup ts)=some ts:=rfl
@[simp] theorem zac (ts:List T):x_ (.lst ts)=some ts:=rfl
def Vw.seq {ts:List T}(h:Vw S Z y d) (e:x_ y=some ts):∃ ds,yf d S=some ds/\zl (zM S Z) ts ds:=by
 cases y with
 | tup us=>cases e;obtain⟨ds,rfl,h2⟩:=h.tup;exact⟨ds,rfl,h2⟩
 | lst us=>
  cases e;obtain⟨ds,h1 | ⟨a,rfl,h1⟩,h2⟩:=h.lst
  .subst h1;exact⟨ds,rfl,h2⟩
  .exact⟨ds,by unfold yf;dsimp only;rw[h1],h2⟩
 | zi=>cases e
 | bl _=>cases e
 | int _=>cases e
 | str _=>cases e
 | zO=>cases e
theorem Vw.zO (h:Vw S Z .zO d):∃ a kvs,d=.ref a/\S a=some (.ya kvs):=by
 rcases h with h | ⟨_,_,_,h,_⟩
 .simp only[Sn] at h;obtain⟨a,kvs,h1,h2⟩:=h;exact⟨a,kvs,h1,(uF h2).2⟩
 .cases h
def eT:Sn S .zi .zi:=by simp only[Sn]
def vj {b:Bool}:Sn S (.bl b) (.bl b):=by simp only[Sn]
def xS {i:Int}:Sn S (.int i) (.int i):=by simp only[Sn]
def eS {x:Str}:Sn S (.str x) (.str x):=by simp only[Sn]
def pR {ts:List T}{ds:List D}(h:zl S ts ds):Sn S (.tup ts) (.tup ds):=by simp only[Sn];exact⟨ds,rfl,h⟩
def sr {ts:List T}{ds:List D}{p:Addr}(hz:∀ a,Z a->S a≠none) (hp:S p=none) (h:zl (zM S Z) ts ds):zH S (ups S p (.lst ds)) Z (.lst ts) (.ref p):=by
 have nz:¬ Z p:=λ z=>hz p z hp;have s:Sx S (ups S p (.lst ds)):=.new hp _;refine⟨?_,λ us e=>?_⟩
 .simp only[Sn];exact⟨ds,.inr ⟨p,rfl,by rw[vL nz,tY]⟩,zl.sx (wq s) ts h⟩
 .cases e;exact⟨p,ds,rfl,hp,tY,zl.sx (qW s hp) ts h⟩
end
def xl (R:Rk) (f:Ev->Option T) (t:zt):Prop:=∀ S Z Y J y Q,ER S Z Y J->f J=some y->(∀ d S',Sx S S'->R S S' Z y d->Q d S')->t Y S Q
abbrev vf:=xl xO
abbrev yy:=xl Zo
abbrev xq:=xl zH
def xl.imp {R R':Rk}{f:Ev->Option T}{t:zt}(h:xl R f t) (i:∀ S S' Z y d,R S S' Z y d->R' S S' Z y d):xl R' f t:=λ S Z Y J y Q hE e hq=>h S Z Y J y Q hE e λ d S' s r=>hq d S' s (i _ _ _ _ _ r)
def xl.er {f:Ev->Option T}{t:zt}(h:vf f t):yy f t:=h.imp λ _ _ _ _ _ r=>.inl r
def xl.fe {f:Ev->Option T}{t:zt}(h:xq f t):vf f t:=h.imp λ _ _ _ _ _ r=>r.1
def xl.fr {f:Ev->Option T}{t:zt}(h:xq f t):yy f t:=h.fe.er
@[simp] noncomputable def zq (i:Nat):Ev->Option T:=fun J=>match J[i]? with
 | some (some (.im t))=>some t
 | _=>none
@[simp] noncomputable def zf (i:Nat):Ev->Option T:=fun J=>match J[i]? with
 | some (some (.im t))=>some t
 | some (some (.own (.lst ts)))=>some (.lst ts)
 | _=>none
@[simp] noncomputable def cS (t:T):Ev->Option T:=λ _=>some t
def vH (i:Nat):vf (zq i) (y8 i):=λ S Z Y J y Q hE e hq=>by
 unfold zq at e;split at e
 .rename_i t h;cases e;obtain⟨d,h1,h2⟩:=hE.im i _ h;unfold y8;rw[h1];exact hq d S (.refl S) h2
 .cases e
def wF (i:Nat):yy (zf i) (y8 i):=λ S Z Y J y Q hE e hq=>by
 unfold zf at e;split at e
 .rename_i t h;cases e;obtain⟨d,h1,h2⟩:=hE.im i _ h;unfold y8;rw[h1];exact hq d S (.refl S) (.inl h2)
 .rename_i ts h;cases e;obtain⟨p,o,h1,h2,h3,h4⟩:=hE.ow i _ h;unfold y8;rw[h1];cases o with
  | ya _=>exact h3.elim
  | lst ds=>exact hq _ S (.refl S) (.inr ⟨ts,p,ds,rfl,rfl,h2,h3,h4⟩)
 .cases e
def yA (i:Int):xq (cS (.int i)) (dC (.int i)):=λ S Z Y J y Q hE e hq=>by cases e;exact hq _ S (.refl S) (Cl.of (λ _=>nofun) xS)
def jI (i:Bool):xq (cS (.bl i)) (dC (.bl i)):=λ S Z Y J y Q hE e hq=>by cases e;exact hq _ S (.refl S) (Cl.of (λ _=>nofun) vj)
def VZ (i:Str):xq (cS (.str i)) (dC (.str i)):=λ S Z Y J y Q hE e hq=>by cases e;exact hq _ S (.refl S) (Cl.of (λ _=>nofun) eS)
def Ue:xq (cS .zi) (dC .zi):=λ S Z Y J y Q hE e hq=>by cases e;exact hq _ S (.refl S) (Cl.of (λ _=>nofun) eT)
@[simp] noncomputable def zb (f:T->T->Option T) (fa fb:Ev->Option T):Ev->Option T:=fun J=>(fa J).bind λ x=>(fb J).bind λ y=>f x y
def Good2 (R:Rk) (f:T->T->Option T) (g:yR):Prop:=∀ S Z x y z d e Q,(∀ a,Z a->S a≠none)->Vw S Z x d->Vw S Z y e->f x y=some z->(∀ c S',Sx S S'->R S S' Z z c->Q c S')->g d e S Q
def xT {R:Rk} [Cl R] {f:T->T->Option T}{g:yR}{fa fb:Ev->Option T}{ta tb:zt}(hg:Good2 R f g) (ha:yy fa ta) (hb:yy fb tb):xl R (zb f fa fb) (yp g ta tb):=λ S Z Y J y Q hE e hq=>by
 unfold zb at e;obtain⟨x,e1,e⟩:=zOb e;obtain⟨z,e2,e⟩:=zOb e;refine ha S Z Y J x _ hE e1 λ d S1 s1 r1=>?_;refine hb S1 Z Y J z _ (hE.grow s1) e2 λ d2 S2 s2 r2=>?_;exact hg S2 Z x z y d d2 Q ((hE.grow (s1.trans s2)).zd) (Vw.grow r1 s2) r2 e λ c S' s r=>hq c S' ((s1.trans s2).trans s) (Cl.cl (s1.trans s2) r)
@[simp] noncomputable def i2 (g:Int->Int->T):T->T->Option T
 | .int i,.int j=>some (g i j)
 | _,_=>none
instance {i j:Int}:Decidable (v7 i j):=by unfold v7;infer_instance
instance {i j:Int}:Decidable (xP i j):=by unfold xP;infer_instance
instance {i j:Int}:Decidable (rn i j):=by unfold rn;infer_instance
@[simp] noncomputable def rV (C:Int->Int->Prop) [∀ i j,Decidable (C i j)] (g:Int->Int->T):T->T->Option T
 | .int i,.int j=>if C i j then some (g i j) else none
 | _,_=>none
def i8 {g:Int->Int->T}{g':Int->Int->D}(h:∀ i j S,Sn S (g i j) (g' i j)) (n:∀ i j ts,g i j≠.lst ts):Good2 zH (i2 g) (x9 g'):=λ S Z x y z d e Q hz hx hy ef hq=>by
 unfold i2 at ef;split at ef
 .cases ef;cases hx.int;cases hy.int;exact hq _ S (.refl S) (Cl.of (n _ _) (h _ _ _))
 .cases ef
def oK {C:Int->Int->Prop} [∀ i j,Decidable (C i j)] {g:Int->Int->T}{g':Int->Int->D}(h:∀ i j S,Sn S (g i j) (g' i j)) (n:∀ i j ts,g i j≠.lst ts):Good2 zH (rV C g) (fI C g'):=λ S Z x y z d e Q hz hx hy ef hq=>by
 unfold rV at ef;split at ef
 .split at ef
  .rename_i hh;cases ef;cases hx.int;cases hy.int;exact⟨hh,hq _ S (.refl S) (Cl.of (n _ _) (h _ _ _))⟩
  .cases ef
 .cases ef
@[simp] noncomputable def se:T->T->Option T:=i2 λ i j=>.int (i-j)
@[simp] noncomputable def yu:T->T->Option T:=rV (λ _ j=>0<j) λ i j=>.int (i%j)
@[simp] noncomputable def vv:T->T->Option T:=rV xP λ i j=>.int (i/j)
@[simp] noncomputable def xv:T->T->Option T:=rV rn λ i j=>.int (i ^ j.toNat)
@[simp] noncomputable def qO:T->T->Option T:=i2 λ i j=>.bl (decide (i<=j))
@[simp] noncomputable def iG:T->T->Option T:=i2 λ i j=>.bl (decide (j<=i))
section
variable {fa fb:Ev->Option T}{ta tb:zt}
def VY (ha:yy fa ta) (hb:yy fb tb):xq (zb se fa fb) (yp (x9 λ i j=>.int (i-j)) ta tb):=xT (i8 (λ _ _ _=>xS) λ _ _ _=>nofun) ha hb
def qL (ha:yy fa ta) (hb:yy fb tb):xq (zb yu fa fb) (yp (fI (λ _ j=>0<j) λ i j=>.int (i%j)) ta tb):=xT (oK (λ _ _ _=>xS) λ _ _ _=>nofun) ha hb
def U3 (ha:yy fa ta) (hb:yy fb tb):xq (zb vv fa fb) (yp (fI xP λ i j=>.int (i/j)) ta tb):=xT (oK (λ _ _ _=>xS) λ _ _ _=>nofun) ha hb
def sE (ha:yy fa ta) (hb:yy fb tb):xq (zb xv fa fb) (yp (fI rn λ i j=>.int (i ^ j.toNat)) ta tb):=xT (oK (λ _ _ _=>xS) λ _ _ _=>nofun) ha hb
end
noncomputable def zU (neg:Bool):T->T->Option T:=λ x y=>if dep x<=60/\dep y<=60 then some (.bl (cond neg (!eqT x y) (eqT x y))) else none
noncomputable def qU (neg:Bool):T->T->Option T:=λ x y=>match x_ y with
 | some ts=>if dep x<=60/\yC ts<=60 then some (.bl (cond neg (!(ts.any λ t=>eqT t x)) (ts.any λ t=>eqT t x))) else none
 | none=>none
def bP {neg:Bool}:Good2 zH (zU neg) (wZ neg):=λ S Z x y z d e Q hz hx hy ef hq=>by
 unfold zU at ef;split at ef
 .rename_i h;cases ef;exact⟨x,y,hx.sn,hy.sn,h.1,h.2,hq _ S (.refl S) (Cl.of (λ _=>nofun) vj)⟩
 .cases ef
def SO {neg:Bool}:Good2 zH (qU neg) (sO neg):=λ S Z x y z d e Q hz hx hy ef hq=>by
 unfold qU at ef;split at ef
 .rename_i ts ht;split at ef
  .rename_i h;cases ef;obtain⟨ds,h1,h2⟩:=hy.seq ht;exact⟨x,ts,ds,hx.sn,h1,zl.sx (l7 S Z) ts h2,h.1,h.2,hq _ S (.refl S) (Cl.of (λ _=>nofun) vj)⟩
  .cases ef
 .cases ef
@[simp] noncomputable def zo:T->T->Option T:=λ x y=>match x_ x,y with
 | some ts,.int i=>L2.zR ts i
 | _,_=>none
def bN:Good2 xO zo xX:=λ S Z x y z d e Q hz hx hy ef hq=>by
 unfold zo at ef;split at ef
 .rename_i ts i ht;cases hy.int;obtain⟨ds,h1,h2⟩:=hx.seq ht;obtain⟨c,h3,h4⟩:=h2.at ef;unfold yf at h1;split at h1
  .cases h1;exact Ro h3 (hq c S (.refl S) h4)
  .cases h1;exact Rp h3 (hq c S (.refl S) h4)
  .split at h1
   .rename_i q;cases h1;exact Rq q h3 (hq c S (.refl S) h4)
   .cases h1
  .cases h1
 .cases ef
@[simp] noncomputable def yq:T->T->Option T
 | .int i,.int j=>some (.int (i+j))
 | .str i,.str j=>if i.length+j.length<=sizeLine then some (.str (i++j)) else none
 | .lst ts,.lst us=>if ts.length+us.length<=sizeLine then some (.lst (ts++us)) else none
 | .tup ts,.tup us=>if ts.length+us.length<=sizeLine then some (.tup (ts++us)) else none
 | _,_=>none
def vP:yR:=λ x y S Q=>match x,y with
 | .int i,.int j=>Q (.int (i+j)) S
 | .str i,.str j=>i.length+j.length<=sizeLine/\Q (.str (i++j)) S
 | .tup ds,.tup es=>ds.length+es.length<=sizeLine/\Q (.tup (ds++es)) S
 | .zi,_=>False
 | .bl _,_=>False
 | .int _,_=>False
 | .str _,_=>False
 | .tup _,_=>False
 | x,y=>match yf x S,yf y S with
  | some ds,some es=>(∀ ts,y≠.tup ts)/\ds.length+es.length<=sizeLine/\∀ r,S r=none->Q (.ref r) (ups S r (.lst (ds++es)))
  | _,_=>False
def good_add:Good2 zH yq vP:=λ S Z x y z d e Q hz hx hy ef hq=>by
 unfold yq at ef;split at ef
 .cases ef;cases hx.int;cases hy.int;exact hq _ S (.refl S) (Cl.of (λ _=>nofun) xS)
 .split at ef
  .rename_i h;cases ef;cases hx.str;cases hy.str;exact⟨h,hq _ S (.refl S) (Cl.of (λ _=>nofun) eS)⟩
  .cases ef
 .split at ef
  .rename_i h;cases ef;obtain⟨ds,h1,h2⟩:=hx.seq rfl;obtain⟨es,h3,h4⟩:=hy.seq rfl;have nt:∀ ts,e≠.tup ts:=by
    obtain⟨_,q | ⟨_,q,_⟩,_⟩:=hy.lst <;> subst q <;> exact λ _=>nofun
   have key:(∀ ts,e≠.tup ts)/\ds.length+es.length<=sizeLine/\∀ r,S r=none->Q (.ref r) (ups S r (.lst (ds++es))):=
    ⟨nt,by rw[h2.len,h4.len];exact h,λ r hr=>hq _ _ (.new hr _) (sr hz hr (h2.append h4))⟩
   obtain⟨_,q | ⟨a,q,_⟩,_⟩:=hx.lst
   .subst q;unfold vP;dsimp only;rw[h1,h3];exact key
   .subst q;unfold vP;dsimp only;rw[h1,h3];exact key
  .cases ef
 .split at ef
  .rename_i h;cases ef;obtain⟨ds,rfl,h2⟩:=hx.tup;obtain⟨es,rfl,h4⟩:=hy.tup;exact⟨by rw[h2.len,h4.len];exact h,hq _ S (.refl S) (Cl.of (λ _=>nofun) (pR (h2.append h4)))⟩
  .cases ef
 .cases ef
def wO (f:Ev->Option Bool) (t:y9):Prop:=∀ S Z Y J y Q,ER S Z Y J->f J=some y->(∀ S',Sx S S'->Q y S')->t Y S Q
@[simp] noncomputable def y4 (f:Ev->Option T):Ev->Option Bool:=fun J=>(f J).bind λ x=>match x with
 | .bl b=>some b
 | _=>none
@[simp] noncomputable def sa:T->Option Bool
 | .zi=>some false
 | .bl b=>some b
 | .int i=>some (i != 0)
 | .str x=>if x.length<=sizeLine then some ((x.length:Int) != 0) else none
 | .tup ts=>some (!ts.isEmpty)
 | .lst ts=>some (!ts.isEmpty)
 | .zO=>none
@[simp] noncomputable def xy (f:Ev->Option T):Ev->Option Bool:=fun J=>(f J).bind sa
@[simp] noncomputable def oX (f g:Ev->Option Bool):Ev->Option Bool:=fun J=>(f J).bind λ b=>if b=true then g J else some false
@[simp] noncomputable def lG (f g:Ev->Option Bool):Ev->Option Bool:=fun J=>(f J).bind λ b=>if b=true then some true else g J
@[simp] noncomputable def sR (f:Ev->Option Bool):Ev->Option Bool:=fun J=>(f J).map (!·)
section
variable {f g:Ev->Option T}{t u:zt}{fb gb:Ev->Option Bool}{tb ub:y9}{R:Rk}
def cv (h:yy f t):wO (y4 f) (uk t):=λ S Z Y J y Q hE e hq=>by
 obtain⟨x,e1,e2⟩:=zOb e;refine h S Z Y J x _ hE e1 λ d S1 s1 r1=>?_;split at e2
 .cases e2;cases Vw.bl r1;exact hq S1 s1
 .cases e2
def cw (h:yy f t):wO (xy f) (av t):=λ S Z Y J y Q hE e hq=>by
 obtain⟨x,e1,e2⟩:=zOb e;refine h S Z Y J x _ hE e1 λ d S1 s1 r1=>?_;cases x with
 | zi=>cases Vw.zi r1;cases e2;exact hq S1 s1
 | bl b=>cases Vw.bl r1;cases e2;exact hq S1 s1
 | int b=>cases Vw.int r1;cases e2;exact hq S1 s1
 | str b=>
  cases Vw.str r1;simp only[sa] at e2;split at e2
  .rename_i hh;cases e2;exact⟨hh,hq S1 s1⟩
  .cases e2
 | tup ts=>
  obtain⟨ds,rfl,h2⟩:=Vw.tup r1;cases e2;show Q (!ds.isEmpty) S1;rw[h2.empty];exact hq S1 s1
 | lst ts=>
  obtain⟨ds,rfl | ⟨a,rfl,h1⟩,h2⟩:=Vw.lst r1
  .cases e2;show Q (!ds.isEmpty) S1;rw[h2.empty];exact hq S1 s1
  .cases e2;refine Yy h1 ?_;rw[h2.empty];exact hq S1 s1
 | zO=>cases e2
def U6 (h:wO fb tb) (h':wO gb ub):wO (oX fb gb) (oY tb ub):=λ S Z Y J y Q hE e hq=>by
 obtain⟨b,e1,e2⟩:=zOb e;refine h S Z Y J b _ hE e1 λ S1 s1=>?_;split at e2
 .rename_i hb;rw[if_pos hb];exact h' S1 Z Y J y _ (hE.grow s1) e2 λ S2 s2=>hq S2 (s1.trans s2)
 .rename_i hb;rw[if_neg hb];cases e2;exact hq S1 s1
def U4 (h:wO fb tb) (h':wO gb ub):wO (lG fb gb) (oV tb ub):=λ S Z Y J y Q hE e hq=>by
 obtain⟨b,e1,e2⟩:=zOb e;refine h S Z Y J b _ hE e1 λ S1 s1=>?_;split at e2
 .rename_i hb;rw[if_pos hb];cases e2;exact hq S1 s1
 .rename_i hb;rw[if_neg hb];exact h' S1 Z Y J y _ (hE.grow s1) e2 λ S2 s2=>hq S2 (s1.trans s2)
def cy (h:wO fb tb):wO (sR fb) (oW tb):=λ S Z Y J y Q hE e hq=>by
 unfold sR at e;obtain⟨b,e1,rfl⟩:=zOm e;exact h S Z Y J b _ hE e1 λ S1 s1=>hq S1 s1
@[simp] noncomputable def lN (f g:Ev->Option T):Ev->Option T:=fun J=>(f J).bind λ x=>match x with
 | .bl k=>if k=true then g J else some (.bl false)
 | _=>none
@[simp] noncomputable def c7 (f:Ev->Option T):Ev->Option T:=fun J=>(f J).bind λ x=>match x with
 | .bl k=>some (.bl (!k))
 | _=>none
@[simp] noncomputable def iu (c:Ev->Option Bool) (f g:Ev->Option T):Ev->Option T:=fun J=>(c J).bind λ b=>if b=true then f J else g J
def UI [Cl R] (h:yy f t) (h':xl R g u):xl R (lN f g) (nk t u):=λ S Z Y J y Q hE e hq=>by
 obtain⟨x,e1,e2⟩:=zOb e;refine h S Z Y J x _ hE e1 λ d S1 s1 r1=>?_;split at e2
 .cases Vw.bl r1;split at e2
  .rename_i hb;dsimp only;rw[if_pos hb];exact h' S1 Z Y J y _ (hE.grow s1) e2 λ d S2 s2 r2=>hq d S2 (s1.trans s2) (Cl.cl s1 r2)
  .rename_i hb;dsimp only;rw[if_neg hb];cases e2;exact hq _ S1 s1 (Cl.of (λ _=>nofun) vj)
 .cases e2
def Ud [Cl R] (h:yy f t):xl R (c7 f) (nh t):=λ S Z Y J y Q hE e hq=>by
 obtain⟨x,e1,e2⟩:=zOb e;refine h S Z Y J x _ hE e1 λ d S1 s1 r1=>?_;split at e2
 .cases Vw.bl r1;cases e2;exact hq _ S1 s1 (Cl.of (λ _=>nofun) vj)
 .cases e2
def U0 [Cl R] (hc:wO fb tb) (h:xl R f t) (h':xl R g u):xl R (iu fb f g) (ni tb t u):=λ S Z Y J y Q hE e hq=>by
 obtain⟨b,e1,e2⟩:=zOb e;refine hc S Z Y J b _ hE e1 λ S1 s1=>?_;split at e2
 .rename_i hb;rw[if_pos hb];exact h S1 Z Y J y _ (hE.grow s1) e2 λ d S2 s2 r2=>hq d S2 (s1.trans s2) (Cl.cl s1 r2)
 .rename_i hb;rw[if_neg hb];exact h' S1 Z Y J y _ (hE.grow s1) e2 λ d S2 s2 r2=>hq d S2 (s1.trans s2) (Cl.cl s1 r2)
end
noncomputable def p0 (S:SS) (Z:Addr->Prop):List T->List D->Prop
 | [],ds=>ds=[]
 | t::ts,ds=>∃ c cs,ds=c::cs/\Vw S Z t c/\p0 S Z ts cs
def qj (f:Ev->Option (List T)) (t:yk):Prop:=∀ S Z Y J ys Q,ER S Z Y J->f J=some ys->(∀ ds S',Sx S S'->p0 S' Z ys ds->Q ds S')->t Y S Q
def p8 (f:Ev->Option (List T)) (t:yk):Prop:=∀ S Z Y J ys Q,ER S Z Y J->f J=some ys->(∀ ds S',Sx S S'->zl (zM S' Z) ys ds->Q ds S')->t Y S Q
@[simp] noncomputable def zj:Ev->Option (List T):=λ _=>some []
@[simp] noncomputable def zc (f:Ev->Option T) (g:Ev->Option (List T)):Ev->Option (List T):=fun J=>(f J).bind λ x=>(g J).bind λ xs=>some (x::xs)
section
variable {f:Ev->Option T}{g:Ev->Option (List T)}{t:zt}{u:yk}
def sD:qj zj lJ:=λ S Z Y J y Q hE e hq=>by cases e;exact hq [] S (.refl S) rfl
def tD:p8 zj lJ:=λ S Z Y J y Q hE e hq=>by cases e;exact hq [] S (.refl S) .nil
def vG (h:yy f t) (h':qj g u):qj (zc f g) (rY t u):=λ S Z Y J y Q hE e hq=>by
 obtain⟨x,e1,e0⟩:=zOb e;obtain⟨xs,e2,e3⟩:=zOb e0;cases e3;refine h S Z Y J x _ hE e1 λ d S1 s1 r1=>?_;refine h' S1 Z Y J xs _ (hE.grow s1) e2 λ ds S2 s2 r2=>?_;exact hq _ S2 (s1.trans s2) ⟨d,ds,rfl,Vw.grow r1 s2,r2⟩
def wD (h:vf f t) (h':p8 g u):p8 (zc f g) (rY t u):=λ S Z Y J y Q hE e hq=>by
 obtain⟨x,e1,e0⟩:=zOb e;obtain⟨xs,e2,e3⟩:=zOb e0;cases e3;refine h S Z Y J x _ hE e1 λ d S1 s1 r1=>?_;refine h' S1 Z Y J xs _ (hE.grow s1) e2 λ ds S2 s2 r2=>?_;exact hq _ S2 (s1.trans s2) (.cons (Sn.sx (wq s2) x r1) r2)
@[simp] noncomputable def tupS (g:Ev->Option (List T)):Ev->Option T:=fun J=>(g J).bind λ xs=>if xs.length<=sizeLine then some (.tup xs) else none
@[simp] noncomputable def wg (g:Ev->Option (List T)):Ev->Option T:=fun J=>(g J).bind λ xs=>if xs.length<=sizeLine then some (.lst xs) else none
def VW (h:p8 g u):xq (tupS g) (aC u):=λ S Z Y J y Q hE e hq=>by
 obtain⟨xs,e1,e2⟩:=zOb e;split at e2
 .rename_i hl;cases e2;refine h S Z Y J xs _ hE e1 λ ds S1 s1 r1=>⟨by rw[r1.len];exact hl,hq _ S1 s1 (Cl.of (λ _=>nofun) (pR r1))⟩
 .cases e2
def cx (h:p8 g u):xq (wg g) (aG u):=λ S Z Y J y Q hE e hq=>by
 obtain⟨xs,e1,e2⟩:=zOb e;split at e2
 .rename_i hl;cases e2;refine h S Z Y J xs _ hE e1 λ ds S1 s1 r1=>⟨by rw[r1.len];exact hl,λ p hp=>hq _ _ (s1.trans (.new hp _)) (Cl.cl s1 (sr (hE.grow s1).zd hp r1))⟩
 .cases e2
end
@[simp] noncomputable def zx (F:List T->Option T) (g:Ev->Option (List T)):Ev->Option T:=fun J=>(g J).bind F
def vW (R:Rk) (F:List T->Option T) (f:xx):Prop:=∀ S Z ys z ds Q,(∀ a,Z a->S a≠none)->p0 S Z ys ds->F ys=some z->(∀ c S',Sx S S'->R S S' Z z c->Q c S')->f ds S Q
def o3 {R:Rk} [Cl R] {F:List T->Option T}{f:xx}{g:Ev->Option (List T)}{u:yk}(hf:vW R F f) (h:qj g u):xl R (zx F g) (xA f u):=λ S Z Y J y Q hE e hq=>by
 obtain⟨xs,e1,e2⟩:=zOb e;refine h S Z Y J xs _ hE e1 λ ds S1 s1 r1=>?_;exact hf S1 Z xs y ds Q (hE.grow s1).zd r1 e2 λ c S' s r=>hq c S' (s1.trans s) (Cl.cl s1 r)
@[simp] noncomputable def vI:List T->Option T
 | [.str z]=>if z.length<=sizeLine then some (.int z.length) else none
 | [y]=>(x_ y).map λ ts=>.int ts.length
 | _=>none
def v_ {S:SS}{Z:Addr->Prop}{y:T}{ds:List D}(h:p0 S Z [y] ds):∃ d,ds=[d]/\Vw S Z y d:=by
 obtain⟨c,cs,rfl,h1,h2⟩:=h;cases h2;exact⟨c,rfl,h1⟩
def Yj {S:SS}{Z:Addr->Prop}{y z:T}{ds:List D}(h:p0 S Z [y,z] ds):∃ d e,ds=[d,e]/\Vw S Z y d/\Vw S Z z e:=by
 obtain⟨c,cs,rfl,h1,c2,cs2,rfl,h2,h3⟩:=h;cases h3;exact⟨c,c2,rfl,h1,h2⟩
def bM:vW zH vI vO:=λ S Z ys z ds Q hz hv e hq=>by
 unfold vI at e;split at e
 .obtain⟨d,rfl,h1⟩:=v_ hv;split at e
  .rename_i hl;cases e;cases h1.str;exact⟨hl,hq _ S (.refl S) (Cl.of (λ _=>nofun) xS)⟩
  .cases e
 .obtain⟨d,rfl,h1⟩:=v_ hv;obtain⟨ts,e1,rfl⟩:=zOm e;obtain⟨es,h2,h3⟩:=h1.seq e1;refine Rn h2 ?_;rw[h3.len];exact hq _ S (.refl S) (Cl.of (λ _=>nofun) xS)
 .cases e
@[simp] noncomputable def listS:List T->Option T
 | [y]=>(x_ y).map .lst
 | _=>none
def SM:vW zH listS vN:=λ S Z ys z ds Q hz hv e hq=>by
 unfold listS at e;split at e
 .obtain⟨d,rfl,h1⟩:=v_ hv;obtain⟨ts,e1,rfl⟩:=zOm e;obtain⟨es,h2,h3⟩:=h1.seq e1;exact Rm h2 λ p hp=>hq _ _ (.new hp _) (sr hz hp h3)
 .cases e
@[simp] noncomputable def tj:List T->Option T
 | [y]=>(x_ y).map .tup
 | _=>none
def SE:vW zH tj vM:=λ S Z ys z ds Q hz hv e hq=>by
 unfold tj at e;split at e
 .rename_i y;obtain⟨d,rfl,h1⟩:=v_ hv;obtain⟨ts,e1,rfl⟩:=zOm e;obtain⟨es,h2,h3⟩:=h1.seq e1;have k:Q (.tup es) S:=hq _ S (.refl S) (Cl.of (λ _=>nofun) (pR h3));unfold yf at h2;split at h2
  .cases h2;exact k
  .cases h2;exact k
  .split at h2
   .rename_i q;cases h2;exact Rl q k
   .cases h2
  .cases h2
 .cases e
@[simp] noncomputable def qV (g:Int->Int->Int):List T->Option T
 | [.int i,.int j]=>some (.int (g i j))
 | _=>none
def bO {g:Int->Int->Int}:vW zH (qV g) (vw λ i j=>.int (g i j)):=λ S Z ys z ds Q hz hv e hq=>by
 unfold qV at e;split at e
 .obtain⟨d,d',rfl,h1,h2⟩:=Yj hv;cases e;cases h1.int;cases h2.int;exact hq _ S (.refl S) (Cl.of (λ _=>nofun) xS)
 .cases e
@[simp] noncomputable def uE:List T->Option T:=qV λ i j=>if j>i then j else i
@[simp] noncomputable def oA:List T->Option T:=qV λ i j=>if j<i then j else i
structure FR (S0:SS) (Z0:Addr->Prop) (S:SS) (Z:Addr->Prop) (Y:yc) (J:Ev):Prop where
 er:ER S Z Y J
 len:Y.length=J.length
 sx:Sx S0 S
 z0:∀ a,Z0 a->S0 a≠none
 zz:∀ a,Z0 a->Z a
 zn:∀ a,Z a->Z0 a\/S0 a=none
 fr:∀ (i:Nat) ts p,J[i]?=some (some (.own ts))->Y[i]?=some (some (.ref p))->S0 p=none
 dj:∀ (i j:Nat) ts us p,i≠j->J[i]?=some (some (.own ts))->J[j]?=some (some (.own us))->Y[i]?=some (some (.ref p))->Y[j]?=some (some (.ref p))->False
def yN {α:Type}{l:List α}{i j:Nat}{a b:α}(h:(l.set i a)[j]?=some b):(i=j/\i<l.length/\b=a)\/(i≠j/\l[j]?=some b):=by
 rw[List.getElem?_set] at h;by_cases e:i=j
 .subst e;rw[if_pos rfl] at h;by_cases hl:i<l.length
  .rw[if_pos hl] at h;cases h;exact .inl ⟨rfl,hl,rfl⟩
  .rw[if_neg hl] at h;cases h
 .rw[if_neg e] at h;exact .inr ⟨e,h⟩
def wJ {α:Type}{l:List α}{i j:Nat}{a:α}(h:i≠j):(l.set i a)[j]?=l[j]?:=by rw[List.getElem?_set,if_neg h]
def qX {α:Type}{l:List α}{i:Nat}{a:α}(h:i<l.length):(l.set i a)[i]?=some a:=by rw[List.getElem?_set,if_pos rfl,if_pos h]
section
variable {S0 S S':SS}{Z0 Z:Addr->Prop}{Y:yc}{J:Ev}{y:T}{d:D}
theorem FR.grow (h:FR S0 Z0 S Z Y J) (s:Sx S S'):FR S0 Z0 S' Z Y J:=⟨h.er.grow s,h.len,h.sx.trans s,h.z0,h.zz,h.zn,h.fr,h.dj⟩
def FR.u6 (h:FR S0 Z0 S Z Y J) (i:Nat) (r:Sn (zM S Z) y d):FR S0 Z0 S Z (Y.set i (some d)) (J.set i (some (.im y))):=by
 refine⟨⟨h.er.zd,λ j t e=>?_,λ j ts e=>?_⟩,by simp[h.len],h.sx,h.z0,h.zz,h.zn,λ j ts p e e'=>?_,λ j k ts us p n e1 e2 e3 e4=>?_⟩
 .rcases yN e with ⟨rfl,hl,e⟩ | ⟨n,e⟩
  .cases e;exact⟨d,qX (by rw[h.len];exact hl),r⟩
  .rw[wJ n];exact h.er.im j t e
 .rcases yN e with ⟨rfl,hl,e⟩ | ⟨n,e⟩
  .cases e
  .rw[wJ n];exact h.er.ow j ts e
 .rcases yN e with ⟨rfl,hl,e⟩ | ⟨n,e⟩
  .cases e
  .rw[wJ n] at e';exact h.fr j ts p e e'
 .rcases yN e1 with ⟨rfl,hl,e⟩ | ⟨n1,e1⟩
  .cases e
  rcases yN e2 with ⟨rfl,hl,e⟩ | ⟨n2,e2⟩
  .cases e
  rw[wJ n1] at e3;rw[wJ n2] at e4;exact h.dj j k ts us p n e1 e2 e3 e4
def FR.eW {ts:C}{ds:O}{p:Addr}(h:FR S0 Z0 S Z Y J) (s:Sx S S') (i:Nat) (hp:S p=none) (hd:S' p=some ds) (r:uS (zM S' λ a=>Z a\/a=p) ts ds):
  FR S0 Z0 S' (λ a=>Z a\/a=p) (Y.set i (some (.ref p))) (J.set i (some (.own ts))):=by
 have np:∀ (j:Nat) us q,J[j]?=some (some (.own us))->Y[j]?=some (some (.ref q))->q≠p:=λ j us q e e' z=>by
  subst z;obtain⟨p',ds',h1,h2,_⟩:=h.er.ow j us e;rw[e'] at h1;cases h1;rw[hp] at h2;cases h2
 refine⟨⟨λ a z=>?_,λ j t e=>?_,λ j us e=>?_⟩,by simp[h.len],h.sx.trans s,h.z0,λ a z=>.inl (h.zz a z),λ a z=>z.elim (h.zn a) (λ q=>.inr (by subst q;exact h.sx.none hp)),λ j us q e e'=>?_,λ j k us vs q n e1 e2 e3 e4=>?_⟩
 .rcases z with z | rfl
  .exact λ q=>h.er.zd a z (s.none q)
  .rw[hd];nofun
 .rcases yN e with ⟨rfl,hl,e⟩ | ⟨n,e⟩
  .cases e
  .rw[wJ n];obtain⟨d,h1,h2⟩:=h.er.im j t e;exact⟨d,h1,Sn.sx (qW s hp) t h2⟩
 .rcases yN e with ⟨rfl,hl,e⟩ | ⟨n,e⟩
  .cases e;exact⟨p,ds,qX (by rw[h.len];exact hl),hd,r,.inr rfl⟩
  .rw[wJ n];obtain⟨q,es,h1,h2,h3,h4⟩:=h.er.ow j us e;exact⟨q,es,h1,s _ _ h2,uS.sx (qW s hp) h3,.inl h4⟩
 .rcases yN e with ⟨rfl,hl,e⟩ | ⟨n,e⟩
  .rw[qX (by rw[h.len];exact hl)] at e';cases e';exact h.sx.none hp
  .rw[wJ n] at e';exact h.fr j us q e e'
 .rcases yN e1 with ⟨rfl,hl,e⟩ | ⟨n1,e1⟩
  .rcases yN e2 with ⟨rfl,_,_⟩ | ⟨n2,e2⟩
   .exact n rfl
   .rw[qX (by rw[h.len];exact hl)] at e3;cases e3;rw[wJ n2] at e4;exact np k vs p e2 e4 rfl
  .rcases yN e2 with ⟨rfl,hl,_⟩ | ⟨n2,e2⟩
   .rw[qX (by rw[h.len];exact hl)] at e4;cases e4;rw[wJ n1] at e3;exact np j us p e1 e3 rfl
   .rw[wJ n1] at e3;rw[wJ n2] at e4;exact h.dj j k us vs q n e1 e2 e3 e4
def FR.forget (h:FR S0 Z0 S Z Y J) (i:Nat):FR S0 Z0 S Z Y (J.set i none):=by
 refine⟨⟨h.er.zd,λ j t e=>?_,λ j ts e=>?_⟩,by simp[h.len],h.sx,h.z0,h.zz,h.zn,λ j ts p e e'=>?_,λ j k ts us p n e1 e2 e3 e4=>?_⟩
 .rcases yN e with ⟨rfl,hl,e⟩ | ⟨n,e⟩
  .cases e
  .exact h.er.im j t e
 .rcases yN e with ⟨rfl,hl,e⟩ | ⟨n,e⟩
  .cases e
  .exact h.er.ow j ts e
 .rcases yN e with ⟨rfl,hl,e⟩ | ⟨n,e⟩
  .cases e
  .exact h.fr j ts p e e'
 .rcases yN e1 with ⟨rfl,hl,e⟩ | ⟨n1,e1⟩
  .cases e
  rcases yN e2 with ⟨rfl,hl,e⟩ | ⟨n2,e2⟩
  .cases e
  exact h.dj j k ts us p n e1 e2 e3 e4
@[simp] noncomputable def y7 (is:List Nat) (J:Ev):Ev:=is.foldl (fun J i=>J.set i none) J
theorem FR.y7:∀ (is:List Nat) {J:Ev},FR S0 Z0 S Z Y J->FR S0 Z0 S Z Y (y7 is J)
 | [],_,h=>h
 | i::is,_,h=>FR.y7 is (h.forget i)
def FR.freeze {ts:List T}{p:Addr}(h:FR S0 Z0 S Z Y J) (i:Nat) (e:J[i]?=some (some (.own (.lst ts)))) (ed:Y[i]?=some (some (.ref p))):
  FR S0 Z0 S (λ a=>Z a/\a≠p) Y (J.set i (some (.im (.lst ts))))/\Sn (zM S λ a=>Z a/\a≠p) (.lst ts) (.ref p):=by
 obtain⟨p',o,h1,h2,h3,h4⟩:=h.er.ow i _ e;rw[ed] at h1;cases h1;obtain⟨ds,rfl⟩:∃ ds,o=.lst ds:=by
  cases o with
  | lst ds=>exact⟨ds,rfl⟩
  | ya _=>exact h3.elim
 replace h3:zl (zM S Z) ts ds:=h3;have hS:Sn (zM S λ a=>Z a/\a≠p) (.lst ts) (.ref p):=by
  simp only[Sn];exact⟨ds,.inr ⟨p,rfl,by rw[vL (λ z=>z.2 rfl)];exact h2⟩,zl.sx (uG λ a z=>z.1) ts h3⟩
 refine⟨?_,hS⟩;refine⟨⟨λ a z=>h.er.zd a z.1,λ j t e'=>?_,λ j us e'=>?_⟩,by simp[h.len],h.sx,h.z0,λ a z=>⟨h.zz a z,λ q=>?_⟩,λ a z=>h.zn a z.1,λ j us q e' ed'=>?_,λ j k us vs q n e1 e2 e3 e4=>?_⟩
 .rcases yN e' with ⟨rfl,hl,e'⟩ | ⟨n,e'⟩
  .cases e';exact⟨_,ed,hS⟩
  .obtain⟨d,g1,g2⟩:=h.er.im j t e';exact⟨d,g1,Sn.sx (uG λ a z=>z.1) t g2⟩
 .rcases yN e' with ⟨rfl,hl,e'⟩ | ⟨n,e'⟩
  .cases e'
  .obtain⟨q,es,g1,g2,g3,g4⟩:=h.er.ow j us e';exact⟨q,es,g1,g2,uS.sx (uG λ a z=>z.1) g3,g4,λ z=>by subst z;exact h.dj i j _ us q n e e' ed g1⟩
 .subst q;exact h.z0 a z (h.fr i _ a e ed)
 .rcases yN e' with ⟨rfl,hl,e'⟩ | ⟨n,e'⟩
  .cases e'
  .exact h.fr j us q e' ed'
 .rcases yN e1 with ⟨rfl,hl,e⟩ | ⟨n1,e1⟩
  .cases e
  rcases yN e2 with ⟨rfl,hl,e⟩ | ⟨n2,e2⟩
  .cases e
  exact h.dj j k us vs q n e1 e2 e3 e4
def FR.mut {ts us:C}{es:O}{p:Addr}(h:FR S0 Z0 S Z Y J) (i:Nat) (e:J[i]?=some (some (.own ts))) (ed:Y[i]?=some (some (.ref p))) (r:uS (zM S Z) us es):
  FR S0 Z0 (ups S p es) Z Y (J.set i (some (.own us))):=by
 obtain⟨p',ds,h1,h2,h3,h4⟩:=h.er.ow i ts e;rw[ed] at h1;cases h1;have hh:zM (ups S p es) Z=zM S Z:=Sy h4;have hpn:=h.fr i ts p e ed;refine⟨⟨λ a z=>?_,λ j t e'=>?_,λ j vs e'=>?_⟩,by simp[h.len],λ b o q=>?_,h.z0,h.zz,h.zn,λ j vs q e' ed'=>?_,λ j k vs ws q n e1 e2 e3 e4=>?_⟩
 .by_cases hp:a=p
  .subst hp;rw[tY];nofun
  .rw[u_ hp];exact h.er.zd a z
 .rw[hh];rcases yN e' with ⟨rfl,hl,e'⟩ | ⟨n,e'⟩
  .cases e'
  .exact h.er.im j t e'
 .rw[hh];rcases yN e' with ⟨rfl,hl,e'⟩ | ⟨n,e'⟩
  .cases e';exact⟨p,es,ed,tY,r,h4⟩
  .obtain⟨q,es',g1,g2,g3,g4⟩:=h.er.ow j vs e';refine⟨q,es',g1,?_,g3,g4⟩;rw[u_ (λ z=>by subst z;exact h.dj i j ts vs q n e e' ed g1)];exact g2
 .rw[u_ (λ z=>by subst z;rw[hpn] at q;cases q)];exact h.sx b o q
 .rcases yN e' with ⟨rfl,hl,_⟩ | ⟨n,e'⟩
  .rw[ed] at ed';cases ed';exact hpn
  .exact h.fr j vs q e' ed'
 .rcases yN e1 with ⟨rfl,hl,_⟩ | ⟨n1,e1⟩
  .rcases yN e2 with ⟨rfl,hl,_⟩ | ⟨n2,e2⟩
   .exact n rfl
   .exact h.dj _ k ts ws q n e e2 e3 e4
  .rcases yN e2 with ⟨rfl,hl,_⟩ | ⟨n2,e2⟩
   .exact h.dj j _ vs ts q n e1 e e3 e4
   .exact h.dj j k vs ws q n e1 e2 e3 e4
noncomputable def jj (S0 S:SS) (Z:Addr->Prop):SS:=open Classical in λ a=>if S0 a=none/\Z a then none else S a
def mM {a:Addr}(h:¬ (S0 a=none/\Z a)):jj S0 S Z a=S a:=if_neg h
def ji {a:Addr}(h:S0 a=none/\Z a):jj S0 S Z a=none:=if_pos h
def FR.rebase (h:FR S0 Z0 S Z Y J):∃ S1,Sx S0 S1/\FR S1 Z0 S Z Y J/\Sx (zM S Z) S1:=by
 refine⟨jj S0 S Z,λ b o q=>?_,⟨h.er,h.len,λ b o q=>?_,λ a z=>?_,h.zz,λ a z=>?_,λ i ts p e ed=>?_,h.dj⟩,λ b o q=>?_⟩
 .rw[mM (λ z=>by rw[z.1] at q;cases q)];exact h.sx _ _ q
 .by_cases w:S0 b=none/\Z b
  .rw[ji w] at q;cases q
  .rw[mM w] at q;exact q
 .rw[mM (λ q=>h.z0 a z q.1)];exact h.er.zd a (h.zz a z)
 .rcases h.zn a z with w | w
  .exact .inl w
  .exact .inr (ji ⟨w,z⟩)
 .obtain⟨p',ds,h1,h2,h3,h4⟩:=h.er.ow i ts e;rw[ed] at h1;cases h1;exact ji ⟨h.fr i ts p e ed,h4⟩
 .obtain⟨q1,q2⟩:=uF q;rw[mM (λ z=>q1 z.2)];exact q2
def FR.back {S1:SS}(h:FR S1 Z0 S Z Y J) (s:Sx S0 S1) (z0:∀ a,Z0 a->S0 a≠none):FR S0 Z0 S Z Y J:=⟨h.er,h.len,s.trans h.sx,z0,h.zz,λ a z=>(h.zn a z).imp id s.none,λ i ts p e ed=>s.none (h.fr i ts p e ed),h.dj⟩
def FR.Xe {S1:SS}{Z1:Addr->Prop}(h:FR S0 Z0 S Z Y J) (b:Sx (zM S1 Z1) S0) (zz:∀ a,Z0 a->Z1 a):Sx (zM S1 Z1) (zM S Z):=λ a o q=>by
 have q0:=b _ _ q;obtain⟨q1,q2⟩:=uF q;rw[vL]
 .exact h.sx _ _ q0
 .intro z;rcases h.zn a z with w | w
  .exact q1 (zz a w)
  .rw[w] at q0;cases q0
end
inductive Out where
 | nx (J:Ev) | rt (t:T) | bk (J:Ev) | ct (J:Ev)
abbrev Sm:=Ev->Option Out
def QB (R:Rk) (S0:SS) (Z0:Addr->Prop) (o:Out) (E:rj):Prop:=match o with
 | .nx J=>∀ S Z Y,FR S0 Z0 S Z Y J->E.nx Y S
 | .bk J=>∀ S Z Y,FR S0 Z0 S Z Y J->E.bk Y S
 | .ct J=>∀ S Z Y,FR S0 Z0 S Z Y J->E.ct Y S
 | .rt y=>∀ d S,Sx S0 S->R S0 S Z0 y d->E.rt d S
def yD (R:Rk) (g:Sm) (t:yI):Prop:=∀ S0 Z0 S Z Y J o E,FR S0 Z0 S Z Y J->g J=some o->QB R S0 Z0 o E->t E Y S
class Lo (R:Rk):Prop extends Cl R where
 lo:∀ {S0 S S':SS}{Z0 Z:Addr->Prop}{y:T}{d:D},Sx S0 S->(∀ a,Z0 a->Z a)->R S S' Z y d->R S0 S' Z0 y d
instance:Lo xO:=⟨λ _ z h=>Sn.sx (uG z) _ h⟩
instance:Lo zH:=⟨λ s z h=>⟨Sn.sx (uG z) _ h.1,λ ts e=>by
 obtain⟨p,ds,h1,h2,h3,h4⟩:=h.2 ts e;exact⟨p,ds,h1,s.none h2,h3,zl.sx (uG λ a q=>q.imp (z a) id) ts h4⟩⟩⟩
@[simp] noncomputable def zv (g h:Sm):Sm:=fun J=>(g J).bind λ o=>match o with
 | .nx J'=>h J'
 | o=>some o
@[simp] noncomputable def xg:Sm:=fun J=>some (.nx J)
@[simp] noncomputable def zZ (i:Nat) (f:Ev->Option T):Sm:=fun J=>(f J).map λ y=>.nx (J.set i (some (.im y)))
@[simp] noncomputable def vQ (i:Nat) (f:Ev->Option T):Sm:=fun J=>(f J).bind λ y=>match y with
 | .lst ts=>some (.nx (J.set i (some (.own (.lst ts)))))
 | y=>some (.nx (J.set i (some (.im y))))
@[simp] noncomputable def iU (f:Ev->Option T):Sm:=fun J=>(f J).map λ _=>.nx J
@[simp] noncomputable def retS (f:Ev->Option T):Sm:=fun J=>(f J).map .rt
@[simp] noncomputable def rC (i:Nat):Sm:=fun J=>match J[i]? with
 | some (some (.own (.lst ts)))=>some (.rt (.lst ts))
 | _=>none
@[simp] noncomputable def xi (c:Ev->Option Bool) (g h:Sm):Sm:=fun J=>(c J).bind λ b=>if b=true then g J else h J
@[simp] noncomputable def iJ (i:Nat) (J:Ev):Ev:=match J[i]? with
 | some (some (.own (.lst ts)))=>J.set i (some (.im (.lst ts)))
 | _=>J
@[simp] noncomputable def iI (i:Nat) (g:Sm):Sm:=fun J=>g (iJ i J)
section
variable {R:Rk}{g h:Sm}{t u:yI}{f:Ev->Option T}{te:zt}
def wW (hg:yD R g t) (hh:yD R h u):yD R (zv g h) (ng t u):=λ S0 Z0 S Z Y J o E F e P=>by
 obtain⟨o1,e1,e2⟩:=zOb e;refine hg S0 Z0 S Z Y J o1 { E with nx:=u E } F e1 ?_;cases o1 with
 | nx J1=>exact λ S1 Z1 Y1 F1=>hh S0 Z0 S1 Z1 Y1 J1 o E F1 e2 P
 | rt y=>cases e2;exact P
 | bk y=>cases e2;exact P
 | ct y=>cases e2;exact P
def jB:yD R xg aD:=λ S0 Z0 S Z Y J o E F e P=>by cases e;exact P S Z Y F
def sC (i:Nat) (hf:vf f te):yD R (zZ i f) (va te (hName i)):=λ S0 Z0 S Z Y J o E F e P=>by
 obtain⟨y,e1,rfl⟩:=zOm e;exact hf S Z Y J y _ F.er e1 λ d S1 s1 r1=>P S1 Z _ ((F.grow s1).u6 i r1)
def cp (i:Nat) (hf:xq f te):yD R (vQ i f) (va te (hName i)):=λ S0 Z0 S Z Y J o E F e P=>by
 obtain⟨y,e1,e2⟩:=zOb e;refine hf S Z Y J y _ F.er e1 λ d S1 s1 r1=>?_;cases y with
 | lst ts=>
  cases e2;obtain⟨p,ds,rfl,h1,h2,h3⟩:=r1.2 ts rfl;exact P S1 _ _ (F.eW (ts:=.lst ts) (ds:=.lst ds) s1 i h1 h2 h3)
 | zi=>cases e2;exact P S1 Z _ ((F.grow s1).u6 i r1.1)
 | bl _=>cases e2;exact P S1 Z _ ((F.grow s1).u6 i r1.1)
 | int _=>cases e2;exact P S1 Z _ ((F.grow s1).u6 i r1.1)
 | str _=>cases e2;exact P S1 Z _ ((F.grow s1).u6 i r1.1)
 | tup _=>cases e2;exact P S1 Z _ ((F.grow s1).u6 i r1.1)
 | zO=>cases e2;exact P S1 Z _ ((F.grow s1).u6 i r1.1)
def VI (hf:yy f te):yD R (iU f) (lL te):=λ S0 Z0 S Z Y J o E F e P=>by
 obtain⟨y,e1,rfl⟩:=zOm e;exact hf S Z Y J y _ F.er e1 λ d S1 s1 r1=>P S1 Z _ (F.grow s1)
def jC [Lo R] (hf:xl R f te):yD R (retS f) (iY te):=λ S0 Z0 S Z Y J o E F e P=>by
 obtain⟨y,e1,rfl⟩:=zOm e;exact hf S Z Y J y _ F.er e1 λ d S1 s1 r1=>P d S1 (F.sx.trans s1) (Lo.lo F.sx F.zz r1)
def lb (i:Nat):yD zH (rC i) (iY (y8 i)):=λ S0 Z0 S Z Y J o E F e P=>by
 unfold rC at e;split at e
 .rename_i ts h;cases e;obtain⟨p,ob,h1,h2,h3,h4⟩:=F.er.ow i _ h;obtain⟨ds,rfl⟩:∃ ds,ob=.lst ds:=by
   cases ob with
   | lst ds=>exact⟨ds,rfl⟩
   | ya _=>exact h3.elim
  replace h3:zl (zM S Z) ts ds:=h3;have hn:=F.fr i _ p h h1;have nz:¬ Z0 p:=λ z=>F.z0 p z hn;show y8 i Y S E.rt;unfold y8;rw[h1];refine P _ S F.sx ⟨?_,λ us e=>?_⟩
  .simp only[Sn];exact⟨ds,.inr ⟨p,rfl,by rw[vL nz];exact h2⟩,zl.sx (uG F.zz) ts h3⟩
  .cases e;exact⟨p,ds,rfl,hn,h2,zl.sx (uG λ a q=>q.elim (F.zz a) λ q=>q▸h4) ts h3⟩
 .cases e
def jD {c:Ev->Option Bool}{tc:y9}(hc:wO c tc) (hg:yD R g t) (hh:yD R h u):yD R (xi c g h) (aI tc t u):=λ S0 Z0 S Z Y J o E F e P=>by
 obtain⟨b,e1,e2⟩:=zOb e;refine hc S Z Y J b _ F.er e1 λ S1 s1=>?_;split at e2
 .rename_i hb;rw[if_pos hb];exact hg S0 Z0 S1 Z Y J o E (F.grow s1) e2 P
 .rename_i hb;rw[if_neg hb];exact hh S0 Z0 S1 Z Y J o E (F.grow s1) e2 P
def FR.fz {S0 S:SS}{Z0 Z:Addr->Prop}{Y:yc}{J:Ev}(F:FR S0 Z0 S Z Y J) (i:Nat):∃ Z',FR S0 Z0 S Z' Y (iJ i J):=by
 unfold iJ;split
 .rename_i ts h;obtain⟨p,ds,h1,_⟩:=F.er.ow i _ h;exact⟨_,(F.freeze i h h1).1⟩
 .exact⟨Z,F⟩
def VG (i:Nat) (hg:yD R g t):yD R (iI i g) t:=λ S0 Z0 S Z Y J o E F e P=>by
 obtain⟨Z',F'⟩:=F.fz i;exact hg S0 Z0 S Z' Y _ o E F' e P
def nP (g:T->Ev->Option Ev) (t:y_):Prop:=∀ S0 Z0 S Z Y J J' y d Q,FR S0 Z0 S Z Y J->Sn (zM S Z) y d->g y J=some J'->(∀ Y',FR S0 Z0 S Z Y' J'->Q Y' S)->t d Y S Q
def lS (g:List T->Ev->Option Ev) (t:wy):Prop:=∀ S0 Z0 S Z Y J J' ys ds Q,FR S0 Z0 S Z Y J->zl (zM S Z) ys ds->g ys J=some J'->(∀ Y',FR S0 Z0 S Z Y' J'->Q Y' S)->t ds Y S Q
@[simp] noncomputable def zD (i:Nat):T->Ev->Option Ev:=λ y J=>some (J.set i (some (.im y)))
@[simp] noncomputable def vn:List T->Ev->Option Ev
 | [],J=>some J
 | _::_,_=>none
@[simp] noncomputable def yH (g:T->Ev->Option Ev) (h:List T->Ev->Option Ev):List T->Ev->Option Ev
 | y::ys,J=>(g y J).bind fun J'=>h ys J'
 | [],_=>none
@[simp] noncomputable def w9 (n:Nat) (g:List T->Ev->Option Ev):T->Ev->Option Ev
 | .tup ys,J=>if ys.length=n then g ys J else none
 | _,_=>none
def qK (i:Nat):nP (zD i) (hName i):=λ S0 Z0 S Z Y J J' y d Q F r e hq=>by cases e;exact hq _ (F.u6 i r)
def cq:lS vn iz:=λ S0 Z0 S Z Y J J' ys ds Q F r e hq=>by
 cases ys with
 | nil=>simp only[zl] at r;subst r;cases e;exact⟨rfl,hq _ F⟩
 | cons _ _=>cases e
def jG {g:T->Ev->Option Ev}{h:List T->Ev->Option Ev}{t:y_}{u:wy}(hg:nP g t) (hh:lS h u):lS (yH g h) (i3 t u):=λ S0 Z0 S Z Y J J' ys ds Q F r e hq=>by
 cases ys with
 | nil=>cases e
 | cons y ys=>
  simp only[zl] at r;obtain⟨c,cs,rfl,r1,r2⟩:=r;obtain⟨J1,e1,e2⟩:=zOb e;exact hg S0 Z0 S Z Y J J1 y c _ F r1 e1 fun Y1 F1=>hh S0 Z0 S Z Y1 J1 J' ys cs Q F1 r2 e2 hq
def cu {n:Nat}{g:List T->Ev->Option Ev}{t:wy}(hg:lS g t):nP (w9 n g) (l8 n t):=λ S0 Z0 S Z Y J J' y d Q F r e hq=>by
 cases y with
 | tup ys=>
  simp only[Sn] at r;obtain⟨ds,rfl,r⟩:=r;simp only[w9] at e;split at e
  .rename_i hl;exact⟨by rw[r.len];exact hl,hg S0 Z0 S Z Y J J' ys ds Q F r e hq⟩
  .cases e
 | zi=>cases e
 | bl _=>cases e
 | int _=>cases e
 | str _=>cases e
 | lst _=>cases e
 | zO=>cases e
@[simp] noncomputable def eE (f:Ev->Option T) (g:T->Ev->Option Ev):Sm:=fun J=>(f J).bind λ y=>(g y J).map .nx
def cn {g:T->Ev->Option Ev}{tg:y_}(hf:vf f te) (hg:nP g tg):yD R (eE f g) (va te tg):=λ S0 Z0 S Z Y J o E F e P=>by
 obtain⟨y,e1,e2⟩:=zOb e;obtain⟨J',e3,rfl⟩:=zOm e2;exact hf S Z Y J y _ F.er e1 λ d S1 s1 r1=>hg S0 Z0 S1 Z Y J J' y d _ (F.grow s1) r1 e3 fun Y' F'=>P S1 Z Y' F'
def qh (free:Bool) (f:Ev->Option (List T)) (ti:wx):Prop:=∀ S Z Y J ts Q,ER S Z Y J->f J=some ts->(∀ I S',Sx S S'->zl (zM S' Z) ts I.items->(∀ S'',Sx (if free=true then zM S' Z else S') S''->I.keep S'')->Q I S')->ti Y S Q
@[simp] noncomputable def xh (f:Ev->Option T):Ev->Option (List T):=fun J=>(f J).bind x_
def VM {f:Ev->Option T}{te:zt}(hf:yy f te):qh false (xh f) (ie te):=λ S Z Y J ts Q hE e hq=>by
 obtain⟨y,e1,e2⟩:=zOb e;refine hf S Z Y J y _ hE e1 λ d S1 s1 r1=>?_;cases y with
 | tup us=>
  cases e2;obtain⟨ds,rfl,h2⟩:=Vw.tup r1;exact hq _ S1 s1 h2 λ _ _=>trivial
 | lst us=>
  cases e2;obtain⟨ds,rfl | ⟨a,rfl,h1⟩,h2⟩:=Vw.lst r1
  .exact hq _ S1 s1 h2 λ _ _=>trivial
  .dsimp only;rw[h1];exact hq ⟨ds,_⟩ S1 s1 h2 λ S'' s=>s _ _ h1
 | zi=>cases e2
 | bl _=>cases e2
 | int _=>cases e2
 | str _=>cases e2
 | zO=>cases e2
def VN {f:Ev->Option T}{te:zt}(hf:vf f te):qh true (xh f) (ie te):=λ S Z Y J ts Q hE e hq=>by
 obtain⟨y,e1,e2⟩:=zOb e;refine hf S Z Y J y _ hE e1 λ d S1 s1 r1=>?_;cases y with
 | tup us=>
  cases e2;obtain⟨ds,rfl,h2⟩:=Vw.tup (.inl r1);exact hq _ S1 s1 h2 λ _ _=>trivial
 | lst us=>
  cases e2;have r2:=r1;unfold xO at r2;simp only[Sn] at r2;obtain⟨ds,⟨rfl,_⟩ | ⟨a,rfl,h1⟩,h2⟩:=r2
  .exact hq _ S1 s1 h2 λ _ _=>trivial
  .dsimp only;rw[(uF h1).2];exact hq ⟨ds,_⟩ S1 s1 h2 λ S'' s=>s _ _ h1
 | zi=>cases e2
 | bl _=>cases e2
 | int _=>cases e2
 | str _=>cases e2
 | zO=>cases e2
noncomputable def rangeT (lo:Int) (n:Nat):List T:=(List.range n).map λ(k:Nat)=>T.int (lo+(k:Int))
def eQ {S:SS}(lo:Int) (n:Nat):zl S (rangeT lo n) (vl lo n):=by
 unfold rangeT vl
 induction List.range n with
 | nil=>exact .nil
 | cons k l ih=>exact .cons xS ih
noncomputable def inR (j:Int):Bool:=decide (-100000000<=j)&&decide (j<=100000000)
def bH {j:Int}:inR j=true↔-100000000<=j/\j<=100000000:=by simp[inR]
def Sk {j:Int}(h:inR j=true):-(2 ^ 62)<=j/\j<2 ^ 62:=by have:=bH.mp h;omega
noncomputable def t8:List T->Option (List T)
 | [.int j]=>if inR j=true then some (rangeT 0 j.toNat) else none
 | _=>none
@[simp] noncomputable def wX (F:List T->Option (List T)) (g:Ev->Option (List T)):Ev->Option (List T):=fun J=>(g J).bind F
def jF {b:Bool}{g:Ev->Option (List T)}{tA:yk}(h:qj g tA):qh b (wX t8 g) (ig tA):=λ S Z Y J ts Q hE e hq=>by
 obtain⟨ys,e1,e2⟩:=zOb e;refine h S Z Y J ys _ hE e1 λ ds S1 s1 r1=>?_;unfold t8 at e2;split at e2
 .split at e2
  .rename_i hc;cases e2;obtain⟨d,rfl,h1⟩:=v_ r1;cases h1.int;exact⟨Sk hc,hq _ S1 s1 (eQ _ _) λ _ _=>trivial⟩
  .cases e2
 .cases e2
noncomputable def xw (is:List Nat) (g:T->Ev->Option Ev) (b:Sm):List T->Ev->Option Out
 | [],J=>some (.nx (y7 is J))
 | y::ys,J=>(g y (y7 is J)).bind fun J1=>(b J1).bind λ o=>match o with
  | .nx J2=>xw is g b ys J2
  | .ct J2=>xw is g b ys J2
  | .bk J2=>some (.nx (y7 is J2))
  | .rt t=>some (.rt t)
@[simp] noncomputable def xV (is:List Nat) (f:Ev->Option (List T)) (g:T->Ev->Option Ev) (b:Sm):Sm:=fun J=>(f J).bind λ ts=>xw is g b ts J
def lg {is:List Nat}{fi:Ev->Option (List T)}{ti:wx}{g:T->Ev->Option Ev}{tg:y_}{b:Sm}{tb:yI} [Lo R] (hi:qh true fi ti) (hg:nP g tg) (hb:yD R b tb):yD R (xV is fi g b) (nj ti tg tb):=λ S0 Z0 S Z Y J o E F e P=>by
 obtain⟨ts,e1,e2⟩:=zOb e;refine hi S Z Y J ts _ F.er e1 λ I S1 s1 r1 hk=>?_;rw[if_pos rfl] at hk;obtain⟨SB,b1,FB,b2⟩:=(F.grow s1).rebase;have lo:∀ S' d y,R SB S' Z0 y d->R S0 S' Z0 y d:=λ S' d y r=>Lo.lo b1 (λ _ z=>z) r;have zz:=F.zz;refine⟨λ i Y' S'=>∃ Z' J',FR SB Z0 S' Z' Y' J'/\xw is g b (ts.drop i) J'=some o,⟨Z,J,FB,e2⟩,λ i Y' S' ⟨Z',J',F',_⟩=>hk S' (b2.trans F'.sx),λ i d Y' S' hd ⟨Z',J',F',e'⟩=>?_,fun Y' S' ⟨Z',J',F',e'⟩=>?_⟩
 .obtain⟨y,hy,r2⟩:=r1.iE hd;have hlt:=(zA2.mp hy).1;have hdt:ts.drop i=y::ts.drop (i+1):=by
   rw[List.drop_eq_getElem_cons hlt,(zA2.mp hy).2]
  rw[hdt] at e';unfold xw at e';obtain⟨J1,g1,e'⟩:=zOb e';obtain⟨o1,g2,e'⟩:=zOb e';refine hg SB Z0 S' Z' Y' _ J1 y d _ (F'.y7 is) (Sn.sx (F'.Xe b2 zz) y r2) g1 fun Y2 F2=>?_
  refine hb SB Z0 S' Z' Y2 J1 o1 _ F2 g2 ?_;cases o1 with
  | nx J2=>exact λ S3 Z3 Y3 F3=>⟨Z3,J2,F3,e'⟩
  | ct J2=>exact λ S3 Z3 Y3 F3=>⟨Z3,J2,F3,e'⟩
  | bk J2=>cases e';exact λ S3 Z3 Y3 F3=>P S3 Z3 Y3 ((F3.y7 is).back b1 F.z0)
  | rt y=>cases e';exact λ d S3 s3 r3=>P d S3 (b1.trans s3) (lo _ _ _ r3)
 .rw[show I.items.length=ts.length from r1.len,List.drop_length] at e';unfold xw at e';cases e';exact P S' Z' Y' ((F'.y7 is).back b1 F.z0)
end
@[simp] noncomputable def xB (i:Nat) (f:Ev->Option T):Sm:=fun J=>match J[i]? with
 | some (some (.own (.lst ts)))=>(f J).bind λ y=>if ts.length<sizeLine then some (.nx (J.set i (some (.own (.lst (ts++[y])))))) else none
 | _=>none
section
variable {R:Rk}{f:Ev->Option T}{te:zt}
def jE (i:Nat) (hf:vf f te):yD R (xB i f) (lL (sU (y8 i) te)):=λ S0 Z0 S Z Y J o E F e P=>by
 unfold xB at e;split at e
 .rename_i ts h;obtain⟨y,e1,e2⟩:=zOb e;split at e2
  .rename_i hl;cases e2;obtain⟨p,ob,h1,h2,h3,h4⟩:=F.er.ow i _ h;obtain⟨ds,rfl⟩:∃ ds,ob=.lst ds:=by
    cases ob with
    | lst ds=>exact⟨ds,rfl⟩
    | ya _=>exact h3.elim
   replace h3:zl (zM S Z) ts ds:=h3;show sU (y8 i) te Y S _;unfold sU y8;rw[h1];refine⟨⟨ds,h2⟩,hf S Z Y J y _ F.er e1 λ d S1 s1 r1=>?_⟩;dsimp only;rw[s1 _ _ h2];have F1:=F.grow s1;refine⟨by rw[h3.len];exact hl,P _ Z Y (F1.mut (us:=.lst (ts++[y])) (es:=.lst (ds++[d])) i h h1 ((zl.sx (wq s1) ts h3).append (.cons r1 .nil)))⟩
  .cases e2
 .cases e
end
def tM (pick:List (Option Nat)) (ti:wx) (g:y_) (tc:y9) (te:zt):zt:=fun Y S Q=>ti Y S λ I S1=>I.items.length<=sizeLine/\(∀ S,Sx S1 S->I.keep S)/\∀ p,S1 p=none->∃ W:Nat->SS->List D->Prop,W 0 S1 []/\
 (∀ i S S' acc,(∀ b o,b≠p->S b=some o->S' b=some o)->W i S acc->W i S' acc)/\
 (∀ i d S acc,I.items[i]?=some d->Sx S1 S->S p=some (.lst acc)->W i S acc->g d (vE pick Y) S fun Y2 S2=>qe (vE pick Y) Y2/\tc Y2 S2 λ b S3=>if b=true then te Y2 S3 λ y S4=>Sx S S4/\W (i+1) S4 (acc++[y]) else Sx S S3/\W (i+1) S3 acc)/\
 ∀ S2 acc,Sx S1 S2->S2 p=some (.lst acc)->W I.items.length S2 acc->Q (.ref p) S2
@[simp] noncomputable def oh (pick:List (Option Nat)) (J:Ev):Ev:=pick.map λ o=>o.bind λ i=>(J[i]?).join
noncomputable def rZ (h:T->Option (Option T)):List T->Option (List T)
 | []=>some []
 | y::ys=>(h y).bind λ o=>(rZ h ys).map λ zs=>match o with
  | some z=>z::zs
  | none=>zs
@[simp] noncomputable def tF (pick:List (Option Nat)) (g:T->Ev->Option Ev) (c:Ev->Option Bool) (f:Ev->Option T) (J:Ev) (y:T):Option (Option T):=
 (g y (oh pick J)).bind fun J2=>(c J2).bind λ b=>if b=true then (f J2).map some else some none
noncomputable def wo (pick:List (Option Nat)) (it:Ev->Option (List T)) (g:T->Ev->Option Ev) (c:Ev->Option Bool) (f:Ev->Option T):Ev->Option T:=fun J=>(it J).bind λ ts=>if ts.length<=sizeLine then (rZ (tF pick g c f J) ts).map .lst else none
@[simp] noncomputable def sV:Ev->Option Bool:=λ _=>some true
def VX:wO sV au:=λ S Z Y J y Q hE e hq=>by cases e;exact hq S (.refl S)
def lU (pick:List (Option Nat)) (g:T->Ev->Option Ev) (t:y_):Prop:=∀ B S Z Y J J' y d Q,(∀ i:Nat,pick[i]?=some none->B[i]?=some none)->qe B Y->Y.length=J.length->ER S Z Y J->Sn (zM S Z) y d->g y J=some J'->
 (∀ Y',ER S Z Y' J'->qe B Y'->Y'.length=J'.length->Q Y' S)->t d Y S Q
def lT (pick:List (Option Nat)) (g:List T->Ev->Option Ev) (t:wy):Prop:=∀ B S Z Y J J' y d Q,(∀ i:Nat,pick[i]?=some none->B[i]?=some none)->qe B Y->Y.length=J.length->ER S Z Y J->zl (zM S Z) y d->g y J=some J'->
 (∀ Y',ER S Z Y' J'->qe B Y'->Y'.length=J'.length->Q Y' S)->t d Y S Q
def ER.u6 {S:SS}{Z:Addr->Prop}{Y:yc}{J:Ev}{y:T}{d:D}(h:ER S Z Y J) (hl:Y.length=J.length) (i:Nat) (r:Sn (zM S Z) y d):ER S Z (Y.set i (some d)) (J.set i (some (.im y))):=by
 refine⟨h.zd,λ j t e=>?_,λ j ts e=>?_⟩
 .rcases yN e with ⟨rfl,hl',e⟩ | ⟨n,e⟩
  .cases e;exact⟨d,qX (by rw[hl];exact hl'),r⟩
  .rw[wJ n];exact h.im j t e
 .rcases yN e with ⟨rfl,hl',e⟩ | ⟨n,e⟩
  .cases e
  .rw[wJ n];exact h.ow j ts e
variable {pick:List (Option Nat)}
def VT (i:Nat) (hi:pick[i]?=some none:=by rfl):lU pick (zD i) (hName i):=λ B S Z Y J J' y d Q hB hs hl hE r e hq=>by
 cases e;refine hq _ (hE.u6 hl i r) ⟨by rw[List.length_set];exact hs.1,λ j c q=>?_⟩ (by simp[hl]);by_cases hj:i=j
 .subst hj;rw[hB i hi] at q;cases q
 .rw[wJ hj];exact hs.2 j c q
def VQ:lT pick vn iz:=λ B S Z Y J J' y d Q hB hs hl hE r e hq=>by
 cases y with
 | nil=>simp only[zl] at r;subst r;cases e;exact⟨rfl,hq _ hE hs hl⟩
 | cons _ _=>cases e
def VR {g:T->Ev->Option Ev}{h:List T->Ev->Option Ev}{t:y_}{u:wy}(hg:lU pick g t) (hh:lT pick h u):lT pick (yH g h) (i3 t u):=λ B S Z Y J J' y d Q hB hs hl hE r e hq=>by
 cases y with
 | nil=>cases e
 | cons y ys=>
  simp only[zl] at r;obtain⟨c,cs,rfl,r1,r2⟩:=r;obtain⟨J1,e1,e2⟩:=zOb e;exact hg B S Z Y J J1 y c _ hB hs hl hE r1 e1 fun Y1 E1 s1 l1=>hh B S Z Y1 J1 J' ys cs Q hB s1 l1 E1 r2 e2 hq
def VS {n:Nat}{g:List T->Ev->Option Ev}{t:wy}(hg:lT pick g t):lU pick (w9 n g) (l8 n t):=λ B S Z Y J J' y d Q hB hs hl hE r e hq=>by
 cases y with
 | tup ys=>
  simp only[Sn] at r;obtain⟨ds,rfl,r⟩:=r;simp only[w9] at e;split at e
  .rename_i hn;exact⟨by rw[r.len];exact hn,hg B S Z Y J J' ys ds Q hB hs hl hE r e hq⟩
  .cases e
 | zi=>cases e
 | bl _=>cases e
 | int _=>cases e
 | str _=>cases e
 | lst _=>cases e
 | zO=>cases e
def dH {J:Ev}{i:Nat}{w:W}(h:(oh pick J)[i]?=some (some w)):∃ j:Nat,pick[i]?=some (some j)/\J[j]?=some (some w):=by
 unfold oh at h;rw[zA3] at h;cases q:pick[i]? with
 | none=>rw[q] at h;cases h
 | some o=>
  rw[q] at h;cases o with
  | none=>simp at h
  | some j=>
   simp only[Option.map_some,zC9,Option.some.injEq] at h;refine⟨j,rfl,?_⟩;cases q2:J[j]? with
   | none=>rw[q2] at h;cases h
   | some o2=>rw[q2] at h;simp only[Option.join_some] at h;rw[h]
def dI {Y:yc}{i j:Nat}{d:D}(h:pick[i]?=some (some j)) (h':Y[j]?=some (some d)):(vE pick Y)[i]?=some (some d):=by
 unfold vE;rw[zA3,h];simp[h']
def ER.Wj {S:SS}{Z:Addr->Prop}{Y:yc}{J:Ev}(h:ER S Z Y J):ER S Z (vE pick Y) (oh pick J):=by
 refine⟨h.zd,λ i t e=>?_,λ i ts e=>?_⟩
 .obtain⟨j,h1,h2⟩:=dH e;obtain⟨d,h3,h4⟩:=h.im j t h2;exact⟨d,dI h1 h3,h4⟩
 .obtain⟨j,h1,h2⟩:=dH e;obtain⟨p,ds,h3,h4⟩:=h.ow j ts h2;exact⟨p,ds,dI h1 h3,h4⟩
def ER.hide {S S':SS}{Z:Addr->Prop}{Y:yc}{J:Ev}{p:Addr}(h:ER S Z Y J) (s:Sx S S') (hp:S p=none) (hp':S' p≠none):ER S' (λ a=>Z a\/a=p) Y J:=by
 refine⟨λ a z q=>?_,λ i t e=>?_,λ i ts e=>?_⟩
 .rcases z with z | rfl
  .exact h.zd a z (s.none q)
  .exact hp' q
 .obtain⟨d,h1,h2⟩:=h.im i t e;exact⟨d,h1,Sn.sx (qW s hp) t h2⟩
 .obtain⟨q,ds,h1,h2,h3,h4⟩:=h.ow i ts e;exact⟨q,ds,h1,s _ _ h2,uS.sx (qW s hp) h3,.inl h4⟩
def Uk {it:Ev->Option (List T)}{ti:wx}{g:T->Ev->Option Ev}{tg:y_}{c:Ev->Option Bool}{tc:y9}{f:Ev->Option T}{te:zt}{b:Bool}(hi:qh b it ti) (hg:lU pick g tg) (hc:wO c tc) (hf:vf f te):
  xq (wo pick it g c f) (tM pick ti tg tc te):=λ S Z Y J y Q hE e hq=>by
 obtain⟨ts,e1,e2⟩:=zOb e;split at e2
 case isFalse=>cases e2
 rename_i hlen;obtain⟨zs,e3,rfl⟩:=zOm e2;refine hi S Z Y J ts _ hE e1 λ I S1 s1 r1 hk=>⟨by rw[r1.len];exact hlen,λ S' s'=>hk S' ?_,λ p hp=>?_⟩
 .cases b
  .exact s'
  .exact (l7 _ _).trans s'
 have E1:=hE.grow s1;have nz:¬ Z p:=λ z=>E1.zd p z hp;refine⟨λ i S' acc=>∃ us ws,zl (zM S' λ a=>Z a\/a=p) us acc/\rZ (tF pick g c f J) (ts.drop i)=some ws/\zs=us++ws,⟨[],zs,.nil,e3,rfl⟩,λ i S' S'' acc hh ⟨us,ws,h1,h2⟩=>⟨us,ws,zl.sx (λ a o q=>?_) us h1,h2⟩,λ i d S2 acc hd s2 hacc ⟨us,ws,h1,h2,h3⟩=>?_,λ S2 acc s2 hacc ⟨us,ws,h1,h2,h3⟩=>?_⟩
 .obtain⟨q1,q2⟩:=uF q;rw[vL q1];exact hh a o (λ z=>q1 (.inr z)) q2
 .obtain⟨x,hx,rx⟩:=r1.iE hd;have hlt:=(zA2.mp hx).1;have hdt:ts.drop i=x::ts.drop (i+1):=by rw[List.drop_eq_getElem_cons hlt,(zA2.mp hx).2]
  rw[hdt] at h2;unfold rZ at h2;obtain⟨o,o1,h2⟩:=zOb h2;obtain⟨ws',o2,rfl⟩:=zOm h2;have E2:=(E1.hide s2 hp (by rw[hacc];nofun)).Wj (pick:=pick);unfold tF at o1;obtain⟨J2,g1,o1⟩:=zOb o1;obtain⟨bb,g2,o1⟩:=zOb o1;refine hg (vE pick Y) S2 _ _ _ J2 x d _ (λ j hj=>?_) ⟨rfl,λ _ _ q=>q⟩ (by unfold vE oh;simp) E2 (Sn.sx (qW s2 hp) x rx) g1 fun Y2 E3 l3 _=>⟨l3,?_⟩
  .unfold vE;rw[zA3,hj];rfl
  refine hc S2 _ Y2 J2 bb _ E3 g2 λ S3 s3=>?_;split at o1
  .rename_i hb;rw[if_pos hb];obtain⟨z,g3,rfl⟩:=zOm o1;refine hf S3 _ Y2 J2 z _ (E3.grow s3) g3 λ dz S4 s4 r4=>⟨s3.trans s4,us++[z],ws',?_,o2,by rw[h3];simp⟩;exact (zl.sx (wq (s3.trans s4)) us h1).append (.cons r4 .nil)
  .rename_i hb;rw[if_neg hb];cases o1;exact⟨s3,us,ws',zl.sx (wq s3) us h1,o2,h3⟩
 .rw[show I.items.length=ts.length from r1.len,List.drop_length] at h2;cases h2;rw[List.append_nil] at h3;subst h3;refine hq _ S2 (s1.trans s2) ⟨?_,λ vs e=>?_⟩
  .simp only[Sn];exact⟨acc,.inr ⟨p,rfl,by rw[vL nz];exact hacc⟩,zl.sx (uG λ a z=>.inl z) zs h1⟩
  .cases e;exact⟨p,acc,rfl,s1.none hp,hacc,h1⟩
class Sr (R:Rk):Prop extends Lo R where
 sn:∀ {S S':SS}{Z:Addr->Prop}{y:T}{d:D},R S S' Z y d->Sn (zM S' Z) y d
instance:Sr xO:=⟨λ h=>h⟩
instance:Sr zH:=⟨λ h=>h.1⟩
def zT (R:Rk) (F:List T->Option T):s_:=λ ds S Q=>∃ Z ys y,(∀ a,Z a->S a≠none)/\zl (zM S Z) ys ds/\F ys=some y/\∀ d S',Sx S S'->R S S' Z y d->Q d S'
def zT.mo {R:Rk}{F:List T->Option T}:gC (zT R F):=λ _ _ _ _ hq ⟨Z,ys,y,h1,h2,h3,h4⟩=>⟨Z,ys,y,h1,h2,h3,λ d S' s r=>hq _ _ (h4 d S' s r)⟩
def uB {R:Rk} [Lo R] {F:List T->Option T}{g:Ev->Option (List T)}{u:yk}(h:p8 g u):xl R (zx F g) (iZ (zT R F) u):=λ S Z Y J y Q hE e hq=>by
 obtain⟨xs,e1,e2⟩:=zOb e;refine h S Z Y J xs _ hE e1 λ ds S1 s1 r1=>?_;exact⟨Z,xs,y,(hE.grow s1).zd,r1,e2,λ d S' s r=>hq d S' (s1.trans s) (Cl.cl s1 r)⟩
@[simp] noncomputable def qu (N:List Str) (ys:List T):Ev:=ys.map (λ y=>some (.im y))++List.replicate (N.length-ys.length) none
@[simp] noncomputable def cg:Option Out->Option T
 | some (.rt y)=>some y
 | some (.nx _)=>some .zi
 | _=>none
@[simp] noncomputable def yh (N:List Str) (n:Nat) (g:Sm):List T->Option T:=λ ys=>if ys.length=n then cg (g (qu N ys)) else none
theorem zT.len {R:Rk}{N:List Str}{n:Nat}{g:Sm}{ds:List D}{S:SS}{Q:DK}(hs:zT R (yh N n g) ds S Q):ds.length=n:=by
 obtain⟨Z,ys,y,hz,r,e,hq⟩:=hs;unfold yh at e;split at e
 .rename_i h;rw[r.len];exact h
 .cases e
def YR {N:List Str}{ds:List D}{i:Nat}{d:D}(h:ds[i]?=some d):(tp N ds)[i]?=some (some d):=by
 have hi:=(zA2.mp h).1;unfold tp;rw[List.getElem?_append_left (by simpa using hi),zA3,h];rfl
def m7 {N:List Str}{ys:List T}{i:Nat}{w:W}(h:(qu N ys)[i]?=some (some w)):∃ y,ys[i]?=some y/\w=.im y:=by
 unfold qu at h;have hi:i<ys.length:=by
  rcases Nat.lt_or_ge i ys.length with q | q
  .exact q
  .rw[List.getElem?_append_right (by simpa using q),List.getElem?_replicate] at h;split at h <;> cases h
 rw[List.getElem?_append_left (by simpa using hi),zA3] at h;cases q:ys[i]? with
 | none=>rw[q] at h;cases h
 | some y=>rw[q] at h;cases h;exact⟨y,rfl,rfl⟩
def Qt {R:Rk} [Lo R] {N:List Str}{n:Nat}{g:Sm}{t:yI}(h:yD R g t) {ds:List D}{S:SS}{Q:DK}(hs:zT R (yh N n g) ds S Q):t { nx:=λ _ S'=>Q .zi S',rt:=Q } (tp N ds) S:=by
 obtain⟨Z,ys,y,hz,r,e,hq⟩:=hs;unfold yh at e;split at e
 case isFalse=>cases e
 obtain⟨o,e1,e2⟩:∃ o,g (qu N ys)=some o/\cg (some o)=some y:=by
  cases q:g (qu N ys) with
  | none=>rw[q] at e;cases e
  | some o=>exact⟨o,rfl,by rw[<- q];exact e⟩
 refine h S Z S Z _ _ o _ ⟨⟨hz,λ i t e=>?_,λ i ts e=>?_⟩,?_,.refl S,hz,λ _ z=>z,λ _ z=>.inl z,λ i ts p e _=>?_,λ i j ts us p _ e _ _ _=>?_⟩ e1 ?_
 .obtain⟨y',h1,h2⟩:=m7 e;cases h2;obtain⟨d,h3,h4⟩:=r.iB h1;exact⟨d,YR h3,h4⟩
 .obtain⟨y',h1,h2⟩:=m7 e;cases h2
 .unfold tp qu;have:=r.len;simp[this]
 .obtain⟨y',h1,h2⟩:=m7 e;cases h2
 .obtain⟨y',h1,h2⟩:=m7 e;cases h2
 .cases o with
  | rt y'=>cases e2;exact λ d S' s r=>hq d S' s r
  | nx J'=>
   cases e2;exact λ S' Z' Y' F=>hq .zi S' F.sx (Cl.of (λ _=>nofun) eT)
  | bk _=>cases e2
  | ct _=>cases e2
noncomputable def xa (kvs:List (Key×T)) (k:Key):Option T:=(kvs.find? λ kv=>decide (kv.1=k)).map (·.2)
noncomputable def vB (kvs:List (Key×T)) (k:Key) (v:T):List (Key×T):=
 if (kvs.any λ kv=>decide (kv.1=k))=true then kvs.map (λ kv=>if kv.1=k then (kv.1,v) else kv) else kvs++[(k,v)]
section
variable {S:SS}
theorem yt.len:∀ {a:List (Key×T)}{b:List (Key×D)},yt S a b->b.length=a.length
 | [],_,h=>by cases h;rfl
 | (k,t)::r,_,h=>by
  obtain⟨d,m,rfl,_,h2⟩:=h;simp[yt.len h2]
theorem yt.val:∀ {a:List (Key×T)}{b:List (Key×D)}(k:Key),yt S a b->(xa a k=none/\v8 b k=none)\/∃ t d,xa a k=some t/\v8 b k=some d/\Sn S t d
 | [],_,k,h=>by cases h;exact .inl ⟨rfl,rfl⟩
 | (j,t)::r,_,k,h=>by
  obtain⟨d,m,rfl,h1,h2⟩:=h;by_cases e:j=k
  .subst e;exact .inr ⟨t,d,by simp[xa],by simp[v8],h1⟩
  .rcases yt.val k h2 with ⟨g1,g2⟩ | ⟨t',d',g1,g2,g3⟩
   .exact .inl ⟨by simpa [xa,e] using g1,by simpa [v8,e] using g2⟩
   .exact .inr ⟨t',d',by simpa [xa,e] using g1,by simpa [v8,e] using g2,g3⟩
theorem yt.any:∀ {a:List (Key×T)}{b:List (Key×D)}(k:Key),yt S a b->(b.any λ kv=>decide (kv.1=k))=a.any λ kv=>decide (kv.1=k)
 | [],_,k,h=>by cases h;rfl
 | (j,t)::r,_,k,h=>by
  obtain⟨d,m,rfl,h1,h2⟩:=h;rw[List.any_cons,List.any_cons,yt.any k h2]
theorem yt.u7 {k:Key}{t:T}{d:D}(r:Sn S t d):∀ {a:List (Key×T)}{b:List (Key×D)},yt S a b->yt S (a.map λ kv=>if kv.1=k then (kv.1,t) else kv) (b.map λ kv=>if kv.1=k then (kv.1,d) else kv)
 | [],_,h=>by cases h;rfl
 | (j,u)::a,_,h=>by
  obtain⟨e,m,rfl,h1,h2⟩:=h;rw[zA6,zA6];by_cases q:j=k
  .rw[if_pos q,if_pos q];exact⟨d,_,rfl,r,yt.u7 r h2⟩
  .rw[if_neg q,if_neg q];exact⟨e,_,rfl,h1,yt.u7 r h2⟩
theorem yt.snoc {k:Key}{t:T}{d:D}(r:Sn S t d):∀ {a:List (Key×T)}{b:List (Key×D)},yt S a b->yt S (a++[(k,t)]) (b++[(k,d)])
 | [],_,h=>by cases h;exact⟨d,[],rfl,r,rfl⟩
 | (j,u)::a,_,h=>by
  obtain⟨e,m,rfl,h1,h2⟩:=h;exact⟨e,_,rfl,h1,yt.snoc r h2⟩
def yt.put {a:List (Key×T)}{b:List (Key×D)}(h:yt S a b) (k:Key) {t:T}{d:D}(r:Sn S t d):yt S (vB a k t) (putD b k d):=by
 unfold vB putD;rw[h.any k];split
 .exact yt.u7 r h
 .exact yt.snoc r h
end
@[simp] noncomputable def ay (i:Nat):Sm:=fun J=>some (.nx (J.set i (some (.own (.ya [])))))
@[simp] noncomputable def iW (i:Nat) (f:Ev->Option T):Ev->Option T:=fun J=>(f J).bind λ y=>match J[i]?,y with
 | some (some (.own (.ya kvs))),.int k=>xa kvs (.inl k)
 | _,_=>none
@[simp] noncomputable def az (i:Nat) (f g:Ev->Option T):Ev->Option T:=fun J=>(f J).bind λ y=>(g J).bind λ z=>match J[i]?,y with
 | some (some (.own (.ya kvs))),.int k=>some ((xa kvs (.inl k)).getD z)
 | _,_=>none
@[simp] noncomputable def ax (i:Nat) (f v:Ev->Option T):Sm:=fun J=>(v J).bind λ z=>(f J).bind λ y=>match J[i]?,y with
 | some (some (.own (.ya kvs))),.int k=>if kvs.length<sizeLine then some (.nx (J.set i (some (.own (.ya (vB kvs (.inl k) z)))))) else none
 | _,_=>none
@[simp] noncomputable def iV (i:Nat):Ev->Option T:=fun J=>match J[i]? with
 | some (some (.own (.ya kvs)))=>some (.int kvs.length)
 | _=>none
def m_ {S:SS}{Z:Addr->Prop}{Y:yc}{J:Ev}(hE:ER S Z Y J) {i:Nat}{kvs:List (Key×T)}(h:J[i]?=some (some (.own (.ya kvs)))):∃ p b,Y[i]?=some (some (.ref p))/\S p=some (.ya b)/\yt (zM S Z) kvs b:=by
 obtain⟨p,o,h1,h2,h3,_⟩:=hE.ow i _ h;cases o with
 | ya b=>exact⟨p,b,h1,h2,h3⟩
 | lst _=>exact h3.elim
section
variable {R:Rk}{f g v:Ev->Option T}{ty tx tv:zt}
def VL (i:Nat):yD R (ay i) (va aJ (hName i)):=λ S0 Z0 S Z Y J o E F e P=>by
 cases e;intro p hp;exact P _ _ _ (F.eW (ts:=.ya []) (ds:=.ya []) (.new hp _) i hp tY rfl)
def cz (i:Nat) (hf:yy f ty):vf (iW i f) (aM (y8 i) ty):=λ S Z Y J y Q hE e hq=>by
 obtain⟨x,e1,e2⟩:=zOb e;split at e2
 .rename_i kvs k h;obtain⟨p,b,h1,h2,h3⟩:=m_ hE h;show y8 i Y S _;unfold y8;rw[h1];refine hf S Z Y J _ _ hE e1 λ d S1 s1 r1=>?_;cases Vw.int r1;rcases (yt.sx (wq s1) h3).val (.inl k) with ⟨g1,_⟩ | ⟨t,d,g1,g2,g3⟩
  .rw[g1] at e2;cases e2
  .rw[g1] at e2;cases e2;exact⟨p,b,k,d,rfl,rfl,s1 _ _ h2,g2,hq d S1 s1 g3⟩
 .cases e2
def c6 (i:Nat) (hf:yy f ty) (hg:vf g tx):vf (az i f g) (aL (y8 i) ty tx):=λ S Z Y J y Q hE e hq=>by
 obtain⟨x,e1,e⟩:=zOb e;obtain⟨z,e2,e3⟩:=zOb e;split at e3
 .rename_i kvs k h;cases e3;obtain⟨p,b,h1,h2,h3⟩:=m_ hE h;show y8 i Y S _;unfold y8;rw[h1];refine⟨p,rfl,⟨b,h2⟩,hf S Z Y J _ _ hE e1 λ d S1 s1 r1=>?_⟩;cases Vw.int r1;refine hg S1 Z Y J z _ (hE.grow s1) e2 λ dz S2 s2 r2=>⟨k,b,rfl,(s1.trans s2) _ _ h2,?_⟩;rcases (yt.sx (wq (s1.trans s2)) h3).val (.inl k) with ⟨g1,g2⟩ | ⟨t,d,g1,g2,g3⟩
  .rw[g2];rw[g1] at hq;exact hq _ S2 (s1.trans s2) r2
  .rw[g2];rw[g1] at hq;exact hq _ S2 (s1.trans s2) g3
 .cases e3
def VJ (i:Nat) (hf:yy f ty) (hv:vf v tv):yD R (ax i f v) (aK (y8 i) ty tv):=λ S0 Z0 S Z Y J o E F e P=>by
 obtain⟨z,e1,e⟩:=zOb e;obtain⟨x,e2,e3⟩:=zOb e;split at e3
 .rename_i kvs k h;split at e3
  .rename_i hl;cases e3;refine hv S Z Y J z _ F.er e1 λ dz S1 s1 r1=>?_;have F1:=F.grow s1;obtain⟨p,b,h1,h2,h3⟩:=m_ F1.er h;show y8 i Y S1 _;unfold y8;rw[h1];refine hf S1 Z Y J _ _ F1.er e2 λ d S2 s2 r2=>?_;cases Vw.int r2;have h4:=yt.sx (wq s2) h3;exact⟨p,b,k,rfl,rfl,s2 _ _ h2,by rw[h4.len];exact hl,P _ Z Y ((F1.grow s2).mut (us:=.ya (vB kvs (.inl k) z)) (es:=.ya (putD b (.inl k) dz)) i h h1 (h4.put _ (Sn.sx (wq s2) z r1)))⟩
  .cases e3
 .cases e3
def U7 (i:Nat):xq (iV i) (xA ab (rY (y8 i) lJ)):=λ S Z Y J y Q hE e hq=>by
 unfold iV at e;split at e
 .rename_i kvs h;cases e;obtain⟨p,b,h1,h2,h3⟩:=m_ hE h;show y8 i Y S _;unfold y8;rw[h1];refine⟨p,b,rfl,h2,?_⟩;rw[h3.len];exact hq _ S (.refl S) (Cl.of (λ _=>nofun) xS)
 .cases e
end
@[simp] noncomputable def lh (f:Ev->Option T):Ev->Option T:=fun J=>(f J).bind λ x=>match x with
 | .int i=>some (.int (-i))
 | _=>none
def aF (ta:zt):zt:=fun Y S Q=>ta Y S λ x S1=>match x with
 | .int i=>Q (.int (-i)) S1
 | _=>False
def Ui {f:Ev->Option T}{te:zt}(h:yy f te):xq (lh f) (aF te):=λ S Z Y J y Q hE e hq=>by
 obtain⟨x,e1,e2⟩:=zOb e;refine h S Z Y J x _ hE e1 λ d S1 s1 r1=>?_;split at e2
 .cases Vw.int r1;cases e2;exact hq _ S1 s1 (Cl.of (λ _=>nofun) xS)
 .cases e2
def bL:vW zH uE aa:=bO
def bK:vW zH oA b_:=bO
noncomputable def vJ:List T->Option (List Int)
 | []=>some []
 | .int i::ts=>(vJ ts).map (i::·)
 | _::_=>none
noncomputable def vA:List T->Option (List (List Int))
 | []=>some []
 | .tup r::ts=>(vJ r).bind λ x=>(vA ts).map (x::·)
 | _::_=>none
noncomputable def zP (r:List Int):T:=.tup (r.map T.int)
theorem oI:∀ {ts:List T}{is:List Int},vJ ts=some is->ts=is.map T.int
 | [],is,h=>by cases h;rfl
 | .int b::ts,is,h=>by
  unfold vJ at h;obtain⟨cs,h1,rfl⟩:=zOm h;rw[zA6,<- oI h1]
 | .zi::ts,bs,h=>by cases h
 | .bl _::ts,bs,h=>by cases h
 | .str _::ts,bs,h=>by cases h
 | .tup _::ts,bs,h=>by cases h
 | .lst _::ts,bs,h=>by cases h
theorem jf:∀ {ts:List T}{rs:List (List Int)},vA ts=some rs->ts=rs.map zP
 | [],is,h=>by cases h;rfl
 | .tup r::ts,is,h=>by
  unfold vA at h;obtain⟨x,h1,h⟩:=zOb h;obtain⟨cs,h2,rfl⟩:=zOm h;rw[zA6,<- jf h2,oI h1];rfl
 | .zi::ts,bs,h=>by cases h
 | .bl _::ts,bs,h=>by cases h
 | .str _::ts,bs,h=>by cases h
 | .int _::ts,bs,h=>by cases h
 | .lst _::ts,bs,h=>by cases h
def bE (is:List Int):vJ (is.map T.int)=some is:=by
 induction is with
 | nil=>rfl
 | cons b bs ih=>rw[zA6];unfold vJ;rw[ih];rfl
def jg (rs:List (List Int)):vA (rs.map zP)=some rs:=by
 induction rs with
 | nil=>rfl
 | cons b bs ih=>
  show vA (.tup (b.map T.int)::bs.map zP)=_;unfold vA;rw[bE,ih];rfl
theorem tw {S:SS}:∀ {is:List Int}{ds:List D},zl S (is.map T.int) ds↔ds=is.map D.int
 | [],ds=>by simp only[List.map_nil,zl]
 | i::is,ds=>by
  rw[zA6];simp only[zl,Sn];constructor
  .rintro⟨c,cs,rfl,rfl,h⟩;rw[tw.mp h];rfl
  .rintro rfl;exact⟨.int i,_,rfl,rfl,tw.mpr rfl⟩
theorem qw {S:SS}:∀ {rs:List (List Int)}{ds:List D},zl S (rs.map zP) ds↔ds=rs.map xF
 | [],ds=>by simp only[List.map_nil,zl]
 | r::rs,ds=>by
  rw[zA6];simp only[zl,zP,Sn];constructor
  .rintro⟨c,cs,rfl,⟨es,rfl,h1⟩,h⟩;rw[qw.mp h,tw.mp h1];rfl
  .rintro rfl;exact⟨xF r,_,rfl,⟨_,rfl,tw.mpr rfl⟩,qw.mpr rfl⟩
@[simp] noncomputable def eB:T->String
 | .zi=>"NoneType"
 | .bl _=>"bool"
 | .int _=>"int"
 | .str _=>"str"
 | .tup _=>"tuple"
 | .lst _=>"list"
 | .zO=>"dict"
@[simp] noncomputable def instS (ty:String) (f:Ev->Option T):Ev->Option T:=fun J=>(f J).map λ x=>.bl (tH (eB x) ty)
def Uz {ty:String}{f:Ev->Option T}{te:zt}(hf:yy f te):xq (instS ty f) (lK ty te):=λ S Z Y J y Q hE e hq=>by
 obtain⟨x,e1,rfl⟩:=zOm e;refine hf S Z Y J x _ hE e1 λ d S1 s1 r1=>?_;have key:t_ d S1=some (eB x):=by
  cases x with
  | zi=>cases Vw.zi r1;rfl
  | bl _=>cases Vw.bl r1;rfl
  | int _=>cases Vw.int r1;rfl
  | str _=>cases Vw.str r1;rfl
  | tup _=>obtain⟨ds,rfl,_⟩:=Vw.tup r1;rfl
  | lst _=>
   obtain⟨ds,rfl | ⟨a,rfl,h1⟩,h2⟩:=Vw.lst r1
   .rfl
   .unfold t_;dsimp only;rw[h1];rfl
  | zO=>
   obtain⟨a,kvs,rfl,h1⟩:=Vw.zO r1;unfold t_;dsimp only;rw[h1];rfl
 rw[key];exact hq _ S1 s1 (Cl.of (λ _=>nofun) vj)
@[simp] noncomputable def isNone:T->Bool
 | .zi=>true
 | _=>false
noncomputable def qS:D->Bool
 | .zi=>true
 | _=>false
noncomputable def zp (p:Int×Int):T:=.tup [.int p.1,.int p.2]
noncomputable def wA (ns:List Int):T:=.lst (ns.map .int)
@[simp] theorem zaa:sizeLine=16777216:=rfl
def Tr {n:Nat}(h:n<=10000):n<=sizeLine:=zE0 h (by decide)
def uq {α:Type}{xs:List α}{k:Nat}{x:α}(h:xs[k]?=some x):L2.zR xs (k:Int)=some x:=by
 unfold L2.zR L2.wG;have hk:=(zA2.mp h).1;rw[if_pos (by omega),if_pos (by omega)];simpa using h
@[simp] theorem gi {α:Type}{xs:List α}{x:α}:L2.zR (xs++[x]) (-1)=some x:=by
 unfold L2.zR L2.wG;rw[if_neg (by omega),if_pos (by simp;omega)];have:(-1+((xs++[x]).length:Int)).toNat=xs.length:=by simp;omega
 rw[zC9,this];simp
@[simp] theorem zah {α:Type}{x:α}{xs:List α}:L2.zR (x::xs) 0=some x:=uq (k:=0) rfl
@[simp] theorem zag {α:Type}{x y:α}{xs:List α}:L2.zR (x::y::xs) 1=some y:=uq (k:=1) rfl
@[simp] theorem zaf {α:Type}{x y z:α}{xs:List α}:L2.zR (x::y::z::xs) 2=some z:=uq (k:=2) rfl
@[simp] theorem zae {α:Type}{x y z w:α}{xs:List α}:L2.zR (x::y::z::w::xs) 3=some w:=uq (k:=3) rfl
theorem hG {α:Type}(enc:α->T) (g:α->Option T) (h:T->Option (Option T)):∀ (xs:List α),(∀ x∈xs,h (enc x)=some (g x))->rZ h (xs.map enc)=some (xs.filterMap g)
 | [],_=>rfl
 | x::xs,hh=>by
  rw[zA6];unfold rZ;rw[hh x zMc,hG enc g h xs λ y hy=>hh y (zMo _ hy)];cases q:g x <;> simp[q]
def RO {α:Type}(enc:α->T) (g:α->T) (h:T->Option (Option T)) (xs:List α) (hh:∀ x∈xs,h (enc x)=some (some (g x))):rZ h (xs.map enc)=some (xs.map g):=by
 rw[hG enc (λ x=>some (g x)) h xs hh];simp
def rQ {α:Type}(enc:α->T) (h:α->T) {pick:List (Option Nat)}{it:Ev->Option (List T)}{g:T->Ev->Option Ev}{c:Ev->Option Bool}{f:Ev->Option T}{J:Ev}(xs:List α) (hi:it J=some (xs.map enc)) (hl:xs.length<=16777216)
  (hh:∀ x∈xs,tF pick g c f J (enc x)=some (some (h x))):wo pick it g c f J=some (.lst (xs.map h)):=by
 unfold wo;rw[hi,zC9,if_pos (by rw[zA7];exact hl),RO enc h _ xs hh];rfl
def l4 {α:Type}(enc:α->T) (h:α->Option T) {pick:List (Option Nat)}{it:Ev->Option (List T)}{g:T->Ev->Option Ev}{c:Ev->Option Bool}{f:Ev->Option T}{J:Ev}(xs:List α) (hi:it J=some (xs.map enc)) (hl:xs.length<=16777216)
  (hh:∀ x∈xs,tF pick g c f J (enc x)=some (h x)):wo pick it g c f J=some (.lst (xs.filterMap h)):=by
 unfold wo;rw[hi,zC9,if_pos (by rw[zA7];exact hl),hG enc h _ xs hh];rfl
section
variable {α:Type}{is:List Nat}{g:T->Ev->Option Ev}{b:Sm}
noncomputable def turn (g:T->Ev->Option Ev) (b:Sm) (y:T) (J:Ev):Option Out:=(g y J).bind b
theorem jV (y:T) (ys:List T) (J:Ev):xw is g b (y::ys) J=(turn g b y (y7 is J)).bind λ o=>match o with
  | .nx J2=>xw is g b ys J2
  | .ct J2=>xw is g b ys J2
  | .bk J2=>some (.nx (y7 is J2))
  | .rt t=>some (.rt t):=by
 unfold turn;rw[xw];cases g y (y7 is J) <;> rfl
theorem lx (enc:α->T) (test:α->Bool) (v:T) (J0:Ev):∀ (xs:List α) (J:Ev),y7 is J=J0->(∀ x∈xs,∃ J',y7 is J'=J0/\turn g b (enc x) J0=some (if test x=true then .rt v else .nx J'))->xw is g b (xs.map enc) J=some (if xs.any test=true then .rt v else .nx J0)
 | [],J,h,_=>by rw[List.map_nil,xw,h];rfl
 | x::xs,J,h,hs=>by
  obtain⟨J',h1,h2⟩:=hs x zMc;rw[zA6,jV,h,h2,List.any_cons];cases q:test x with
  | true=>simp
  | false=>
   have ih:=lx enc test v J0 xs J' h1 λ y hy=>hs y (zMo _ hy);simpa using ih
theorem cN (enc:α->T) (I:List α->Ev->Prop):∀ (xs:List α) (pre:List α) (J:Ev),I pre (y7 is J)->
  (∀ p x q,pre++xs=p++x::q->∀ J,I p J->∃ J',turn g b (enc x) J=some (.nx J')/\I (p++[x]) (y7 is J'))->∃ J',xw is g b (xs.map enc) J=some (.nx J')/\I (pre++xs) J'
 | [],pre,J,h,_=>⟨y7 is J,by rw[List.map_nil,xw],by simpa using h⟩
 | x::xs,pre,J,h,hs=>by
  obtain⟨J',h1,h2⟩:=hs pre x xs rfl _ h;rw[zA6,jV,h1];have ih:=cN enc I xs (pre++[x]) J' h2 λ p y q e=>hs p y q (by rw[<- e];simp);simpa using ih
def ue (enc:α->T) (I:List α->Ev->Prop) (xs:List α) (J:Ev) (h:I [] (y7 is J))
  (hs:∀ p x q,xs=p++x::q->∀ J,I p J->∃ J',turn g b (enc x) J=some (.nx J')/\I (p++[x]) (y7 is J')):∃ J',xw is g b (xs.map enc) J=some (.nx J')/\I xs J':=cN enc I xs [] J h hs
end
def pY (n:Nat) (h:n<=100000):t8 [.int (n:Int)]=some ((List.range n).map λ(k:Nat)=>T.int (0+(k:Int))):=by
 show (if inR (n:Int)=true then some (rangeT 0 (n:Int).toNat) else none)=_;rw[if_pos (bH.mpr ⟨by omega,by omega⟩)];rfl
def rp (a:Key) (b:T) (kvs:List (Key×T)) (j:Key):xa ((a,b)::kvs) j=if a=j then some b else xa kvs j:=by
 by_cases h:a=j <;> simp[xa,h]
theorem ej (k j:Key) (d:T):∀ kvs:List (Key×T),xa (kvs.map λ kv=>if kv.1=k then (kv.1,d) else kv) j=(xa kvs j).map λ x=>if j=k then d else x
 | []=>rfl
 | (a,b)::kvs=>by
  have ih:=ej k j d kvs;rw[zA6];by_cases hk:a=k
  .rw[if_pos hk,rp,rp,ih];by_cases hj:a=j
   .subst hj;subst hk;simp
   .rw[if_neg hj,if_neg hj]
  .rw[if_neg hk,rp,rp,ih];by_cases hj:a=j
   .subst hj;simp[hk]
   .rw[if_neg hj,if_neg hj]
theorem ei (k j:Key) (d:T):∀ kvs:List (Key×T),(∀ kv∈kvs,¬ kv.1=k)->xa (kvs++[(k,d)]) j=if j=k then some d else xa kvs j
 | [],_=>by
  show xa [(k,d)] j=_;rw[rp];by_cases h:j=k
  .subst h;simp
  .rw[if_neg h,if_neg (λ z=>h z.symm)]
 | (a,b)::kvs,hn=>by
  have ih:=ei k j d kvs λ kv hkv=>hn kv (zMo _ hkv);have ha:¬ a=k:=hn (a,b) zMc;show xa ((a,b)::(kvs++[(k,d)])) j=_;rw[rp,rp,ih];by_cases hj:a=j
  .subst hj;simp[ha]
  .rw[if_neg hj,if_neg hj]
def Zi (kvs:List (Key×T)) (k:Key):(kvs.any λ kv=>decide (kv.1=k))=(xa kvs k).isSome:=by
 unfold xa;rw[Option.isSome_map,zC7,zD0,List.find?_isSome]
def mv (kvs:List (Key×T)) (k j:Key) (d:T):xa (vB kvs k d) j=if j=k then some d else xa kvs j:=by
 unfold vB;split
 .rename_i h;rw[Zi] at h;rw[ej];by_cases hj:j=k
  .subst hj;obtain⟨x,hx⟩:=Option.isSome_iff_exists.mp h;simp[hx]
  .simp[hj]
 .rename_i h;exact ei k j d kvs λ kv hkv z=>h (zD0.mpr ⟨kv,hkv,decide_eq_true z⟩)
def cV (kvs:List (Key×T)) (k:Key) (d:T):(vB kvs k d).length=if (xa kvs k).isSome=true then kvs.length else kvs.length+1:=by
 have e:=Zi kvs k;unfold vB;rw[e];split <;> simp
noncomputable def vk (p:Int×Int):List Int:=[p.1,p.2]
noncomputable def tu (ps:List (Int×Int)):List (Int×Int):=(L4.xu (ps.map vk)).map λ r=>(r.getD 0 0,r.getD 1 0)
def eP (ps:List (Int×Int)):(tu ps).map vk=L4.xu (ps.map vk):=by
 unfold tu;rw[zD6]
 conv=>rhs;rw[<- List.map_id (L4.xu (ps.map vk))]
 refine List.map_congr_left λ r hr=>?_;obtain⟨p,_,rfl⟩:=zB0.mp ((L4.tq _).mem_iff.mp hr);rfl
def kB (ps:List (Int×Int)):(tu ps).Perm ps:=by
 have h:=L4.tq (ps.map vk);have:(tu ps).Perm ((ps.map vk).map λ r=>(r.getD 0 0,r.getD 1 0)):=h.map _
 rwa [zD6,show ((λ r:List Int=>(r.getD 0 0,r.getD 1 0)) ∘ vk)=id from rfl,List.map_id] at this
def qP (p q:Int×Int):Prop:=p.1<q.1\/(p.1=q.1/\p.2<=q.2)
def eO (ps:List (Int×Int)):(tu ps).Pairwise qP:=by
 have h:=L4.kA (ps.map vk);rw[<- eP,List.pairwise_map] at h;refine h.imp λ{p q} hpq=>?_;unfold vk at hpq;rw[HT.sI,HT.sI] at hpq;unfold qP;by_cases e:q.1=p.1
 .rw[if_pos e] at hpq;by_cases e2:q.2=p.2
  .omega
  .rw[if_neg e2] at hpq;have:=of_decide_eq_false hpq;omega
 .rw[if_neg e] at hpq;have:=of_decide_eq_false hpq;omega
def Xy (ps:List (Int×Int)):vA (ps.map zp)=some (ps.map vk):=by
 have:=jg (ps.map vk)
 rwa [zD6,show zP ∘ vk=zp from rfl] at this
noncomputable def wK (q p:Int×Int):Bool:=decide (p.1<=q.1)&&decide (p.2<=q.2)
noncomputable def yg (ps:List (Int×Int)) (q:Int×Int):Bool:=ps.any (wK q)
def xk {ps:List (Int×Int)}{q:Int×Int}:yg ps q=true↔∃ p∈ps,p.1<=q.1/\p.2<=q.2:=by
 unfold yg wK;simp[zD0]
def RJ {ps qs:List (Int×Int)}(h:ps.Perm qs) (q:Int×Int):yg ps q=yg qs q:=by
 rw[zC7,xk,xk];exact⟨λ⟨p,h1,h2⟩=>⟨p,h.mem_iff.mp h1,h2⟩,λ⟨p,h1,h2⟩=>⟨p,h.mem_iff.mpr h1,h2⟩⟩
def RK (ps qs:List (Int×Int)) (q:Int×Int):yg (ps++qs) q=(yg ps q||yg qs q):=by
 unfold yg;rw[List.any_append]
def wQ (ps:List (Int×Int)):Prop:=ps.Pairwise λ p q=>p.1<q.1/\q.2<p.2
theorem wQ.eq:∀ {ps qs:List (Int×Int)},wQ ps->wQ qs->(∀ q,yg ps q=yg qs q)->ps=qs
 | [],[],_,_,_=>rfl
 | [],q::qs,_,_,h=>by
  have:=h q;rw[show yg [] q=false from rfl] at this;have h2:yg (q::qs) q=true:=xk.mpr ⟨q,zMc,zC6 _,zC6 _⟩;rw[h2] at this;cases this
 | p::ps,[],_,_,h=>by
  have:=h p;rw[show yg [] p=false from rfl] at this;have h2:yg (p::ps) p=true:=xk.mpr ⟨p,zMc,zC6 _,zC6 _⟩;rw[h2] at this;cases this
 | p::ps,q::qs,hp,hq,h=>by
  have hp1:=List.pairwise_cons.mp hp;have hq1:=List.pairwise_cons.mp hq;have a1:∃ r∈q::qs,r.1<=p.1/\r.2<=p.2:=xk.mp (by rw[<- h];exact xk.mpr ⟨p,zMc,zC6 _,zC6 _⟩);have a2:∃ r∈p::ps,r.1<=q.1/\r.2<=q.2:=xk.mp (by rw[h];exact xk.mpr ⟨q,zMc,zC6 _,zC6 _⟩);obtain⟨r,hr,r1,r2⟩:=a1;obtain⟨u,hu,u1,u2⟩:=a2;have qr:q.1<=r.1:=by
   rcases zA5.mp hr with e | e
   .subst e;exact zC6 _
   .exact Int.le_of_lt (hq1.1 r e).1
  have pu:p.1<=u.1:=by
   rcases zA5.mp hu with e | e
   .subst e;exact zC6 _
   .exact Int.le_of_lt (hp1.1 u e).1
  have e1:p.1=q.1:=by omega
  have er:r=q:=by
   rcases zA5.mp hr with e | e
   .exact e
   .have:=(hq1.1 r e).1;omega
  have eu:u=p:=by
   rcases zA5.mp hu with e | e
   .exact e
   .have:=(hp1.1 u e).1;omega
  subst er eu;have e2:u.2=r.2:=by omega
  have epq:u=r:=Prod.ext e1 e2;subst epq;rw[wQ.eq hp1.2 hq1.2 λ x=>?_];have hx:=h x;unfold yg at hx ⊢;rw[List.any_cons,List.any_cons] at hx;cases g:wK x u with
  | false=>rw[g] at hx;simpa using hx
  | true=>
   have gx:u.1<=x.1/\u.2<=x.2:=by simpa [wK] using g
   have key:∀ {l:List (Int×Int)},(∀ v∈l,u.1<v.1/\v.2<u.2)->l.any (wK x)=l.any (wK (x.1,u.2-1)):=by
    intro l hl;rw[zC7,zD0,zD0];constructor
    .rintro⟨v,hv,hg⟩;have:=hl v hv;have hg':v.1<=x.1/\v.2<=x.2:=by simpa [wK] using hg
     exact⟨v,hv,by simp[wK];omega⟩
    .rintro⟨v,hv,hg⟩;have:=hl v hv;have hg':v.1<=x.1/\v.2<=u.2-1:=by simpa [wK] using hg
     exact⟨v,hv,by simp[wK];omega⟩
   rw[key hp1.1,key hq1.1];have hy:=h (x.1,u.2-1);unfold yg at hy;rw[List.any_cons,List.any_cons] at hy;have gn:wK (x.1,u.2-1) u=false:=by
    unfold wK;rw[show decide (u.2<=(x.1,u.2-1).2)=false from decide_eq_false (by show ¬ u.2<=u.2-1;omega),Bool.and_false]
   rw[gn] at hy;simpa using hy
noncomputable def uP (l:Option Int) (x:Int):Bool:=match l with
 | none=>true
 | some m=>decide (x<m)
noncomputable def yG:List (Int×Int)->Option Int->List (Int×Int)
 | [],_=>[]
 | p::ps,l=>if uP l p.2=true then p::yG ps (some p.2) else yG ps l
noncomputable def wj (ps:List (Int×Int)):List (Int×Int):=yG (tu ps) none
theorem oJ:∀ (ps:List (Int×Int)) (l:Option Int) (q:Int×Int),q∈yG ps l->q∈ps/\∀ m,l=some m->q.2<m
 | [],l,q,h=>by simp[yG] at h
 | p::ps,l,q,h=>by
  unfold yG at h;split at h
  .rename_i c;have hm:∀ m,l=some m->p.2<m:=λ m e=>by subst e;simpa [uP] using c
   rcases zA5.mp h with e | e
   .subst e;exact⟨zMc,hm⟩
   .obtain⟨h1,h2⟩:=oJ ps _ q e;exact⟨zMo _ h1,λ m e=>by have:=h2 _ rfl;have:=hm m e;omega⟩
  .obtain⟨h1,h2⟩:=oJ ps _ q h;exact⟨zMo _ h1,h2⟩
theorem i4:∀ (ps:List (Int×Int)) (l:Option Int),ps.Pairwise qP->wQ (yG ps l)
 | [],l,_=>by simp[yG,wQ]
 | p::ps,l,h=>by
  have h1:=List.pairwise_cons.mp h;unfold yG;split
  .refine List.pairwise_cons.mpr ⟨λ q hq=>?_,i4 ps _ h1.2⟩;obtain⟨g1,g2⟩:=oJ ps _ q hq;have:=h1.1 q g1;have:=g2 _ rfl;unfold qP at *;omega
  .exact i4 ps _ h1.2
theorem i5:∀ (ps:List (Int×Int)) (l:Option Int),ps.Pairwise qP->∀ p∈ps,(∃ q∈yG ps l,q.1<=p.1/\q.2<=p.2)\/∃ m,l=some m/\m<=p.2
 | [],l,_,p,hp=>by cases hp
 | r::ps,l,h,p,hp=>by
  have h1:=List.pairwise_cons.mp h;unfold yG;split
  .rename_i c;rcases zA5.mp hp with e | e
   .subst e;exact .inl ⟨p,zMc,zC6 _,zC6 _⟩
   .rcases i5 ps (some r.2) h1.2 p e with ⟨q,q1,q2⟩ | ⟨m,e1,e2⟩
    .exact .inl ⟨q,zMo _ q1,q2⟩
    .cases e1;have:=h1.1 p e;unfold qP at this;exact .inl ⟨r,zMc,by omega,e2⟩
  .rename_i c;rcases zA5.mp hp with e | e
   .subst e;cases l with
    | none=>simp[uP] at c
    | some m=>exact .inr ⟨m,rfl,by simpa [uP] using c⟩
   .exact i5 ps l h1.2 p e
def j_ (ps:List (Int×Int)):wQ (wj ps):=i4 _ _ (eO ps)
def cW {ps:List (Int×Int)}{q:Int×Int}(h:q∈wj ps):q∈ps:=(kB ps).mem_iff.mp (oJ _ _ q h).1
def lz (ps:List (Int×Int)) (q:Int×Int):yg (wj ps) q=yg ps q:=by
 rw[<- RJ (kB ps) q,zC7,xk,xk];constructor
 .rintro⟨p,h1,h2⟩;exact⟨p,(oJ _ _ p h1).1,h2⟩
 .rintro⟨p,h1,h2⟩;rcases i5 (tu ps) none (eO ps) p h1 with ⟨r,r1,r2⟩ | ⟨m,e,_⟩
  .exact⟨r,r1,by omega,by omega⟩
  .cases e
end L5
namespace L2
open PySem PySem.Spec PyProof.Rows
section
variable {X:Cx}
def dB (K:zFr):R2:=λ x y H Q=>∃ l b xs zs,x=.ref l/\y=.ref b/\zN K H l xs/\zN K H b zs/\xs.length+zs.length<=sizeLine/\∀ p,H p=none->Q (.ref p) (upd H p (.lst (xs++zs)))
def V9:yd X (binaryOp .Add) (dB X.K):=by
 intro pins s O H x y v u Q I rx ry h;obtain⟨l,b,xs,zs,rfl,rfl,hH,hB,hz,q⟩:=h;cases rx;cases ry;obtain⟨its,r,p1,_⟩:=I.list hH;obtain⟨its2,r2,p2,_⟩:=I.list hB;obtain⟨⟨cls,dd,data,sl⟩,ho,hc,n,hd⟩:=p1.isList;obtain⟨⟨cls2,dd2,data2,sl2⟩,ho2,hc2,n2,hd2⟩:=p2.isList;simp only at hc hd hc2 hd2;subst hc hd hc2 hd2;have e:its.toArray++its2.toArray=(its++its2).toArray:=by simp
 refine concat_meets ⟨_,ho,rfl⟩ ⟨_,ho2,rfl⟩ noFill_list_add seq_list_add PySem.F.slot_list_add PySem.F.entry_list_add (PySem.F.args_list_add_2 _ _) (list_addW l b its.toArray its2.toArray n n2 dd dd2 sl sl2 (by rw[zA0,zA0,<- r.length,<- r2.length];exact hz)) ⟨ho,ho2,?_⟩;rw[e];exact⟨.ref _,_,I.Tp (t':=s.toks) (r.append r2) (by rw[zD7];omega),rfl,q _ I.fresh⟩
def d7 (K:zFr):R2:=λ x y H Q=>∃ a b ys,x=.ref a/\y=.ref b/\zS K H a []/\zS K H b ys/\Q (.ref b) H
def V7:yd X (binaryOp .Add) (d7 X.K):=by
 intro pins s O H x y v u Q I rx ry h;obtain⟨l,b,ys,rfl,rfl,hH,hB,q⟩:=h;cases rx;cases ry;obtain⟨its,r,p1,_⟩:=I.tuple hH;obtain⟨its2,r2,p2,_⟩:=I.tuple hB;obtain⟨⟨cls,dd,data,sl⟩,ho,hc,n,hd⟩:=id p1;obtain⟨⟨cls2,dd2,data2,sl2⟩,ho2,hc2,n2,hd2⟩:=id p2;simp only at hc hd hc2 hd2;subst hc hd hc2 hd2;exact concat_meets ⟨_,ho,rfl⟩ ⟨_,ho2,rfl⟩ noFill_tuple_add seq_tuple_add PySem.F.slot_tuple_add PySem.F.entry_tuple_add (PySem.F.args_tuple_add_2 _ _)
   (tuple_addW0 l b its.toArray its2.toArray n n2 dd dd2 sl sl2 (by cases r;rfl)) ⟨ho,ho2,⟨.ref b,H,I,rfl,q⟩⟩
end
end L2
namespace L5
open PySem PySem.Spec L2 L3
open PyProof.Rows hiding St
section
variable {X:Cx}{K:zFr}{a b c e:Expr}{es:List Expr}{ta tb tc te:zt}{tA:yk}{pos p:Pos}
def vP.mo:xr vP:=λ x y S Q Q' hq h=>by
 cases x with
 | zi=>exact h
 | bl _=>exact h
 | int i=>cases y <;> first | exact hq _ _ h | exact h
 | str i=>cases y <;> first | exact⟨h.1,hq _ _ h.2⟩ | exact h
 | tup i=>cases y <;> first | exact⟨h.1,hq _ _ h.2⟩ | exact h
 | yF ds=>
  unfold vP at h ⊢;dsimp only at h ⊢;split at h
  .exact⟨h.1,h.2.1,λ r hr=>hq _ _ (h.2.2 r hr)⟩
  .exact h.elim
 | ref q=>
  unfold vP at h ⊢;dsimp only at h ⊢;split at h
  .exact⟨h.1,h.2.1,λ r hr=>hq _ _ (h.2.2 r hr)⟩
  .exact h.elim
def qy {H:Hp}{S:SS}{d:D}{v:V}{ds:List D}(r:zg K H d v) (p:zI K H S) (e:yf d S=some ds) (n:∀ ts,d≠.tup ts):∃ a xs,v=.ref a/\zN K H a xs/\zm K H ds xs:=by
 unfold yf at e;split at e
 .exact absurd rfl (n _)
 .cases e;simp only[zg] at r;obtain⟨a,xs,h1,h2,h3⟩:=r;exact⟨a,xs,h1,h2.sq,h3⟩
 .split at e
  .rename_i q;cases e;simp only[zg] at r;subst r;obtain⟨xs,h1,h2⟩:=p _ _ q;exact⟨_,xs,rfl,zN.of h1,h2⟩
  .cases e
 .cases e
abbrev dE (K:zFr):R2:=λ x y H Q=>vm (λ i j=>.int (i+j)) x y H Q\/((∃ i j,x=.str i/\y=.str j/\i.length+j.length<=sizeLine/\Q (.str (i++j)) H)\/(dB K x y H Q\/(d7 K x y H Q\/dA K x y H Q)))
def vP.fits:xt K vP (dE K):=λ x y d e H S Q h1 h2 h3 h=>by
 have lst:(∀ ts,d≠.tup ts)->(match yf d S,yf e S with
  | some ds,some es=>(∀ ts,e≠.tup ts)/\ds.length+es.length<=sizeLine/\∀ r,S r=none->wu K H Q (.ref r) (ups S r (.lst (ds++es)))
  | _,_=>False)->dE K x y H Q:=λ n h=>by
  split at h
  .rename_i ds es q1 q2;obtain⟨a,xs,rfl,g1,g2⟩:=qy h1 h3 q1 n;obtain⟨b,ys,rfl,g3,g4⟩:=qy h2 h3 q2 h.1;refine .inr (.inr (.inl ⟨a,b,xs,ys,rfl,rfl,g1,g3,by rw[<- g2.length,<- g4.length];exact h.2.1,λ p hp=>?_⟩));exact h.2.2 p (h3.none hp) _ _ (by simp only[zg]) (.new hp _) (h3.ups (.new hp _) ⟨_,yL,zm.ext (.new hp _) _ (g2.append g4)⟩)
  .exact h.elim
 cases d with
 | zi=>exact h.elim
 | bl _=>exact h.elim
 | int i=>
  cases e with
  | int j=>
   simp only[zg] at h1 h2;exact .inl ⟨_,_,h1,h2,h _ H (by simp only[zg]) (.refl H) h3⟩
  | zi=>exact h.elim
  | bl _=>exact h.elim
  | str _=>exact h.elim
  | tup _=>exact h.elim
  | yF _=>exact h.elim
  | ref _=>exact h.elim
 | str i=>
  cases e with
  | str j=>
   simp only[zg] at h1 h2;exact .inr (.inl ⟨_,_,h1,h2,h.1,h.2 _ H (by simp only[zg]) (.refl H) h3⟩)
  | zi=>exact h.elim
  | bl _=>exact h.elim
  | int _=>exact h.elim
  | tup _=>exact h.elim
  | yF _=>exact h.elim
  | ref _=>exact h.elim
 | tup ds=>
  cases e with
  | tup es=>
   have h1':=h1;have h2':=h2;simp only[zg] at h1 h2;obtain⟨a,xs,rfl,g1,g2⟩:=h1;obtain⟨b,ys,rfl,g3,g4⟩:=h2;have hl:=g2.length;have hl':=g4.length;by_cases hx:xs=[]
   .subst hx;have:ds=[]:=by cases ds <;> simp_all
    subst this;exact .inr (.inr (.inr (.inl ⟨a,b,ys,rfl,rfl,g1,g3,h.2 _ H h2' (.refl H) h3⟩)))
   .refine .inr (.inr (.inr (.inr ⟨a,b,xs,ys,rfl,rfl,g1,g3,hx,by rw[<- hl,<- hl'];exact h.1,λ hy=>?_,λ hy p hp=>?_⟩)))
    .subst hy;have:es=[]:=by cases es <;> simp_all
     subst this;refine h.2 _ H ?_ (.refl H) h3;rw[List.append_nil];exact h1'
    .refine h.2 _ _ ?_ (.new hp _) (h3.new hp);simp only[zg];exact⟨p,_,rfl,zS.of yL,zm.ext (.new hp _) _ (g2.append g4)⟩
  | zi=>exact h.elim
  | bl _=>exact h.elim
  | int _=>exact h.elim
  | str _=>exact h.elim
  | yF _=>exact h.elim
  | ref _=>exact h.elim
 | yF ds=>exact lst (λ _=>nofun) h
 | ref q=>exact lst (λ _=>nofun) h
def xp (ha:PD X a ta) (hb:PD X b tb):PD X (.BinOp a .Add b pos) (yp vP ta tb):=sy (VB.or (VA.or (V9.or (V7.or V8)))) vP.fits vP.mo ha hb
def TY {H:Hp}{d:D}{v:V}(r:zg K H d v):decide (v=.zi)=qS d:=by
 cases d with
 | zi=>simp only[zg] at r;subst r;rfl
 | bl _=>simp only[zg] at r;subst r;rfl
 | int _=>simp only[zg] at r;subst r;rfl
 | str _=>simp only[zg] at r;subst r;rfl
 | tup _=>simp only[zg] at r;obtain⟨a,xs,rfl,_⟩:=r;rfl
 | yF _=>simp only[zg] at r;obtain⟨a,xs,rfl,_⟩:=r;rfl
 | ref _=>simp only[zg] at r;subst r;rfl
def jz (ha:PD X a ta):PD X (.UnaryOp .USub a pos) (aF ta):=by
 refine⟨fun Y S Q Q' hq h=>ha.mo Y S _ _ (λ x S1 z=>by
  cases x <;> first
   | exact hq _ _ z
   | exact z) h,PE.imp (Wz Yo ha.pe) fun O H Q hu=>?_⟩
 obtain⟨Y,S,r1,r2,h⟩:=hu;refine zL.go ha.mo r1 r2 h λ x S1 v H1 h1 q1 e1 p1=>?_;cases x with
 | int i=>simp only[zg] at q1;exact⟨i,q1,h1 _ H1 (by simp only[zg]) e1 p1⟩
 | zi=>exact h1.elim
 | bl _=>exact h1.elim
 | str _=>exact h1.elim
 | tup _=>exact h1.elim
 | yF _=>exact h1.elim
 | ref _=>exact h1.elim
section
variable {N':List Str}{pick:List (Option Nat)}{scope:Scope}{tg elt iter:Expr}{ifs:List Expr}{ti:wx}{g:y_}{tcc:y9}
def tM.mo (hi:lV ti):ye (tM pick ti g tcc te):=fun Y S Q Q' hq z=>hi Y S _ _ (λ I S1 ⟨h1,h2,h3⟩=>⟨h1,h2,λ p hp=>by
 obtain⟨W,w0,w1,w2,w3⟩:=h3 p hp;exact⟨W,w0,w1,w2,λ S2 acc a b c=>hq _ _ (w3 S2 acc a b c)⟩⟩) z
def el (hi:lV ti) (hg:nR g) (hc:w6 tcc) (he:ye te) {O:St}{H:Hp}{Q:VK}(hu:zL K (tM pick ti g tcc te) O H Q):k5 pick (xY K ti) (pN K g) (xR K tcc) (zL K te) O H Q:=by
 obtain⟨Y,S,r1,r2,z⟩:=hu;refine⟨Y,S,r1,r2,hi Y S _ _ (λ I S1 hF J H1 e1 p1 rep D hD=>?_) z⟩;obtain⟨hlen,hk,hF⟩:=hF;have hS1:S1 D=none:=p1.none hD;obtain⟨W,w0,wm,wstep,wfin⟩:=hF D hS1;refine⟨λ i m O H2=>m=I.items.length-i/\i<=I.items.length/\Ext H1 H2/\yQ K H2 (vE pick Y) O/\∃ S2 acc,zI K H2 S2/\Sx S1 S2/\S2 D=some (.lst acc)/\acc.length<=i/\W i S2 acc,⟨_,rfl,zD4 _,.new hD _,((r1.ext e1).pick pick).ext (.new hD _),ups S1 D (.lst []),[],?_,.new hS1 _,tY,zA4 _,?_⟩,?_⟩
 .exact p1.ups (.new hD _) ⟨[],yL,.nil⟩
 .exact wm 0 S1 _ [] (λ b o hb q=>by rw[u_ hb];exact q) w0
 rintro i m O2 H2 ⟨rfl,hi',x2,q1,S2,acc,q2,sx,hS2,hacc,hW⟩;obtain⟨g1,g2⟩:=rep i H2 S2 x2 q2 (hk S2 sx);by_cases hl:i<I.items.length
 .have hd:I.items[i]?=some I.items[i]:=by simp[hl]
  obtain⟨go,yl⟩:=g1 _ hd;refine .inr ⟨go,λ x H3 hy=>?_⟩;obtain⟨x3,p3,d3⟩:=yl x H3 hy;refine⟨_,_,S2,d3,q1.ext x3,p3,hg _ _ S2 _ _ (fun Y4 S4 z4 O4 H4 a1 a2 a3=>?_) (wstep i _ S2 acc hd sx hS2 hW)⟩;obtain⟨hle,z4⟩:=z4;refine xR.go hc a1 a3 z4 λ b S5 H5 z5 x5 p5=>wH (λ z5=>?_) (λ z5=>?_) z5
  .refine zL.go he (a1.ext x5) p5 z5 λ y S6 v H6 z6 q6 x6 p6=>?_;obtain⟨s6,hW6⟩:=z6;obtain⟨ys,h6,r6⟩:=p6 _ _ (s6 _ _ hS2);have e6:Ext H6 (upd H6 D (.lst (ys++[v]))):=.lst h6 _;have hlen2:ys.length<=i:=by rw[<- r6.length];exact hacc
   refine⟨ys,I.items.length-(i+1),h6,by omega,by omega,rfl,hl,((((x2.trans x3).trans a2).trans x5).trans x6).trans e6,hle.rep ((a1.ext (x5.trans x6)).ext e6),ups S6 D (.lst (acc++[y])),acc++[y],?_,λ b o hb=>?_,tY,by simp;omega,?_⟩
   .exact p6.ups e6 ⟨_,yL,zm.ext e6 _ (r6.snoc q6)⟩
   .rw[u_ (by intro q;subst q;rw[hS1] at hb;cases hb)];exact s6 _ _ (sx _ _ hb)
   .exact wm _ S6 _ _ (λ b o hb q=>by rw[u_ hb];exact q) hW6
  .obtain⟨s5,hW5⟩:=z5;exact⟨I.items.length-(i+1),by omega,rfl,hl,((x2.trans x3).trans a2).trans x5,hle.rep (a1.ext x5),S5,acc,p5,sx.trans s5,s5 _ _ hS2,by omega,hW5⟩
 .have e:i=I.items.length:=by omega
  subst e;exact .inl ⟨g2 (zA4 _),wfin S2 acc sx hS2 hW _ H2 (by simp only[zg]) (e1.trans x2) q2⟩
def rJ (Sc:qp X N' pick scope) (hc:X.calm=true) (hi:ra X tg iter ti) (hg:∀ cl C s H fp,tR (yP X N' scope cl C s H fp) tg g) (hf:∀ cl C s H fp,lQ (yP X N' scope cl C s H fp) ifs tcc) (he:∀ cl C s H fp,PD (yP X N' scope cl C s H fp) elt te)
  (hs:∀ x,foldedSetIterable iter X.env x=pure x:=by intro _;rfl):
  PD X (.ListComp elt [⟨tg,iter,ifs,0⟩] scope pos) (tM pick ti g tcc te):=
 ⟨tM.mo hi.mo,λ pins s O H Q I hu=>W8 (g:=pN X.K g) (tc:=xR X.K tcc) (te:=zL X.K te) Sc hc hi.pi (λ cl C s H fp=>(hg cl C s H fp).pg) (λ cl C s H fp=>(hf cl C s H fp).pf) (λ cl C s H fp=>(he cl C s H fp).pe) hs pins s O H Q I (el hi.mo (hg [] 0 s H []).mo (hf [] 0 s H []).mo (he [] 0 s H []).mo hu)⟩
def mV {i:Nat}{y:Str}{py spos:Pos}(Sc:qp X N' pick scope) (hc:X.calm=true) (hi:ra X tg iter ti) (hg:∀ cl C s H fp,tR (yP X N' scope cl C s H fp) tg g) (hf:∀ cl C s H fp,lQ (yP X N' scope cl C s H fp) ifs tcc) (he:∀ cl C s H fp,PD (yP X N' scope cl C s H fp) elt te)
  (hN:X.N.Nodup) (hy:X.N[i]?=some y) (hx:Loc X.env.scope y)
  (hsw:swapsWith (.ListComp elt [⟨tg,iter,ifs,0⟩] scope pos) (some (.Name y py)) spos.line X.env=pure true:=by rfl)
  (hfn:X.fn y=true\/X.env.scope.names.lookup y=some .local:=by first | exact .inl rfl | exact .inr rfl | assumption)
  (hs:∀ x,foldedSetIterable iter X.env x=pure x:=by intro _;rfl):
  ve X (.Assign [.Name y py] (.ListComp elt [⟨tg,iter,ifs,0⟩] scope pos) spos) (va (tM pick ti g tcc te) (hName i)):=by
 refine⟨va.mo (tM.mo hi.mo) λ _ _ _ _ _ hq z=>hq _ _ z,λ pins s O H D I hu=>XY (g:=pN X.K g) (tc:=xR X.K tcc) (te:=zL X.K te) Sc hc hi.pi (λ cl C s H fp=>(hg cl C s H fp).pg) (λ cl C s H fp=>(hf cl C s H fp).pf) (λ cl C s H fp=>(he cl C s H fp).pe) hN hy hx hsw hfn hs pins s O H D I ?_⟩;obtain⟨Y,S,r1,r2,z⟩:=hu;refine el hi.mo (hg [] 0 s H []).mo (hf [] 0 s H []).mo (he [] 0 s H []).mo ⟨Y,S,r1,r2,tM.mo hi.mo Y S _ _ (λ x S1 z v H1 q1 e1 p1=>?_) z⟩;exact z _ H1 ((r1.ext e1).set i q1) e1 p1
end
end
section
variable {P:Program}{w:World}{K:zFr}{mg:Str->Option Value}{base:Heap}{f:Addr}{fd:FuncData}
def bX {R:Rk} [Lo R] {x:Str}{st:Stmt}{N ps:List Str}{k n:Nat}{g:Sm}(F:uu K x x st f fd) (Sc:yj N ps (zG st)) (hn:n=ps.length)
  (hbody:∀ (cdv:Value) (A:Around) (outer:List Env) (s:Shared) (H:Hp) (E:XK),yx k (A.deeper (envOfC x (zG st) s.heap.objs.size f cdv))->
   ∃ t,vU (uO vh P w K mg base N x (zG st) f cdv A outer s H E).sF (w_ st) t/\yD R g t):vY P w K mg base vh (k+1) f fd ps (tf K (zT R (yh N n g))):=
 SX F Sc (λ ds S Q h=>by rw[h.len,hn]) λ cdv A outer s H E hr=>by
  obtain⟨t,h1,h2⟩:=hbody cdv A outer s H E hr;exact⟨t,h1,λ ds S Q h=>Qt h2 h⟩
def Rj {R:Rk} [Lo R] {x:Str}{st:Stmt}{N ps:List Str}{k n:Nat}{g:Sm}(F:uu K x x st f fd) (hm:mg x=some (.ref f)) (Sc:yj N ps (zG st)) (hn:n=ps.length)
  (hb:∀ (kV doc pm:Value) (an:Option Addr) (cdv ct:Value) (us:List Value),us.length=ps.length->bindArgs (PySem.W.fnOf x x (tL st) (w_ st) (zG st) .none kV doc pm an cdv ct) ⟨us,[]⟩=pure (ps.zip us))
  (hbody:∀ (cdv:Value) (A:Around) (outer:List Env) (s:Shared) (H:Hp) (E:XK),yx k (A.deeper (envOfC x (zG st) s.heap.objs.size f cdv))->
   ∃ t,vU (uO vh P w K mg base N x (zG st) f cdv A outer s H E).sF (w_ st) t/\yD R g t):FD P w K mg base x (k+1) ps (zT R (yh N n g)):=
 ⟨⟨f,fd,bX F Sc hn hbody,hm,F.kp,F.binds hb⟩,zT.mo⟩
def T7 {R:Rk} [Sr R] {F:List T->Option T}(hF:∀ ns:List Int,ns.length<=63->F [.lst (ns.map T.int)]=some (.bl true)) {H:Hp}{a:Addr}{ns:List Int}{E:XK}(hO:lR H) (hS:zN K H a (ns.map V.int)) (hl:ns.length<=63):tf K (zT R F) [.ref a] H (λ v _=>v=.bl true) E:=by
 have hFz:p7 K H a (ns.map V.int):=by
  rcases hS with (h | h) | h
  .rcases hO a with z | ⟨o,xs,z⟩
   .rw[h] at z;cases z
   .rw[h] at z;cases z
  .exact .inl h
  .exact .inr h
 refine⟨[.yF (ns.map D.int)],λ _=>none,.cons ?_ .nil,(λ a o z=>nomatch z),λ _=>False,[.lst (ns.map T.int)],.bl true,nofun,.cons ?_ .nil,hF ns hl,λ d S' s r v H' rv _ _=>?_⟩
 .simp only[zg];exact⟨a,_,rfl,hFz,zm.jJ ns⟩
 .simp only[Sn];exact⟨_,.inl ⟨rfl,VC ns⟩,tw.mpr rfl⟩
 .have:=Sr.sn r;simp only[Sn] at this;subst this;simpa only [zg] using rv
end
end L5
namespace ST
open PySem PySem.SetTable
def ur (xs:List Nat):Prop:=xs.Pairwise (· < ·)
def iD {xs:Array Nat}{m d:Nat}(h:m<xs.size):xs.getD m d=xs[m]:=by simp[Array.getD,h]
theorem gh (xs:Array Nat) (j:Nat) (hr:ur xs.toList):∀ (f lo hi:Nat),hi-lo<=f->lo<=hi->hi<=xs.size->(∀ i (h:i<xs.size),i<lo->xs[i]<j)->(∀ i (h:i<xs.size),hi<=i->j<=xs[i])->
  below.go xs j f lo hi<=xs.size/\(∀ i (h:i<xs.size),i<below.go xs j f lo hi->xs[i]<j)/\∀ i (h:i<xs.size),below.go xs j f lo hi<=i->j<=xs[i]
 | 0,lo,hi,h1,h2,h3,h4,h5=>by
  unfold below.go;have:lo=hi:=by omega
  subst this;exact⟨h3,h4,h5⟩
 | f+1,lo,hi,h1,h2,h3,h4,h5=>by
  unfold below.go;have wa:∀ i k (hi:i<xs.size) (hk:k<xs.size),i<=k->xs[i]<=xs[k]:=λ i k hi hk hik=>by
   rcases Nat.lt_or_ge i k with q | q
   .have r:=List.pairwise_iff_getElem.mp hr i k (by simpa using hi) (by simpa using hk) q;rw[Array.getElem_toList,Array.getElem_toList] at r;exact zE3 r
   .have:i=k:=by omega
    subst this;exact zA4 _
  by_cases hl:lo<hi
  .rw[if_pos hl];dsimp only;have hm:(lo+hi)/2<xs.size:=by omega
   rw[iD hm];by_cases c:xs[(lo+hi)/2]<j
   .rw[if_pos c];refine gh xs j hr f _ hi (by omega) (by omega) h3 (λ i hi' hlt=>?_) h5;have:=wa i ((lo+hi)/2) hi' hm (by omega);omega
   .rw[if_neg c];refine gh xs j hr f lo _ (by omega) (by omega) (by omega) h4 (λ i hi' hge=>?_);have:=wa ((lo+hi)/2) i hm hi' hge;omega
  .rw[if_neg hl];have:lo=hi:=by omega
   subst this;exact⟨h3,h4,h5⟩
def lM {xs:Array Nat}{j:Nat}(hr:ur xs.toList):below xs j<=xs.size/\(∀ i (h:i<xs.size),i<below xs j->xs[i]<j)/\∀ i (h:i<xs.size),below xs j<=i->j<=xs[i]:=
 gh xs j hr xs.size 0 xs.size (by omega) (by omega) (zA4 _) (λ i h q=>by omega) (λ i h q=>by omega)
def below_at {xs:Array Nat}{j i:Nat}(hr:ur xs.toList) (h:xs[i]?=some j):below xs j=i:=by
 obtain⟨h1,h2,h3⟩:=lM (j:=j) hr;obtain⟨hi,e⟩:=Array.getElem?_eq_some_iff.mp h;have a:¬ i<below xs j:=λ q=>by have:=h2 i hi q;omega
 have b:¬ below xs j<i:=λ q=>by
  have:=h3 (below xs j) (by omega) (zA4 _);have r:=List.pairwise_iff_getElem.mp hr (below xs j) i (by simp;omega) (by simpa using hi) q;simp at r;omega
 omega
def Qw {xs:Array Nat}{j:Nat}(hr:ur xs.toList):(xs[below xs j]?=some j)↔j∈xs.toList:=by
 constructor
 .intro h;obtain⟨hi,e⟩:=Array.getElem?_eq_some_iff.mp h;rw[<- e];simp
 .intro h;obtain⟨i,hi,e⟩:=List.mem_iff_getElem.mp h;have hx:xs[i]?=some j:=by
   simp at hi;simp[hi] at e ⊢;exact e
  rw[below_at hr hx];exact hx
noncomputable def vR (M:Nat) (p:Probe):Probe:=
 if p.more>0 then { p with j:=p.j+1,more:=p.more-1 } else
 let (i,perturb):=leap M p.i p.perturb
 { p with j:=i,more:=runEnd M i-i,i,perturb }
def gs (t:SetTable) (p:Probe):t.advance p=vR t.mask p:=rfl
noncomputable def q8 (M i perturb:Nat):Probe:={ j:=i,more:=runEnd M i-i,i:=i,perturb:=perturb,dummy:=none }
noncomputable def way (M:Nat) (h:Int):Nat->Probe
 | 0=>q8 M (bits h%(M+1)) (bits h)
 | k+1=>vR M (way M h k)
def Q6 (M:Nat) (p:Probe) (h:p.dummy=none):(vR M p).dummy=none:=by
 unfold vR;split
 .exact h
 .exact h
theorem kl (M:Nat) (h:Int):∀ k,(way M h k).dummy=none
 | 0=>rfl
 | k+1=>Q6 M _ (kl M h k)
noncomputable def zQ (M:Nat) (h:Int):Nat->Nat×Nat
 | 0=>(bits h%(M+1),bits h)
 | n+1=>leap M (zQ M h n).1 (zQ M h n).2
theorem je (M i pt:Nat) (h:Int) (k:Nat) (hk:way M h k=q8 M i pt):∀ m,m<=runEnd M i-i->way M h (k+m)={ j:=i+m,more:=runEnd M i-i-m,i:=i,perturb:=pt,dummy:=none }
 | 0,_=>by rw[Nat.add_zero,hk];rfl
 | m+1,hm=>by
  have ih:=je M i pt h k hk m (by omega);show vR M (way M h (k+m))=_;rw[ih];unfold vR;rw[if_pos (by show runEnd M i-i-m>0;omega)];simp only[Probe.mk.injEq];exact⟨by omega,by omega,trivial,trivial,trivial⟩
def Xx (M i:Nat):runEnd M i-i<=9:=by unfold runEnd;split <;> omega
def de (M:Nat) (h:Int) (n k:Nat) (hk:way M h k=q8 M (zQ M h n).1 (zQ M h n).2):way M h (k+(runEnd M (zQ M h n).1-(zQ M h n).1)+1)=q8 M (zQ M h (n+1)).1 (zQ M h (n+1)).2:=by
 have:=je M _ _ h k hk _ (zA4 _);show vR M (way M h (k+_))=_;rw[this];unfold vR;rw[if_neg (by show ¬ _-_-(_-_)>0;omega)];rfl
theorem df (M:Nat) (h:Int):∀ n,∃ k,k<=10*n/\way M h k=q8 M (zQ M h n).1 (zQ M h n).2
 | 0=>⟨0,by omega,rfl⟩
 | n+1=>by
  obtain⟨k,h1,h2⟩:=df M h n;have:=Xx M (zQ M h n).1;exact⟨_,by omega,de M h n k h2⟩
def Qu (h:Int):bits h<2 ^ 64:=by
 unfold bits;have h1:=zF0 h (show (2 ^ 64:Int)≠0 by decide);have h2:=zF1 h (show (0:Int)<2 ^ 64 by decide);omega
theorem dJ (M:Nat) (h:Int):∀ n,(zQ M h n).2*32 ^ n<=bits h
 | 0=>by simp[zQ]
 | n+1=>by
  have ih:=dJ M h n;show ((zQ M h n).2/32)*32 ^ (n+1)<=_;have:(zQ M h n).2/32*32<=(zQ M h n).2:=Nat.div_mul_le_self _ _
  calc (zQ M h n).2/32*32 ^ (n+1)=((zQ M h n).2/32*32)*32 ^ n:=by rw[Nat.pow_succ,Nat.mul_comm (32 ^ n) 32,Nat.mul_assoc]
   _<=(zQ M h n).2*32 ^ n:=Nat.mul_le_mul_right _ this
   _<=_:=ih
def Ww (M:Nat) (h:Int) (n:Nat) (hn:13<=n):(zQ M h n).2=0:=by
 rcases Nat.eq_zero_or_pos (zQ M h n).2 with q | q
 .exact q
 .have h1:=dJ M h n;have h2:=Qu h;have h3:32 ^ 13<=32 ^ n:=Nat.pow_le_pow_right (by decide) hn;have h4:1*32 ^ n<=(zQ M h n).2*32 ^ n:=Nat.mul_le_mul_right _ q;have h5:(2:Nat) ^ 64<32 ^ 13:=by decide
  omega
noncomputable def tB (M:Nat) (i:Nat):Nat->Nat
 | 0=>i
 | n+1=>(tB M i n*5+1)%(M+1)
theorem cX (M:Nat) (h:Int):∀ n,(zQ M h (13+n)).1=tB M (zQ M h 13).1 n
 | 0=>rfl
 | n+1=>by
  have ih:=cX M h n;have hz:=Ww M h (13+n) (by omega);show ((zQ M h (13+n)).1*5+1+(zQ M h (13+n)).2/32)%(M+1)=_;rw[hz,ih];rfl
theorem oy (M i:Nat):∀ a b,tB M i (a+b)=tB M (tB M i a) b
 | a,0=>rfl
 | a,b+1=>by
  show (tB M i (a+b)*5+1)%(M+1)=_;rw[oy M i a b];rfl
noncomputable def ox (M:Nat):Nat->Nat->List Nat
 | 0,_=>[]
 | n+1,i=>i::ox M n ((i*5+1)%(M+1))
theorem j7 (M:Nat):∀ n i x,x∈ox M n i->∃ k,k<n/\tB M i k=x
 | 0,i,x,h=>by cases h
 | n+1,i,x,h=>by
  rcases zA5.mp h with e | e
  .exact⟨0,by omega,e.symm⟩
  .obtain⟨k,h1,h2⟩:=j7 M n _ x e;exact⟨k+1,by omega,by rw[Nat.add_comm,oy];exact h2⟩
def vg (M:Nat):Prop:=M=7\/M=31\/M=127
def Vo (M:Nat) (hM:vg M):(∀ e,e<=M->e∈ox M (M+1) 0)/\tB M 0 (M+1)=0:=by
 have key:∀ M,((List.range (M+1)).all λ e=>(ox M (M+1) 0).contains e)=true->∀ e,e<=M->e∈ox M (M+1) 0:=λ M h e he=>by
  have:=zE4.mp h e (zC1.mpr (by omega));simpa using this
 rcases hM with rfl | rfl | rfl
 .exact⟨key 7 (by decide +kernel),by decide +kernel⟩
 .exact⟨key 31 (by decide +kernel),by decide +kernel⟩
 .exact⟨key 127 (by decide +kernel),by decide +kernel⟩
def Vn (M:Nat) (hM:vg M) (i e:Nat) (hi:i<=M) (he:e<=M):∃ n,n<=M/\tB M i n=e:=by
 obtain⟨h1,h2⟩:=Vo M hM;obtain⟨a,a1,a2⟩:=j7 M _ _ _ (h1 i hi);obtain⟨b,b1,b2⟩:=j7 M _ _ _ (h1 e he);rcases Nat.lt_or_ge b a with q | q
 .refine⟨M+1+b-a,by omega,?_⟩;rw[<- a2,<- oy,show a+(M+1+b-a)=(M+1)+b by omega,oy,h2,b2]
 .refine⟨b-a,by omega,?_⟩;rw[<- a2,<- oy,show a+(b-a)=b by omega,b2]
theorem Tw (M:Nat) (h:Int):∀ n,(zQ M h n).1<=M
 | 0=>by have:=Nat.mod_lt (bits h) (show 0<M+1 by omega);show bits h%(M+1)<=M;omega
 | n+1=>by
  have:=Nat.mod_lt ((zQ M h n).1*5+1+(zQ M h n).2/32) (show 0<M+1 by omega);show (_%(M+1):Nat)<=M;omega
def cY (M:Nat) (hM:vg M) (h:Int) (e:Nat) (he:e<=M):∃ n,n<M+14/\(zQ M h n).1=e:=by
 obtain⟨n,h1,h2⟩:=Vn M hM (zQ M h 13).1 e (Tw M h 13) he;exact⟨13+n,by omega,by rw[cX,h2]⟩
def Ye (M:Nat) (hM:vg M) (h:Int) (e:Nat) (he:e<=M):∃ k,k<10*(M+15)/\(way M h k).j=e:=by
 obtain⟨n,h1,h2⟩:=cY M hM h e he;obtain⟨k,k1,k2⟩:=df M h n;exact⟨k,by omega,by rw[k2];exact h2⟩
theorem fZ (M:Nat) (h:Int):∀ k,(way M h k).j+(way M h k).more<=M/\(way M h k).i<=M
 | 0=>by
  have h1:bits h%(M+1)<=M:=by have:=Nat.mod_lt (bits h) (show 0<M+1 by omega);omega
  refine⟨?_,h1⟩;show bits h%(M+1)+(runEnd M (bits h%(M+1))-bits h%(M+1))<=M;unfold runEnd;split <;> omega
 | k+1=>by
  obtain⟨h1,h2⟩:=fZ M h k;show (vR M (way M h k)).j+(vR M (way M h k)).more<=M/\(vR M (way M h k)).i<=M;unfold vR;split
  .rename_i c;exact⟨by show (way M h k).j+1+((way M h k).more-1)<=M;omega,h2⟩
  .have h3:((way M h k).i*5+1+(way M h k).perturb/32)%(M+1)<=M:=by have:=Nat.mod_lt ((way M h k).i*5+1+(way M h k).perturb/32) (show 0<M+1 by omega);omega
   refine⟨?_,h3⟩;show _%(M+1)+(runEnd M (_%(M+1))-_%(M+1))<=M;unfold runEnd;split <;> omega
def kj (M:Nat) (h:Int) (k:Nat):(way M h k).j<=M:=by have:=(fZ M h k).1;omega
structure Tab (t:SetTable) (hs:List Int):Prop where
 mask:vg t.mask
 sS:t.dummies=#[]
 len:t.place.size=hs.length
 wa:ur t.place.toList
 yo:∀ j∈t.place.toList,j<=t.mask
 oa:∀ (i:Nat) h j,hs[i]?=some h->t.place[i]?=some j->∃ k,(way t.mask h k).j=j/\∀ k'<k,(way t.mask h k').j∈t.place.toList
theorem Tab.live {t:SetTable}{hs:List Int}(T:Tab t hs) {i j:Nat}(h:t.place[i]?=some j):t.slot j=.live i:=by
 unfold SetTable.slot;dsimp only;rw[below_at T.wa h,if_pos (by rw[h];simp)]
theorem Tab.empty {t:SetTable}{hs:List Int}(T:Tab t hs) {j:Nat}(h:j∉t.place.toList):t.slot j=.empty:=by
 unfold SetTable.slot;dsimp only;have n1:¬ (t.place[below t.place j]? == some j)=true:=λ q=>h ((Qw T.wa).mp (by simpa using q));rw[if_neg n1,if_neg (by rw[T.sS];simp[has])]
theorem Tab.at {t:SetTable}{hs:List Int}(T:Tab t hs) {j:Nat}(h:j∈t.place.toList):∃ (i:Nat) (g:Int),t.place[i]?=some j/\hs[i]?=some g:=by
 obtain⟨i,hi,e⟩:=List.mem_iff_getElem.mp h;have hi':i<t.place.size:=by simpa using hi
 refine⟨i,hs[i]'(by rw[<- T.len];exact hi'),?_,by simp⟩;rw[zB8 hi'];rw[Array.getElem_toList] at e;rw[e]
theorem bQ {t:SetTable}{hs:List Int}(T:Tab t hs) {hashAt:Nat->Int}(hA:∀ (i:Nat) g,hs[i]?=some g->hashAt i=g) (h:Int):∀ (f k:Nat),(∃ e,k<=e/\e<k+f/\(way t.mask h e).j∉t.place.toList)->
  ∃ k1,k<=k1/\(∀ m,k<=m->m<k1->∃ (i:Nat) (g:Int),t.place[i]?=some (way t.mask h m).j/\hs[i]?=some g/\g≠h)/\
   ((way t.mask h k1).j∉t.place.toList/\probe.go t hashAt h f (way t.mask h k)=some (.empty (way t.mask h k1).j none)\/
    ∃ i,t.place[i]?=some (way t.mask h k1).j/\hs[i]?=some h/\probe.go t hashAt h f (way t.mask h k)=some (.candidate (way t.mask h k1).j i (way t.mask h (k1+1))))
 | 0,k,⟨e,h1,h2,_⟩=>by omega
 | f+1,k,⟨e,h1,h2,h3⟩=>by
  by_cases hm:(way t.mask h k).j∈t.place.toList
  .obtain⟨i,g,p1,p2⟩:=T.at hm;by_cases hg:g=h
   .refine⟨k,zA4 _,λ m a b=>by omega,.inr ⟨i,p1,by rw[<- hg];exact p2,?_⟩⟩;unfold probe.go;rw[T.live p1];dsimp only;rw[hA i g p2,if_pos (by simp[hg]),gs];rfl
   .have hne:e≠k:=λ q=>by subst q;exact h3 hm
    obtain⟨k1,q1,q2,q3⟩:=bQ T hA h f (k+1) ⟨e,by omega,by omega,h3⟩;have eq:probe.go t hashAt h (f+1) (way t.mask h k)=probe.go t hashAt h f (way t.mask h (k+1)):=by
     conv=>lhs;unfold probe.go
     rw[T.live p1];dsimp only;rw[hA i g p2,if_neg (by simp[hg]),gs];rfl
    rw[eq];refine⟨k1,by omega,λ m a b=>?_,q3⟩;rcases Nat.eq_or_lt_of_le a with w | w
    .subst w;exact⟨i,g,p1,p2,hg⟩
    .exact q2 m w b
  .refine⟨k,zA4 _,λ m a b=>by omega,.inl ⟨hm,?_⟩⟩;unfold probe.go;rw[T.empty hm,kl]
def c9 {xs ys:List Nat}(hx:xs.Nodup) (h:∀ x∈xs,x∈ys):xs.length<=ys.length:=by
 induction xs generalizing ys with
 | nil=>simp
 | cons x xs ih=>
  have h1:=List.nodup_cons.mp hx;have hxy:=h x zMc;have:=ih h1.2 (ys:=ys.erase x) λ z hz=>by
   have hne:z≠x:=λ e=>h1.1 (e▸hz);exact (List.mem_erase_of_ne hne).mpr (h z (zMo _ hz))
  rw[List.length_erase_of_mem hxy] at this;have hp:=List.length_pos_of_mem hxy;simp only[zC0];omega
def least {P:Nat->Prop}(k:Nat) (h:P k):∃ m,m<=k/\P m/\∀ m'<m,¬ P m':=by
 induction k using Nat.strongRecOn with
 | ind k ih=>
  rcases Classical.em (∃ m',m'<k/\P m') with ⟨m',h1,h2⟩ | q
  .obtain⟨m,g1,g2⟩:=ih m' h1 h2;exact⟨m,by omega,g2⟩
  .exact⟨k,zA4 _,h,λ m' hm hp=>q ⟨m',hm,hp⟩⟩
def Ra {xs:List Nat}{M:Nat}(h:xs.length<=M):∃ e,e<=M/\e∉xs:=by
 rcases Classical.em (∃ e,e<=M/\e∉xs) with q | q
 .exact q
 .have:=c9 (xs:=List.range (M+1)) (ys:=xs) List.nodup_range λ e he=>by
   have:=zC1.mp he;rcases Classical.em (e∈xs) with w | w
   .exact w
   .exact absurd ⟨e,by omega,w⟩ q
  simp at this;omega
def g_ (t:SetTable) (h:Int) (j:Nat):Prop:=j∉t.place.toList/\∃ k,(way t.mask h k).j=j/\∀ k'<k,(way t.mask h k').j∈t.place.toList
def Tab.first {t:SetTable}{hs:List Int}(T:Tab t hs) (hl:hs.length<=t.mask) (h:Int):∃ K,K<10*(t.mask+15)/\(way t.mask h K).j∉t.place.toList/\∀ k'<K,(way t.mask h k').j∈t.place.toList:=by
 obtain⟨e,e1,e2⟩:=Ra (xs:=t.place.toList) (M:=t.mask) (by rw[zD2,T.len];exact hl);obtain⟨k,k1,k2⟩:=Ye t.mask T.mask h e e1;obtain⟨K,q1,q2,q3⟩:=least (P:=λ n=>(way t.mask h n).j∉t.place.toList) k (by rw[k2];exact e2);exact⟨K,by omega,q2,λ k' hk=>Classical.not_not.mp (q3 k' hk)⟩
def X0 {xs:List Nat}{j p:Nat}(h:ur xs) (h1:∀ x∈xs.take p,x<j) (h2:∀ x∈xs.drop p,j<x):ur (xs.take p++j::xs.drop p):=by
 refine List.pairwise_append.mpr ⟨h.sublist (List.take_sublist _ _),List.pairwise_cons.mpr ⟨h2,h.sublist (List.drop_sublist _ _)⟩,λ a ha b hb=>?_⟩;rcases zA5.mp hb with e | e
 .subst e;exact h1 a ha
 .have:=h1 a ha;have:=h2 b e;omega
def bF {α:Type}{xs:List α}{p i:Nat}{x y:α}(hp:p<=xs.length) (h:(xs.take p++x::xs.drop p)[i]?=some y):(i=p/\y=x)\/(i<p/\xs[i]?=some y)\/(p<i/\xs[i-1]?=some y):=by
 have hl:(xs.take p).length=p:=by rw[List.length_take];omega
 rcases Nat.lt_trichotomy i p with q | q | q
 .rw[List.getElem?_append_left (by omega),List.getElem?_take,if_pos q] at h;exact .inr (.inl ⟨q,h⟩)
 .subst q;rw[List.getElem?_append_right (by omega),hl] at h;simp at h;exact .inl ⟨rfl,h.symm⟩
 .rw[List.getElem?_append_right (by omega),hl] at h;obtain⟨d,hd⟩:∃ d,i-p=d+1:=⟨i-p-1,by omega⟩
  rw[hd] at h;simp only[List.getElem?_cons_succ,List.getElem?_drop] at h;refine .inr (.inr ⟨q,?_⟩);rw[show i-1=p+d by omega];exact h
theorem Tab.put {t:SetTable}{hs:List Int}(T:Tab t hs) {h:Int}{j:Nat}(F:g_ t h j):
  (t.put j).2<=hs.length/\(t.put j).1={ t with place:=insertAt t.place (t.put j).2 j }/\Tab (t.put j).1 (hs.take (t.put j).2++h::hs.drop (t.put j).2):=by
 obtain⟨b1,b2,b3⟩:=lM (xs:=t.place) (j:=j) T.wa;obtain⟨fn,K,k1,k2⟩:=F;have e2:(t.put j).2=below t.place j:=rfl;have e1:(t.put j).1={ t with place:=insertAt t.place (t.put j).2 j }:=by
  show ({ t with place:=insertAt t.place (below t.place j) j,dummies:=_ }:SetTable)=_;rw[if_neg (by rw[T.sS];simp[has]),e2]
 have pl:(insertAt t.place (below t.place j) j).toList=t.place.toList.take (below t.place j)++j::t.place.toList.drop (below t.place j):=toList_insertAt _ _ _;have old:∀ x∈t.place.toList,x∈(insertAt t.place (below t.place j) j).toList:=λ x hx=>by
  rw[pl];have:=List.take_append_drop (below t.place j) t.place.toList;rw[<- this] at hx;rcases zB9.mp hx with q | q
  .exact List.mem_append_left _ q
  .exact zB4 _ (zMo _ q)
 rw[e2] at e1 ⊢;refine⟨by rw[<- T.len];exact b1,e1,?_⟩;rw[e1];refine⟨T.mask,T.sS,?_,?_,?_,?_⟩
 .show (insertAt t.place (below t.place j) j).size=_;rw[<- zD2,pl];simp[T.len]
 .show ur (insertAt t.place (below t.place j) j).toList;rw[pl];refine X0 T.wa (λ x hx=>?_) (λ x hx=>?_)
  .obtain⟨i,hi,e⟩:=List.mem_iff_getElem.mp hx;rw[List.length_take] at hi;rw[List.getElem_take,Array.getElem_toList] at e;rw[<- e];exact b2 i (by simp at hi;omega) (by omega)
  .obtain⟨i,hi,e⟩:=List.mem_iff_getElem.mp hx;rw[List.length_drop] at hi;rw[List.getElem_drop,Array.getElem_toList] at e;have h3:=b3 (below t.place j+i) (by simp at hi;omega) (by omega);have hm:x∈t.place.toList:=List.mem_of_mem_drop hx;have hne:x≠j:=λ q=>fn (q▸hm);omega
 .intro x hx;show x<=t.mask;have hx:x∈(insertAt t.place (below t.place j) j).toList:=hx;rw[pl] at hx;rcases zB9.mp hx with q | q
  .exact T.yo x (List.mem_of_mem_take q)
  .rcases zA5.mp q with e | e
   .subst e;rw[<- k1];exact kj _ _ _
   .exact T.yo x (List.mem_of_mem_drop e)
 .intro i g x hg hx;show ∃ k,(way t.mask g k).j=x/\∀ k'<k,(way t.mask g k').j∈(insertAt t.place (below t.place j) j).toList;have hx:(insertAt t.place (below t.place j) j)[i]?=some x:=hx;rw[<- zD3,pl] at hx;have hpl:below t.place j<=t.place.toList.length:=by simpa using b1
  have hpl':below t.place j<=hs.length:=by rw[<- T.len];exact b1
  rcases bF hpl hx with ⟨c1,c2⟩ | ⟨c1,c2⟩ | ⟨c1,c2⟩ <;> rcases bF hpl' hg with ⟨d1,d2⟩ | ⟨d1,d2⟩ | ⟨d1,d2⟩ <;> first
   | omega
   | (subst c2 d2;exact⟨K,k1,λ k' hk=>old _ (k2 k' hk)⟩)
   | (obtain⟨k,g1,g2⟩:=T.oa _ g x d2 (by rw[<- zD3];exact c2)
      exact⟨k,g1,λ k' hk=>old _ (g2 k' hk)⟩)
def rb (owner:Array (Option Nat)) (j:Nat):Prop:=∃ k,owner[j]?=some (some k)
def Rh {P:Nat->Bool}{n k:Nat}(h:(List.range n).find? P=some k):k<n/\P k=true/\∀ k'<k,P k'=false:=by
 obtain⟨h1,as,bs,h2,h3⟩:=List.find?_eq_some_iff_append.mp h;have hlen:as.length=k:=by
  have e:(List.range n)[as.length]?=some k:=by rw[h2];simp
  have:=(zA2.mp e)
  obtain⟨q1,q2⟩:=this;rw[List.getElem_range] at q2;exact q2
 have hk:k<n:=by
  have:k∈List.range n:=by rw[h2];simp
  exact zC1.mp this
 refine⟨hk,h1,λ k' hk'=>?_⟩;have:k'∈as:=by
  have e:(List.range n)[k']?=some k':=List.getElem?_range (by omega);rw[h2,List.getElem?_append_left (by omega)] at e;exact zB7 e
 have:=h3 k' this;simpa using this
def getD_none {owner:Array (Option Nat)}{j:Nat}(h:((owner.getD j (some 0)).isNone)=true):owner[j]?=some none:=by
 unfold Array.getD at h;split at h
 .rename_i hj;have e:owner[j]=none:=by simpa using h
  rw[zB8 hj,e]
 .simp at h
def bS {owner:Array (Option Nat)}{j:Nat}(hj:j<owner.size) (h:((owner.getD j (some 0)).isNone)=false):rb owner j:=by
 unfold Array.getD at h;rw[dif_pos hj] at h;cases q:owner[j] with
 | none=>simp[q] at h
 | some k=>exact⟨k,by rw[zB8 hj,q]⟩
theorem bW (M:Nat) (owner:Array (Option Nat)) (hsz:owner.size=M+1) (h:Int):∀ (fuel n kn:Nat),way M h kn=q8 M (zQ M h n).1 (zQ M h n).2->(∀ q<kn,rb owner (way M h q).j)->
  (∃ n',n<=n'/\n'<n+fuel/\owner[(zQ M h n').1]?=some none)->
  ∃ j q,layClean.free M owner fuel (zQ M h n).1 (zQ M h n).2=some j/\(way M h q).j=j/\owner[j]?=some none/\∀ q'<q,rb owner (way M h q').j
 | 0,n,kn,_,_,⟨n',h1,h2,_⟩=>by omega
 | fuel+1,n,kn,hk,ho,⟨n',h1,h2,h3⟩=>by
  have hre:runEnd M (zQ M h n).1+1-(zQ M h n).1=runEnd M (zQ M h n).1-(zQ M h n).1+1:=by unfold runEnd;split <;> omega
  have hwalk:∀ m,m<=runEnd M (zQ M h n).1-(zQ M h n).1->(way M h (kn+m)).j=(zQ M h n).1+m:=λ m hm=>by rw[je M _ _ h kn hk m hm]
  unfold layClean.free;cases hf:(List.range (runEnd M (zQ M h n).1+1-(zQ M h n).1)).find? (λ k=>(owner.getD ((zQ M h n).1+k) (some 0)).isNone) with
  | some k=>
   obtain⟨f1,f2,f3⟩:=Rh hf;refine⟨_,kn+k,rfl,hwalk k (by omega),getD_none f2,λ q' hq=>?_⟩;rcases Nat.lt_or_ge q' kn with w | w
   .exact ho q' w
   .have e:(way M h q').j=(zQ M h n).1+(q'-kn):=by
     have:=hwalk (q'-kn) (by omega)
     rwa [show kn+(q'-kn)=q' by omega] at this
    have hle:=kj M h q';rw[e] at hle ⊢;exact bS (by omega) (f3 (q'-kn) (by omega))
  | none=>
   have f3:=List.find?_eq_none.mp hf;have occ:∀ m,m<=runEnd M (zQ M h n).1-(zQ M h n).1->rb owner ((zQ M h n).1+m):=λ m hm=>by
    have hle:=kj M h (kn+m);rw[hwalk m hm] at hle;exact bS (by omega) (Bool.eq_false_iff.mpr (f3 m (zC1.mpr (by omega))))
   have hne:n'≠n:=λ e=>by
    subst e;obtain⟨k,hk'⟩:=occ 0 (zD4 _);rw[Nat.add_zero] at hk';rw[hk'] at h3;cases h3
   dsimp only;obtain⟨j,q,r1,r2⟩:=bW M owner hsz h fuel (n+1) _ (de M h n kn hk) (λ q hq=>by
    rcases Nat.lt_or_ge q kn with w | w
    .exact ho q w
    .have e:=hwalk (q-kn) (by omega);rw[show kn+(q-kn)=q by omega] at e;rw[e];exact occ _ (by omega)) ⟨n',by omega,by omega,h3⟩
   exact⟨j,q,r1,r2⟩
structure Lay (M:Nat) (hs:List Int) (owner:Array (Option Nat)) (m:Nat):Prop where
 size:owner.size=M+1
 below:∀ (j k:Nat),owner[j]?=some (some k)->k<m
 each:∀ (k:Nat),k<m->∃ (j:Nat),owner[j]?=some (some k)
 once:∀ (i j k:Nat),owner[i]?=some (some k)->owner[j]?=some (some k)->i=j
 oa:∀ (j k:Nat) h,owner[j]?=some (some k)->hs[k]?=some h->∃ q,(way M h q).j=j/\∀ q'<q,rb owner (way M h q').j
theorem Lay.none {M:Nat}(hM:vg M) {hs:List Int}{owner:Array (Option Nat)}{m:Nat}(L:Lay M hs owner m) (hm:m<=M):∃ (e:Nat),e<=M/\owner[e]?=some Option.none:=by
 rcases Classical.em (∃ (e:Nat),e<=M/\owner[e]?=some Option.none) with q | q
 .exact q
 .exfalso;have hall:∀ (e:Nat),e<=M->∃ (k:Nat),owner[e]?=some (some k):=λ e he=>by
   have hlt:e<owner.size:=by rw[L.size];omega
   cases w:owner[e] with
   | none=>exact absurd ⟨e,he,by rw[zB8 hlt,w]⟩ q
   | some k=>exact⟨k,by rw[zB8 hlt,w]⟩
  have:=c9 (xs:=(List.range (M+1)).map λ e=>((owner[e]?).getD Option.none).getD 0) (ys:=List.range m) (by
   refine List.pairwise_map.mpr (List.Pairwise.imp_of_mem ?_ List.nodup_range);intro a b ha hb hne e;refine hne ?_;obtain⟨k,hk⟩:=hall a (by have:=zC1.mp ha;omega);obtain⟨k',hk'⟩:=hall b (by have:=zC1.mp hb;omega);rw[hk,hk'] at e;simp at e;subst e;exact L.once a b k hk hk') (λ x hx=>by
   obtain⟨e,he,rfl⟩:=zB0.mp hx;obtain⟨k,hk⟩:=hall e (by have:=zC1.mp he;omega);rw[hk];exact zC1.mpr (L.below e k hk))
  simp at this;omega
def mD {α:Type}{xs:Array α}{j i:Nat}{a b:α}(h:(xs.setIfInBounds j a)[i]?=some b):(i=j/\b=a)\/(i≠j/\xs[i]?=some b):=by
 rw[Array.getElem?_setIfInBounds] at h;by_cases e:j=i
 .subst e;rw[if_pos rfl] at h;split at h
  .cases h;exact .inl ⟨rfl,rfl⟩
  .cases h
 .rw[if_neg e] at h;exact .inr ⟨λ q=>e q.symm,h⟩
def Lay.step {M:Nat}(hM:vg M) {hs:List Int}{owner:Array (Option Nat)}{m:Nat}{h:Int}(L:Lay M hs owner m) (hm:m<=M) (hh:hs[m]?=some h):
  ∃ j,layClean.free M owner (turns M) (bits h%(M+1)) (bits h)=some j/\Lay M hs (owner.setIfInBounds j (some m)) (m+1):=by
 obtain⟨e,e1,e2⟩:=L.none hM hm;obtain⟨n',n1,n2⟩:=cY M hM h e e1;obtain⟨j,q,r1,r2,r3,r4⟩:=bW M owner L.size h (turns M) 0 0 rfl (λ q hq=>by omega) ⟨n',by omega,by unfold turns;omega,by rw[n2];exact e2⟩;have hj:j<owner.size:=(Array.getElem?_eq_some_iff.mp r3).1;have keep:∀ x,rb owner x->rb (owner.setIfInBounds j (some m)) x:=λ x ⟨k,hk⟩=>by
  have hne:j≠x:=λ w=>by subst w;rw[r3] at hk;cases hk
  exact⟨k,by rw[Array.getElem?_setIfInBounds,if_neg hne];exact hk⟩
 have self:(owner.setIfInBounds j (some m))[j]?=some (some m):=by rw[Array.getElem?_setIfInBounds,if_pos rfl,if_pos hj]
 refine⟨j,r1,⟨by simp[L.size],λ x k hx=>?_,λ k hk=>?_,λ x y k hx hy=>?_,λ x k g hx hg=>?_⟩⟩
 .rcases mD hx with ⟨_,w⟩ | ⟨_,w⟩
  .cases w;omega
  .have:=L.below x k w;omega
 .rcases Nat.lt_or_ge k m with w | w
  .obtain⟨x,hx⟩:=L.each k w;have hne:j≠x:=λ w=>by subst w;rw[r3] at hx;cases hx
   exact⟨x,by rw[Array.getElem?_setIfInBounds,if_neg hne];exact hx⟩
  .have:k=m:=by omega
   subst this;exact⟨j,self⟩
 .rcases mD hx with ⟨w1,w⟩ | ⟨w1,w⟩ <;> rcases mD hy with ⟨v1,v⟩ | ⟨v1,v⟩
  .omega
  .cases w;have:=L.below y _ v;omega
  .cases v;have:=L.below x _ w;omega
  .exact L.once x y k w v
 .rcases mD hx with ⟨w1,w⟩ | ⟨w1,w⟩
  .cases w;rw[hh] at hg;cases hg;subst w1;exact⟨q,r2,λ q' hq=>keep _ (r4 q' hq)⟩
  .obtain⟨q,g1,g2⟩:=L.oa x k g w hg;exact⟨q,g1,λ q' hq=>keep _ (g2 q' hq)⟩
theorem ba {M:Nat}(hM:vg M) {hs:List Int}(hl:hs.length<=M+1):∀ (rest:List Int) (owner:Array (Option Nat)) (m:Nat),m<=hs.length->hs.drop m=rest->Lay M hs owner m->
  ∃ owner',rest.foldl (λ acc h=>do
   let (owner,k) <- acc
   let j <- layClean.free M owner (turns M) (bits h%(M+1)) (bits h)
   pure (owner.setIfInBounds j (some k),k+1)) (some (owner,m))=some (owner',hs.length)/\Lay M hs owner' hs.length
 | [],owner,m,hl2,hd,L=>by
  have hm:hs.length<=m:=List.drop_eq_nil_iff.mp hd;have e:m=hs.length:=by omega
  subst e;exact⟨owner,rfl,L⟩
 | h::rest,owner,m,hl2,hd,L=>by
  have hm:hs[m]?=some h:=by
   have:=congrArg (λ l=>l[0]?) hd;simpa using this
  have hlt:m<hs.length:=(zA2.mp hm).1;obtain⟨j,j1,j2⟩:=L.step hM (by omega) hm;have hd':hs.drop (m+1)=rest:=by
   have:=congrArg List.tail hd;simpa using this
  obtain⟨o',h1,h2⟩:=ba hM hl rest _ (m+1) (by omega) hd' j2;refine⟨o',?_,h2⟩;rw[List.foldl_cons,<- h1];show _=_;congr 1;show ((layClean.free M owner (turns M) (bits h%(M+1)) (bits h)).bind λ j=>some (owner.setIfInBounds j (some m),m+1))=_;rw[j1];rfl
def T2 (M:Nat) (hs:List Int):Lay M hs (Array.replicate (M+1) Option.none) 0:=by
 have no:∀ (j k:Nat),(Array.replicate (M+1) (Option.none:Option Nat))[j]?≠some (some k):=λ j k h=>by
  rw[Array.getElem?_replicate] at h;split at h <;> cases h
 exact⟨by simp,λ j k h=>absurd h (no j k),λ k hk=>by omega,λ i j k h=>absurd h (no i k),λ j k h e=>absurd e (no j k)⟩
def T3 {M:Nat}(hM:vg M) (hashes:Array Int) (hl:hashes.size<=M+1):∃ owner,layClean M hashes=some owner/\Lay M hashes.toList owner hashes.size:=by
 obtain⟨o,h1,h2⟩:=ba hM (hs:=hashes.toList) (by simpa using hl) hashes.toList _ 0 (zD4 _) (by simp) (T2 M _);refine⟨o,?_,by simpa using h2⟩;unfold layClean;rw[<- Array.foldl_toList,h1];rfl
noncomputable def lives (M:Nat) (owner:Array (Option Nat)):List (Nat×Nat):=(List.range (M+1)).filterMap λ j=>(owner.getD j Option.none).map (j,·)
def getD_some {owner:Array (Option Nat)}{j k:Nat}:owner.getD j Option.none=some k↔owner[j]?=some (some k):=by
 unfold Array.getD;split
 .rename_i h;rw[zB8 h];simp
 .rename_i h;rw[Array.getElem?_eq_none (by omega)];simp
def rO {M:Nat}{owner:Array (Option Nat)}(hs:owner.size=M+1) {j k:Nat}:(j,k)∈lives M owner↔owner[j]?=some (some k):=by
 unfold lives;rw[List.mem_filterMap];constructor
 .rintro⟨x,hx,e⟩;obtain⟨y,e1,e2⟩:=zOm e;cases e2;exact getD_some.mp e1
 .intro h;have hj:=(Array.getElem?_eq_some_iff.mp h).1;exact⟨j,zC1.mpr (by omega),by rw[getD_some.mpr h];rfl⟩
def cR (M:Nat) (owner:Array (Option Nat)):(lives M owner).Pairwise λ a b=>a.1<b.1:=by
 unfold lives;rw[List.pairwise_filterMap];refine List.Pairwise.imp ?_ List.pairwise_lt_range;intro a b hab x hx y hy;obtain⟨_,_,e1⟩:=zOm hx;obtain⟨_,_,e2⟩:=zOm hy;subst e1 e2;exact hab
def bc {M:Nat}(hM:vg M) (finger moves:Nat) (led plain:Bool) (hashes:Array Int) (hl:hashes.size<=M+1):
  ∃ t order,laid M finger moves led plain hashes=some (t,order)/\t.mask=M/\t.finger=finger/\t.led=led/\t.plain=plain/\order.toList.Perm (List.range hashes.size)/\Tab t (order.toList.map λ k=>hashes.toList.getD k 0):=by
 obtain⟨owner,h1,L⟩:=T3 hM hashes hl;refine⟨_,_,by unfold laid;rw[h1];rfl,rfl,rfl,rfl,rfl,?_,?_⟩
 .show ((lives M owner).map (·.2)).toArray.toList.Perm _;rw[List.toList_toArray];refine (List.perm_ext_iff_of_nodup ?_ List.nodup_range).mpr λ k=>?_
  .refine List.pairwise_map.mpr (List.Pairwise.imp_of_mem ?_ (cR M owner));intro a b ha hb hab e;have h2:=(rO L.size (j:=a.1) (k:=a.2)).mp ha;have h3:=(rO L.size (j:=b.1) (k:=b.2)).mp hb;have e:a.2=b.2:=e;rw[e] at h2;have:=L.once _ _ _ h2 h3;omega
  .rw[zC1];constructor
   .intro h;obtain⟨⟨j,k'⟩,h2,rfl⟩:=zB0.mp h;exact L.below j _ ((rO L.size).mp h2)
   .intro h;obtain⟨j,hj⟩:=L.each k h;exact zB0.mpr ⟨(j,k),(rO L.size).mpr hj,rfl⟩
 .have pl:∀ x,x∈(lives M owner).map (·.1)↔rb owner x:=λ x=>by
   constructor
   .intro h;obtain⟨⟨j,k⟩,h2,rfl⟩:=zB0.mp h;exact⟨k,(rO L.size).mp h2⟩
   .rintro⟨k,hk⟩;exact zB0.mpr ⟨(x,k),(rO L.size).mpr hk,rfl⟩
  refine⟨hM,rfl,?_,?_,?_,?_⟩
  .show ((lives M owner).map (·.1)).toArray.size=(((lives M owner).map (·.2)).toArray.toList.map _).length;simp
  .show ur ((lives M owner).map (·.1)).toArray.toList;rw[List.toList_toArray];exact List.pairwise_map.mpr (cR M owner)
  .intro x hx;show x<=M;have hx:x∈((lives M owner).map (·.1)).toArray.toList:=hx;rw[List.toList_toArray] at hx;obtain⟨k,hk⟩:=(pl x).mp hx;have:=(Array.getElem?_eq_some_iff.mp hk).1;rw[L.size] at this;omega
  .intro i g x hg hx;have hx:((lives M owner).map (·.1)).toArray[i]?=some x:=hx;have hg:(((lives M owner).map (·.2)).toArray.toList.map λ k=>hashes.toList.getD k 0)[i]?=some g:=hg;rw[List.getElem?_toArray,zA3] at hx;rw[List.toList_toArray,zA3,zA3] at hg;obtain⟨p,p1,p2⟩:=zOm hx;rw[p1] at hg;simp only[Option.map_some,Option.some.injEq] at hg;obtain⟨j,k⟩:=p;cases p2;have hm:=(rO L.size).mp (zB7 p1);have hk:=L.below _ _ hm;obtain⟨q,q1,q2⟩:=L.oa _ k g hm (by rw[<- hg];simp[hk]);refine⟨q,q1,λ q' hq=>?_⟩;show _∈((lives M owner).map (·.1)).toArray.toList;rw[List.toList_toArray];exact (pl _).mpr (q2 q' hq)
section
variable {prog:Program}{w:World}{A:Around}{E:Value->Shared->Prop}{s:Shared}
abbrev rk (prog:Program) (w:World):HeapKind prog w (List Int):=tupleKind (intKind prog w)
def items_int {ks:List Int}{vs:List Value}(h:ItemsAre (intKind prog w) ks vs):∀ v∈vs,∃ n t,v=.int n t:=by
 induction h with
 | nil=>intro v hv;cases hv
 | cons h1 _ ih=>
  intro v hv;rcases zA5.mp hv with rfl | hv
  .obtain⟨t,e⟩:=Value.isInt_shape h1;exact⟨_,t,e⟩
  .exact ih v hv
def cC {ks:List Int}{a:Addr}{Q:Bool->Shared->Prop}(hk:IsTupleKey (intKind prog w) s.heap ks a) (h:Q false s):wpAny (model prog w) A (ofAClassStatement 8 (.ref a)) Q E s:=by
 have hT:=hk.typeIs;obtain⟨o,items,n,ho,_,hd,hi⟩:=hk;unfold ofAClassStatement;refine zWb (wpAny_typeOf hT ?_);show wpAny _ _ (pure true >>= _) _ _ s;refine zWb (zD1 ?_);simp only[zB5,zC4,if_false];refine zWb (wpAny_seqItems ho hd ?_);dsimp only;refine zWb ?_;show wpAny _ _ (forIn items _ _) _ _ s;rw[<- Array.forIn_toList];refine wpAny_forIn_list _ (λ rest r s'=>r.1=none/\s'=s/\∀ v∈rest,∃ n t,v=.int n t) _ ?_ ?_ _ _ ⟨rfl,rfl,items_int hi⟩
 .rintro v rest r s' ⟨hr,rfl,hall⟩;obtain⟨m,t,rfl⟩:=hall v zMc;show wpAny _ _ (pure false >>= _) _ _ _;refine zWb (zD1 ?_);simp only[zC4,if_false];exact zD1 ⟨rfl,rfl,λ u hu=>hall u (zMo _ hu)⟩
 .rintro⟨r1,r2⟩ s' ⟨hr,rfl,_⟩;simp only at hr;subst hr;exact zD1 h
def S8 {ks:List Int}{a:Addr}{Q:Bool->Shared->Prop}(hk:IsTupleKey (intKind prog w) s.heap ks a) (h:Q true s):wpAny (model prog w) A (hashByValue 8 (.ref a)) Q E s:=by
 have hT:=hk.typeIs;obtain⟨o,items,n,ho,_,hd,hi⟩:=hk;unfold hashByValue;refine zWb (wpAny_specialOf hT F.slot_tuple_hash.lookup ?_);dsimp only;refine zWb (wpAny_seqItems ho hd ?_);refine zWb ?_;show wpAny _ _ (forIn items _ _) _ _ s;rw[<- Array.forIn_toList];refine wpAny_forIn_list _ (λ rest r s'=>r.1=none/\s'=s/\∀ v∈rest,∃ n t,v=.int n t) _ ?_ ?_ _ _ ⟨rfl,rfl,items_int hi⟩
 .rintro v rest r s' ⟨hr,rfl,hall⟩;obtain⟨m,t,rfl⟩:=hall v zMc;show wpAny _ _ (pure true >>= _) _ _ _;refine zWb (zD1 ?_);simp only[zB5,zC4,if_false];exact zD1 ⟨rfl,rfl,λ u hu=>hall u (zMo _ hu)⟩
 .rintro⟨r1,r2⟩ s' ⟨hr,rfl,_⟩;simp only at hr;subst hr;exact zD1 h
def Yn {ks:List Int}{b:Addr}{Q:Bool->Shared->Prop}(hk:IsTupleKey (intKind prog w) s.heap ks b) (l:List Value) (hl:∀ v∈l,∃ k c,v=.ref c/\IsTupleKey (intKind prog w) s.heap k c) (h:Q false s):
  wpAny (model prog w) A (searchCouldBeSeen (.ref b) l) Q E s:=by
 unfold searchCouldBeSeen;refine zWb ?_;refine wpAny_forIn_list _ (λ rest r s'=>r.1=none/\s'=s/\∀ v∈rest,∃ k c,v=.ref c/\IsTupleKey (intKind prog w) s.heap k c) _ ?_ ?_ _ _ ⟨rfl,rfl,hl⟩
 .rintro v rest r s' ⟨hr,rfl,hall⟩;obtain⟨k,c,rfl,hc⟩:=hall v zMc;have rest':∀ u∈rest,∃ k c,u=Value.ref c/\IsTupleKey (intKind prog w) s'.heap k c:=λ u hu=>hall u (zMo _ hu);dsimp only;by_cases e:(b == c||(carriedByValue (.ref b)&&carriedByValue (.ref c)))=true
  .rw[if_pos e];exact zD1 ⟨rfl,rfl,rest'⟩
  .rw[if_neg e];refine zWb ((rk prog w).quiet hk ?_);simp only[zB5,zC4,if_false];refine zWb ((rk prog w).quiet hc ?_);simp only[zB5,zC4,if_false];refine zWb (cC hk ?_);simp only[zC4,if_false];refine zWb (cC hc ?_);simp only[zC4,if_false];exact zD1 ⟨rfl,rfl,rest'⟩
 .rintro⟨r1,r2⟩ s' ⟨hr,rfl,_⟩;simp only at hr;subst hr;exact zD1 h
structure rm (h:Heap) (es:Array (Int×Value)) (t:SetTable) (xs:List (List Int×Addr)):Prop where
 es:es.toList=xs.map λ e=>((rk prog w).hash e.1,Value.ref e.2)
 is:∀ e∈xs,IsTupleKey (intKind prog w) h e.1 e.2
 tab:Tab t (xs.map λ e=>(rk prog w).hash e.1)
 oS:xs.length<=t.mask
theorem rm.fits {h:Heap}{es:Array (Int×Value)}{t:SetTable}{xs:List (List Int×Addr)}(X:rm (prog:=prog) (w:=w) h es t xs):t.fits es.size=true:=by
 have hl:es.size=xs.length:=by have:=congrArg List.length X.es;simpa using this
 have h1:=X.tab.len;rw[zA7] at h1;have h2:=X.oS;unfold SetTable.fits SetTable.fill;rw[X.tab.sS,hl,h1];simp;omega
def rm.at {h:Heap}{es:Array (Int×Value)}{t:SetTable}{xs:List (List Int×Addr)}(X:rm (prog:=prog) (w:=w) h es t xs) {i:Nat}{e:List Int×Addr}(he:xs[i]?=some e):es[i]?=some ((rk prog w).hash e.1,Value.ref e.2):=by
 rw[<- zD3,X.es,zA3,he];rfl
theorem eY {a:Addr}{o:Obj}{es:Array (Int×Value)}{ep:Nat}{t:SetTable}{xs:List (List Int×Addr)}{key:List Int}{b:Addr}{Q:SetFound->Shared->Prop}
  (hu:A.units<cLine) (ho:s.heap.get? a=some o) (hd:o.data=.set es ep t) (X:rm (prog:=prog) (w:=w) s.heap es t xs) (hb:IsTupleKey (intKind prog w) s.heap key b)
  (h1:key∈xs.map (·.1)->Q (.there none) s) (h2:key∉xs.map (·.1)->∀ j,g_ t ((rk prog w).hash key) j->Q (.free j false) s):
  ∀ (fuel k:Nat) (stand:Option Probe),stand.getD (t.probeStart ((rk prog w).hash key))=way t.mask ((rk prog w).hash key) k->(∀ m<k,∃ (i:Nat) (e:List Int×Addr),t.place[i]?=some (way t.mask ((rk prog w).hash key) m).j/\xs[i]?=some e/\e.1≠key)->(∃ K,k<=K/\K<k+fuel/\K<10*(t.mask+15)/\(way t.mask ((rk prog w).hash key) K).j∉t.place.toList/\∀ m<K,(way t.mask ((rk prog w).hash key) m).j∈t.place.toList)->
   wpAny (model prog w) A (setSearchFrom a (.ref b) ((rk prog w).hash key) true fuel stand) Q E s
 | 0,k,stand,_,_,⟨K,q1,q2,_⟩=>by omega
 | fuel+1,k,stand,hst,hpast,⟨K,q1,q2,q3,q4,q5⟩=>by
  have T:=X.tab;have hodd:t.gaveWay=false:=by
   unfold SetTable.gaveWay;rcases T.mask with e | e | e <;> rw[e] <;> rfl
  unfold setSearchFrom;refine zWb (wpAny_setState_of ho hd X.fits ?_);dsimp only;rw[hodd];simp only[zC4,if_false];have hA:∀ (i:Nat) g,(xs.map λ e=>(rk prog w).hash e.1)[i]?=some g->((es[i]?).map (·.1)).getD 0=g:=λ i g hg=>by
   rw[zA3] at hg;obtain⟨e,e1,e2⟩:=zOm hg;rw[X.at e1];exact e2
  obtain⟨k1,g1,g2,g3⟩:=bQ T (hashAt:=λ i=>((es[i]?).map (·.1)).getD 0) hA ((rk prog w).hash key) (10*turns t.mask) k ⟨K,q1,by unfold turns;omega,q4⟩;rw[hst];have look:∀ (i:Nat) g,(xs.map λ e=>(rk prog w).hash e.1)[i]?=some g->∃ e,xs[i]?=some e/\(rk prog w).hash e.1=g:=λ i g hg=>by
   rw[zA3] at hg;obtain⟨e,e1,e2⟩:=zOm hg;exact⟨e,e1,e2⟩
  have hpast':∀ m<k1,∃ (i:Nat) (e:List Int×Addr),t.place[i]?=some (way t.mask ((rk prog w).hash key) m).j/\xs[i]?=some e/\e.1≠key:=λ m hm=>by
   rcases Nat.lt_or_ge m k with c | c
   .exact hpast m c
   .obtain⟨i,g,p1,p2,p3⟩:=g2 m c hm;obtain⟨e,e1,e2⟩:=look i g p2;exact⟨i,e,p1,e1,λ q=>p3 (by rw[<- e2,q])⟩
  rcases g3 with ⟨n1,n2⟩ | ⟨i,n1,n2,n3⟩
  .have n2':t.probe _ ((rk prog w).hash key) (way t.mask ((rk prog w).hash key) k)=_:=n2;simp only[SetTable.probe] at n2' ⊢
   erw [n2]
   dsimp only;refine zD1 (h2 (λ hm=>?_) _ ⟨n1,k1,rfl,λ m hm=>?_⟩)
   .obtain⟨e,he,ek⟩:=zB0.mp hm;obtain⟨i,hi⟩:=List.mem_iff_getElem?.mp he;have hh:(xs.map λ e=>(rk prog w).hash e.1)[i]?=some ((rk prog w).hash key):=by rw[zA3,hi,<- ek];rfl
    have hil:i<t.place.size:=by rw[T.len];exact (zA2.mp hh).1
    obtain⟨kk,w1,w2⟩:=T.oa i _ _ hh (zB8 hil);rcases Nat.lt_trichotomy kk k1 with c | c | c
    .obtain⟨i',e',p1,p2,p3⟩:=hpast' kk c;rw[w1] at p1;have:i=i':=by
      rw[<- below_at T.wa (zB8 hil),<- below_at T.wa p1]
     subst this;rw[hi] at p2;cases p2;exact p3 ek
    .subst c;rw[w1] at n1;exact n1 (by simp)
    .exact n1 (w2 k1 c)
   .obtain⟨i',e',p1,_⟩:=hpast' m hm;exact zB7 (by rw[zD3];exact p1)
  .simp only[SetTable.probe]
   erw [n3]
   dsimp only;obtain⟨e,e1,e2⟩:=look i _ n2;have hes:=X.at e1;have hey:=X.is e (zB7 e1);have main:wpAny (model prog w) A (holding [Value.ref e.2] (eqBool (.ref e.2) (.ref b)) >>= λ equal=>setState a >>= λ x=>match x with
     | (es',_,t')=>if (true&&equal)=true then pure (SetFound.there none) else
      match t'.sameMemory t.moves t.mask with
      | some same=>
       have jp:=λ still=>match still with
        | none=>do
         rule "set.search.anew"
         setSearchFrom a (.ref b) ((rk prog w).hash key) true fuel none
        | some i'=>if equal=true then pure (SetFound.there (some i')) else setSearchFrom a (.ref b) ((rk prog w).hash key) true fuel (some (way t.mask ((rk prog w).hash key) (k1+1)))
       match if same=true then t'.slot (way t.mask ((rk prog w).hash key) k1).j else Slot.empty with
       | .live i'=>match es'[i']? with
        | some (_,y')=>do
         let r <- isSame y' (.ref e.2)
         let still <- pure (if r=true then some i' else none)
         jp still
        | none=>do
         let still <- pure none
         jp still
       | _=>do
        let still <- pure none
        jp still
      | _=>unsupported "set.changed-during-lookup:is-the-new-block-at-the-old-address") Q E s:=by
    refine zWb (wpAny_holding ((rk prog w).eqBool hu hey hb ?_));refine zWb (wpAny_setState_of ho hd X.fits ?_);dsimp only;by_cases hk:e.1=key
    .rw[decide_eq_true hk];simp only[Bool.and_self,if_true];exact zD1 (h1 (zB0.mpr ⟨e,zB7 e1,hk⟩))
    .rw[decide_eq_false hk];simp only[Bool.and_false,zC4,if_false];have sm:t.sameMemory t.moves t.mask=some true:=by unfold SetTable.sameMemory;simp
     rw[sm];dsimp only;rw[if_pos rfl,T.live n1];dsimp only;rw[hes];dsimp only;refine zWb (wpAny_isSame_ref_self ?_);refine zWb (zD1 ?_);rw[if_pos rfl];dsimp only;have hKk:k1<K:=by
      rcases Nat.lt_trichotomy K k1 with c | c | c
      .obtain⟨i',e',p1,_⟩:=hpast' K c;exact absurd (zB7 (by rw[zD3];exact p1)) q4
      .subst c;exact absurd (zB7 (by rw[zD3];exact n1)) q4
      .exact c
     refine eY hu ho hd X hb h1 h2 fuel (k1+1) _ rfl (λ m hm=>?_) ⟨K,by omega,by omega,q3,q4,q5⟩;rcases Nat.lt_or_ge m k1 with c | c
     .exact hpast' m c
     .have:m=k1:=by omega
      subst this;exact⟨i,e,n1,e1,hk⟩
   rw[hes];by_cases hl:t.led=true
   .rw[hl];simp only[zB5,zC4,if_false];exact main
   .have hl':t.led=false:=by simpa using hl
    rw[hl'];simp only[zB2,if_true];refine zWb (Yn hb _ (λ v hv=>?_) ?_)
    .obtain⟨p,hp,rfl⟩:=zB0.mp hv;rw[Array.toList_filter,zC8,X.es] at hp;obtain⟨⟨e',he',rfl⟩,_⟩:=(And.intro (zB0.mp hp.1) hp.2)
     exact⟨e'.1,e'.2,rfl,X.is e' he'⟩
    .simp only[zC4,if_false];exact main
end
section
variable {prog:Program}{w:World}{A:Around}{E:Value->Shared->Prop}{s:Shared}
structure vy (prog:Program) (w:World) (h:Heap) (a:Addr) (xs:List (List Int×Addr)) (led:Bool):Prop where
 ex:∃ es ep t,h.get? a=some { cls:=.type "set",dict:=none,data:=.set es ep t }/\rm (prog:=prog) (w:=w) h es t xs/\t.led=led/\t.plain=true/\xs.length*5<t.mask*3
 nd:(xs.map (·.1)).Nodup
def ky {h h':Heap}{ks:List Int}{b a:Addr}{es:Array (Int×Value)}{ep:Nat}{t:SetTable}{c:Value}{d:Option Addr}{sl:Array (Option Value)}(x:IsTupleKey (intKind prog w) h ks b) (ho:h.get? a=some { cls:=c,dict:=d,data:=.set es ep t,slots:=sl }) (hs:Heap.SameBut a h h'):IsTupleKey (intKind prog w) h' ks b:=by
 obtain⟨o',items,n,ho',hc,hd',hi⟩:=x;have hne:b≠a:=by
  rintro rfl;obtain rfl:o'=_:=zD5 (ho'.symm.trans ho);cases hd'
 exact⟨o',items,n,(hs.2 b hne).trans ho',hc,hd',hi⟩
def mQ {h:Heap}{a:Addr}{es es':Array (Int×Value)}{ep:Nat}{t t':SetTable}(ho:h.get? a=some { cls:=.type "set",dict:=none,data:=.set es ep t }):(h.update a (Obj.putSet es' t')).get? a=some { cls:=.type "set",dict:=none,data:=.set es' (ep+1) t' }:=by
 have e:Obj.putSet es' t' { cls:=.type "set",dict:=none,data:=.set es ep t }={ cls:=.type "set",dict:=none,data:=.set es' (ep+1) t' }:=putSet_of es' t' rfl;have:=Heap.get?_update_self (Obj.putSet es' t') ho (by rw[e];rfl);rw[e] at this;exact this
theorem js {α β:Type}(l:List α) (f:α->β) (d:β):∀ (order:List Nat),(∀ k∈order,k<l.length)->order.map (λ k=>(l.map f).getD k d)=(order.filterMap λ k=>l[k]?).map f
 | [],_=>rfl
 | k::order,h=>by
  have hk:=h k zMc;have ih:=js l f d order λ j hj=>h j (zMo _ hj);rw[zA6,List.filterMap_cons,zA1 hk];dsimp only;rw[zA6,ih];congr 1;simp[hk]
def X4 {a:Addr}{es:Array (Int×Value)}{ep:Nat}{t:SetTable}{xs:List (List Int×Addr)}{led:Bool}{wanted M:Nat}{Q:Unit->Shared->Prop}
  (ho:s.heap.get? a=some { cls:=.type "set",dict:=none,data:=.set es ep t }) (X:rm (prog:=prog) (w:=w) s.heap es t xs) (hled:t.led=led) (hpl:t.plain=true) (hM:vg M) (hw:sizeAbove wanted=M+1) (hfew:xs.length*5<M*3) (hnd:(xs.map (·.1)).Nodup)
  (h:∀ h' xs',Heap.SameBut a s.heap h'->vy prog w h' a xs' led->xs'.Perm xs->Q () { s with heap:=h' }):wpAny (model prog w) A (setRelay a wanted) Q E s:=by
 have hlen:es.size=xs.length:=by have:=congrArg List.length X.es;simpa using this
 have hhs:(es.map (·.1)).toList=xs.map λ e=>(rk prog w).hash e.1:=by rw[Array.toList_map,X.es,zD6];rfl
 have hsz:(es.map (·.1)).size=xs.length:=by rw[Array.size_map,hlen]
 obtain⟨t',order,h1,h2,h3,h4,h5,h6,h7⟩:=bc hM t.finger (t.movedTo M) t.led t.plain (es.map (·.1)) (by rw[hsz];omega);rw[hsz] at h6;have hlt:∀ k∈order.toList,k<xs.length:=λ k hk=>by simpa using h6.mem_iff.mp hk
 unfold setRelay;refine zWb (wpAny_setState_of ho rfl X.fits ?_);dsimp only;rw[if_neg (by rw[hw];rcases hM with e | e | e <;> rw[e] <;> decide)];have hr:t.relaid (es.map (·.1)) wanted=some (t',order):=by
  unfold SetTable.relaid;rw[hw,Nat.add_sub_cancel];exact h1
 rw[hr];have hes':(order.filterMap (es[·]?)).toList=(order.toList.filterMap λ k=>xs[k]?).map λ e=>((rk prog w).hash e.1,Value.ref e.2):=by
  rw[Array.toList_filterMap,List.map_filterMap];congr 1;funext k;rw[<- zD3,X.es,zA3]
 have hperm:(order.toList.filterMap λ k=>xs[k]?).Perm xs:=(h6.filterMap _).trans (by rw[List.filterMap_getElem?_range_length]);have hsz':(order.filterMap (es[·]?)).size=es.size:=by
  rw[<- zD2,hes',zA7,hperm.length_eq,hlen]
 refine zWb (m:=_) ?_;show wpAny _ _ (do
  let some (t,order):=some (t',order) | unsupported "internal:set-table-without-room"
  let es':=order.filterMap (es[·]?)
  if es'.size != es.size then unsupported "internal:set-table-lost-an-element"
  pure (es',t)) _ _ _
 dsimp only;rw[if_neg (by rw[hsz'];simp)];refine zD1 ?_;have hsl:(order.filterMap (es[·]?)).size<=sizeLine:=by
  rw[hsz',hlen];have:sizeLine=16777216:=rfl;rcases hM with e | e | e <;> subst e <;> omega
 refine wpAny_storeSet_of ho rfl ?_ hsl;have sb:=Heap.SameBut.update s.heap a (Obj.putSet (order.filterMap (es[·]?)) t');refine h _ _ sb ⟨⟨_,ep+1,t',mQ ho,⟨hes',λ e he=>ky (X.is e (hperm.mem_iff.mp he)) ho sb,?_,?_⟩,by rw[h4];exact hled,by rw[h5];exact hpl,?_⟩,(hperm.map _).nodup_iff.mpr hnd⟩ hperm
 .rw[<- js xs (λ e=>(rk prog w).hash e.1) 0 order.toList hlt,<- hhs];exact h7
 .rw[hperm.length_eq,h2];omega
 .rw[hperm.length_eq,h2];exact hfew
def eV (n:Nat) (M:Nat) (hM:vg M) (h1:n*5<M*3) (h2:M*3<=(n+1)*5) (hn:n<70):∃ M',vg M'/\sizeAbove (grown (n+1))=M' + 1/\(n+1)*5<M'*3:=by
 rcases hM with e | e | e <;> subst e
 .have:n=4:=by omega
  subst this;exact⟨31,.inr (.inl rfl),by decide +kernel,by omega⟩
 .have:n=18:=by omega
  subst this;exact⟨127,.inr (.inr rfl),by decide +kernel,by omega⟩
 .omega
def Q7 {a:Addr}{xs:List (List Int×Addr)}{key:List Int}{b:Addr}{led:Bool}{Q:Bool->Shared->Prop}(hu:A.units<cLine) (S:vy prog w s.heap a xs led) (hb:IsTupleKey (intKind prog w) s.heap key b) (hn:xs.length<70)
  (h:∀ h' xs' r,Heap.SameBut a s.heap h'->vy prog w h' a xs' led->(key∈xs.map (·.1)/\xs'=xs\/key∉xs.map (·.1)/\xs'.Perm (xs++[(key,b)]))->Q r { s with heap:=h' }):
  wpAny (model prog w) A (setAddHashed a (.ref b) ((rk prog w).hash key)) Q E s:=by
 obtain⟨⟨es,ep,t,ho,X,hled,hpl,hfew⟩,hnd⟩:=S;have hlen:es.size=xs.length:=by have:=congrArg List.length X.es;simpa using this
 unfold setAddHashed setAddHashedIn;refine wpAny_holding (zWb (wpAny_setState_of ho rfl X.fits ?_));dsimp only;rw[if_neg (by simp[byScan,Value.scannable])];obtain⟨K,k1,k2,k3⟩:=X.tab.first (by rw[zA7];exact X.oS) ((rk prog w).hash key);have hmk:t.mask<=127:=by rcases X.tab.mask with e | e | e <;> omega
 refine zWb ?_;unfold setSearch;refine eY (key:=key) (b:=b) hu ho rfl X hb (λ hm=>?_) (λ hm j F=>?_) 100000 0 none rfl (λ m hm=>by omega) ⟨K,by omega,by omega,k1,k2,k3⟩
 .dsimp only;refine zD1 ?_;have:=h s.heap xs false ⟨rfl,λ _ _=>rfl⟩ ⟨⟨es,ep,t,ho,X,hled,hpl,hfew⟩,hnd⟩ (.inl ⟨hm,rfl⟩);exact this
 .dsimp only;refine zWb (wpAny_setState_of ho rfl X.fits ?_);dsimp only;obtain⟨p1,p2,p3⟩:=X.tab.put F;rw[zA7] at p1;have hpt:(t.put j).1.plain=true:=by rw[p2];exact hpl
  have hmt:(t.put j).1.mask=t.mask:=by rw[p2]
  have hlt:(t.put j).1.led=led:=by rw[p2];exact hled
  generalize hT:(t.put j)=P at *;obtain⟨t1,p⟩:=P;dsimp only at *;rw[hpt];simp only[if_true];refine zWb (S8 hb ?_);simp only[if_true]
  let xs1:=xs.take p++(key,b)::xs.drop p
  have hperm:xs1.Perm (xs++[(key,b)]):=by
   have e:xs.take p++xs.drop p=xs:=List.take_append_drop p xs;have:xs1.Perm ((key,b)::(xs.take p++xs.drop p)):=List.perm_middle;rw[e] at this;exact this.trans (List.perm_append_singleton _ _).symm
  have hl1:xs1.length=xs.length+1:=by rw[hperm.length_eq];simp
  have hes1:(insertAt es p ((rk prog w).hash key,Value.ref b)).toList=xs1.map λ e=>((rk prog w).hash e.1,Value.ref e.2):=by
   rw[toList_insertAt,X.es];simp[xs1,List.map_take,List.map_drop]
  have hsz1:(insertAt es p ((rk prog w).hash key,Value.ref b)).size=xs.length+1:=by rw[<- zD2,hes1,zA7,hl1]
  have hsl:(insertAt es p ((rk prog w).hash key,Value.ref b)).size<=sizeLine:=by
   rw[hsz1];have:sizeLine=16777216:=rfl;omega
  refine zWb (wpAny_storeSet_of ho rfl ?_ hsl);have sb:=Heap.SameBut.update s.heap a (Obj.putSet (insertAt es p ((rk prog w).hash key,Value.ref b)) t1);have ho1:=mQ (es':=insertAt es p ((rk prog w).hash key,Value.ref b)) (t':=t1) ho;have hm7:7<=t.mask:=by rcases X.tab.mask with e | e | e <;> omega
  have X1:rm (prog:=prog) (w:=w) (s.heap.update a (Obj.putSet (insertAt es p ((rk prog w).hash key,Value.ref b)) t1)) (insertAt es p ((rk prog w).hash key,Value.ref b)) t1 xs1:=by
   refine⟨hes1,λ e he=>?_,?_,by rw[hl1,hmt];omega⟩
   .rcases zB9.mp (hperm.mem_iff.mp he) with q | q
    .exact ky (X.is e q) ho sb
    .cases zB6.mp q;exact ky hb ho sb
   .have:xs1.map (λ e=>(rk prog w).hash e.1)=(xs.map λ e=>(rk prog w).hash e.1).take p++(rk prog w).hash key::(xs.map λ e=>(rk prog w).hash e.1).drop p:=by simp[xs1,List.map_take,List.map_drop]
    rw[this];exact p3
  have hnd1:(xs1.map (·.1)).Nodup:=by
   refine (hperm.map _).nodup_iff.mpr ?_;rw[zE7,List.nodup_append];refine⟨hnd,by simp,λ x hx y hy=>?_⟩;simp at hy;subst hy;exact λ e=>hm (e▸hx)
  by_cases hf:t1.tooFull=true
  .rw[hf];simp only[zB2,Bool.and_self,if_true];have hfill:t1.fill=xs.length+1:=by
    unfold SetTable.fill;rw[p3.sS,p3.len];simp;omega
   have hfull:t.mask*3<=(xs.length+1)*5:=by
    have:=hf;unfold SetTable.tooFull at this;rw[hfill,hmt] at this;simpa using this
   obtain⟨M',g1,g2,g3⟩:=eV xs.length t.mask X.tab.mask hfew hfull hn;rw[hlen];refine zWb (X4 (led:=led) ho1 X1 hlt hpt g1 g2 (by rw[hl1];exact g3) hnd1 λ h' xs' sb' S' pm=>?_);refine zD1 ?_;exact h h' xs' true (sb.trans sb') S' (.inr ⟨hm,pm.trans hperm⟩)
  .have hf':t1.tooFull=false:=by simpa using hf
   rw[hf'];simp only[zB2,Bool.and_false,zC4,if_false];refine zD1 ?_;have hfill:t1.fill=xs.length+1:=by
    unfold SetTable.fill;rw[p3.sS,p3.len];simp;omega
   have hfull:(xs.length+1)*5<t.mask*3:=by
    have:=hf';unfold SetTable.tooFull at this;rw[hfill,hmt] at this;simpa using this
   exact h _ xs1 true sb ⟨⟨_,ep+1,t1,ho1,X1,hlt,hpt,by rw[hl1,hmt];exact hfull⟩,hnd1⟩ (.inr ⟨hm,hperm⟩)
end
noncomputable def vq (w:World):Bool:=!w.params.followText "set-order"
noncomputable def yT (w:World):Obj:={ cls:=.type "set",dict:=none,data:=.set #[] 0 (.fresh 0 0 (vq w)) }
section
variable {prog:Program}{w:World}{A:Around}{E:Value->Shared->Prop}{s:Shared}
set_option maxHeartbeats 3200000 in
def aO (a:Value) {Q:Value->Shared->Prop}(h:Q (.ref s.heap.objs.size) { s with heap:=s.heap.push (yT w) }):
  codeAny (model prog w) A (.call (.builtin "set.__new__") ⟨[.type "set",a],[]⟩) (wants Q E) s:=by
 refine codeAny_of_tree ?_;show wpAny _ A.in1 (checkBuiltinCall "set.__new__" ⟨[.type "set",a],[]⟩ >>= λ _=>again (.builtin "set.__new__" ⟨[.type "set",a],[]⟩)) _ _ s;refine zWb (wpAny_of_eq (F.newCall_set_1 a) (zD1 ⟨plainId_quiet F.plain_set_new _,codeAny_builtin F.entry_set_new ?_⟩));rw[Around.under_plainId F.plain_set_new _];unfold Builtin.«set.__new__» Builtin.Frozenset.newClass newSet setsByText;have sub:=sub_set_self;obtain⟨hp,g,d,tk,os⟩:=s;dsimp only
 wp_walk
 refine wpAny_askSetting (zD1 ?_);dsimp only;simp only[newObj];exact zWb (wpAny_alloc (zD1 (zD1 h)))
def Xc {h:Heap}{a:Addr}(ho:h.get? a=some (yT w)):vy prog w h a [] (vq w):=
 ⟨⟨#[],0,_,ho,⟨rfl,λ e he=>(by cases he),⟨.inl rfl,rfl,rfl,.nil,λ j hj=>(by cases hj),λ i g j hg=>(by cases hg)⟩,by simp⟩,rfl,rfl,by show 0*5<7*3;omega⟩,.nil⟩
end
end ST
namespace ST
open PySem PySem.SetTable PyProof.Rows
structure Up (its:Array Value) (rows:List (List Int)) (i:Nat) (xs:List (List Int×Addr)):Prop where
 own:∀ e∈xs,∃ j,j<i/\its[j]?=some (.ref e.2)/\rows[j]?=some e.1
 all:∀ (j:Nat) r,j<i->rows[j]?=some r->r∈xs.map (·.1)
def Up.len {its:Array Value}{rows:List (List Int)}{i:Nat}{xs:List (List Int×Addr)}(U:Up its rows i xs) (nd:(xs.map (·.1)).Nodup):xs.length<=i:=by
 have:∀ x∈xs.map (·.1),x∈(List.range i).map λ j=>rows.getD j []:=λ x hx=>by
  obtain⟨e,he,rfl⟩:=zB0.mp hx;obtain⟨j,h1,_,h3⟩:=U.own e he;refine zB0.mpr ⟨j,zC1.mpr h1,?_⟩;rw[zB1,h3];rfl
 have key:∀ (l m:List (List Int)),l.Nodup->(∀ x∈l,x∈m)->l.length<=m.length:=by
  intro l
  induction l with
  | nil=>intro m _ _;exact zD4 _
  | cons x l ih=>
   intro m hn hs;have h1:=List.nodup_cons.mp hn;have hx:=hs x zMc;have:=ih (m.erase x) h1.2 λ z hz=>(List.mem_erase_of_ne (λ e:z=x=>h1.1 (by rw[<- e];exact hz))).mpr (hs z (zMo _ hz));rw[List.length_erase_of_mem hx] at this;have:=List.length_pos_of_mem hx;simp only[zC0];omega
 have:=key _ _ nd this;simpa using this
def Up.step {its:Array Value}{rows:List (List Int)}{i:Nat}{xs xs':List (List Int×Addr)}{key:List Int}{b:Addr}(U:Up its rows i xs) (hi:its[i]?=some (.ref b)) (hr:rows[i]?=some key)
  (h:key∈xs.map (·.1)/\xs'=xs\/key∉xs.map (·.1)/\xs'.Perm (xs++[(key,b)])):Up its rows (i+1) xs':=by
 rcases h with ⟨hm,rfl⟩ | ⟨_,hp⟩
 .refine⟨λ e he=>?_,λ j r hj hrj=>?_⟩
  .obtain⟨j,h1,h2⟩:=U.own e he;exact⟨j,by omega,h2⟩
  .rcases Nat.lt_or_ge j i with q | q
   .exact U.all j r q hrj
   .have:j=i:=by omega
    subst this;rw[hr] at hrj;cases hrj;exact hm
 .refine⟨λ e he=>?_,λ j r hj hrj=>?_⟩
  .rcases zB9.mp (hp.mem_iff.mp he) with q | q
   .obtain⟨j,h1,h2⟩:=U.own e q;exact⟨j,by omega,h2⟩
   .cases zB6.mp q;exact⟨i,by omega,hi,hr⟩
  .have hp':=hp.map (·.1);rw[hp'.mem_iff,zE7];rcases Nat.lt_or_ge j i with q | q
   .exact List.mem_append_left _ (U.all j r q hrj)
   .have:j=i:=by omega
    subst this;rw[hr] at hrj;cases hrj;exact zB4 _ zMc
section
variable {prog:Program}{w:World}{A:Around}{R:Result->Shared->Prop}{I:Addr}{fp wr:List Addr}{G:Array GenState->Array GenState->Prop}{n:Nat}{P:Nat->Value->Prop}{St:Nat->Shared->Prop}
def qd (prog:Program) (w:World) (h:Heap) (its:Array Value) (rows:List (List Int)):Prop:=∀ (i:Nat) v,its[i]?=some v->∃ b r,v=.ref b/\rows[i]?=some r/\IsTupleKey (intKind prog w) h r b
def qd.at {h h':Heap}{its:Array Value}{rows:List (List Int)}(T:qd prog w h its rows) (k:∀ (i:Nat) b,its[i]?=some (.ref b)->∀ o,h.get? b=some o->h'.get? b=some o):qd prog w h' its rows:=λ i v hv=>by
 obtain⟨b,r,rfl,h1,o,items,m,h2,h3⟩:=T i v hv;exact⟨b,r,rfl,h1,o,items,m,k i b hv o h2,h3⟩
def Tj (W:WalksS prog w A.in1 I fp wr G n (λ i v=>P i v) St) (Sa:Addr) (hSf:Sa∉fp) {its:Array Value}{rows:List (List Int)}(hP:∀ i v,P i v->its[i]?=some v) (hn:n<70) (hu:A.units+1<cLine) (led:Bool)
  (hoff:∀ (i:Nat) b,its[i]?=some (.ref b)->b∉Sa::wr):∀ (k i:Nat) (s:Shared) (xs:List (List Int×Addr)),n-i=k->i<=n->St i s->vy prog w s.heap Sa xs led->qd prog w s.heap its rows->Up its rows i xs->
   (∀ s' xs',Moved (Sa::wr) G s s'->vy prog w s'.heap Sa xs' led->Up its rows n xs'->R (.ok (.ret .none)) s')->
   codeAny (model prog w) A (.builtin "set.update.loop" ⟨[.ref Sa,.ref I],[]⟩) R s:=by
 have hSw:Sa∉wr:=λ z=>hSf (W.sub _ z);have more:∀ b∈wr,b∈Sa::wr:=λ b hb=>zMo _ hb;have keepS:∀ {s s':Shared}{xs:List (List Int×Addr)}{wr':List Addr},Sa∉wr'->(∀ e∈xs,e.2∉wr')->Moved wr' G s s'->vy prog w s.heap Sa xs led->vy prog w s'.heap Sa xs led:=λ{s s' xs wr'} h1 h2 hm ⟨⟨es,ep,t,ho,X,r1,r2,r3⟩,nd⟩=>
  ⟨⟨es,ep,t,hm.heap Sa _ h1 ho,⟨X.es,λ e he=>by
   obtain⟨o,items,m,g1,g2⟩:=X.is e he;exact⟨o,items,m,hm.heap _ _ (h2 e he) g1,g2⟩,X.tab,X.oS⟩,r1,r2,r3⟩,nd⟩
 intro k
 induction k with
 | zero=>
  intro i s xs hk hi hst hS hT hU hR;have e:i=n:=by omega
  subst e;refine codeAny_builtin F.entry_set_update_loop ?_;rw[Around.under_plainId F.plain_set_update_loop _];show wpAny _ A.in1 (pyNext (.ref I) >>= _) _ _ s;refine zWb (W.done s _ _ hst λ s' hm=>?_);refine zD1 (hR s' xs (hm.mono more) (keepS hSw (λ e he=>?_) hm hS) hU);obtain⟨j,_,h2,_⟩:=hU.own e he;exact λ z=>hoff j e.2 h2 (more _ z)
 | succ k ih=>
  intro i s xs hk hi hst hS hT hU hR;have hlt:i<n:=by omega
  refine codeAny_builtin F.entry_set_update_loop ?_;rw[Around.under_plainId F.plain_set_update_loop _];show wpAny _ A.in1 (pyNext (.ref I) >>= _) _ _ s;refine zWb (W.item i s _ _ hlt hst λ v s1 hPv hst1 hm=>?_);have hv:=hP i v hPv;have T1:qd prog w s1.heap its rows:=hT.at λ j b hj o e=>hm.heap b o (λ z=>hoff j b hj (more _ z)) e;obtain⟨b,r,rfl,hr,hb⟩:=T1 i v hv;have S1:vy prog w s1.heap Sa xs led:=keepS hSw (λ e he=>by
   obtain⟨j,_,h2,_⟩:=hU.own e he;exact λ z=>hoff j e.2 h2 (more _ z)) hm hS
  have hl:xs.length<70:=by have:=hU.len hS.nd;omega
  show wpAny _ A.in1 (holding [Value.ref b] (setAdd Sa (.ref b)) >>= _) _ _ s1;refine zWb (wpAny_holding ?_);unfold setAdd;refine wpAny_holding (zWb ((rk prog w).pyHash (k:=r) (a:=b) (A:=A.in1) hu hb ?_));refine Q7 (s:={ s1 with toks:=s1.toks+(rk prog w).draws r }) (A:=A.in1) hu S1 hb hl λ h' xs' rr sb S' hx=>?_;have fr:=W.frame (i+1) s1 h' (s1.toks+(rk prog w).draws r) hst1 (Nat.le_add_right _ _) λ c hc o e=>(sb.2 c (λ z:c=Sa=>hSf (z▸hc))).trans e;refine zD1 ⟨plainId_quiet F.plain_set_update_loop _,ih (i+1) _ xs' (by omega) hlt fr S' (T1.at λ j c hj o e=>?_) (hU.step hv hr hx) λ s2 xs2 hm2 S2 U2=>?_⟩
  .exact (sb.2 c (λ z=>hoff j c hj (z▸zMc))).trans e
  .refine hR s2 xs2 (Moved.trans W.gtrans ((hm.mono more).then_heap (Nat.le_add_right _ _) λ c o hc e=>?_) hm2) S2 U2;exact (sb.2 c (λ z=>hc (z▸zMc))).trans e
end
section
variable {prog:Program}{w:World}{A:Around}{E:Value->Shared->Prop}{s:Shared}
set_option maxRecDepth 100000 in
set_option maxHeartbeats 6400000 in
def Qe {l:Addr}{its:Array Value}{rows:List (List Int)}{Q:Value->Shared->Prop}(hh:A.handled=none) (hu:A.units+64<cLine) (hl:s.heap.IsList l its) (hT:qd prog w s.heap its rows) (hn:its.size<70)
  (h:∀ (h':Heap) (tk:Nat) xs,vy prog w h' s.heap.objs.size xs (vq w)->Up its rows its.size xs->(∀ b o,b<s.heap.objs.size->s.heap.get? b=some o->h'.get? b=some o)->Q (.ref s.heap.objs.size) { s with heap:=h',toks:=tk }):
  wpAny (model prog w) A (call (.type "set") [.ref l]) Q E s:=by
 obtain⟨c,tl,hmro⟩:=F.called_set.mro;have made:=F.called_set.made;have subm:=F.called_set.sub;refine wpAny_call (codeAny_of_tree ?_);show wpAny _ _ (callAny (.type "set") _) _ _ _;refine zD1 ⟨Code.quiet_builtin _ (by decide +kernel),codeAny_builtin F.entry_type_call ?_⟩;rw[Around.under_plain (weight_type_call_type "set" [.ref l] []) rfl];have nt:=F.called_set.notType;have cc:=F.called_set.canCreate;have tc:=F.typeCall_set_1 (.ref l)
 repeat (any_goals (first | assumption | wp_step))
 refine codeAny_mono (aO (.ref l) (E:=E) (Q:=λ obj s₁=>obj=.ref s.heap.objs.size/\s₁={ s with heap:=s.heap.push (yT w) }) ⟨rfl,rfl⟩) λ r s₁ hr=>?_;cases r with
 | error e=>exact hr
 | ok fl=>
  cases fl with
  | ret obj=>
   obtain⟨rfl,rfl⟩:=hr;have hS:(s.heap.push (yT w)).get? s.heap.objs.size=some (yT w):=zA9 _ rfl;have hTy:Shared.TypeIs { s with heap:=s.heap.push (yT w) } (.ref s.heap.objs.size) "set":=⟨_,hS,rfl⟩
   have li:=F.called_set.init.lookup;have bi:=F.called_set.init.bind (.ref s.heap.objs.size)
   repeat (any_goals (first | assumption | wp_step))
   let s1:Shared:={ s with heap:=s.heap.push (yT w) }
   refine codeAny_mono (codeAny_call_builtin (R:=wants (λ r s₂=>r=.none/\∃ h' tk xs,s₂={ s with heap:=h',toks:=tk }/\vy prog w h' s.heap.objs.size xs (vq w)/\Up its rows its.size xs/\
     ∀ b o,b<s.heap.objs.size->s.heap.get? b=some o->h'.get? b=some o) E) F.called_set.init.plain F.entry_set_init (check_set_init_1 hTy ?_)) λ r₂ s₂ hr₂=>?_
   .obtain⟨⟨ocls,odict,odata,oslots⟩,hol,hcl,nl,hdl⟩:=id hl;simp only at hcl hdl;subst hcl hdl;have hol1:(s.heap.push (yT w)).get? l=some { cls:=.type "list",dict:=odict,data:=.seq its nl,slots:=oslots }:=zHp _ hol;have sls:=F.sub_list_set;have slf:=F.sub_list_frozenset;have nd:(Value.type "list" == Value.type "dict")=false:=by decide
    have hl1:(s.heap.push (yT w)).IsList l its:=⟨_,hol1,rfl,nl,rfl⟩
    unfold Builtin.«set.__init__» noKeywords Builtin.Frozenset.updateFrom;generalize hPI:pyIter=PI;unfold yT at *
    wp_walk
    subst hPI;refine wpAny_pyIter_list hl1 (zWb (wpAny_runValue ?_));have hlS:l<s.heap.objs.size:=zA8 hol;have hsz:(s.heap.push (yT w)).objs.size=s.heap.objs.size+1:=Heap.size_push _ _;have hneI:l≠(s.heap.push (yT w)).objs.size:=by rw[hsz];exact zB3 (Nat.lt_succ_of_lt hlS)
    have szne:s.heap.objs.size≠(s.heap.push (yT w)).objs.size:=by rw[hsz];exact zB3 (zE2 _)
    have low:∀ b:Addr,b<s.heap.objs.size->b≠(s.heap.push (yT w)).objs.size:=λ b hb=>by rw[hsz];exact zB3 (Nat.lt_succ_of_lt hb)
    have tin:∀ (i:Nat) b,its[i]?=some (.ref b)->b<s.heap.objs.size:=λ i b hb=>by
     obtain⟨b',r,e,_,o,_,_,ho,_⟩:=hT i _ hb;cases e;exact zA8 ho
    refine Tj (A:=A.in1.in1) (P:=λ i v=>its[i]?=some v) ((Walks.list (A:=A.in1.in1.in1) (by simp[hh]) _ l hneI its).toS) s.heap.objs.size ?_ (its:=its) (rows:=rows) (λ _ _ q=>q) hn (show A.units+1+1+1<cLine by omega) (vq w) ?_ its.size 0 _ [] (by omega) (zD4 _)
     ⟨⟨_,zA9 _ rfl,rfl,rfl⟩,hl1.push _⟩ (Xc (w:=w) (zHp _ hS)) (hT.at λ i b _ o e=>zHp _ (zHp _ e)) ⟨λ e he=>(by cases he),λ j r hj=>(by omega)⟩ ?_
    .intro hm;rcases zA5.mp hm with q | q
     .exact szne q
     .exact Nat.ne_of_gt hlS (zB6.mp q)
    .intro i b hb hm;have hlt:=tin i b hb;rcases zA5.mp hm with q | q
     .exact zB3 hlt q
     .exact low b hlt (zB6.mp q)
    .intro s' xs' hm S' U';obtain⟨h',g',d',tk',os'⟩:=s';obtain rfl:g'=s.gens:=hm.gens;obtain rfl:d'=s.drawn:=hm.drawn;obtain rfl:os'=s.os:=hm.os;refine zD1 (zD1 ⟨rfl,h',tk',xs',rfl,S',U',λ b o hb e=>?_⟩);refine hm.heap b o (λ q=>?_) (zHp _ (zHp _ e));rcases zA5.mp q with q | q
     .exact zB3 hb q
     .exact low b hb (zB6.mp q)
   .cases r₂ with
    | error e=>exact hr₂
    | ok fl₂=>
     cases fl₂ with
     | ret r=>
      obtain⟨rfl,h',tk,xs,rfl,g1,g2,g3⟩:=hr₂
      repeat (any_goals (first | assumption | wp_step))
      exact h h' tk xs g1 g2 g3
     | _=>exact hr₂.elim
  | _=>exact hr.elim
end
end ST
namespace ST
open PySem PySem.SetTable
section facts
set_option maxRecDepth 100000
def cf:Manifest.owners.lookup (String.ofList ['r','o','t','a','r','e','t','i','_','t','e','s'].reverse)=some Manifest.sig_set_iterator:=by kernel_rfl
def qx:Slot "set_iterator" "__next__" "set_iterator.__next__":=
 .of (owner:="set_iterator") (n:="__next__") (by rw[typeLookup_type,builtinLookup_eq_fast];kernel_rfl) (by decide +kernel) (by decide +kernel) (by decide +kernel) (by first | exact .inl (by decide +kernel) | exact .inr (by decide +kernel)) (by rw[isSubtype_type];kernel_rfl)
def ai:entryFor table "set_iterator.__next__"=some Builtin.«set_iterator.__next__»:=entryFor_of_tree (by kernel_rfl)
def Zg (a:Value):argsOk "set_iterator.__next__" ⟨[a],[]⟩:=by
 unfold argsOk;rw[signature?_of (id:="set_iterator.__next__") (n:=['_','_','t','x','e','n','_','_']) (o:=['r','o','t','a','r','e','t','i','_','t','e','s']) (by kernel_rfl) cf]
 kernel_rfl
def Rx:entryFor table "set.__iter__"=some Builtin.«frozenset.__iter__»:=entryFor_alias (id':="frozenset.__iter__") (by kernel_rfl) rfl (by decide +kernel) (by kernel_rfl)
def eU:Slot "set_iterator" "__iter__" "set_iterator.__iter__":=
 .of (owner:="set_iterator") (n:="__iter__") (by rw[typeLookup_type,builtinLookup_eq_fast];kernel_rfl) (by decide +kernel) (by decide +kernel) (by decide +kernel) (by first | exact .inl (by decide +kernel) | exact .inr (by decide +kernel)) (by rw[isSubtype_type];kernel_rfl)
def Rw:entryFor table "set_iterator.__iter__"=some Builtin.«dict_keyiterator.__iter__»:=entryFor_alias (id':="dict_keyiterator.__iter__") (by kernel_rfl) rfl (by decide +kernel) (by kernel_rfl)
def Qy (a:Value):argsOk "set_iterator.__iter__" ⟨[a],[]⟩:=by
 unfold argsOk;rw[signature?_of (id:="set_iterator.__iter__") (n:=['_','_','r','e','t','i','_','_']) (o:=['r','o','t','a','r','e','t','i','_','t','e','s']) (by kernel_rfl) cf]
 kernel_rfl
end facts
theorem ae {α:Type}:∀ (l:List α) (i:Nat) (x:α),l[i]?=some x->l.Perm (x::l.eraseIdx i)
 | [],i,x,h=>by simp at h
 | y::l,0,x,h=>by simp at h;subst h;simp
 | y::l,i+1,x,h=>by
  have ih:=ae l i x (by simpa using h);rw[List.eraseIdx_cons_succ];exact (ih.cons y).trans (.swap x y _)
theorem dG {α:Type}(next:Nat->Nat):∀ (f k:Nat) (left:List α) (out:Array α),left.length=f->(pickOrder.go next f k left out).toList.Perm (out.toList++left)
 | 0,k,left,out,h=>by
  cases left with
  | nil=>unfold pickOrder.go;simp
  | cons _ _=>simp at h
 | f+1,k,left,out,h=>by
  unfold pickOrder.go;have hlt:next k%left.length<left.length:=Nat.mod_lt _ (by omega);rw[zA1 hlt];dsimp only;refine (dG next f (k+1) _ _ (by rw[List.length_eraseIdx_of_lt hlt];omega)).trans ?_;rw[Array.toList_push,List.append_assoc];exact (ae left _ _ (zA1 hlt)).symm.append_left _
def Wi {α:Type}(next:Nat->Nat) (xs:Array α):(pickOrder next xs).toList.Perm xs.toList:=by
 unfold pickOrder;simpa using dG next xs.size 0 xs.toList #[] (by simp)
noncomputable def comes (w:World) (a:Addr) (es:Array (Int×Value)) (ep:Nat):Array (Int×Value):=if w.params.followText "set-order"=true then pickOrder (w.params.setOrder a ep) es else es
def pd (w:World) (a:Addr) (es:Array (Int×Value)) (ep:Nat):(comes w a es ep).toList.Perm es.toList:=by
 unfold comes;split
 .exact Wi _ _
 .exact .refl _
noncomputable def sJ (a:Addr) (slot i n ep:Nat):Obj:={ cls:=.type "set_iterator",data:=.fields #[rawInt slot,rawInt i,.ref a,rawInt n,rawInt ep] }
noncomputable def slotAt (t:SetTable):Nat->Nat
 | 0=>0
 | i+1=>t.place.getD i 0+1
theorem Qv {t:SetTable}(hr:ur t.place.toList):∀ i,i<=t.place.size->below t.place (slotAt t i)=i
 | 0,_=>by
  obtain⟨h1,h2,h3⟩:=lM (xs:=t.place) (j:=0) hr;rcases Nat.eq_zero_or_pos (below t.place 0) with q | q
  .exact q
  .have:=h2 0 (by omega) q;omega
 | i+1,hi=>by
  have hd:t.place.getD i 0=t.place[i]:=iD (by omega);show below t.place (t.place.getD i 0+1)=i+1;rw[hd];obtain⟨h1,h2,h3⟩:=lM (xs:=t.place) (j:=t.place[i] + 1) hr;have wa:∀ a b (ha:a<t.place.size) (hb:b<t.place.size),a<b->t.place[a]<t.place[b]:=λ a b ha hb hab=>by
   have r:=List.pairwise_iff_getElem.mp hr a b (by simpa using ha) (by simpa using hb) hab;rw[Array.getElem_toList,Array.getElem_toList] at r;exact r
  rcases Nat.lt_trichotomy (below t.place (t.place[i] + 1)) (i+1) with q | q | q
  .have:=h3 i (by omega) (by omega);omega
  .exact q
  .have a:=h2 (i+1) (by omega) q;have b:=wa i (i+1) (by omega) (by omega) (by omega);omega
structure wz (w:World) (h:Heap) (a:Addr) (es:Array (Int×Value)) (ep:Nat) (t:SetTable):Prop where
 get:h.get? a=some { cls:=.type "set",dict:=none,data:=.set es ep t }
 fits:t.fits es.size=true
 wa:ur t.place.toList
 led:t.led=vq w
 plain:t.plain=true
theorem wz.size {w:World}{h:Heap}{a:Addr}{es:Array (Int×Value)}{ep:Nat}{t:SetTable}(S:wz w h a es ep t):t.place.size=es.size:=by
 have:=S.fits;simp only[SetTable.fits,zE5,beq_iff_eq] at this;exact this.1
section
variable {prog:Program}{w:World}{A:Around}{E:Value->Shared->Prop}{s:Shared}
def cD {a:Addr}{es:Array (Int×Value)}{ep:Nat}{t:SetTable}{i:Nat}{Q:Option (Value×Nat)->Shared->Prop}(S:wz w s.heap a es ep t) (hi:i<=es.size) (slot:Nat) (hs:w.params.followText "set-order"=false->slot=slotAt t i)
  (h:∀ slot',(w.params.followText "set-order"=false->slot'=slotAt t (i+1))->Q ((comes w a es ep)[i]?.map λ e=>(e.2,slot')) s):wpAny (model prog w) A (setNext a slot i ep) Q E s:=by
 unfold setNext setsByText;refine zWb (wpAny_setState_of S.get rfl S.fits ?_);dsimp only;refine zWb (zWb (wpAny_askSetting (zD1 ?_)));show wpAny _ A (if w.params.followText "set-order"=true then _ else _) Q E s;cases hb:w.params.followText "set-order" with
 | true=>
  rw[if_pos rfl,if_neg (by simp)];unfold setWalk setsByText;refine zWb (zWb (wpAny_setState_of S.get rfl S.fits ?_));dsimp only;refine zWb (zWb (wpAny_askSetting (zD1 ?_)));show wpAny _ A (if w.params.followText "set-order"=true then _ else _) _ E s;rw[if_pos hb];refine zWb (wpAny_askSetting (zD1 ?_));refine zD1 ?_;have:=h slot (λ q=>by rw[hb] at q;cases q);unfold comes at this;rw[if_pos hb] at this;exact this
 | false=>
  rw[if_neg (by simp)];split
  .rename_i hd;have hd':(!t.plain&&decide (es.size>1))=true:=hd;rw[S.plain] at hd';simp at hd'
  .show wpAny _ A ((if (!t.led&&!es.isEmpty)=true then unsupported "set:maker-not-led" else pure ()) >>= _) Q E s;have hl:t.led=true:=by rw[S.led];unfold vq;rw[hb];rfl
   rw[if_neg (by rw[hl];simp)];refine zWb (zD1 (zD1 ?_));have hsl:=hs hb;have hz:=S.size;rw[hsl,Qv S.wa i (by rw[hz];exact hi)];have:=h (slotAt t (i+1)) (λ _=>rfl);unfold comes at this;rw[if_neg (by rw[hb];simp)] at this;rcases Nat.lt_or_ge i es.size with q | q
   .have hp:i<t.place.size:=by rw[hz];exact q
    rw[zB8 q] at this;rw[zB8 q,zB8 hp];have e:slotAt t (i+1)=t.place[i] + 1:=by show t.place.getD i 0+1=_;rw[iD hp]
    rw[e] at this;exact this
   .rw[Array.getElem?_eq_none q] at this;rw[Array.getElem?_eq_none q];exact this
def rS {a I:Addr}{slot i n ep:Nat}(ho:s.heap.get? I=some (sJ a slot i n ep)):s.TypeIs (.ref I) "set_iterator":=⟨_,ho,rfl⟩
def eD (k:Nat):((k:Int)).toNat=k:=Int.toNat_natCast k
def Xa {I a:Addr}{es:Array (Int×Value)}{ep:Nat}{t:SetTable}{i slot:Nat}{e:Int×Value}{Q:Option Value->Shared->Prop}(ho:s.heap.get? I=some (sJ a slot i es.size ep)) (S:wz w s.heap a es ep t) (hs:w.params.followText "set-order"=false->slot=slotAt t i) (he:(comes w a es ep)[i]?=some e)
  (hi:i<es.size) (h:∀ h' slot',(w.params.followText "set-order"=false->slot'=slotAt t (i+1))->h'.get? I=some (sJ a slot' (i+1) es.size ep)->Heap.SameBut I s.heap h'->Q (some e.2) { s with heap:=h' }):wpAny (model prog w) A (pyNext (.ref I)) Q E s:=by
 unfold pyNext;refine zWb (wpAny_attempt (wpAny_callSpecial?_slot (name:=Str.ofString "__next__") (rS ho) qx (wpAny_call_entry qx (rS ho) ai ?_ (Zg _))));refine zWb (zD1 ?_);dsimp only;refine zWb (wpAny_fieldsOf ho rfl ?_);dsimp only[rawInt];refine zWb (zWb (wpAny_setState_of S.get rfl S.fits (zD1 ?_)));rw[if_neg (by simp)];refine zWb (cD S (by omega) slot hs λ slot' hs'=>?_);rw[eD] at hs' ⊢;rw[he];dsimp only[Option.map_some];refine zWb (wpAny_setField ho rfl (by simp) ?_);have o1:=Heap.get?_update_self (Obj.mapFields (·.set! 0 (Value.int (slot':Int) 0))) ho rfl;refine zWb (wpAny_setField o1 rfl (by simp) ?_);have o2:=Heap.get?_update_self (Obj.mapFields (·.set! 1 (Value.int ((i:Int)+1) 0))) o1 rfl;refine zD1 ⟨_,rfl,zD1 (h _ slot' hs' o2 ((Heap.SameBut.update ..).trans (Heap.SameBut.update ..)))⟩
def Xb {I a:Addr}{es:Array (Int×Value)}{ep:Nat}{t:SetTable}{slot:Nat}{Q:Option Value->Shared->Prop}(hh:A.handled=none) (ho:s.heap.get? I=some (sJ a slot es.size es.size ep)) (S:wz w s.heap a es ep t) (hs:w.params.followText "set-order"=false->slot=slotAt t es.size)
  (h:∀ h',Heap.ExtBut I s.heap h'->Q none { s with heap:=h' }):wpAny (model prog w) A (pyNext (.ref I)) Q E s:=by
 have hn:(comes w a es ep)[es.size]?=none:=by
  have:=(pd w a es ep).length_eq;simp only[zD2] at this;rw[Array.getElem?_eq_none (by omega)]
 unfold pyNext;refine zWb (wpAny_attempt (wpAny_callSpecial?_slot (name:=Str.ofString "__next__") (rS ho) qx (wpAny_call_entry qx (rS ho) ai ?_ (Zg _))));refine zWb (zD1 ?_);dsimp only;refine zWb (wpAny_fieldsOf ho rfl ?_);dsimp only[rawInt];refine zWb (zWb (wpAny_setState_of S.get rfl S.fits (zD1 ?_)));rw[if_neg (by simp)];refine zWb (cD S (by simp) slot (by simpa using hs) λ slot' hs'=>?_);rw[eD,hn];dsimp only[Option.map_none];refine zWb (wpAny_setField ho rfl (by simp) ?_);refine zWb ?_;simp only[newExc,newTuple];refine zWb (wpAny_newObj_type ?_ (by size_fits));refine zWb (m:=firstArgMember _ _) (wpAny_of_eq (a:=Value.none) (by first | rfl | (simp only[firstArgMember];rfl)) (wpAny_newObj_type ?_ (by size_fits)));unfold raiseNew;refine zWb (wpAny_handled ?_);rw[show A.in1.handled=none from hh];refine zWb ((zD1 (wpAny_throw ?_)));refine zWb ((wpAny_isInstance (T:="StopIteration") (b:=true) ⟨_,zA9 _ rfl,rfl⟩ isSubtype_stop ?_));exact zD1 (h _ (((Heap.SameBut.update ..).extBut.push _).push _))
def Y_ {I a:Addr}{slot i n ep:Nat}{Q:Value->Shared->Prop}(ho:s.heap.get? I=some (sJ a slot i n ep)) (h:Q (.ref I) s):wpAny (model prog w) A (pyIter (.ref I)) Q E s:=by
 refine wpAny_pyIter_slot (rS ho) eU (wpAny_call_entry eU (rS ho) Rw ?_ (Qy _));exact zD1 ⟨_,rfl,"set_iterator",_,rS ho,qx.lookup,h⟩
def wz.keep {h h':Heap}{a:Addr}{es:Array (Int×Value)}{ep:Nat}{t:SetTable}(S:wz w h a es ep t) (k:∀ o,h.get? a=some o->h'.get? a=some o):wz w h' a es ep t:=⟨k _ S.get,S.fits,S.wa,S.led,S.plain⟩
def Yf (hh:A.handled=none) (I a:Addr) (hne:a≠I) (es:Array (Int×Value)) (ep:Nat) (t:SetTable):
  Walks prog w A I [I,a] [I] es.size (λ i v=>∃ e,(comes w a es ep)[i]?=some e/\v=e.2) (λ i h=>(∃ slot,(w.params.followText "set-order"=false->slot=slotAt t i)/\h.get? I=some (sJ a slot i es.size ep))/\wz w h a es ep t) where
 sub:=λ b hb=>by simp at hb;simp[hb]
 frame:=λ _ _ _ st k=>by
  obtain⟨⟨slot,h1,h2⟩,S⟩:=st;exact⟨⟨slot,h1,k I (by simp) _ h2⟩,S.keep λ o e=>k a (by simp) o e⟩
 item:=λ i s Q E hi st hQ=>by
  obtain⟨⟨slot,h1,h2⟩,S⟩:=st;have hl:i<(comes w a es ep).size:=by
   have:=(pd w a es ep).length_eq;simp only[zD2] at this;omega
  refine Xa h2 S h1 (zB8 hl) hi λ h' slot' g1 g2 g3=>?_;exact hQ _ h' s.toks ⟨_,zB8 hl,rfl⟩ ⟨⟨slot',g1,g2⟩,S.keep λ o e=>(g3.2 a hne).trans e⟩ λ b o hb e=>(g3.2 b (λ z=>hb (by simp[z]))).trans e
 done:=λ s Q E st hQ=>by
  obtain⟨⟨slot,h1,h2⟩,S⟩:=st;exact Xb hh h2 S h1 λ h' g=>hQ h' s.toks λ b o hb e=>g b o (λ z=>hb (by simp[z])) e
 self:=λ _ _ _ _ st hQ=>by
  obtain⟨⟨slot,h1,h2⟩,S⟩:=st;exact Y_ h2 hQ
end
section
variable {prog:Program}{w:World}{A:Around}{E:Value->Shared->Prop}{s:Shared}
def Tq:typeLookup (.type "set") "__len__"=pure (some (.builtin "set.__len__")):=F.slot_set_len.lookup
def split_len:splitId "set.__len__"=some ("set","__len__"):=by decide +kernel
def UN {a:Addr}{es:Array (Int×Value)}{ep:Nat}{t:SetTable}{Q:Bool->Shared->Prop}(S:wz w s.heap a es ep t) (h:Q false s):wpAny (model prog w) A (setDrawn a) Q E s:=by
 unfold setDrawn setsByText;refine zWb (wpAny_setState_of S.get rfl S.fits ?_);dsimp only;refine zWb (zWb (wpAny_askSetting (zD1 (zD1 ?_))));show Q (!w.params.followText "set-order"&&(!t.plain&&decide (es.size>1))) s;rw[S.plain];simpa using h
set_option maxRecDepth 100000 in
set_option maxHeartbeats 4000000 in
def UR {a:Addr}{es:Array (Int×Value)}{ep:Nat}{t:SetTable}{Q:Bool->Shared->Prop}(S:wz w s.heap a es ep t) (h:Q false s):wpAny (model prog w) A (Builtin.List.listLengthHint (.ref a)) Q E s:=by
 have Ty:s.TypeIs (.ref a) "set":=⟨_,S.get,rfl⟩
 unfold Builtin.List.listLengthHint;refine zWb (wpAny_specialOf Ty Tq ?_);dsimp only;rw[split_len];dsimp only;refine zWb (wpAny_isInstance (b:=true) Ty sub_set_self ?_);rw[if_neg (by decide)];rw[if_pos (by decide +kernel)];refine zWb (wpAny_typeOf Ty ?_);exact zD1 h
set_option maxRecDepth 100000 in
set_option maxHeartbeats 4000000 in
def RP {a:Addr}{es:Array (Int×Value)}{ep:Nat}{t:SetTable}{Q:List Value->Shared->Prop}(hh:A.handled=none) (S:wz w s.heap a es ep t) (hn:es.size<=sizeLine)
  (h:∀ (h':Heap) (tk:Nat),(∀ b o,b<s.heap.objs.size->s.heap.get? b=some o->h'.get? b=some o)->s.heap.objs.size<=h'.objs.size->Q ((comes w a es ep).toList.map (·.2)) { s with heap:=h',toks:=tk }):wpAny (model prog w) A (collect (.ref a)) Q E s:=by
 have ha:a<s.heap.objs.size:=zA8 S.get;unfold collect;refine zWb (wpAny_runValue (codeAny_builtin F.entry_proto_collect ?_));rw[Around.under_plainId F.plain_proto_collect _];show wpAny _ A.in1 (newList [] >>= λ l=>again (.builtin "list.__iadd__" ⟨[l,.ref a],[]⟩)) _ _ s;refine zWb (wpAny_newObj_type (zD1 ⟨plainId_quiet F.plain_list_iadd _,codeAny_builtin F.entry_list_iadd ?_⟩));rw[Around.under_plainId F.plain_list_iadd _]
 let L0:Obj:={ cls:=.type "list",data:=.seq ([]:List Value).toArray }
 have S1:wz w (s.heap.push L0) a es ep t:=S.keep λ o e=>zHp _ e;have T1:Shared.TypeIs { s with heap:=s.heap.push L0 } (.ref a) "set":=⟨_,S1.get,rfl⟩
 show wpAny _ A.in1 (Builtin.List.listExtendWith (.ref s.heap.objs.size) (.ref a) (.ref s.heap.objs.size)) _ _ { s with heap:=s.heap.push L0 };unfold Builtin.List.listExtendWith;refine zWb (wpAny_typeOf T1 ?_);have hne:s.heap.objs.size≠a:=Nat.ne_of_gt ha;have c1:Builtin.List.listSameRef (.ref s.heap.objs.size) (.ref a)=false:=by simp[Builtin.List.listSameRef,hne]
 rw[if_neg (by rw[c1];decide)];refine zWb (wpAny_pyIter_slot T1 F.slot_set_iter (wpAny_call_entry F.slot_set_iter T1 Rx ?_ (F.args_set_iter_1 _)));refine zWb (zWb (zD1 (zD1 ?_)));refine zWb (zWb (zWb (wpAny_setState_of S1.get rfl S1.fits (zD1 (zD1 ?_)))));refine zWb (UN S1 ?_);rw[if_neg (by decide)];refine zWb (zD1 ?_);refine zWb (wpAny_setEpoch_of S1.get rfl S1.fits ?_);refine zWb (wpAny_newObj_type (zD1 ⟨_,rfl,"set_iterator",_,⟨_,zA9 _ rfl,rfl⟩,qx.lookup,?_⟩))
 let I:=(s.heap.push L0).objs.size
 let h2:=(s.heap.push L0).push (sJ a 0 0 es.size ep)
 have S2:wz w h2 a es ep t:=S1.keep λ o e=>zHp _ e;have hI:h2.get? I=some (sJ a 0 0 es.size ep):=zA9 _ rfl;have hL:h2.get? s.heap.objs.size=some L0:=zHp _ (zA9 _ rfl);have hsz:(s.heap.push L0).objs.size=s.heap.objs.size+1:=Heap.size_push _ _;show wpAny _ A.in1 _ _ _ { s with heap:=h2 };refine zWb (wpAny_holding (UR (s:={ s with heap:=h2 }) S2 ?_));rw[if_pos (by decide +kernel)];refine zWb (wpAny_rule ?_);refine zWb ?_;show wpAny _ A.in1 (updateSeq s.heap.objs.size (·.push .none) >>= λ _=>updateSeq s.heap.objs.size (·.pop)) _ _ { s with heap:=h2 };refine zWb (wpAny_updateSeq hL rfl ?_);have hL2:=Heap.get?_update_self (Obj.mapSeq (·.push Value.none)) hL rfl;refine wpAny_updateSeq hL2 rfl ?_;have hL3:=Heap.get?_update_self (Obj.mapSeq (·.pop)) hL2 rfl
 let h3:=(h2.update s.heap.objs.size (Obj.mapSeq (·.push Value.none))).update s.heap.objs.size (Obj.mapSeq (·.pop))
 have ou:∀ b o,b≠s.heap.objs.size->h2.get? b=some o->h3.get? b=some o:=λ b o hb e=>(Heap.get?_update_other _ _ (Ne.symm hb)).trans ((Heap.get?_update_other _ _ (Ne.symm hb)).trans e);have haI:a≠I:=by show a≠(s.heap.push L0).objs.size;rw[hsz];exact zB3 (Nat.lt_succ_of_lt ha)
 have hIn:I≠s.heap.objs.size:=by show (s.heap.push L0).objs.size≠_;rw[hsz];exact Nat.ne_of_gt (zE2 _)
 refine zD1 ⟨plainId_quiet F.plain_extend_loop _,codeAny_extend_loopS ((Yf (A:=A.in1) hh I a haI es ep t).toS) hn s.heap.objs.size ?_ _ es.size 0 { s with heap:=h3 } #[] _ rfl (zD4 _) ⟨⟨0,λ _=>rfl,ou I _ hIn hI⟩,S2.keep λ o e=>ou a o (Ne.symm hne) e⟩ hL3 (ItemsOf.nil _) λ s' acc c' hm hS' hacc=>?_⟩
 .intro hm;rcases zA5.mp hm with q | q
  .exact hIn q.symm
  .exact hne (zB6.mp q)
 .refine zWb (wpAny_load hS' (zD1 ?_));obtain⟨h',g',d',tk',os'⟩:=s';obtain rfl:g'=s.gens:=hm.gens;obtain rfl:d'=s.drawn:=hm.drawn;obtain rfl:os'=s.os:=hm.os;have hcm:(comes w a es ep).size=es.size:=by
   have:=(pd w a es ep).length_eq;simpa using this
  have e:acc.toList=(comes w a es ep).toList.map (·.2):=by
   refine List.ext_getElem? λ j=>?_;rw[zA3];rcases Nat.lt_or_ge j es.size with q | q
   .have hjl:j<acc.size:=by rw[hacc.1];exact q
    have hj:acc[j]?=some acc[j]:=zB8 hjl;obtain⟨e,e1,e2⟩:=hacc.2 j _ hj;rw[zD3,zD3,hj,e1,e2];rfl
   .rw[zD3,zD3,Array.getElem?_eq_none (by rw[hacc.1];exact q),Array.getElem?_eq_none (by rw[hcm];exact q)];rfl
  rw[e];refine h h' tk' (λ b o hb e=>hm.heap b o (λ q=>?_) (ou b o (zB3 hb) (zHp _ (zHp _ e)))) ?_
  .rcases zA5.mp q with q | q
   .exact zB3 hb q
   .have q':b=(s.heap.push L0).objs.size:=zB6.mp q;rw[hsz] at q';exact zB3 (Nat.lt_succ_of_lt hb) q'
  .exact zE3 (zA8 hS')
end
end ST
namespace ST
open PySem PySem.SetTable PyProof.Rows L4
section
variable {prog:Program}{w:World}{A:Around}{E:Value->Shared->Prop}{s:Shared}
def eL {a:Addr}{es:Array (Int×Value)}{ep:Nat}{t:SetTable}{Q:Value->Shared->Prop}{Out:Array Value->Prop}(hh:A.handled=none) (S:wz w s.heap a es ep t) (hz:es.size<=sizeLine)
  (core:∀ s6:Shared,2<=es.size->(∀ b o,s.heap.get? b=some o->s6.heap.get? b=some o)->Core prog w A.in1.in1 E ((comes w a es ep).toList.map (·.2)) Out s6) (short:es.size<2->Out ((comes w a es ep).toList.map (·.2)).toArray)
  (fin:∀ (out:Array Value) (h':Heap) (tk l:Nat),Out out->out.size=es.size->s.heap.objs.size<=l->(∀ b o,s.heap.get? b=some o->h'.get? b=some o)->(∃ e,h'.get? l=some (seqObj "list" out e))->Q (.ref l) { s with heap:=h',toks:=tk }):
  wpAny (model prog w) A (call (.builtin "sorted") [.ref a]) Q E s:=by
 have hcl:((comes w a es ep).toList.map (·.2)).length=es.size:=by
  have:=(pd w a es ep).length_eq;rw[zA7,this,zD2]
 refine Calls.call_function_entry kind_sorted plain_sorted entry_sorted (args_sorted1 _) ?_;unfold Builtin.«sorted»;refine zWb (m:=checkCount "sorted" 1 1 _) (zD1 (zWb (RP (A:=A.in1) hh S hz λ h1 tk k1 k2=>zWb (wpAny_newList ?_ (by rw[hcl];exact hz)))));generalize hvs:(comes w a es ep).toList.map (·.2)=vs at *;have hoL:(h1.push (seqObj "list" vs.toArray 0)).get? h1.objs.size=some (seqObj "list" vs.toArray 0):=zA9 _ rfl;have k3:∀ b o,s.heap.get? b=some o->h1.get? b=some o:=λ b o q=>k1 b o (zA8 q) q;show wpAny _ _ _ _ _ { s with heap:=h1.push (seqObj "list" vs.toArray 0),toks:=tk };refine zWb (wpAny_holding (wpAny_call_entry slot_list_sort ⟨_,hoL,rfl⟩ entry_list_sort (jW hoL (by rw[hcl];exact hz) (λ h2 s6 k=>core s6 (by rw[<- hcl];exact h2) λ b o q=>k b o ?_ (zHp _ (k3 b o q))) (λ h2=>short (by rw[<- hcl];exact h2)) λ out g1 g2=>⟨_,rfl,?_⟩) (args_list_sort _)))
 .exact zB3 (zC3 (zA8 q) k2)
 .refine zD1 ⟨_,rfl,fin out _ tk h1.objs.size g1 (by rw[g2,hcl]) k2 (λ b o q=>?_) (sortedHeap_at (n:=0) hoL)⟩;have hlt:b<h1.objs.size:=zA8 (k3 b o q);rw[sortedHeap_old (zB3 hlt) (by rw[size_push'];exact Nat.lt_succ_of_lt hlt),Heap.get?_push_ne _ _ _ (zB3 hlt)];exact k3 b o q
end
end ST
namespace ST
open PySem PySem.SetTable PySem.Spec PyProof.Rows L2
def yJ (w:World) (a:Addr) (us:List Value):Heap->Prop:=λ h=>∃ es ep t,wz w h a es ep t/\es.toList.map (·.2)=us
def yJ.tm {w:World}{a:Addr}{us:List Value}{h1 h2:Heap}(S:yJ w a us h1) (k:∀ o,h1.get? a=some o->h2.get? a=some o):yJ w a us h2:=by
 obtain⟨es,ep,t,S,e⟩:=S;exact⟨es,ep,t,S.keep k,e⟩
def vy.at {prog:Program}{w:World}{h:Heap}{a:Addr}{xs:List (List Int×Addr)}(S:vy prog w h a xs (vq w)):yJ w a (xs.map λ e=>Value.ref e.2) h:=by
 obtain⟨⟨es,ep,t,ho,X,h1,h2,h3⟩,_⟩:=S;exact⟨es,ep,t,⟨ho,X.fits,X.tab.wa,h1,h2⟩,by rw[X.es,zD6];rfl⟩
section
variable {X:Cx}
abbrev lO (K:zFr) (H:Hp) (ys:List V) (rows:List (List Int)):Prop:=Paired (λ v r=>r≠[]/\∃ b,v=V.ref b/\zS K H b (r.map V.int)) ys rows
theorem bw:∀ {ns:List Int}{us:List Value},Vals (ns.map V.int) us->∀ {prog:Program}{w:World},ItemsAre (intKind prog w) ns us
 | [],_,.nil,_,_=>.nil
 | n::ns,_,.cons r t,prog,w=>by
  obtain⟨tk,rfl⟩:=r;exact .cons (intKind_is _ _ _ _) (bw t)
structure qg (ys:List V) (rows:List (List Int)) (vs:List V) (rs:List (List Int)):Prop where
 sub:∀ (i:Nat) v r,vs[i]?=some v->rs[i]?=some r->∃ (j:Nat),ys[j]?=some v/\rows[j]?=some r
 len:vs.length=rs.length
 nd:rs.Nodup
 all:∀ r∈rows,r∈rs
def Qb (hc:X.calm=true) (hu:X.A.units+64<cLine):yK X (.type "set") (λ xs H Q=>∃ p ys,∃ rows:List (List Int),xs=[.ref p]/\zN X.K H p ys/\lO X.K H ys rows/\rows.length<64/\
  ∀ (l:Addr) (us:List Value) (vs:List V) (rs:List (List Int)),H l=none->Vals vs us->qg ys rows vs rs->Q (.ref l) (upd H l (.ext (yJ X.w l us)))):=by
 intro pins s O H xs us Q I r h;obtain⟨p,ys,rows,rfl,hq,hr,h64,q⟩:=h;obtain⟨u,rfl,ru⟩:=vals1 r;cases ru;obtain⟨its,rv,pl,hz⟩:=I.list hq;have hl:=rv.length;have hlr:ys.length=rows.length:=Paired.length hr;have u5:qd X.prog X.w s.heap its.toArray rows:=λ i v hv=>by
  have hv':its[i]?=some v:=by simpa using hv
  have hi:i<its.length:=(zA2.mp hv').1;obtain⟨hne,b,hb,hsq⟩:=L4.Paired.at' hr (i:=i) (by omega) V.zi ([]:List Int);have hy:ys[i]?=some (V.ref b):=by
   rw[zA1 (by omega)];have:ys.getD i V.zi=ys[i]'(by omega):=by simp[show i<ys.length by omega]
   rw[this] at hb;rw[hb]
  obtain⟨v',e1,e2⟩:=rv.get hy;rw[hv'] at e1;cases e1;cases (show v=Value.ref b from e2);obtain⟨its2,rv2,⟨o,e,hcl,n,hd⟩,_⟩:=I.tuple hsq;refine⟨b,rows.getD i [],rfl,?_,o,its2.toArray,n,e,hcl,hd,by simpa using bw rv2⟩;simp[show i<rows.length by omega]
 have hh:X.A.handled=none:=I.ok.hd hc;refine Qe (A:=X.A) hh hu pl.isList u5 (by rw[zA0];omega) λ h' tk xs S U k=>?_;have kk:∀ b o,s.heap.get? b=some o->h'.get? b=some o:=λ b o e=>k b o (zA8 e) e;have hfr:H s.heap.objs.size=none:=I.zw.fresh (zA4 _);have hSO:=S.at;have vals:Vals (xs.map λ e=>V.ref e.2) (xs.map λ e=>Value.ref e.2):=by
  clear S U hSO
  induction xs with
  | nil=>exact .nil
  | cons e xs ih=>exact .cons rfl ih
 refine⟨.ref s.heap.objs.size,_,I.laid (t':=tk) (o:=.ext (yJ X.w s.heap.objs.size (xs.map λ e=>Value.ref e.2))) kk (zA4 _) ?_,rfl,q _ _ (xs.map λ e=>V.ref e.2) (xs.map (·.1)) hfr vals ⟨λ i v r hv hr'=>?_,by simp,S.nd,λ r hr'=>?_⟩⟩
 .obtain⟨es,ep,t,St,e⟩:=id hSO;exact⟨hSO,⟨_,St.get⟩,λ h1 h2 S1 k=>S1.tm k⟩
 .rw[zA3] at hv hr';obtain⟨e,e1,rfl⟩:=zOm hv;rw[e1] at hr';cases hr';obtain⟨j,j1,j2,j3⟩:=U.own e (zB7 e1);refine⟨j,?_,j3⟩;have hj':its[j]?=some (Value.ref e.2):=by simpa using j2
  have hjl:j<ys.length:=by rw[hl];exact (zA2.mp hj').1
  obtain⟨v',e2,e3⟩:=rv.get (zA1 hjl);rw[hj'] at e2;cases e2;obtain⟨hne,b,hb,_⟩:=L4.Paired.at' hr (i:=j) (by omega) V.zi ([]:List Int);have:ys.getD j V.zi=ys[j]:=by simp[hjl]
  rw[this] at hb;rw[hb] at e3;cases (show Value.ref e.2=Value.ref b from e3);rw[zA1 hjl,hb]
 .obtain⟨j,hj⟩:=List.mem_iff_getElem?.mp hr';exact U.all j r (by have:=(zA2.mp hj).1;rw[zA0];omega) hj
theorem Paired.mk {α β:Type}{F:α->β->Prop}:∀ {l:List α}{m:List β},l.length=m.length->(∀ (i:Nat) a b,l[i]?=some a->m[i]?=some b->F a b)->Paired F l m
 | [],[],_,_=>.nil
 | a::l,b::m,h,f=>.cons (f 0 a b rfl rfl) (Paired.mk (by simpa using h) λ i x y hx hy=>f (i+1) x y (by simpa using hx) (by simpa using hy))
 | [],_::_,h,_=>by simp at h
 | _::_,[],h,_=>by simp at h
def R_ (hc:X.calm=true):yK X (.builtin "sorted") (λ xs H Q=>∃ l us vs,∃ rs:List (List Int),xs=[.ref l]/\H l=some (.ext (yJ X.w l us))/\Vals vs us/\lO X.K H vs rs/\rs.length<64/\
  ∀ (p:Addr) (idx:List Nat),H p=none->idx.Perm (List.range vs.length)->(idx.map λ i=>rs.getD i []).Pairwise (λ a b=>HT.lexLt b a=false)->Q (.ref p) (upd H p (.lst (idx.map λ i=>vs.getD i .zi)))):=by
 intro pins s O H xs us0 Q I r h;obtain⟨l,us,vs,rs,rfl,hl,hv,hr,h64,q⟩:=h;obtain⟨u,rfl,ru⟩:=vals1 r;cases ru;obtain⟨⟨es,ep,t,S,eu⟩,-,-⟩:=(show yZ X.prog X.w H s.heap l (.ext (yJ X.w l us)) from I.zw l _ hl)
 have hlen:es.size=us.length:=by rw[<- eu];simp
 have hvl:=hv.length;have hrl:vs.length=rs.length:=Paired.length hr;have hh:X.A.handled=none:=I.ok.hd hc;obtain⟨ix,ix1,ix2⟩:∃ ix:List Nat,ix.Perm (List.range us.length)/\(comes X.w l es ep).toList.map (·.2)=ix.map λ i=>us.getD i Value.none:=by
  have hp:((comes X.w l es ep).toList.map (·.2)).Perm us:=by rw[<- eu];exact (pd X.w l es ep).map _
  generalize (comes X.w l es ep).toList.map (·.2)=cs at hp;clear eu hl hv hvl hlen
  induction hp with
  | nil=>exact⟨[],.refl _,rfl⟩
  | @cons x a b _ ih=>
   obtain⟨ix,i1,i2⟩:=ih;refine⟨0::ix.map (· + 1),?_,?_⟩
   .rw[zC0,List.range_succ_eq_map];exact (i1.map _).cons 0
   .rw[zA6,zD6,i2];rfl
  | @swap x y a=>
   refine⟨1::0::(List.range a.length).map (· + 2),?_,?_⟩
   .rw[zC0,zC0,List.range_succ_eq_map,List.range_succ_eq_map,zA6,zD6];exact .swap _ _ _
   .rw[zA6,zA6,zD6];refine congrArg _ (congrArg _ ?_);refine List.ext_getElem (by simp) λ i h1 h2=>?_;simp[h1]
  | @trans a b c _ _ ih1 ih2=>
   obtain⟨i1,p1,e1⟩:=ih1;obtain⟨i2,p2,e2⟩:=ih2;have hlb:b.length=c.length:=by rw[e2,zA7,p2.length_eq];simp
   refine⟨i1.map λ i=>i2.getD i 0,?_,?_⟩
   .refine (p1.map _).trans ?_;have e:(List.range b.length).map (λ i=>i2.getD i 0)=i2:=by
     have hl2:i2.length=b.length:=by rw[p2.length_eq,hlb];simp
     rw[<- hl2];refine List.ext_getElem (by simp) λ i h1 h2=>?_;simp[h2]
    rw[e];exact p2
   .rw[e1,zD6];refine List.map_congr_left λ i hi=>?_;have hi':i<b.length:=by simpa using p1.mem_iff.mp hi
    have hl2:i<i2.length:=by rw[p2.length_eq,<- hlb];simpa using hi'
    show b.getD i _=c.getD (i2.getD i 0) _;rw[e2];simp[hl2]
 have hix:∀ i∈ix,i<us.length:=λ i hi=>by simpa using ix1.mem_iff.mp hi
 have rows_at:∀ h6:Heap,(∀ b o,s.heap.get? b=some o->h6.get? b=some o)->L4.tQ h6 ((comes X.w l es ep).toList.map (·.2)) (ix.map λ i=>rs.getD i []):=λ h6 k=>by
  rw[ix2];refine Paired.mk (by simp) λ j a b ha hb=>?_;rw[zA3] at ha hb;obtain⟨i,hi,rfl⟩:=zOm ha;rw[hi] at hb;cases hb;have hil:=hix i (zB7 hi);obtain⟨hne,b,hbv,hsq⟩:=L4.Paired.at' hr (i:=i) (by omega) V.zi ([]:List Int);obtain⟨u',e1,e2⟩:=hv.get (i:=i) (x:=vs.getD i V.zi) (by simp[show i<vs.length by omega]);rw[hbv] at e2;cases (show u'=Value.ref b from e2);obtain⟨its2,rv2,⟨o,e,hcl,n,hd⟩,_⟩:=I.tuple hsq;have eg:us.getD i Value.none=Value.ref b:=by simp[e1]
  refine⟨hne,b,o,its2.toArray,n,eg,k _ _ e,hcl,hd,by simpa using intsAre_of rv2⟩
 have hcl:((comes X.w l es ep).toList.map (·.2)).length=us.length:=by rw[ix2,zA7,ix1.length_eq];simp
 refine eL (Out:=L4.nN ((comes X.w l es ep).toList.map (·.2)) (ix.map λ i=>rs.getD i [])) hh S (by rw[hlen];have:sizeLine=16777216:=rfl;omega) (λ s6 h2 k=>L4.i_ (rows_at _ k) (by rw[hcl,<- hlen];exact h2) (by rw[hcl];omega)) (λ h1=>?_) λ out h' tk p ho hs hp k hat=>?_
 .refine⟨List.range ((comes X.w l es ep).toList.map (·.2)).length,.refl _,?_,?_⟩
  .refine List.ext_getElem (by simp) λ i h1 h2=>?_;simp at h2;simp[h2]
  .rw[List.pairwise_map,List.pairwise_iff_getElem];intro i j hi hj hij;rw[hcl] at hi hj;simp at hi hj;omega
 .obtain⟨idx,g1,g2,g3⟩:=ho;obtain⟨e,he⟩:=hat;rw[hcl] at g1;have hfr:H p=none:=I.zw.fresh hp;have hidx:∀ i∈idx,i<us.length:=λ i hi=>by simpa using g1.mem_iff.mp hi
  have hxl:ix.length=us.length:=by rw[ix1.length_eq];simp
  let jx:=idx.map λ i=>ix.getD i 0
  have hjp:jx.Perm (List.range vs.length):=by
   rw[hvl];refine (g1.map _).trans ?_;have e:(List.range us.length).map (λ i=>ix.getD i 0)=ix:=by
    rw[<- hxl];refine List.ext_getElem (by simp) λ i h1 h2=>?_;simp[h2]
   rw[e];exact ix1
  have hjr:(jx.map λ i=>rs.getD i [])=idx.map λ i=>(ix.map λ i=>rs.getD i []).getD i []:=by
   rw[zD6];refine List.map_congr_left λ i hi=>?_;have:=hidx i hi;simp[show i<ix.length by omega]
  refine⟨.ref p,_,I.laid (t':=tk) (o:=.lst (jx.map λ i=>vs.getD i .zi)) k hp ?_,rfl,q p jx hfr hjp (by rw[hjr];exact g3)⟩;refine⟨by rw[zA7,hjp.length_eq,zC5];have:sizeLine=16777216:=rfl;omega,out.toList,e,?_,by simpa using he⟩;rw[g2,ix2];refine Paired.mk (by simp[jx]) λ j a b ha hb=>?_;rw[zA3] at ha hb;obtain⟨i,hi,rfl⟩:=zOm hb;simp only[jx,zA3,hi,Option.map_some,Option.some.injEq] at ha;have hil:=hidx i (zB7 hi);have hx:ix.getD i 0<us.length:=by
   have:ix.getD i 0∈ix:=by simp[show i<ix.length by omega]
   exact hix _ this
  obtain⟨u',e1,e2⟩:=hv.get (i:=ix.getD i 0) (x:=vs.getD (ix.getD i 0) V.zi) (by
   have hx':ix.getD i 0<vs.length:=by omega
   generalize ix.getD i 0=q at hx';rw[zB1,zA1 hx'];rfl)
  subst ha;have e3:(ix.map λ i=>us.getD i Value.none).getD i Value.none=u':=by
   simp[show i<ix.length by omega] at e1 ⊢;simp[e1]
  rw[e3];exact e2
end
end ST
namespace L5
open PySem PySem.Spec L2 L3
open PyProof.Rows hiding St
noncomputable def wc:List (List Int)->List (List Int)
 | []=>[]
 | r::rs=>if r∈wc rs then wc rs else r::wc rs
theorem oB {r:List Int}:∀ {rs:List (List Int)},r∈wc rs↔r∈rs
 | []=>.rfl
 | x::rs=>by
  unfold wc;split
  .rename_i h;rw[oB,zA5];exact⟨.inr,λ h'=>h'.elim (λ e=>e▸oB.mp h) id⟩
  .rw[zA5,zA5,oB]
theorem jL:∀ rs:List (List Int),(wc rs).Nodup
 | []=>.nil
 | x::rs=>by
  unfold wc;split
  .exact jL rs
  .rename_i h;exact List.nodup_cons.mpr ⟨h,jL rs⟩
theorem jM:∀ rs:List (List Int),(wc rs).length<=rs.length
 | []=>zA4 _
 | x::rs=>by
  unfold wc;have:=jM rs;split <;> simp only[zC0] <;> omega
def uh:xx:=λ ds S Q=>match ds with
 | [.tup _]=>False
 | [d]=>∃ rows:List (List Int),yf d S=some (rows.map xF)/\rows.length<64/\(∀ r∈rows,r≠[])/\∀ l,S l=none->Q (.ref l) (ups S l (.lst ((L4.xu (wc rows)).map xF)))
 | _=>False
noncomputable def mC:List T->Option T
 | [.lst ts]=>(vA ts).bind λ rs=>if rs.length<64/\∀ r∈rs,r≠[] then some (.lst ((L4.xu (wc rs)).map zP)) else none
 | _=>none
def SG:vW zH mC uh:=λ S Z ys z ds Q hz hv e hq=>by
 unfold mC at e;split at e
 .obtain⟨d,rfl,h1⟩:=v_ hv;obtain⟨rs,e1,e2⟩:=zOb e;split at e2
  .rename_i hc;cases e2;cases jf e1;obtain⟨es,h2,h3⟩:=h1.seq rfl;cases qw.mp h3;have key:∃ rows:List (List Int),yf d S=some (rows.map xF)/\rows.length<64/\(∀ r∈rows,r≠[])/\∀ l,S l=none->Q (.ref l) (ups S l (.lst ((L4.xu (wc rows)).map xF))):=
    ⟨rs,h2,hc.1,hc.2,λ l hl=>hq _ _ (.new hl _) (sr hz hl (qw.mpr rfl))⟩
   obtain⟨_,q | ⟨a,q,_⟩,_⟩:=h1.lst
   .subst q;exact key
   .subst q;exact key
  .cases e2
 .cases e
section
variable {X:Cx}{K:zFr}{e:Expr}{tA:yk}{pos pos2 p p2:Pos}
def uh.mo:vV uh:=λ ds S Q Q' hq h=>by
 unfold uh at h ⊢;split at h
 .exact h.elim
 .obtain⟨rows,h1,h2,h3,h4⟩:=h;exact⟨rows,h1,h2,h3,λ l hl=>hq _ _ (h4 l hl)⟩
 .exact h.elim
def zm.pick {H:Hp}{ys vs:List V}{rows rs:List (List Int)}(h:zm K H (rows.map xF) ys) (P:ST.qg ys rows vs rs):zm K H (rs.map xF) vs:=by
 have key:∀ (vs:List V) (rs:List (List Int)),vs.length=rs.length->(∀ (i:Nat) v r,vs[i]?=some v->rs[i]?=some r->∃ (j:Nat),ys[j]?=some v/\rows[j]?=some r)->zm K H (rs.map xF) vs:=by
  intro vs
  induction vs with
  | nil=>intro rs hl _;cases rs with
   | nil=>exact .nil
   | cons _ _=>simp at hl
  | cons v vs ih=>intro rs hl hp;cases rs with
   | nil=>simp at hl
   | cons r rs=>
    refine .cons ?_ (ih rs (by simpa using hl) λ i v r hv hr=>hp (i+1) v r (by simpa using hv) (by simpa using hr));obtain⟨j,j1,j2⟩:=hp 0 v r rfl rfl;obtain⟨x,e1,e2⟩:=h.get (i:=j) (d:=xF r) (by rw[zA3,j2];rfl);rw[j1] at e1;cases e1;exact e2
 exact key vs rs P.len P.sub
def qg.mem {ys vs:List V}{rows rs:List (List Int)}(P:ST.qg ys rows vs rs) {r:List Int}:r∈rs↔r∈rows:=by
 refine⟨λ h=>?_,P.all r⟩;obtain⟨i,hi⟩:=List.mem_iff_getElem?.mp h;have hl:i<vs.length:=by rw[P.len];exact (zA2.mp hi).1
 obtain⟨j,_,j2⟩:=P.sub i _ r (zA1 hl) hi;exact zB7 j2
def uh.fits {w:World}:uW K uh (λ xs H Q=>∃ p ys,∃ rows:List (List Int),xs=[.ref p]/\zN K H p ys/\ST.lO K H ys rows/\rows.length<64/\
  ∀ (l:Addr) (us:List Value) (vs:List V) (rs:List (List Int)),H l=none->Vals vs us->ST.qg ys rows vs rs->
   ∃ l' us' vs',∃ rs':List (List Int),[V.ref l]=[.ref l']/\(upd H l (.ext (ST.yJ w l us))) l'=some (.ext (ST.yJ w l' us'))/\Vals vs' us'/\ST.lO K (upd H l (.ext (ST.yJ w l us))) vs' rs'/\rs'.length<64/\
    ∀ (p:Addr) (idx:List Nat),(upd H l (.ext (ST.yJ w l us))) p=none->idx.Perm (List.range vs'.length)->(idx.map λ i=>rs'.getD i []).Pairwise (λ a b=>HT.lexLt b a=false)->Q (.ref p) (upd (upd H l (.ext (ST.yJ w l us))) p (.lst (idx.map λ i=>vs'.getD i .zi)))):=λ xs ds H S Q h0 h2 h=>by
 unfold uh at h;split at h
 .exact h.elim
 .rename_i d hn;obtain⟨x,hx,h1⟩:=h0.one;subst hx;obtain⟨rows,e,h64,hne,h⟩:=h;obtain⟨a,ys,rfl,g1,g2⟩:=qy h1 h2 e (λ ts z=>hn ts z);refine⟨a,ys,rows,rfl,g1,pV g2 hne,h64,λ l us vs rs hf hv P=>?_⟩;have g3:=zm.pick g2 P;have x1:Ext H (upd H l (.ext (ST.yJ w l us))):=.new hf _;have hper:rs.Perm (wc rows):=(List.perm_ext_iff_of_nodup P.nd (jL rows)).mpr λ r=>by rw[qg.mem P,oB]
  refine⟨l,us,vs,rs,rfl,yL,hv,pV (zm.ext x1 _ g3) λ r hr=>hne r ((qg.mem P).mp hr),by rw[hper.length_eq];have:=jM rows;omega,λ p idx hp hi hs=>?_⟩;rw[P.len] at hi;have heq:=L4.eN ((cK hi).trans hper) hs;have hpl:p≠l:=λ z=>by subst z;rw[yL] at hp;cases hp
  have hpH:H p=none:=by rw[yE hpl] at hp;exact hp
  have x2:Ext (upd H l (.ext (ST.yJ w l us))) (upd (upd H l (.ext (ST.yJ w l us))) p (.lst (idx.map λ i=>vs.getD i .zi))):=.new hp _;have r1:zI K (upd H l (.ext (ST.yJ w l us))) S:=h2.new hf;refine h p (h2.none hpH) _ _ (by simp only[zg]) (x1.trans x2) (r1.ups x2 ⟨_,yL,?_⟩);rw[<- heq];exact zm.ext (x1.trans x2) _ (zm.perm g3 λ i h=>by simpa using hi.mem_iff.mp h)
 .exact h.elim
end
end L5
namespace ST
open PySem PySem.SetTable PyProof.Rows
theorem bR {t:SetTable}{hs:List Int}(T:Tab t hs) (h:Int):∀ (f k K:Nat),k<=K->K<k+f->(way t.mask h K).j∉t.place.toList->(∀ m<K,(way t.mask h m).j∈t.place.toList)->probe.go t (λ _=>h+1) h f (way t.mask h k)=some (.empty (way t.mask h K).j none)
 | 0,k,K,h1,h2,_,_=>by omega
 | f+1,k,K,h1,h2,h3,h4=>by
  by_cases e:k=K
  .subst e;unfold probe.go;rw[T.empty h3,kl]
  .obtain⟨i,g,p1,_⟩:=T.at (h4 k (by omega));have ih:=bR T h f (k+1) K (by omega) (by omega) h3 h4
   conv=>lhs;unfold probe.go
   rw[T.live p1];dsimp only;rw[if_neg (by intro q;have:=eq_of_beq q;omega),gs];exact ih
def Rb {t:SetTable}{hs:List Int}(T:Tab t hs) (hl:hs.length<=t.mask) (h:Int):∃ j,t.freeSlot h=some (j,false)/\g_ t h j:=by
 obtain⟨K,k1,k2,k3⟩:=T.first hl h;refine⟨(way t.mask h K).j,?_,⟨k2,K,rfl,k3⟩⟩;have g:=bR T h (10*turns t.mask) 0 K (zD4 _) (by unfold turns;omega) k2 k3;unfold SetTable.freeSlot;have e:t.probe (λ _=>h+1) h (t.probeStart h)=some (.empty (way t.mask h K).j none):=g;rw[e];rfl
structure vz (prog:Program) (w:World) (h:Heap) (a:Addr) (xs:List (Int×Tok)) (led:Bool):Prop where
 ex:∃ es ep t,h.get? a=some { cls:=.type "set",dict:=none,data:=.set es ep t }/\es.toList=xs.map (λ e=>((intKind prog w).hash e.1,Value.int e.1 e.2))/\Tab t (xs.map λ e=>(intKind prog w).hash e.1)/\t.led=led/\t.plain=true/\xs.length*5<t.mask*3
 nd:(xs.map (·.1)).Nodup
section
variable {prog:Program}{w:World}{A:Around}{E:Value->Shared->Prop}{s:Shared}
def fits_of {es:Array (Int×Value)}{t:SetTable}{hs:List Int}{n:Nat}(h1:es.size=n) (T:Tab t hs) (h2:hs.length=n) (h3:n<=t.mask):t.fits es.size=true:=by
 have l:=T.len;unfold SetTable.fits SetTable.fill;rw[T.sS,h1,l,h2];simp;omega
def oH {n m:Int}{t:Tok}:(intKind prog w).is n (.int m t)=true↔n=m:=by
 constructor
 .intro h;obtain⟨t',e⟩:=Value.isInt_shape (show Value.isInt n (.int m t)=true from h);cases e;rfl
 .rintro rfl;exact intKind_is _ _ _ _
def Ry {es:Array (Int×Value)}{xs:List (Int×Tok)}(h:es.toList=xs.map (λ e=>((intKind prog w).hash e.1,Value.int e.1 e.2))):ElemsOf (intKind prog w) es.toList:=λ e he=>by
 rw[h] at he;obtain⟨x,_,rfl⟩:=zB0.mp he;exact⟨⟨x.1,oH.mpr rfl,rfl⟩,rfl⟩
def X5 {es:Array (Int×Value)}{t:SetTable}{xs:List (Int×Tok)}{M wanted:Nat}(he:es.toList=xs.map (λ e=>((intKind prog w).hash e.1,Value.int e.1 e.2))) (hM:vg M) (hw:sizeAbove wanted=M+1) (hfew:xs.length*5<M*3):
  ∃ es' t',∃ xs':List (Int×Tok),relayAll t es wanted=(es',t',false)/\es'.toList=xs'.map (λ e=>((intKind prog w).hash e.1,Value.int e.1 e.2))/\xs'.Perm xs/\Tab t' (xs'.map λ e=>(intKind prog w).hash e.1)/\t'.mask=M/\t'.led=t.led/\t'.plain=t.plain/\es'.size=es.size:=by
 have hlen:es.size=xs.length:=by have:=congrArg List.length he;simpa using this
 have hhs:(es.map (·.1)).toList=xs.map λ e=>(intKind prog w).hash e.1:=by rw[Array.toList_map,he,zD6];rfl
 have hsz:(es.map (·.1)).size=xs.length:=by rw[Array.size_map,hlen]
 obtain⟨t',order,h1,h2,h3,h4,h5,h6,h7⟩:=bc hM t.finger (t.movedTo M) t.led t.plain (es.map (·.1)) (by rw[hsz];omega);rw[hsz] at h6;have hlt:∀ k∈order.toList,k<xs.length:=λ k hk=>by simpa using h6.mem_iff.mp hk
 have hr:t.relaid (es.map (·.1)) wanted=some (t',order):=by
  unfold SetTable.relaid;rw[hw,Nat.add_sub_cancel];exact h1
 have hes':(order.filterMap (es[·]?)).toList=(order.toList.filterMap λ k=>xs[k]?).map λ e=>((intKind prog w).hash e.1,Value.int e.1 e.2):=by
  rw[Array.toList_filterMap,List.map_filterMap];congr 1;funext k;rw[<- zD3,he,zA3]
 have hperm:(order.toList.filterMap λ k=>xs[k]?).Perm xs:=(h6.filterMap _).trans (by rw[List.filterMap_getElem?_range_length]);have hsz':(order.filterMap (es[·]?)).size=es.size:=by
  rw[<- zD2,hes',zA7,hperm.length_eq,hlen]
 have hT:Tab t' ((order.toList.filterMap λ k=>xs[k]?).map λ e=>(intKind prog w).hash e.1):=by
  rw[<- js xs (λ e=>(intKind prog w).hash e.1) 0 order.toList hlt,<- hhs];exact h7
 refine⟨_,t',_,?_,hes',hperm,hT,h2,h4,h5,hsz'⟩;have yg:coversAll order es.size=true:=by
  unfold coversAll;rw[List.isPerm_iff,hlen];exact h6
 have fit:t'.fits (order.filterMap (es[·]?)).size=true:=fits_of (n:=xs.length) (by rw[hsz',hlen]) hT (by rw[zA7,hperm.length_eq]) (by rw[h2];omega);unfold relayAll;rw[hr];dsimp only;rw[yg,fit];rfl
def add_int {a:Addr}{xs:List (Int×Tok)}{n:Int}{tk:Tok}{led:Bool}{Q:Bool->Shared->Prop}(S:vz prog w s.heap a xs led) (hn:xs.length<70)
  (h:∀ h' xs' r,Heap.SameBut a s.heap h'->vz prog w h' a xs' led->(n∈xs.map (·.1)/\xs'=xs\/n∉xs.map (·.1)/\xs'.Perm (xs++[(n,tk)]))->Q r { s with heap:=h' }):
  wpAny (model prog w) A (setAddHashed a (.int n tk) ((intKind prog w).hash n)) Q E s:=by
 have S0:=S;obtain⟨⟨es,ep,t,ho,he,T,hled,hpl,hfew⟩,hnd⟩:=S;have hlen:es.size=xs.length:=by have:=congrArg List.length he;simpa using this
 have hm7:7<=t.mask/\t.mask<=127:=by rcases T.mask with e | e | e <;> omega
 have fit:t.fits es.size=true:=fits_of (n:=xs.length) hlen T (by simp) (by omega);have hel:=Ry (prog:=prog) (w:=w) he;unfold setAddHashed setAddHashedIn;refine wpAny_holding (zWb (wpAny_setState_of ho rfl fit ?_));dsimp only;have bs:byScan (.int n tk) es=true:=by
  have h1:decide (es.size<scanBound)=true:=decide_eq_true (by unfold scanBound;omega);have h2:es.all (·.2.scannable)=true:=by
   rw[Array.all_eq_true_iff_forall_mem];intro e hm;exact (hel e (by simpa using hm)).2
  unfold byScan;rw[h1,h2];rfl
 rw[if_pos bs];refine zWb ?_;unfold setAddByScan;refine zWb (wpAny_rule (zWb (wpAny_setScan_of (k:=n) (oH.mpr rfl) ho rfl fit hel ?_)));have hfind:(es.toList.findIdx? (λ e=>(intKind prog w).is n e.2)).isSome=true↔n∈xs.map (·.1):=by
  rw[he,List.findIdx?_isSome,zD0];constructor
  .rintro⟨e,hm,q⟩;obtain⟨x,hx,rfl⟩:=zB0.mp hm;exact zB0.mpr ⟨x,hx,(oH.mp q).symm⟩
  .intro hm;obtain⟨x,hx,rfl⟩:=zB0.mp hm;exact⟨_,zB0.mpr ⟨x,hx,rfl⟩,oH.mpr rfl⟩
 cases hc:es.toList.findIdx? (λ e=>(intKind prog w).is n e.2) with
 | some j=>
  dsimp only;have hm:=hfind.mp (by rw[hc];rfl);refine zD1 ?_;dsimp only;exact zD1 (h s.heap xs false ⟨rfl,λ _ _=>rfl⟩ S0 (.inl ⟨hm,rfl⟩))
 | none=>
  dsimp only;have hm:n∉xs.map (·.1):=λ q=>by have:=hfind.mpr q;rw[hc] at this;cases this
  obtain⟨j,fs,F⟩:=Rb T (by rw[zA7];omega) ((intKind prog w).hash n);obtain⟨p1,p2,p3⟩:=T.put F;rw[zA7] at p1;have hpt:(t.put j).1.plain=true:=by rw[p2];exact hpl
  have hmt:(t.put j).1.mask=t.mask:=by rw[p2]
  have hlt:(t.put j).1.led=led:=by rw[p2];exact hled
  generalize hT:(t.put j)=P at *;obtain⟨t1,p⟩:=P;dsimp only at *
  let xs1:=xs.take p++(n,tk)::xs.drop p
  have hperm:xs1.Perm (xs++[(n,tk)]):=by
   have e:xs.take p++xs.drop p=xs:=List.take_append_drop p xs;have:xs1.Perm ((n,tk)::(xs.take p++xs.drop p)):=List.perm_middle;rw[e] at this;exact this.trans (List.perm_append_singleton _ _).symm
  have hl1:xs1.length=xs.length+1:=by rw[hperm.length_eq];simp
  have hes1:(insertAt es p ((intKind prog w).hash n,Value.int n tk)).toList=xs1.map λ e=>((intKind prog w).hash e.1,Value.int e.1 e.2):=by
   rw[toList_insertAt,he];simp[xs1,List.map_take,List.map_drop]
  have hsz1:(insertAt es p ((intKind prog w).hash n,Value.int n tk)).size=xs.length+1:=by rw[<- zD2,hes1,zA7,hl1]
  have T1:Tab t1 (xs1.map λ e=>(intKind prog w).hash e.1):=by
   have:xs1.map (λ e=>(intKind prog w).hash e.1)=(xs.map λ e=>(intKind prog w).hash e.1).take p++(intKind prog w).hash n::(xs.map λ e=>(intKind prog w).hash e.1).drop p:=by simp[xs1,List.map_take,List.map_drop]
   rw[this];exact p3
  have fit1:t1.fits (insertAt es p ((intKind prog w).hash n,Value.int n tk)).size=true:=fits_of (n:=xs.length+1) hsz1 T1 (by rw[zA7,hl1]) (by rw[hmt];omega);have hlay:layNew t es ((intKind prog w).hash n) (.int n tk)=(insertAt es p ((intKind prog w).hash n,Value.int n tk),t1,false,false):=by
   unfold layNew;rw[fs];dsimp only;rw[hT];dsimp only;unfold SetTable.orStandIn;rw[fit1];rfl
  have hsl:(insertAt es p ((intKind prog w).hash n,Value.int n tk)).size<=sizeLine:=by
   rw[hsz1];have:sizeLine=16777216:=rfl;omega
  have hnd1:(xs1.map (·.1)).Nodup:=by
   refine (hperm.map _).nodup_iff.mpr ?_;rw[zE7,List.nodup_append];refine⟨hnd,by simp,λ x hx y hy=>?_⟩;simp at hy;subst hy;exact λ e=>hm (e▸hx)
  have ho1:=mQ (es':=insertAt es p ((intKind prog w).hash n,Value.int n tk)) (t':=t1) ho;have sb:=Heap.SameBut.update s.heap a (Obj.putSet (insertAt es p ((intKind prog w).hash n,Value.int n tk)) t1);have hfill:t1.fill=xs.length+1:=by
   have l:=T1.len;rw[zA7,hl1] at l;unfold SetTable.fill;rw[T1.sS,l];simp
  rw[hlay];dsimp only;refine zWb (m:=pure ()) (zD1 ?_);rw[hpt];simp only[if_true];refine zWb (m:=pure true) (zD1 ?_);simp only[if_true];refine zWb (wpAny_storeSet_of ho rfl ?_ hsl);by_cases hf:t1.tooFull=true
  .rw[hf];simp only[zB2,Bool.and_self,if_true];have hfull:t.mask*3<=(xs.length+1)*5:=by
    have:=hf;unfold SetTable.tooFull at this;rw[hfill,hmt] at this;simpa using this
   obtain⟨M',g1,g2,g3⟩:=eV xs.length t.mask T.mask hfew hfull hn;obtain⟨es2,t2,xs2,r1,r2,r3,r4,r5,r6,r7,r8⟩:=X5 (prog:=prog) (w:=w) (t:=t1) hes1 g1 (wanted:=grown (insertAt es p ((intKind prog w).hash n,Value.int n tk)).size) (by rw[hsz1];exact g2) (by rw[hl1];exact g3);rw[r1];dsimp only;refine zWb (m:=pure ()) (zD1 (zWb (wpAny_storeSet_of ho1 rfl ?_ (by rw[r8];exact hsl))));refine zD1 ?_;dsimp only;refine zD1 (h _ xs2 true (sb.trans (Heap.SameBut.update _ a _)) ⟨⟨es2,ep+1+1,t2,mQ ho1,r2,r4,by rw[r6];exact hlt,by rw[r7];exact hpt,by rw[r3.length_eq,hl1,r5];exact g3⟩,(r3.map _).nodup_iff.mpr hnd1⟩ (.inr ⟨hm,r3.trans hperm⟩))
  .have hf':t1.tooFull=false:=by simpa using hf
   rw[hf'];simp only[zB2,Bool.and_false,zC4,if_false];have hfull:(xs.length+1)*5<t.mask*3:=by
    have:=hf';unfold SetTable.tooFull at this;rw[hfill,hmt] at this;simpa using this
   refine zD1 ?_;dsimp only;exact zD1 (h _ xs1 true sb ⟨⟨_,ep+1,t1,ho1,hes1,T1,hlt,hpt,by rw[hl1,hmt];exact hfull⟩,hnd1⟩ (.inr ⟨hm,hperm⟩))
end
structure tN (its:Array Value) (ns:List Int) (i:Nat) (xs:List (Int×Tok)):Prop where
 own:∀ e∈xs,∃ j,j<i/\ns[j]?=some e.1
 all:∀ (j:Nat) r,j<i->ns[j]?=some r->r∈xs.map (·.1)
theorem jN:∀ (l m:List Int),l.Nodup->(∀ x∈l,x∈m)->l.length<=m.length
 | [],m,_,_=>zD4 _
 | x::l,m,hn,hs=>by
  have h1:=List.nodup_cons.mp hn;have hx:=hs x zMc;have:=jN l (m.erase x) h1.2 λ z hz=>(List.mem_erase_of_ne (λ e:z=x=>h1.1 (by rw[<- e];exact hz))).mpr (hs z (zMo _ hz));rw[List.length_erase_of_mem hx] at this;have:=List.length_pos_of_mem hx;simp only[zC0];omega
def tN.len {its:Array Value}{ns:List Int}{i:Nat}{xs:List (Int×Tok)}(U:tN its ns i xs) (nd:(xs.map (·.1)).Nodup):xs.length<=i:=by
 have:=jN (xs.map (·.1)) ((List.range i).map λ j=>ns.getD j 0) nd λ x hx=>by
  obtain⟨e,he,rfl⟩:=zB0.mp hx;obtain⟨j,h1,h3⟩:=U.own e he;exact zB0.mpr ⟨j,zC1.mpr h1,by rw[zB1,h3];rfl⟩
 simpa using this
def tN.step {its:Array Value}{ns:List Int}{i:Nat}{xs xs':List (Int×Tok)}{n:Int}{t:Tok}(U:tN its ns i xs) (hr:ns[i]?=some n)
  (h:n∈xs.map (·.1)/\xs'=xs\/n∉xs.map (·.1)/\xs'.Perm (xs++[(n,t)])):tN its ns (i+1) xs':=by
 have eqi:∀ j:Nat,j<i+1->¬ j<i->j=i:=λ j a b=>by omega
 rcases h with ⟨hm,rfl⟩ | ⟨_,hp⟩
 .refine⟨λ e he=>?_,λ j r hj hrj=>?_⟩
  .obtain⟨j,h1,h2⟩:=U.own e he;exact⟨j,Nat.lt_succ_of_lt h1,h2⟩
  .by_cases q:j<i
   .exact U.all j r q hrj
   .rw[eqi j hj q,hr] at hrj;cases hrj;exact hm
 .refine⟨λ e he=>?_,λ j r hj hrj=>?_⟩
  .rcases zB9.mp (hp.mem_iff.mp he) with q | q
   .obtain⟨j,h1,h2⟩:=U.own e q;exact⟨j,Nat.lt_succ_of_lt h1,h2⟩
   .cases zB6.mp q;exact⟨i,zE2 i,hr⟩
  .rw[(hp.map (·.1)).mem_iff,zE7];by_cases q:j<i
   .exact List.mem_append_left _ (U.all j r q hrj)
   .rw[eqi j hj q,hr] at hrj;cases hrj;exact zB4 _ zMc
def Nums (its:Array Value) (ns:List Int):Prop:=∀ (i:Nat) v,its[i]?=some v->∃ n t,v=.int n t/\ns[i]?=some n
section
variable {prog:Program}{w:World}{A:Around}{R:Result->Shared->Prop}{I:Addr}{fp wr:List Addr}{G:Array GenState->Array GenState->Prop}{n:Nat}{P:Nat->Value->Prop}{St:Nat->Shared->Prop}
def vz.keep {h h':Heap}{a:Addr}{xs:List (Int×Tok)}{led:Bool}(S:vz prog w h a xs led) (k:∀ o,h.get? a=some o->h'.get? a=some o):vz prog w h' a xs led:=
 let ⟨⟨es,ep,t,ho,r⟩,nd⟩:=S;⟨⟨es,ep,t,k _ ho,r⟩,nd⟩
def Tn (W:WalksS prog w A.in1 I fp wr G n (λ i v=>P i v) St) (Sa:Addr) (hSf:Sa∉fp) {its:Array Value}{ns:List Int}(hP:∀ i v,P i v->its[i]?=some v) (hn:n<70) (led:Bool) (hN:Nums its ns):
  ∀ (k i:Nat) (s:Shared) (xs:List (Int×Tok)),n-i=k->i<=n->St i s->vz prog w s.heap Sa xs led->tN its ns i xs->
   (∀ s' xs',Moved (Sa::wr) G s s'->vz prog w s'.heap Sa xs' led->tN its ns n xs'->R (.ok (.ret .none)) s')->
   codeAny (model prog w) A (.builtin "set.update.loop" ⟨[.ref Sa,.ref I],[]⟩) R s:=by
 have hSw:Sa∉wr:=λ z=>hSf (W.sub _ z);have more:∀ b∈wr,b∈Sa::wr:=λ b hb=>zMo _ hb;intro k
 induction k with
 | zero=>
  intro i s xs hk hi hst hS hU hR;have e:i=n:=by omega
  subst e;refine codeAny_builtin F.entry_set_update_loop ?_;rw[Around.under_plainId F.plain_set_update_loop _];show wpAny _ A.in1 (pyNext (.ref I) >>= _) _ _ s;exact zWb (W.done s _ _ hst λ s' hm=>zD1 (hR s' xs (hm.mono more) (hS.keep λ o e=>hm.heap _ o hSw e) hU))
 | succ k ih=>
  intro i s xs hk hi hst hS hU hR;have hlt:i<n:=by omega
  refine codeAny_builtin F.entry_set_update_loop ?_;rw[Around.under_plainId F.plain_set_update_loop _];show wpAny _ A.in1 (pyNext (.ref I) >>= _) _ _ s;refine zWb (W.item i s _ _ hlt hst λ v s1 hPv hst1 hm=>?_);obtain⟨m,t,rfl,hr⟩:=hN i v (hP i v hPv);have S1:vz prog w s1.heap Sa xs led:=hS.keep λ o e=>hm.heap _ o hSw e;have hl:xs.length<70:=by have:=hU.len hS.nd;omega
  show wpAny _ A.in1 (holding [Value.int m t] (setAdd Sa (.int m t)) >>= _) _ _ s1;refine zWb (wpAny_holding ?_);unfold setAdd;refine wpAny_holding (zWb ((intKind prog w).pyHash (A:=A.in1) (k:=m) (oH.mpr rfl) ?_));refine add_int (s:={ s1 with toks:=s1.toks+1 }) (A:=A.in1) S1 hl λ h' xs' rr sb S' hx=>?_;have fr:=W.frame (i+1) s1 h' (s1.toks+1) hst1 (Nat.le_add_right _ _) λ c hc o e=>(sb.2 c (λ z:c=Sa=>hSf (z▸hc))).trans e;refine zD1 ⟨plainId_quiet F.plain_set_update_loop _,ih (i+1) _ xs' (by omega) hlt fr S' (hU.step hr hx) λ s2 xs2 hm2 S2 U2=>?_⟩;refine hR s2 xs2 (Moved.trans W.gtrans ((hm.mono more).then_heap (Nat.le_add_right _ _) λ c o hc e=>?_) hm2) S2 U2;exact (sb.2 c (λ z=>hc (z▸zMc))).trans e
end
section
variable {prog:Program}{w:World}{A:Around}{E:Value->Shared->Prop}{s:Shared}
def Xd {h:Heap}{a:Addr}(ho:h.get? a=some (yT w)):vz prog w h a [] (vq w):=
 ⟨⟨#[],0,_,ho,rfl,⟨.inl rfl,rfl,rfl,.nil,λ j hj=>(by cases hj),λ i g j hg=>(by cases hg)⟩,rfl,rfl,by show 0*5<7*3;omega⟩,.nil⟩
set_option maxRecDepth 100000 in
set_option maxHeartbeats 6400000 in
def Qd {l:Addr}{its:Array Value}{ns:List Int}{Q:Value->Shared->Prop}(hh:A.handled=none) (hl:s.heap.IsList l its) (hT:Nums its ns) (hn:its.size<70)
  (h:∀ (h':Heap) (tk:Nat) xs,vz prog w h' s.heap.objs.size xs (vq w)->tN its ns its.size xs->(∀ b o,b<s.heap.objs.size->s.heap.get? b=some o->h'.get? b=some o)->Q (.ref s.heap.objs.size) { s with heap:=h',toks:=tk }):
  wpAny (model prog w) A (call (.type "set") [.ref l]) Q E s:=by
 obtain⟨c,tl,hmro⟩:=F.called_set.mro;have made:=F.called_set.made;have subm:=F.called_set.sub;refine wpAny_call (codeAny_of_tree ?_);show wpAny _ _ (callAny (.type "set") _) _ _ _;refine zD1 ⟨Code.quiet_builtin _ (by decide +kernel),codeAny_builtin F.entry_type_call ?_⟩;rw[Around.under_plain (weight_type_call_type "set" [.ref l] []) rfl];have nt:=F.called_set.notType;have cc:=F.called_set.canCreate;have tc:=F.typeCall_set_1 (.ref l)
 repeat (any_goals (first | assumption | wp_step))
 refine codeAny_mono (aO (.ref l) (E:=E) (Q:=λ obj s₁=>obj=.ref s.heap.objs.size/\s₁={ s with heap:=s.heap.push (yT w) }) ⟨rfl,rfl⟩) λ r s₁ hr=>?_;cases r with
 | error e=>exact hr
 | ok fl=>
  cases fl with
  | ret obj=>
   obtain⟨rfl,rfl⟩:=hr;have hS:(s.heap.push (yT w)).get? s.heap.objs.size=some (yT w):=zA9 _ rfl;have hTy:Shared.TypeIs { s with heap:=s.heap.push (yT w) } (.ref s.heap.objs.size) "set":=⟨_,hS,rfl⟩
   have li:=F.called_set.init.lookup;have bi:=F.called_set.init.bind (.ref s.heap.objs.size)
   repeat (any_goals (first | assumption | wp_step))
   let s1:Shared:={ s with heap:=s.heap.push (yT w) }
   refine codeAny_mono (codeAny_call_builtin (R:=wants (λ r s₂=>r=.none/\∃ h' tk xs,s₂={ s with heap:=h',toks:=tk }/\vz prog w h' s.heap.objs.size xs (vq w)/\tN its ns its.size xs/\
     ∀ b o,b<s.heap.objs.size->s.heap.get? b=some o->h'.get? b=some o) E) F.called_set.init.plain F.entry_set_init (check_set_init_1 hTy ?_)) λ r₂ s₂ hr₂=>?_
   .obtain⟨⟨ocls,odict,odata,oslots⟩,hol,hcl,nl,hdl⟩:=id hl;simp only at hcl hdl;subst hcl hdl;have hol1:(s.heap.push (yT w)).get? l=some { cls:=.type "list",dict:=odict,data:=.seq its nl,slots:=oslots }:=zHp _ hol;have sls:=F.sub_list_set;have slf:=F.sub_list_frozenset;have nd:(Value.type "list" == Value.type "dict")=false:=by decide
    have hl1:(s.heap.push (yT w)).IsList l its:=⟨_,hol1,rfl,nl,rfl⟩
    unfold Builtin.«set.__init__» noKeywords Builtin.Frozenset.updateFrom;generalize hPI:pyIter=PI;unfold yT at *
    wp_walk
    subst hPI;refine wpAny_pyIter_list hl1 (zWb (wpAny_runValue ?_));have hlS:l<s.heap.objs.size:=zA8 hol;have hsz:(s.heap.push (yT w)).objs.size=s.heap.objs.size+1:=Heap.size_push _ _;have hneI:l≠(s.heap.push (yT w)).objs.size:=by rw[hsz];exact zB3 (Nat.lt_succ_of_lt hlS)
    have szne:s.heap.objs.size≠(s.heap.push (yT w)).objs.size:=by rw[hsz];exact zB3 (zE2 _)
    have low:∀ b:Addr,b<s.heap.objs.size->b≠(s.heap.push (yT w)).objs.size:=λ b hb=>by rw[hsz];exact zB3 (Nat.lt_succ_of_lt hb)
    refine Tn (A:=A.in1.in1) (P:=λ i v=>its[i]?=some v) ((Walks.list (A:=A.in1.in1.in1) (by simp[hh]) _ l hneI its).toS) s.heap.objs.size ?_ (its:=its) (ns:=ns) (λ _ _ q=>q) hn (vq w) hT its.size 0 _ [] (by omega) (zD4 _)
     ⟨⟨_,zA9 _ rfl,rfl,rfl⟩,hl1.push _⟩ (Xd (w:=w) (zHp _ hS)) ⟨λ e he=>(by cases he),λ j r hj=>(by omega)⟩ ?_
    .intro hm;rcases zA5.mp hm with q | q
     .exact szne q
     .exact Nat.ne_of_gt hlS (zB6.mp q)
    .intro s' xs' hm S' U';obtain⟨h',g',d',tk',os'⟩:=s';obtain rfl:g'=s.gens:=hm.gens;obtain rfl:d'=s.drawn:=hm.drawn;obtain rfl:os'=s.os:=hm.os;refine zD1 (zD1 ⟨rfl,h',tk',xs',rfl,S',U',λ b o hb e=>?_⟩);refine hm.heap b o (λ q=>?_) (zHp _ (zHp _ e));rcases zA5.mp q with q | q
     .exact zB3 hb q
     .exact low b hb (zB6.mp q)
   .cases r₂ with
    | error e=>exact hr₂
    | ok fl₂=>
     cases fl₂ with
     | ret r=>
      obtain⟨rfl,h',tk,xs,rfl,g1,g2,g3⟩:=hr₂
      repeat (any_goals (first | assumption | wp_step))
      exact h h' tk xs g1 g2 g3
     | _=>exact hr₂.elim
  | _=>exact hr.elim
end
end ST
namespace L4
open PySem PyProof.Rows
def RM {prog:Program}{w:World}{A:Around}{E:Value->Shared->Prop}{s:Shared}{vs:List Value}{ns:List Int}(hI:IntsAre vs ns) (h2:2<=vs.length) (h64:vs.length<64):
  Core prog w A E vs (λ out=>∃ ns',IntsAre out.toList ns'/\ns'.Perm ns/\ns'.Pairwise (·<=·)) s:=by
 obtain⟨v1,v2,rest,rfl⟩:∃ v1 v2 rest,vs=v1::v2::rest:=by
  match vs,h2 with
  | v1::v2::rest,_=>exact⟨v1,v2,rest,rfl⟩
 unfold Core;rw[keyKind_ints hI];refine zD1 ⟨rfl,?_⟩;refine wpAny_mono (wpS_sortRuns (a₀:=pairsOf (v1::v2::rest)) (st:=SortSt.mk' oneType' ((v1::v2::rest).toArray.zip (v1::v2::rest).toArray) #[] 7 none)
   (Q:=λ _ st'=>(arrOf st').Perm (pairsOf (v1::v2::rest))/\failedOf st'=none/\SortedTo (arrOf st') (pairsOf (v1::v2::rest)).size)
   hI.intKeys ⟨Array.Perm.refl _,rfl,rfl,rfl⟩ (by rw[pairsOf_size];simp) (by rw[pairsOf_size];exact h64) λ st' a1 a2 a3=>⟨a1,a2,a3⟩) ?_ λ _ _ e=>e
 rintro⟨⟨⟩,st'⟩ s' ⟨rfl,hp,hf,hs⟩;exact⟨rfl,hf,sorted_out hI hp hs,by rw[hp.size_eq,pairsOf_size]⟩
end L4
namespace L5
open PySem PySem.Spec L2 L3
open PyProof.Rows hiding St
structure Bq (mg:Str->Option Value):Prop where
 set:mg "set"=none
 zip:mg "zip"=none
 enumerate:mg "enumerate"=none
section
variable {X:Cx}{K:zFr}{a b c e:Expr}{es:List Expr}{ta tb tc te:zt}{tA:yk}{pos p:Pos}{fa fb fc:Ev->Option T}
def pb (f g:yR) (ta tb tc:zt):zt:=fun Y S Q=>ta Y S λ x S1=>tb Y S1 λ y S2=>f x y S2 λ z S3=>match z with
 | .bl k=>if k=true then tc Y S3 λ w S4=>g y w S4 Q else Q (.bl false) S3
 | _=>False
def pb.mo {f g:yR}(hf:xr f) (hg:xr g) (ha:ye ta) (hb:ye tb) (hc:ye tc):ye (pb f g ta tb tc):=fun Y S Q Q' hq h=>
 ha Y S _ _ (λ x S1 h=>hb Y S1 _ _ (λ y S2 h=>hf x y S2 _ _ (λ z S3 h=>by
  cases z <;> first
   | exact wH (hc Y S3 _ _ λ w S4 h=>hg y w S4 _ _ hq h) (hq _ _) h
   | exact h) h) h) h
def Yl {f g:yR}{r r':R2}(hr:xt K f r) (hr':xt K g r') (hf:xr f) (hg:xr g) (ha:ye ta) (hb:ye tb) (hc:ye tc) {O:St}{H:Hp}{Q:VK}(h:zL K (pb f g ta tb tc) O H Q):eG r r' (zL K ta) (zL K tb) (zL K tc) O H Q:=by
 obtain⟨Y,S,r1,r2,h⟩:=h;refine zL.go ha r1 r2 h λ x S1 v H1 h1 q1 e1 p1=>?_;refine zL.go hb (r1.ext e1) p1 h1 λ y S2 w H2 h2 q2 e2 p2=>?_;refine hr v w x y H2 S2 _ (zg.ext e2 x q1) q2 p2 (hf x y S2 _ _ (λ d S3 z v3 H3 q3 e3 p3=>?_) h2);cases d with
 | bl k=>
  simp only[zg] at q3;refine⟨k,q3,wH (λ z=>?_) (λ z=>?_) z⟩
  .refine zL.go hc (r1.ext ((e1.trans e2).trans e3)) p3 z λ w4 S4 v4 H4 h4 q4 e4 p4=>?_;exact hr' w v4 y w4 H4 S4 Q (zg.ext (e3.trans e4) y q2) q4 p4 (hg y w4 S4 _ _ (λ d S' z=>z.ext (((e1.trans e2).trans e3).trans e4)) h4)
  .exact z _ H3 (by simp only[zg]) ((e1.trans e2).trans e3) p3
 | zi=>exact z.elim
 | int _=>exact z.elim
 | str _=>exact z.elim
 | tup _=>exact z.elim
 | yF _=>exact z.elim
 | ref _=>exact z.elim
@[simp] noncomputable def aV (f g:T->T->Option T) (fa fb fc:Ev->Option T):Ev->Option T:=fun J=>(fa J).bind λ x=>(fb J).bind λ y=>(f x y).bind λ b=>match b with
 | .bl k=>if k=true then (fc J).bind λ z=>g y z else some (.bl false)
 | _=>none
def U9 {f g:T->T->Option T}{F G:yR}(hf:Good2 zH f F) (hg:Good2 zH g G) (ha:yy fa ta) (hb:yy fb tb) (hc:yy fc tc):xq (aV f g fa fb fc) (pb F G ta tb tc):=λ S Z Y J y Q hE e hq=>by
 obtain⟨x1,e1,e⟩:=zOb e;obtain⟨x2,e2,e⟩:=zOb e;obtain⟨b,e3,e⟩:=zOb e;refine ha S Z Y J x1 _ hE e1 λ d1 S1 s1 r1=>?_;refine hb S1 Z Y J x2 _ (hE.grow s1) e2 λ d2 S2 s2 r2=>?_;refine hf S2 Z x1 x2 b d1 d2 _ (hE.grow (s1.trans s2)).zd (Vw.grow r1 s2) r2 e3 λ c S3 s3 r3=>?_;split at e
 .have:=r3.1;simp only[Sn] at this;subst this;split at e
  .rename_i hk;obtain⟨x4,e4,e5⟩:=zOb e;dsimp only;rw[if_pos hk];refine hc S3 Z Y J x4 _ (hE.grow ((s1.trans s2).trans s3)) e4 λ d4 S4 s4 r4=>?_;exact hg S4 Z x2 x4 y d2 d4 Q (hE.grow (((s1.trans s2).trans s3).trans s4)).zd (Vw.grow r2 (s3.trans s4)) r4 e5 λ c' S5 s5 r5=>hq c' S5 ((((s1.trans s2).trans s3).trans s4).trans s5) (Cl.cl (((s1.trans s2).trans s3).trans s4) r5)
  .rename_i hk;dsimp only;rw[if_neg hk];cases e;exact hq _ S3 ((s1.trans s2).trans s3) (Cl.of (λ _=>nofun) vj)
 .cases e
def Vi {op op':CmpOp}{f g:yR}{r r':R2}(ho:yd X (compareOp op) r) (ho':yd X (compareOp op') r') (hr:xt X.K f r) (hr':xt X.K g r') (hf:xr f) (hg:xr g) (ha:PD X a ta) (hb:PD X b tb) (hc:PD X c tc)
  (hm:lastMarks [op,op'] [b,c]=false:=by with_unfolding_all rfl):PD X (.Compare a [op,op'] [b,c] pos) (pb f g ta tb tc):=
 ⟨pb.mo hf hg ha.mo hb.mo hc.mo,PE.imp (WI ho ho' ha.pe hb.pe hc.pe hm) λ _ _ _ h=>Yl hr hr' hf hg ha.mo hb.mo hc.mo h⟩
end
end L5
namespace L2
open PySem PySem.Spec PyProof.Rows
section
variable {X:Cx}
def V2:yd X (compareOp .Is) (λ x y H Q=>∃ c d,x=.bl c/\y=.bl d/\Q (.bl (c == d)) H):=by
 intro pins s O H x y v u Q I rx ry h;obtain⟨c,d,rfl,rfl,q⟩:=h;cases rx;cases ry;exact is_bool ⟨.bl _,H,I,rfl,q⟩
end
end L2
namespace L5
open PySem PySem.Spec L2 L3
open PyProof.Rows hiding St
section
variable {X:Cx}{K:zFr}{a b c e o i v:Expr}{es:List Expr}{ta tb tc te td ty tv:zt}{tA:yk}{pos p pos':Pos}{fa fb fc:Ev->Option T}
def uJ:yR:=λ x y S Q=>match x,y with
 | .int i,.int j=>Q (.bl (decide (i<j))) S
 | .tup ds,.tup es=>∃ ns ms:List Int,ds=ns.map D.int/\es=ms.map D.int/\Q (.bl (HT.lexLt ns ms)) S
 | _,_=>False
noncomputable def ud:T->T->Option T
 | .int i,.int j=>some (.bl (decide (i<j)))
 | .tup ts,.tup us=>(vJ ts).bind λ ns=>(vJ us).map λ ms=>.bl (HT.lexLt ns ms)
 | _,_=>none
def uJ.mo:xr uJ:=λ x y S Q Q' hq h=>by
 unfold uJ at h ⊢;split at h
 .exact hq _ _ h
 .obtain⟨ns,ms,h1,h2,h3⟩:=h;exact⟨ns,ms,h1,h2,hq _ _ h3⟩
 .exact h.elim
def uJ.fits:xt K uJ (λ x y H Q=>vm (λ i j=>.bl (decide (i<j))) x y H Q\/jn K x y H Q):=λ x y d e H S Q h1 h2 h3 h=>by
 unfold uJ at h;split at h
 .simp only[zg] at h1 h2;exact .inl ⟨_,_,h1,h2,h _ H (by simp only[zg]) (.refl H) h3⟩
 .obtain⟨ns,ms,rfl,rfl,h⟩:=h;simp only[zg] at h1 h2;obtain⟨a,xs,rfl,g1,g2⟩:=h1;obtain⟨b,ys,rfl,g3,g4⟩:=h2;rw[g2.ints] at g1;rw[g4.ints] at g3;exact .inr ⟨a,b,ns,ms,rfl,rfl,g1,g3,h _ H (by simp only[zg]) (.refl H) h3⟩
 .exact h.elim
def i6:Good2 zH ud uJ:=λ S Z x y z d e Q hz hx hy ef hq=>by
 unfold ud at ef;split at ef
 .cases ef;cases hx.int;cases hy.int;exact hq _ S (.refl S) (Cl.of (λ _=>nofun) vj)
 .obtain⟨ns,e1,e2⟩:=zOb ef;obtain⟨ms,e3,rfl⟩:=zOm e2;cases oI e1;cases oI e3;obtain⟨ds,rfl,h2⟩:=hx.tup;obtain⟨es,rfl,h4⟩:=hy.tup;exact⟨ns,ms,tw.mp h2,tw.mp h4,hq _ S (.refl S) (Cl.of (λ _=>nofun) vj)⟩
 .cases ef
def Vy {k:Nat}(hr:yx k X.A):yd X (compareOp .Lt) (λ x y H Q=>vm (λ i j=>.bl (decide (i<j))) x y H Q\/jn X.K x y H Q):=V0.or (Vz (by have:=hr.units;omega))
def mT {k:Nat}(hr:yx k X.A) (ha:PD X a ta) (hb:PD X b tb):xD X (.Compare a [.Lt] [b] pos) (uk (yp uJ ta tb)):=qD (Vy hr) uJ.fits uJ.mo ha hb (rM _)
def ui (neg:Bool):yR:=λ x y S Q=>match x,y with
 | .bl c,.bl d=>Q (.bl (cond neg (c != d) (c == d))) S
 | x,.zi=>Q (.bl (cond neg (!qS x) (qS x))) S
 | _,_=>False
noncomputable def wY (neg:Bool):T->T->Option T
 | .bl c,.bl d=>some (.bl (cond neg (c != d) (c == d)))
 | x,.zi=>some (.bl (cond neg (!isNone x) (isNone x)))
 | _,_=>none
def ui.mo {neg:Bool}:xr (ui neg):=λ x y S Q Q' hq h=>by
 unfold ui at h ⊢;split at h
 .exact hq _ _ h
 .exact hq _ _ h
 .exact h.elim
def ui.fits:xt K (ui false) (λ x y H Q=>(∃ c d,x=.bl c/\y=.bl d/\Q (.bl (c == d)) H)\/(y=.zi/\Q (.bl (decide (x=.zi))) H)):=λ x y d e H S Q h1 h2 h3 h=>by
 unfold ui at h;split at h
 .simp only[zg] at h1 h2;exact .inl ⟨_,_,h1,h2,h _ H (by simp only[zg,cond]) (.refl H) h3⟩
 .simp only[zg] at h2;refine .inr ⟨h2,?_⟩;rw[TY h1];exact h _ H (by simp only[zg,cond]) (.refl H) h3
 .exact h.elim
def TZ {S:SS}{Z:Addr->Prop}{x:T}{d:D}(hx:Vw S Z x d):qS d=isNone x:=by
 cases x with
 | zi=>cases hx.zi;rfl
 | bl _=>cases hx.bl;rfl
 | int _=>cases hx.int;rfl
 | str _=>cases hx.str;rfl
 | tup _=>obtain⟨ds,rfl,_⟩:=hx.tup;rfl
 | lst _=>obtain⟨ds,rfl | ⟨a,rfl,h1⟩,h2⟩:=hx.lst <;> rfl
 | zO=>obtain⟨a,kvs,rfl,h1⟩:=hx.zO;rfl
def SN {neg:Bool}:Good2 zH (wY neg) (ui neg):=λ S Z x y z d e Q hz hx hy ef hq=>by
 unfold wY at ef;split at ef
 .cases ef;cases hx.bl;cases hy.bl;exact hq _ S (.refl S) (Cl.of (λ _=>nofun) vj)
 .cases ef;cases hy.zi;have key:Q (.bl (cond neg (!qS d) (qS d))) S:=by
   rw[TZ hx];exact hq _ S (.refl S) (Cl.of (λ _=>nofun) vj)
  unfold ui;cases d <;> exact key
 .cases ef
def mU (ha:PD X a ta) (hb:PD X b tb):xD X (.Compare a [.Is] [b] pos) (uk (yp (ui false) ta tb)):=qD (V2.or V1) ui.fits ui.mo ha hb (rM _)
def aH (td ty tv:zt):yI:=λ E Y S=>tv Y S λ v S1=>td Y S1 λ x S2=>ty Y S2 λ y S3=>∃ p ds k j,x=.ref p/\y=.int k/\S3 p=some (.lst ds)/\wG ds.length k=some j/\E.nx Y (ups S3 p (.lst (ds.set j v)))
theorem zm.set {H:Hp}{d:D}{x:V}(h:zg K H d x):∀ {ds:List D}{xs:List V}(j:Nat),zm K H ds xs->zm K H (ds.set j d) (xs.set j x)
 | [],xs,j,r=>by simp only[zm] at r;subst r;exact .nil
 | c::ds,xs,0,r=>by
  simp only[zm] at r;obtain⟨y,ys,rfl,_,r2⟩:=r;exact .cons h r2
 | c::ds,xs,j+1,r=>by
  simp only[zm] at r;obtain⟨y,ys,rfl,r1,r2⟩:=r;exact .cons r1 (zm.set h j r2)
def WS (ho:PD X o td) (hi:PD X i ty) (hv:PD X v tv) (hs:swapsWithSole [.Subscript o i pos'] v pos.line X.env=pure false:=by rfl) (hw:swappedStores [.Subscript o i pos'] v X.env=pure none:=by rfl)
  (h1:(assignEach [.Subscript o i pos'] X.env).map (·.2)=[assign (.Subscript o i pos') X.env]:=by rfl)
  (ha:∀ v,assign (.Subscript o i pos') X.env v=(do
   let ov <- holding [v] (eval o X.env)
   let iv <- holding [v,ov] (eval i X.env)
   standAt pos'
   holding [v,ov,iv] (setItem ov iv v)
   release [v,ov,iv] []):=by intro _;rfl):ve X (.Assign [.Subscript o i pos'] v pos) (aH td ty tv):=by
 refine⟨λ E E' Y S hE z=>hv.mo Y S _ _ (λ w S1 z=>ho.mo Y S1 _ _ (λ x S2 z=>hi.mo Y S2 _ _ (λ y S3 ⟨p,ds,k,j,a,b,c,d,h⟩=>⟨p,ds,k,j,a,b,c,d,hE.nx _ _ h⟩) z) z) z,PS.imp (dF hv.pe (Ws ho.pe hi.pe set_list ha) hs hw h1) λ D O H hu=>?_⟩;obtain⟨Y,S,r1,r2,z⟩:=hu;refine zL.go hv.mo r1 r2 z λ w S1 w1 H1 h1 q1 e1 p1=>?_;refine zL.go ho.mo (r1.ext e1) p1 h1 λ x S2 w2 H2 h2 q2 e2 p2=>?_;refine zL.go hi.mo ((r1.ext e1).ext e2) p2 h2 λ y S3 w3 H3 h3 q3 e3 p3=>?_;obtain⟨p,ds,k,j,rfl,rfl,c1,c2,h⟩:=h3;simp only[zg] at q2 q3;subst q2 q3;obtain⟨xs,g1,g2⟩:=p3 _ _ c1;have e4:Ext H3 (upd H3 p (.lst (xs.set j w1))):=.lst g1 _;refine⟨p,xs,k,j,rfl,rfl,g1,by rw[<- g2.length];exact c2,?_⟩;exact h O _ ((((r1.ext e1).ext e2).ext e3).ext e4) (((e1.trans e2).trans e3).trans e4) (p3.ups e4 ⟨_,yL,zm.ext e4 _ (zm.set (zg.ext (e2.trans e3) w q1) j g2)⟩)
@[simp] noncomputable def cM (n:Nat) (f v:Ev->Option T):Sm:=fun J=>(v J).bind λ z=>(f J).bind λ y=>match J[n]?,y with
 | some (some (.own (.lst ts))),.int k=>(wG ts.length k).map λ j=>.nx (J.set n (some (.own (.lst (ts.set j z)))))
 | _,_=>none
def VF {R:Rk}(n:Nat) {f v:Ev->Option T}(hf:yy f ty) (hv:vf v tv):yD R (cM n f v) (aH (y8 n) ty tv):=λ S0 Z0 S Z Y J o E F e P=>by
 obtain⟨z,e1,e⟩:=zOb e;obtain⟨x,e2,e3⟩:=zOb e;split at e3
 .rename_i ts k h;obtain⟨j,hj,rfl⟩:=zOm e3;refine hv S Z Y J z _ F.er e1 λ dz S1 s1 r1=>?_;have F1:=F.grow s1;obtain⟨p,ob,h1,h2,h3,h4⟩:=F1.er.ow n _ h;cases ob with
  | ya _=>exact h3.elim
  | lst ds=>
   show y8 n Y S1 _;unfold y8;rw[h1];refine hf S1 Z Y J _ _ F1.er e2 λ d S2 s2 r2=>?_;cases Vw.int r2;have h5:zl (zM S2 Z) ts ds:=zl.sx (wq s2) ts h3;exact⟨p,ds,k,j,rfl,rfl,s2 _ _ h2,by rw[h5.len];exact hj,P _ Z Y ((F1.grow s2).mut (us:=.lst (ts.set j z)) (es:=.lst (ds.set j dz)) n h h1 (h5.eX j (Sn.sx (wq s2) z r1)))⟩
 .cases e3
def Vd {x y:Str}{u:Value}(hm:X.mg x=some u) (r:RelV (.str y) u) (hg:Gl X x:=by rfl) (hd:(x == ("__debug__":Str))=false:=by decide):PD X (.Name x pos) (dC (.str y)):=oq (WC hg hm r hd) λ _=>by simp only[zg]
end
end L5
namespace ZP
open PySem PyProof.Rows
noncomputable def ir (k:Bool):String:=cond k "tuple_iterator" "list_iterator"
def SI (h:Heap) (k:Bool) (it l:Addr) (i:Nat):Prop:=∃ o,h.get? it=some o/\o.cls=.type (ir k)/\o.data=.fields #[.ref l,.int i 0]
def SQ (h:Heap) (k:Bool) (l:Addr) (xs:Array Value):Prop:=match k with
 | true=>h.IsTuple l xs
 | false=>h.IsList l xs
def SI.on {h h':Heap}{k:Bool}{it l:Addr}{i:Nat}(x:SI h k it l i) (f:∀ o,h.get? it=some o->h'.get? it=some o):SI h' k it l i:=
 let ⟨o,ho,r⟩:=x;⟨o,f o ho,r⟩
def SQ.on {h h':Heap}{k:Bool}{l:Addr}{xs:Array Value}(x:SQ h k l xs) (f:∀ o,h.get? l=some o->h'.get? l=some o):SQ h' k l xs:=by
 cases k with
 | true=>obtain⟨o,ho,r⟩:=(show h.IsTuple l xs from x);exact⟨o,f o ho,r⟩
 | false=>obtain⟨o,ho,r⟩:=(show h.IsList l xs from x);exact⟨o,f o ho,r⟩
def SQ.lt {h:Heap}{k:Bool}{l:Addr}{xs:Array Value}(x:SQ h k l xs):l<h.objs.size:=by
 cases k with
 | true=>obtain⟨o,ho,_⟩:=(show h.IsTuple l xs from x);exact zA8 ho
 | false=>obtain⟨o,ho,_⟩:=(show h.IsList l xs from x);exact zA8 ho
theorem SQ.cls {h:Heap}{k:Bool}{l:Addr}{xs:Array Value}(x:SQ h k l xs):∃ o,h.get? l=some o/\o.cls=.type (cond k "tuple" "list"):=by
 cases k with
 | true=>obtain⟨o,ho,c,_⟩:=(show h.IsTuple l xs from x);exact⟨o,ho,c⟩
 | false=>obtain⟨o,ho,c,_⟩:=(show h.IsList l xs from x);exact⟨o,ho,c⟩
section
variable {prog:Program}{w:World}{A:Around}{E:Value->Shared->Prop}{s:Shared}
def made {k:Bool}{l:Addr}{xs:Array Value}{Q:Value->Shared->Prop}(hl:SQ s.heap k l xs)
  (hQ:Q (.ref s.heap.objs.size) { s with heap:=s.heap.push { cls:=.type (ir k),data:=.fields #[.ref l,.int 0 0] } }):wpAny (model prog w) A (pyIter (.ref l)) Q E s:=by
 cases k with
 | true=>exact wpAny_pyIter_tuple hl hQ
 | false=>exact wpAny_pyIter_list hl hQ
def R5 {it l:Addr}{i:Nat}{xs:Array Value}{x:Value}{Q:Value->Shared->Prop}(hit:s.heap.IsTupleIter it l i) (hl:s.heap.IsTuple l xs) (hx:xs[i]?=some x)
  (hQ:∀ h',h'.IsTupleIter it l (i+1)->Heap.SameBut it s.heap h'->Q x { s with heap:=h' }):wpAny (model prog w) A (Builtin.SmallTypes.nextOf (.ref it)) Q E s:=by
 have ht:=hit.typeIs;obtain⟨oi,e1,e2,e3⟩:=id hit;obtain⟨ol,g1,_,n,g2⟩:=hl;refine zWb (wpAny_callSpecial?_slot (name:=Str.ofString "__next__") ht F.slot_tuple_iterator_next (wpAny_call_entry F.slot_tuple_iterator_next ht F.entry_tuple_iterator_next ?_ (F.args_tuple_iterator_next_1 _)));refine zWb (m:=field (.ref it) 0) (wpAny_field e1 e3 (x:=.ref l) rfl ?_);dsimp only;rw[if_neg (show ¬ ((Value.ref l == Value.none)=true) from Bool.false_ne_true)];refine zWb (m:=field (.ref it) 1) (wpAny_field e1 e3 (x:=.int i 0) rfl ?_);dsimp only;refine zWb (m:=seqItems? (.ref l)) (wpAny_seqItems g1 g2 ?_);simp only[Int.toNat_natCast,hx];have there:=Heap.get?_update_self (Obj.mapFields λ y=>y.setIfInBounds 1 (rawInt ((i:Int)+1))) e1 (Obj.isFreed_of_fields (Obj.data_mapFields e3 _));refine zWb (wpAny_setField e1 e3 (by simp) (zD1 ⟨x,rfl,zD1 (hQ _ ⟨_,there,(Obj.cls_mapFields ..).trans e2,?_⟩ (Heap.SameBut.update ..))⟩));rw[Obj.data_mapFields e3];simp[rawInt]
def Rv {it l:Addr}{i:Nat}{xs:Array Value}{Q:Value->Shared->Prop}(hh:A.handled=none) (hit:s.heap.IsTupleIter it l i) (hl:s.heap.IsTuple l xs) (hx:xs[i]?=none)
  (hE:∀ h' e,Heap.ExtBut it s.heap h'->(∃ o,h'.get? e=some o/\o.cls=.type "StopIteration")->E (.ref e) { s with heap:=h' }):wpAny (model prog w) A (Builtin.SmallTypes.nextOf (.ref it)) Q E s:=by
 have ht:=hit.typeIs;obtain⟨oi,e1,e2,e3⟩:=id hit;obtain⟨ol,g1,_,n,g2⟩:=hl;refine zWb (wpAny_callSpecial?_slot (name:=Str.ofString "__next__") ht F.slot_tuple_iterator_next (wpAny_call_entry F.slot_tuple_iterator_next ht F.entry_tuple_iterator_next ?_ (F.args_tuple_iterator_next_1 _)));refine zWb (m:=field (.ref it) 0) (wpAny_field e1 e3 (x:=.ref l) rfl ?_);dsimp only;rw[if_neg (show ¬ ((Value.ref l == Value.none)=true) from Bool.false_ne_true)];refine zWb (m:=field (.ref it) 1) (wpAny_field e1 e3 (x:=.int i 0) rfl ?_);dsimp only;refine zWb (m:=seqItems? (.ref l)) (wpAny_seqItems g1 g2 ?_);simp only[Int.toNat_natCast,hx];refine zWb (wpAny_rule (zWb (wpAny_setField e1 e3 (by simp) ?_)));refine zWb (m:=newExc (.type "StopIteration") []) ?_;simp only[newExc,newTuple];refine zWb (wpAny_newObj_type (zWb (m:=firstArgMember _ _) (wpAny_of_eq (a:=Value.none) (by first | rfl | (simp only[firstArgMember];rfl)) (wpAny_newObj_type ?_ (by size_fits)))) (by size_fits));simp only[raiseNew];refine zWb (wpAny_handled ?_);rw[show A.in1.handled=none from hh];exact zWb (zD1 (wpAny_throw (hE _ _ (((Heap.SameBut.update ..).extBut.push _).push _) ⟨_,zA9 _ rfl,rfl⟩)))
def draw {k:Bool}{it l:Addr}{i:Nat}{xs:Array Value}{x:Value}{Q:Value->Shared->Prop}(hit:SI s.heap k it l i) (hl:SQ s.heap k l xs) (hx:xs[i]?=some x)
  (hQ:∀ h',SI h' k it l (i+1)->Heap.SameBut it s.heap h'->Q x { s with heap:=h' }):wpAny (model prog w) A (Builtin.SmallTypes.nextOf (.ref it)) Q E s:=by
 cases k with
 | true=>exact R5 hit hl hx hQ
 | false=>exact wpAny_nextOf_list_item hit hl hx hQ
def aw {k:Bool}{it l:Addr}{i:Nat}{xs:Array Value}{Q:Value->Shared->Prop}(hh:A.handled=none) (hit:SI s.heap k it l i) (hl:SQ s.heap k l xs) (hx:xs[i]?=none)
  (hE:∀ h' e,Heap.ExtBut it s.heap h'->(∃ o,h'.get? e=some o/\o.cls=.type "StopIteration")->E (.ref e) { s with heap:=h' }):wpAny (model prog w) A (Builtin.SmallTypes.nextOf (.ref it)) Q E s:=by
 cases k with
 | true=>exact Rv hh hit hl hx hE
 | false=>exact wpAny_nextOf_list_end hh hit hl hx hE
end
abbrev oG (k:Bool) (l:Addr):Obj:={ cls:=.type (ir k),data:=.fields #[.ref l,.int 0 0] }
section
variable {prog:Program}{w:World}{A:Around}{E:Value->Shared->Prop}{s:Shared}
end
end ZP
namespace L2
open PySem PySem.Spec PyProof.Rows ZP
section
variable {X:Cx}{pins:List (Addr×Obj)}{O:St}{H:Hp}{s:Shared}
def Inv.eC {h':Heap}{t':Nat}{fp:List Addr}(I:Inv X pins O H s) (k:∀ b o,b∉fp->s.heap.get? b=some o->h'.get? b=some o) (hf:∀ b∈fp,v5 X pins H b):Inv X pins O H { s with heap:=h',toks:=t' }:=by
 have nit:∀ b u,H b=some u->b∉fp:=λ b u e z=>by rw[(hf b z).1] at e;cases e
 refine I.step (g':=s.gens) (d':=s.drawn) (ch:=fp) (λ b hb=>?_) (λ b o _ _ hc e _=>k b o hc e) (λ b o _ _ hc e _=>⟨o.slots,k b o hc e⟩) (λ _ _ _ _ n=>n)
  (λ b o hc e=>⟨o,k b o hc e⟩) (λ _ _ e=>e) (λ _ _ _ e=>e) (λ b ps e=>⟨#[],by rw[e];simp⟩) (λ m hm=>?_) (λ b u e=>?_) I.bare
 .obtain⟨_,q1,_,q2,q3,q4⟩:=hf b hb;exact⟨q2,q1,q3,q4⟩
 .obtain⟨o,es,ep,ho,r⟩:=hm;exact⟨o,es,ep,k _ o (λ z=>(hf _ z).2.1 rfl) ho,r⟩
 .refine (I.zw b u e).tm (λ c v hc q=>k c v ?_ q) (λ _ q=>q) λ _ _ q=>q;rcases hc with z | z
  .rw[z];exact nit b u e
  .exact nit c _ z
def uR (K:zFr) (H:Hp) (k:Bool) (a:Addr) (xs:List V):Prop:=match k with
 | true=>zS K H a xs
 | false=>zN K H a xs
def uR.of (I:Inv X pins O H s) {k:Bool}{a:Addr}{xs:List V}(h:uR X.K H k a xs):∃ its:List Value,Vals xs its/\SQ s.heap k a its.toArray:=by
 cases k with
 | true=>obtain⟨its,rv,p,_⟩:=I.tuple h;exact⟨its,rv,p⟩
 | false=>obtain⟨its,rv,p,_⟩:=I.list h;exact⟨its,rv,p.isList⟩
def uR.inj (I:Inv X pins O H s) {k:Bool}{a:Addr}{xs ys:List V}(h:uR X.K H k a xs) (h':uR X.K H k a ys):xs=ys:=by
 cases k with
 | true=>exact I.kx h h'
 | false=>exact I.jX h h'
end
end L2
namespace L5
open PySem PySem.Spec L2 L3
open PyProof.Rows hiding St
section
variable {X:Cx}{K:zFr}{a b:Expr}{tA:yk}{pos p pos':Pos}
noncomputable def ic:D->Bool
 | .tup _=>true
 | _=>false
def yf.k {H:Hp}{S:SS}{d:D}{v:V}{ds:List D}(r:zg K H d v) (p:zI K H S) (e:yf d S=some ds):∃ a xs,v=.ref a/\uR K H (ic d) a xs/\zm K H ds xs:=by
 by_cases q:∃ ts,d=.tup ts
 .obtain⟨ts,rfl⟩:=q;cases e;simp only[zg] at r;obtain⟨a,xs,h1,h2,h3⟩:=r;exact⟨a,xs,h1,h2,h3⟩
 .obtain⟨a,xs,h1,h2,h3⟩:=qy r p e λ ts z=>q ⟨ts,z⟩;refine⟨a,xs,h1,?_,h3⟩;have:ic d=false:=by cases d <;> first | rfl | exact absurd ⟨_,rfl⟩ q
  rw[this];exact h2
end
section
variable {X:Cx}{K:zFr}{a b:Expr}{tA:yk}{pos p pos':Pos}{es:List Expr}{kk:Nat}
def yf.sx {S S':SS}{d:D}{ds:List D}(h:yf d S=some ds) (s:Sx S S'):yf d S'=some ds:=by
 unfold yf at h ⊢;split at h
 .exact h
 .exact h
 .split at h
  .rename_i q;cases h;rw[s _ _ q]
  .cases h
 .cases h
end
end L5
namespace HT
open PySem PyProof.Rows
section
variable {prog:Program}{w:World}{A:Around}{E:Value->Shared->Prop}{s:Shared}
end
end HT
namespace L2
open PySem PySem.Spec PyProof.Rows
section
variable {X:Cx}
end
end L2
namespace L5
open PySem PySem.Spec L2 L3
open PyProof.Rows hiding St
section
variable {X:Cx}{K:zFr}{e:Expr}{lo hi:Option Expr}{te:zt}{tl th:Option zt}{pos p2:Pos}
end
end L5
namespace TM
open PySem PyProof.Rows
set_option maxRecDepth 100000
def noFill:fillsNumberSlot (.type "tuple") "mul"=pure false:=
 PySem.fillsNumberSlot_seq (id:="tuple.__mul__") (r:=some (.builtin "tuple.__rmul__")) F.slot_tuple_mul.lookup (by decide +kernel) F.slot_tuple_rmul.lookup (by decide +kernel)
def rep:seqRepeat? (.type "tuple")=pure (some (.builtin "tuple.__mul__")):=by
 have a:=PySem.seqSlot_of (T:="tuple") (name:="__mul__") (id:="tuple.__mul__") F.slot_tuple_mul.lookup (by decide +kernel);have b:=PySem.seqSlot_of (T:="tuple") (name:="__rmul__") (id:="tuple.__rmul__") F.slot_tuple_rmul.lookup (by decide +kernel);unfold seqRepeat?;rw[a,b];rfl
def declines (i:Int) (t:Tok) (l:Addr) (items:Array Value) (n:Nat) (dd:Option Addr) (sl:Array (Option Value)):
  Meets (Builtin.«int.__rmul__» ⟨[.int i t,.ref l],[]⟩) (λ _ R s=>s.heap.get? l=some { cls:=.type "tuple",dict:=dd,data:=.seq items n,slots:=sl }/\R (.ok (.ret Value.notImplemented)) s):=
 .of_wp λ prog w A R s h=>by
  obtain⟨hp,g,d,tk,os⟩:=s;obtain⟨hl,h⟩:=h
  wp_walk
  exact⟨_,rfl,h⟩
theorem iK {α:Type}(xs:List α):∀ (m:Nat) (acc:Array α),(List.replicate m xs.toArray).foldl (·++·) acc=acc++(List.replicate m xs).flatten.toArray
 | 0,acc=>by simp
 | m+1,acc=>by
  rw[List.replicate_succ,List.foldl_cons,iK xs m,List.replicate_succ,List.flatten_cons,Array.append_assoc];simp
def UZ (k:Int) (t:Tok) (l:Addr) (items:Array Value) (n:Nat) (dd:Option Addr) (sl:Array (Option Value)) (h1:¬ (decide (k < -(2 ^ 63))||decide (k≥2 ^ 63))=true) (h2:¬ (items.isEmpty||k == 1)=true) (h3:¬ (decide (k<=0)||items.isEmpty)=true)
  (h4:¬ (items.size*k>(2 ^ 63-1)/8)) (h5:¬ Builtin.Tuple.tupleTooMany (items.size*k)=true) (h6:((List.replicate k.toNat items).foldl (·++·) #[]).size<=sizeLine):
  Meets (Builtin.«tuple.__mul__» ⟨[.ref l,.int k t],[]⟩) (λ _ R s=>s.heap.get? l=some { cls:=.type "tuple",dict:=dd,data:=.seq items n,slots:=sl }/\
   R (.ok (.ret (.ref s.heap.objs.size))) { s with heap:=s.heap.push { cls:=.type "tuple",data:=.seq ((List.replicate k.toNat items).foldl (·++·) #[]) } }):=
 .of_wp λ prog w A R s h=>by
  obtain⟨hp,g,d,tk,os⟩:=s;obtain⟨hl,h⟩:=h;have e0:IsTup (Shared.heap ⟨hp,g,d,tk,os⟩) l items:=⟨_,hl,rfl,n,rfl⟩
  wp_walk
  rw[if_neg h1];refine zWb (m:=Builtin.Tuple.tupleItemsOf (.ref l)) (tupleItemsOf_ e0 ?_);dsimp only;rw[if_neg h2,if_neg h3,if_neg h4,if_neg h5];exact zWb (m:=Builtin.Tuple.tupleExact _) (wpAny_newObj_type (zD1 ⟨_,rfl,h⟩) h6)
def U_ (t:Tok) (l:Addr) (items:Array Value) (n:Nat) (dd:Option Addr) (sl:Array (Option Value)):
  Meets (Builtin.«tuple.__mul__» ⟨[.ref l,.int 1 t],[]⟩) (λ _ R s=>s.heap.get? l=some { cls:=.type "tuple",dict:=dd,data:=.seq items n,slots:=sl }/\R (.ok (.ret (.ref l))) s):=
 .of_wp λ prog w A R s h=>by
  obtain⟨hp,g,d,tk,os⟩:=s;obtain⟨hl,h⟩:=h;have c:(items.isEmpty||(1:Int) == 1)=true:=by simp
  wp_walk
  exact⟨_,rfl,h⟩
section
variable {prog:Program}{w:World}{A:Around}{E:Value->Shared->Prop}{s:Shared}
def times {l:Addr}{its:List Value}{k:Int}{t:Tok}{Q:Value->Shared->Prop}(ht:IsTup s.heap l its.toArray) (hne:its≠[]) (h0:1<=k) (hz:its.length*k.toNat<=sizeLine)
  (one:k=1->Q (.ref l) s) (more:k≠1->Q (.ref s.heap.objs.size) { s with heap:=s.heap.push { cls:=.type "tuple",data:=.seq (List.replicate k.toNat its).flatten.toArray } }):
  wpAny (model prog w) A (binaryOp .Mult (.ref l) (.int k t)) Q E s:=by
 have hT:=ht.typeIs;obtain⟨⟨cls,dd,data,sl⟩,ho,hc,n,hd⟩:=id ht;simp only at hc hd;subst hc hd;refine wpAny_binaryOp_repeat_ref (T:="tuple") (U:="int") (by decide) hT (λ s'=>typeIs_int s' k t) noFill F.fills_int_mul F.slot_int_rmul rep F.slot_int_index.lookup
  (call_meets F.slot_int_rmul (typeIs_int s k t) F.entry_int_rmul (F.args_int_rmul_2 _ _) (declines k t l its.toArray n dd sl) ⟨ho,rfl,hT,?_⟩)
 have hlen:0<its.length:=List.length_pos_iff.mpr hne;have hem:its.toArray.isEmpty=false:=by cases its with
  | nil=>exact absurd rfl hne
  | cons a r=>rfl
 by_cases h1:k=1
 .subst h1;exact call_meets F.slot_tuple_mul hT F.entry_tuple_mul (F.args_tuple_mul_2 _ _) (U_ t l its.toArray n dd sl) ⟨ho,one rfl⟩
 .have hks:k.toNat<=sizeLine:=zE0 (Nat.le_mul_of_pos_left _ hlen) hz;have hl:sizeLine=16777216:=rfl;have hk2:k<=16777216:=by omega
  have hcast:((its.toArray.size:Nat):Int)*k=((its.length*k.toNat:Nat):Int):=by
   rw[zA0,Int.natCast_mul,zF2 (by omega)]
  have hf:(List.replicate k.toNat its.toArray).foldl (·++·) #[]=(List.replicate k.toNat its).flatten.toArray:=by rw[iK];simp
  have hfl:(List.replicate k.toNat its).flatten.length=k.toNat*its.length:=by simp
  refine call_meets F.slot_tuple_mul hT F.entry_tuple_mul (F.args_tuple_mul_2 _ _) (UZ k t l its.toArray n dd sl ?_ ?_ ?_ ?_ ?_ ?_) ⟨ho,?_⟩
  .simp only[Bool.or_eq_true,decide_eq_true_eq,not_or];exact⟨by omega,by omega⟩
  .rw[hem];simpa using h1
  .rw[hem];simp;omega
  .rw[hcast];omega
  .rw[hcast];intro q;unfold Builtin.Tuple.tupleTooMany at q;have:=of_decide_eq_true q;omega
  .rw[hf,zA0,hfl,Nat.mul_comm];exact hz
  .rw[hf];exact more h1
end
end TM
namespace L2
open PySem PySem.Spec PyProof.Rows
def jl (K:zFr):R2:=λ x y H Q=>∃ a k xs,x=.ref a/\y=.int k/\zS K H a xs/\xs≠[]/\1<=k/\xs.length*k.toNat<=sizeLine/\(k=1->Q (.ref a) H)/\(k≠1->∀ p,H p=none->Q (.ref p) (upd H p (.tup (List.replicate k.toNat xs).flatten)))
def Vs {X:Cx}:yd X (binaryOp .Mult) (jl X.K):=by
 intro pins s O H x y v u Q I rx ry h;obtain⟨a,k,xs,rfl,rfl,hx,hne,h1,hz,q1,q2⟩:=h;cases rx;obtain⟨t,rfl⟩:=ry;obtain⟨its,r,ht,_⟩:=I.tuple hx;have hl:=r.length;refine TM.times ht (λ z=>hne (r.o5.mp z)) h1 (by rw[<- hl];exact hz) (λ e=>⟨.ref a,H,I,rfl,q1 e⟩) λ e=>?_;have hlen:(List.replicate k.toNat xs).flatten.length<=sizeLine:=by
  have:(List.replicate k.toNat xs).flatten.length=k.toNat*xs.length:=by simp
  rw[this,Nat.mul_comm];exact hz
 exact⟨.ref _,_,I.laid (t':=s.toks) (o:=.tup (List.replicate k.toNat xs).flatten) (λ b ob q=>zHp _ q) (zA4 _) ⟨hlen,_,r.rep k.toNat,IsTup.new _ _⟩,rfl,q2 e _ (I.zw.fresh (zA4 _))⟩
end L2
namespace L5
open PySem PySem.Spec L2 L3
open PyProof.Rows hiding St
section
variable {X:Cx}{K:zFr}{a b:Expr}{ta tb:zt}{pos:Pos}
def uI:yR:=λ x y S Q=>match x,y with
 | .int i,.int j=>v7 i j/\Q (.int (i*j)) S
 | .tup ds,.int k=>(ds≠[]/\1<=k/\ds.length*k.toNat<=sizeLine)/\Q (.tup (List.replicate k.toNat ds).flatten) S
 | _,_=>False
noncomputable def jP:T->T->Option T
 | .int i,.int j=>if v7 i j then some (.int (i*j)) else none
 | .tup ts,.int k=>if ts≠[]/\1<=k/\ts.length*k.toNat<=sizeLine then some (.tup (List.replicate k.toNat ts).flatten) else none
 | _,_=>none
def uI.mo:xr uI:=λ x y S Q Q' hq h=>by
 unfold uI at h ⊢;split at h
 .exact⟨h.1,hq _ _ h.2⟩
 .exact⟨h.1,hq _ _ h.2⟩
 .exact h.elim
theorem zm.rep {H:Hp}{ds:List D}{xs:List V}(h:zm K H ds xs):∀ n:Nat,zm K H (List.replicate n ds).flatten (List.replicate n xs).flatten
 | 0=>.nil
 | n+1=>by
  rw[List.replicate_succ,List.replicate_succ,List.flatten_cons,List.flatten_cons];exact h.append (zm.rep h n)
def uI.fits:xt K uI (λ x y H Q=>rI v7 (λ i j=>.int (i*j)) x y H Q\/jl K x y H Q):=λ x y d e H S Q h1 h2 h3 h=>by
 unfold uI at h;split at h
 .simp only[zg] at h1 h2;exact .inl ⟨_,_,h1,h2,h.1,h.2 _ H (by simp only[zg]) (.refl H) h3⟩
 .rename_i ds k;obtain⟨⟨c1,c2,c3⟩,h⟩:=h;have h1':=h1;simp only[zg] at h1 h2;obtain⟨a,xs,rfl,g1,g2⟩:=h1;have hl:=g2.length;refine .inr ⟨a,k,xs,rfl,h2,g1,λ z=>c1 (by subst z;cases ds with | nil=>rfl | cons _ _=>simp at hl),c2,by rw[<- hl];exact c3,λ e=>?_,λ e p hp=>?_⟩
  .subst e;refine h _ H ?_ (.refl H) h3;have:(List.replicate (1:Int).toNat ds).flatten=ds:=by simp
   rw[this];exact h1'
  .refine h _ _ ?_ (.new hp _) (h3.new hp);simp only[zg];exact⟨p,_,rfl,zS.of yL,zm.ext (.new hp _) _ (zm.rep g2 _)⟩
 .exact h.elim
theorem zl.rep {S:SS}{ts:List T}{ds:List D}(h:zl S ts ds):∀ n:Nat,zl S (List.replicate n ts).flatten (List.replicate n ds).flatten
 | 0=>.nil
 | n+1=>by
  rw[List.replicate_succ,List.replicate_succ,List.flatten_cons,List.flatten_cons];exact h.append (zl.rep h n)
def bJ:Good2 zH jP uI:=λ S Z x y z d e Q hz hx hy ef hq=>by
 unfold jP at ef;split at ef
 .split at ef
  .rename_i hc;cases ef;cases hx.int;cases hy.int;exact⟨hc,hq _ S (.refl S) (Cl.of (λ _=>nofun) xS)⟩
  .cases ef
 .split at ef
  .rename_i hc;cases ef;obtain⟨ds,rfl,h2⟩:=hx.tup;cases hy.int;have hl:=h2.len;exact⟨⟨λ q=>hc.1 (by subst q;simpa using hl.symm),hc.2.1,by rw[hl];exact hc.2.2⟩,hq _ S (.refl S) (Cl.of (λ _=>nofun) (pR (zl.rep h2 _)))⟩
  .cases ef
 .cases ef
end
end L5
namespace L4
open PySem PyProof.Rows
section
variable {prog:Program}{w:World}{A:Around}{E:Value->Shared->Prop}{s:Shared}
def RQ {l:Addr}{vs:List Value}{Q:List Value->Shared->Prop}(hl:IsTup s.heap l vs.toArray) (hz:vs.length<=sizeLine)
  (h:Q vs { s with heap:=(s.heap.push (seqObj "list" #[] 0)).update s.heap.objs.size (Obj.mapSeq (·++vs.toArray)) }):wpAny (model prog w) A (collect (.ref l)) Q E s:=by
 obtain⟨o,ho,hc,n,hd⟩:=id hl;have new:(s.heap.push (seqObj "list" #[] 0)).get? s.heap.objs.size=some (seqObj "list" #[] 0):=zA9 _ rfl;have ho':(s.heap.push (seqObj "list" #[] 0)).get? l=some o:=zHp _ ho;unfold collect;refine zWb (wpAny_runValue (codeAny_builtin entry_proto_collect' (zWb (m:=newList []) (wpAny_newList (zD1 ⟨Code.quiet_builtin _ (by decide +kernel),codeAny_builtin entry_list_iadd' ?_⟩)))));show wpAny _ _ (Builtin.List.listExtendWith (.ref s.heap.objs.size) (.ref l) (.ref s.heap.objs.size)) _ _ { s with heap:=s.heap.push (seqObj "list" #[] 0) };unfold Builtin.List.listExtendWith;refine zWb (wpAny_typeOf (T:="tuple") ⟨o,ho',hc⟩ ?_);rw[if_pos (by rw[show (Value.type "tuple" == Value.type "tuple")=true from rfl];simp)];refine zWb (listItems_at ho' hd (zWb (listItems_at (xs:=#[]) (n:=0) new rfl ?_)));rw[if_neg (by simp)];refine zWb (listUpdate_at (xs:=#[]) (n:=0) new rfl (zD1 ?_) (zD4 _) (by show (#[]++vs.toArray).size<=sizeLine+1;simp only[Array.size_append,zA0,List.length_nil];omega));refine zWb (m:=load s.heap.objs.size) (wpAny_load (get?_update_seq new _) ?_);show wpAny _ _ (pure ((#[]:Array Value)++vs.toArray).toList) Q E _;have e:((#[]:Array Value)++vs.toArray).toList=vs:=by simp
 rw[e];exact zD1 h
def YU {l:Addr}{vs:List Value}{Q:Value->Shared->Prop}{Out:Array Value->Prop}(hl:IsTup s.heap l vs.toArray) (hz:vs.length<=sizeLine)
  (core:2<=vs.length->∀ s6:Shared,(∀ b o,s.heap.get? b=some o->s6.heap.get? b=some o)->Core prog w A.in1.in1 E vs Out s6) (short:vs.length<2->Out vs.toArray)
  (fin:∀ out:Array Value,Out out->out.size=vs.length->Q (.ref (s.heap.objs.size+1)) { s with heap:=sortedAll s.heap vs out }):
  wpAny (model prog w) A (call (.builtin "sorted") [.ref l]) Q E s:=by
 let h1:=(s.heap.push (seqObj "list" #[] 0)).update s.heap.objs.size (Obj.mapSeq (·++vs.toArray))
 have sz:h1.objs.size=s.heap.objs.size+1:=by show (Heap.update _ _ _).objs.size=_;rw[Heap.size_update,size_push']
 have there:(h1.push (seqObj "list" vs.toArray 0)).get? (s.heap.objs.size+1)=some (seqObj "list" vs.toArray 0):=sz▸zA9 _ rfl;have keep:∀ b o,s.heap.get? b=some o->(h1.push (seqObj "list" vs.toArray 0)).get? b=some o:=λ b o q=>by
  refine zHp _ ?_;show (Heap.update _ _ _).get? b=_;rw[Heap.get?_update_ne _ _ _ _ (zB3 (zA8 q))];exact zHp _ q
 refine Calls.call_function_entry kind_sorted plain_sorted entry_sorted (args_sorted1 _) ?_;unfold Builtin.«sorted»;refine zWb (m:=checkCount "sorted" 1 1 _) (zD1 (zWb (RQ hl hz (zWb (wpAny_newList ?_ hz)))));show wpAny _ _ _ _ _ { s with heap:=h1.push (seqObj "list" vs.toArray 0) };rw[show (Heap.update (s.heap.push (seqObj "list" #[] 0)) s.heap.objs.size (Obj.mapSeq (·++vs.toArray))).objs.size=s.heap.objs.size+1 from sz];refine zWb (wpAny_holding (wpAny_call_entry slot_list_sort ⟨_,there,rfl⟩ entry_list_sort (jW there hz (λ h2 s6 k=>core h2 s6 λ b o q=>k b o (zB3 (Nat.lt_succ_of_lt (zA8 q))) (keep b o q)) short λ out g1 g2=>⟨_,rfl,?_⟩) (args_list_sort _)));exact zD1 ⟨_,rfl,fin out g1 g2⟩
end
section
open L2 PySem.Spec
variable {X:Cx}
def RY:yK X (.builtin "sorted") (λ xs H Q=>∃ p ys,∃ rows:List (List Int),xs=[.ref p]/\zS X.K H p ys/\Paired (λ v r=>r≠[]/\∃ b,v=V.ref b/\zS X.K H b (r.map V.int)) ys rows/\rows.length<64/\
  ∀ (l:Addr) (idx:List Nat),H l=none->idx.Perm (List.range ys.length)->(idx.map λ i=>rows.getD i []).Pairwise (λ a b=>HT.lexLt b a=false)->Q (.ref l) (upd H l (.lst (idx.map λ i=>ys.getD i .zi)))):=by
 intro pins s O H xs us Q I r h;obtain⟨p,ys,rows,rfl,hq,hr,h64,q⟩:=h;obtain⟨u,rfl,ru⟩:=vals1 r;cases ru;obtain⟨its,rv,pl,hz⟩:=I.tuple hq;have hl:=rv.length;have hlr:ys.length=rows.length:=Paired.length hr;have rows_at:∀ h6:Heap,(∀ b o,s.heap.get? b=some o->h6.get? b=some o)->tQ h6 its rows:=λ h6 k=>by
  refine ST.Paired.mk (by omega) λ i a b ha hb=>?_;have hi:i<ys.length:=by have:=(zA2.mp hb).1;omega
  obtain⟨hne,c,hc,hsq⟩:=L4.Paired.at' hr (i:=i) hi V.zi ([]:List Int);obtain⟨u,e1,e2⟩:=rv.get (i:=i) (x:=ys.getD i V.zi) (by simp[hi]);rw[ha] at e1;cases e1;rw[hc] at e2;cases (show a=Value.ref c from e2);obtain⟨its2,rv2,⟨o,e,hcl,n,hd⟩,_⟩:=I.tuple hsq;have eb:rows.getD i []=b:=by simp[hb]
  rw[eb] at hne rv2;exact⟨hne,c,o,_,n,rfl,k _ _ e,hcl,hd,by simpa using intsAre_of rv2⟩
 refine YU (Out:=nN its rows) pl (by rw[<- hl];exact hz) (λ h2 s6 k=>i_ (rows_at _ k) h2 (by omega)) (λ h1=>?_) λ out ho hs=>?_
 .refine⟨List.range its.length,.refl _,?_,?_⟩
  .refine List.ext_getElem (by simp) λ i h1 h2=>?_;simp at h1;simp[h1]
  .rw[List.pairwise_map,List.pairwise_iff_getElem];intro i j hi hj hij;simp at hi hj;omega
 .obtain⟨idx,g1,g2,g3⟩:=ho;obtain⟨e,ho⟩:=sortedAll_at s.heap its out;have g1':idx.Perm (List.range ys.length):=by rw[hl];exact g1
  refine⟨.ref (s.heap.objs.size+1),_,I.laid (t':=s.toks) (o:=.lst (idx.map λ i=>ys.getD i .zi)) (λ b o q=>sortedAll_old q) (Nat.le_succ _) ?_,rfl,q _ idx (I.zw.fresh (Nat.le_succ _)) g1' g3⟩;refine⟨by rw[zA7,g1'.length_eq,zC5];exact hz,out.toList,e,?_,by simpa using ho⟩;rw[g2];refine ST.Paired.mk (by simp) λ j a b ha hb=>?_;rw[zA3] at ha hb;obtain⟨i,hi,rfl⟩:=zOm ha;rw[hi] at hb;cases hb;have hil:i<ys.length:=by simpa using g1'.mem_iff.mp (zB7 hi)
  obtain⟨u,e1,e2⟩:=rv.get (i:=i) (x:=ys.getD i V.zi) (by simp[hil]);have e3:its.getD i Value.none=u:=by simp[e1]
  show L2.RelV (ys.getD i V.zi) (its.getD i Value.none);rw[e3];exact e2
end
end L4
namespace L5
open PySem PySem.Spec L2 L3
open PyProof.Rows hiding St
section
variable {X:Cx}{K:zFr}{e:Expr}{es:List Expr}{tA:yk}{pos p pos2 p2:Pos}
def sM:xx:=λ ds S Q=>∃ d,∃ rows:List (List Int),ds=[d]/\yf d S=some (rows.map xF)/\rows.length<64/\(∀ r∈rows,r≠[])/\∀ l,S l=none->Q (.ref l) (ups S l (.lst ((L4.xu rows).map xF)))
noncomputable def qv:List T->Option T
 | [y]=>(x_ y).bind λ ts=>(vA ts).bind λ rs=>if rs.length<64/\∀ r∈rs,r≠[] then some (.lst ((L4.xu rs).map zP)) else none
 | _=>none
def SH:vW zH qv sM:=λ S Z ys z ds Q hz hv e hq=>by
 unfold qv at e;split at e
 .obtain⟨d,rfl,h1⟩:=v_ hv;obtain⟨ts,e0,e⟩:=zOb e;obtain⟨rs,e1,e2⟩:=zOb e;split at e2
  .rename_i hc;cases e2;cases jf e1;obtain⟨es,h2,h3⟩:=h1.seq e0;cases qw.mp h3;exact⟨d,rs,rfl,h2,hc.1,hc.2,λ l hl=>hq _ _ (.new hl _) (sr hz hl (qw.mpr rfl))⟩
  .cases e2
 .cases e
def sM.mo:vV sM:=λ ds S Q Q' hq ⟨d,rows,h0,h1,h2,h3,h4⟩=>⟨d,rows,h0,h1,h2,h3,λ l hl=>hq _ _ (h4 l hl)⟩
abbrev dq (K:zFr) (sq:Hp->Addr->List V->Prop):List V->Hp->VK->Prop:=λ xs H Q=>∃ p ys,∃ rows:List (List Int),xs=[.ref p]/\sq H p ys/\Paired (λ v r=>r≠[]/\∃ b,v=V.ref b/\zS K H b (r.map V.int)) ys rows/\rows.length<64/\
  ∀ (l:Addr) (idx:List Nat),H l=none->idx.Perm (List.range ys.length)->(idx.map λ i=>rows.getD i []).Pairwise (λ a b=>HT.lexLt b a=false)->Q (.ref l) (upd H l (.lst (idx.map λ i=>ys.getD i .zi)))
def yK.or {f:Value}{r r':List V->Hp->VK->Prop}(h:yK X f r) (h':yK X f r'):yK X f (λ xs H Q=>r xs H Q\/r' xs H Q):=λ pins s O H xs us Q I rv q=>
 q.elim (λ q=>h pins s O H xs us Q I rv q) λ q=>h' pins s O H xs us Q I rv q
def sM.fits:uW K sM (λ xs H Q=>dq K (zN K) xs H Q\/dq K (zS K) xs H Q):=λ xs ds H S Q h0 h2 h=>by
 obtain⟨d,rows,rfl,e,h64,hne,h⟩:=h;obtain⟨x,hx,h1⟩:=h0.one;subst hx;obtain⟨a,ys,rfl,g1,g2⟩:=yf.sq h1 h2 e;have hl:=g2.length;rw[zA7] at hl;have key:∀ (l:Addr) (idx:List Nat),H l=none->idx.Perm (List.range ys.length)->(idx.map λ i=>rows.getD i []).Pairwise (λ a b=>HT.lexLt b a=false)->Q (.ref l) (upd H l (.lst (idx.map λ i=>ys.getD i .zi))):=λ l idx hf hp hs=>by
  rw[<- hl] at hp;have heq:=L4.eN (cK hp) hs;have hx:Ext H (upd H l (.lst (idx.map λ i=>ys.getD i .zi))):=.new hf _;refine h l (h2.none hf) _ _ (by simp only[zg]) hx (h2.ups hx ⟨_,yL,?_⟩);rw[<- heq];exact zm.ext hx _ (g2.perm λ i hi=>by simpa using hp.mem_iff.mp hi)
 rcases g1 with g1 | g1
 .exact .inl ⟨_,ys,rows,rfl,g1,pV g2 hne,h64,key⟩
 .exact .inr ⟨_,ys,rows,rfl,g1,pV g2 hne,h64,key⟩
def dS (hm:X.mg "sorted"=none) (ha:xE X (e::es) tA) (hg:Gl X "sorted":=by rfl) (he:starEach (e::es) X.env=(false,eval e X.env)::starEach es X.env:=by rfl) (hpl:(backTo pos (starEach es X.env)).any (·.1)=false:=by rfl):PD X (.Call (.Name "sorted" p) (e::es) [] pos) (xA sM tA):=
 sA (su (yK.or L4.Qa L4.RY) hg hm boot_sorted ha.pa (by decide) (by decide) he hpl) sM.mo sM.fits ha.mo
end
end L5
namespace L2
open PySem PySem.Spec PyProof.Rows
section
variable {X:Cx}
def vT (r:Addr) (j:Int):Heap->Prop:=λ h=>∃ t u v,IsRange h r 0 j 1 t u v
def Qf:yK X (.type "range") (λ xs H Q=>∃ j,xs=[.int j]/\∀ r,H r=none->Q (.ref r) (upd H r (.ext (vT r j)))):=by
 intro pins s O H xs us Q I r h;obtain⟨j,rfl,q⟩:=h;obtain⟨u,rfl,ru⟩:=vals1 r;obtain⟨t,rfl⟩:=ru;refine call_range_1 ⟨.ref s.heap.objs.size,_,I.laid (o:=.ext (vT s.heap.objs.size j)) (λ b o e=>zHp _ e) (zA4 _) ?_,rfl,q _ (I.zw.fresh (zA4 _))⟩;have here:vT s.heap.objs.size j (s.heap.push { cls:=.type "range",data:=.fields #[.int 0 s.toks,.int j t,.int 1 (s.toks+1)] }):=⟨_,_,_,IsRange.new ..⟩
 refine⟨here,⟨_,zA9 _ rfl⟩,λ h1 h2 S k=>?_⟩;obtain⟨a,b,c,e⟩:=S;exact⟨a,b,c,k _ e⟩
def Qj (hc:X.calm=true):yK X (.type "list") (λ xs H Q=>∃ r j,xs=[.ref r]/\H r=some (.ext (vT r j))/\0<=j/\j<=16777216/\∀ l,H l=none->Q (.ref l) (upd H l (.lst ((List.range j.toNat).map λ(k:Nat)=>V.int (k:Int))))):=by
 intro pins s O H xs us Q I r h;obtain⟨a,j,rfl,hr,h0,h1,q⟩:=h;obtain⟨u,rfl,ru⟩:=vals1 r;cases ru;obtain⟨⟨t,u,v,hR⟩,-,-⟩:=(show yZ X.prog X.w H s.heap a (.ext (vT a j)) from I.zw a _ hr)
 have hsz:Builtin.Range.rangeSize 0 j 1=((j.toNat:Nat):Int):=by rw[rangeSize_one];split <;> omega
 refine call_list_range (n:=j.toNat) (I.ok.hd hc) hR (small_one (by decide) (by decide) (by omega) (by omega)) hsz (by omega) λ h' tk acc c k e hi=>?_;refine⟨.ref s.heap.objs.size,_,I.laid (o:=.lst ((List.range j.toNat).map λ(k:Nat)=>V.int (k:Int))) k (zA4 _) ⟨?_,acc.toList,c,?_,by simpa using e⟩,rfl,q _ (I.zw.fresh (zA4 _))⟩
 .have:sizeLine=16777216:=rfl;simp;omega
 .obtain⟨hn,hi⟩:=hi;refine ST.Paired.mk (by simp[hn]) λ i a b ha hb=>?_;rw[zA3] at ha;obtain⟨k',hk,rfl⟩:=zOm ha;obtain⟨hk1,hk2⟩:=zA2.mp hk;simp at hk2;subst hk2;obtain⟨w,hw⟩:=hi i b (by simpa using hb);subst hw;exact⟨w,by simp⟩
end
end L2
namespace L5
open PySem PySem.Spec L2 L3
open PyProof.Rows hiding St
section
variable {X:Cx}{K:zFr}{e:Expr}{tA:yk}{pos p pos2 p2:Pos}
def tK:xx:=λ ds S Q=>∃ j:Int,ds=[.int j]/\0<=j/\j<=16777216/\∀ l,S l=none->Q (.ref l) (ups S l (.lst (vl 0 j.toNat)))
noncomputable def oD:List T->Option T
 | [.int j]=>if 0<=j/\j<=16777216 then some (.lst (rangeT 0 j.toNat)) else none
 | _=>none
def SK:vW zH oD tK:=λ S Z ys z ds Q hz hv e hq=>by
 unfold oD at e;split at e
 .obtain⟨d,rfl,h1⟩:=v_ hv;split at e
  .rename_i hc;cases e;cases h1.int;exact⟨_,rfl,hc.1,hc.2,λ l hl=>hq _ _ (.new hl _) (sr hz hl (eQ _ _))⟩
  .cases e
 .cases e
def tK.mo:vV tK:=λ ds S Q Q' hq ⟨j,h0,h1,h2,h3⟩=>⟨j,h0,h1,h2,λ l hl=>hq _ _ (h3 l hl)⟩
def X3 {H:Hp}(n:Nat):zm K H (vl 0 n) ((List.range n).map λ(k:Nat)=>V.int (k:Int)):=by
 unfold vl
 induction List.range n with
 | nil=>exact .nil
 | cons k l ih=>exact .cons (by simp only[zg];rw[Int.zero_add]) ih
def tK.fits:uW K tK (λ xs H Q=>∃ j,xs=[.int j]/\∀ r,H r=none->∃ r' j',[V.ref r]=[.ref r']/\(upd H r (.ext (vT r j))) r'=some (.ext (vT r' j'))/\0<=j'/\j'<=16777216/\
  ∀ l,(upd H r (.ext (vT r j))) l=none->Q (.ref l) (upd (upd H r (.ext (vT r j))) l (.lst ((List.range j'.toNat).map λ(k:Nat)=>V.int (k:Int))))):=λ xs ds H S Q h0 h2 h=>by
 obtain⟨j,rfl,c1,c2,h⟩:=h;obtain⟨x,hx,h1⟩:=h0.one;subst hx;simp only[zg] at h1;subst h1;refine⟨j,rfl,λ r hr=>⟨r,j,rfl,yL,c1,c2,λ l hl=>?_⟩⟩;have x1:Ext H (upd H r (.ext (vT r j))):=.new hr _;have hlr:l≠r:=λ z=>by subst z;rw[yL] at hl;cases hl
 have hlH:H l=none:=by rw[yE hlr] at hl;exact hl
 have x2:Ext (upd H r (.ext (vT r j))) (upd (upd H r (.ext (vT r j))) l (.lst ((List.range j.toNat).map λ(k:Nat)=>V.int (k:Int)))):=.new hl _;exact h l (h2.none hlH) _ _ (by simp only[zg]) (x1.trans x2) ((h2.new hr).ups x2 ⟨_,yL,X3 _⟩)
def Va (hm:X.mg "list"=none) (hm2:X.mg "range"=none) (ha:xE X [e] tA) (hc:X.calm=true:=by rfl) (hg:Gl X "list":=by rfl) (hg2:Gl X "range":=by rfl)
  (he2:starEach [e] X.env=(false,eval e X.env)::starEach [] X.env:=by rfl)
  (he:starEach [.Call (.Name "range" p2) [e] [] pos2] X.env=(false,eval (.Call (.Name "range" p2) [e] [] pos2) X.env)::starEach [] X.env:=by rfl) (hpl:(backTo pos (starEach [] X.env)).any (·.1)=false:=by rfl) (hpl2:(backTo pos2 (starEach [] X.env)).any (·.1)=false:=by rfl):
  PD X (.Call (.Name "list" p) [.Call (.Name "range" p2) [e] [] pos2] [] pos) (xA tK tA):=by
 have h:=oj (p:=p) (Qj hc) hg hm PyProof.Rows.boot_list (rL (oj Qf hg2 hm2 boot_range ha.pa (by decide) (by decide) he2 hpl2) qI he) (by decide) (by decide) he hpl;exact⟨xA.mo tK.mo ha.mo,PE.imp h λ _ _ _ hu=>e9 tK.mo tK.fits ha.mo hu⟩
end
end L5
namespace ST
open PySem PySem.SetTable PySem.Spec PyProof.Rows L2
def Si {us us':List Value}(p:us'.Perm us):∀ {ms:List Int},IntsAre us ms->∃ ms',IntsAre us' ms'/\ms'.Perm ms:=by
 induction p with
 | nil=>intro ms h;exact⟨ms,h,.refl _⟩
 | cons x _ ih=>
  intro ms h;cases h with
  | cons n t h=>
   obtain⟨ms',h1,h2⟩:=ih h;exact⟨n::ms',.cons n t h1,h2.cons n⟩
 | swap x y l=>
  intro ms h;cases h with
  | cons n t h=>
   cases h with
   | cons m u h=>exact⟨m::n::_,.cons m u (.cons n t h),.swap _ _ _⟩
 | trans _ _ ih1 ih2=>
  intro ms h;obtain⟨m1,h1,h2⟩:=ih2 h;obtain⟨m2,h3,h4⟩:=ih1 h1;exact⟨m2,h3,h4.trans h2⟩
def vz.at {prog:Program}{w:World}{h:Heap}{a:Addr}{xs:List (Int×Tok)}(S:vz prog w h a xs (vq w)):yJ w a (xs.map λ e=>Value.int e.1 e.2) h:=by
 obtain⟨⟨es,ep,t,ho,he,T,h1,h2,h3⟩,_⟩:=S;have hm:7<=t.mask/\t.mask<=127:=by rcases T.mask with e | e | e <;> omega
 have hlen:es.size=xs.length:=by have:=congrArg List.length he;simpa using this
 exact⟨es,ep,t,⟨ho,fits_of (n:=xs.length) hlen T (by simp) (by omega),T.wa,h1,h2⟩,by rw[he,zD6];rfl⟩
theorem bD:∀ xs:List (Int×Tok),IntsAre (xs.map λ e=>Value.int e.1 e.2) (xs.map (·.1))
 | []=>.nil
 | e::xs=>.cons e.1 e.2 (bD xs)
theorem f_:∀ {us:List Value}{ns:List Int},IntsAre us ns->Vals (ns.map V.int) us
 | _,_,.nil=>.nil
 | _,_,.cons n t h=>.cons ⟨t,rfl⟩ (f_ h)
section
variable {X:Cx}
def Qc (hc:X.calm=true):yK X (.type "set") (λ xs H Q=>∃ p,∃ ns:List Int,xs=[.ref p]/\zN X.K H p (ns.map V.int)/\ns.length<64/\
  ∀ (l:Addr) (us:List Value) (ms:List Int),H l=none->IntsAre us ms->ms.Nodup->(∀ n,n∈ms↔n∈ns)->Q (.ref l) (upd H l (.ext (yJ X.w l us)))):=by
 intro pins s O H xs us Q I r h;obtain⟨p,ns,rfl,hq,h64,q⟩:=h;obtain⟨u,rfl,ru⟩:=vals1 r;cases ru;obtain⟨its,rv,pl,hz⟩:=I.list hq;have hl:=rv.length;rw[zA7] at hl;have iA:IntsAre its ns:=intsAre_of rv;have nums:Nums its.toArray ns:=λ i v hv=>by
  have hv':its[i]?=some v:=by simpa using hv
  have hi:i<ns.length:=by rw[hl];exact (zA2.mp hv').1
  obtain⟨u,e1,t,e2⟩:=rv.get (i:=i) (x:=V.int ns[i]) (by simp[hi]);rw[hv'] at e1;cases e1;exact⟨ns[i],t,e2,by simp[hi]⟩
 have hh:X.A.handled=none:=I.ok.hd hc;refine Qd (A:=X.A) hh pl.isList nums (by rw[zA0];omega) λ h' tk xs S U k=>?_;have kk:∀ b o,s.heap.get? b=some o->h'.get? b=some o:=λ b o e=>k b o (zA8 e) e;have hSO:=S.at;refine⟨.ref s.heap.objs.size,_,I.laid (t':=tk) (o:=.ext (yJ X.w s.heap.objs.size (xs.map λ e=>Value.int e.1 e.2))) kk (zA4 _) ?_,rfl,q _ _ (xs.map (·.1)) (I.zw.fresh (zA4 _)) (bD xs) S.nd λ n=>⟨λ hn=>?_,λ hn=>?_⟩⟩
 .obtain⟨es,ep,t,St,e⟩:=id hSO;exact⟨hSO,⟨_,St.get⟩,λ h1 h2 S1 k=>S1.tm k⟩
 .obtain⟨e,he,rfl⟩:=zB0.mp hn;obtain⟨j,_,hj⟩:=U.own e he;exact zB7 hj
 .obtain⟨j,hj⟩:=List.mem_iff_getElem?.mp hn;exact U.all j n (by have:=(zA2.mp hj).1;rw[zA0];omega) hj
def RZ (hc:X.calm=true):yK X (.builtin "sorted") (λ xs H Q=>∃ l us,∃ ms:List Int,xs=[.ref l]/\H l=some (.ext (yJ X.w l us))/\IntsAre us ms/\ms.length<64/\
  ∀ (p:Addr) (ns:List Int),H p=none->ns.Perm ms->ns.Pairwise (·<=·)->Q (.ref p) (upd H p (.lst (ns.map V.int)))):=by
 intro pins s O H xs us0 Q I r h;obtain⟨l,us,ms,rfl,hl,hm,h64,q⟩:=h;obtain⟨u,rfl,ru⟩:=vals1 r;cases ru;obtain⟨⟨es,ep,t,S,eu⟩,-,-⟩:=(show yZ X.prog X.w H s.heap l (.ext (yJ X.w l us)) from I.zw l _ hl)
 have hlen:es.size=us.length:=by rw[<- eu];simp
 have hml:=hm.length;have hh:X.A.handled=none:=I.ok.hd hc;have hp:((comes X.w l es ep).toList.map (·.2)).Perm us:=by rw[<- eu];exact (pd X.w l es ep).map _
 obtain⟨ms',i1,i2⟩:=Si hp hm;have hcl:=hp.length_eq;have hl24:sizeLine=16777216:=rfl;refine eL (Out:=λ out=>∃ ns',IntsAre out.toList ns'/\ns'.Perm ms'/\ns'.Pairwise (·<=·)) hh S (by rw[hlen,hml];omega) (λ s6 h2 k=>L4.RM i1 (by rw[hcl,<- hlen];exact h2) (by rw[hcl,hml];exact h64)) (λ h1=>⟨ms',by simpa using i1,.refl _,?_⟩) λ out h' tk p ho hs hp' k hat=>?_
 .have:ms'.length<2:=by rw[<- i1.length,hcl,<- hlen];exact h1
  match ms',this with
  | [],_=>exact .nil
  | [_],_=>exact List.pairwise_singleton _ _
 .obtain⟨ns,g1,g2,g3⟩:=ho;obtain⟨e,he⟩:=hat;refine⟨.ref p,_,I.laid (t':=tk) (o:=.lst (ns.map V.int)) k hp' ?_,rfl,q p ns (I.zw.fresh hp') (g2.trans i2) g3⟩;exact⟨by rw[zA7,g2.length_eq,i2.length_eq];omega,out.toList,e,f_ g1,by simpa using he⟩
end
end ST
namespace L5
open PySem PySem.Spec L2 L3
open PyProof.Rows hiding St
noncomputable def insI (n:Int):List Int->List Int
 | []=>[n]
 | m::l=>if n<m then n::m::l else if n=m then m::l else m::insI n l
noncomputable def xY:List Int->List Int
 | []=>[]
 | n::ns=>insI n (xY ns)
theorem jR {n k:Int}:∀ {l:List Int},k∈insI n l↔k=n\/k∈l
 | []=>by simp[insI]
 | m::l=>by
  unfold insI;split
  .simp
  .split
   .rename_i h;subst h;simp
   .rw[zA5,jR,zA5];constructor
    .rintro (h | h | h)
     .exact .inr (.inl h)
     .exact .inl h
     .exact .inr (.inr h)
    .rintro (h | h | h)
     .exact .inr (.inl h)
     .exact .inl h
     .exact .inr (.inr h)
theorem lj {k:Int}:∀ {l:List Int},k∈xY l↔k∈l
 | []=>.rfl
 | n::l=>by unfold xY;rw[jR,lj,zA5]
theorem bG {n:Int}:∀ {l:List Int},l.Pairwise (· < ·)->(insI n l).Pairwise (· < ·)
 | [],_=>List.pairwise_singleton _ _
 | m::l,h=>by
  have h':=List.pairwise_cons.mp h;unfold insI;split
  .rename_i c;refine List.pairwise_cons.mpr ⟨λ x hx=>?_,h⟩;rcases zA5.mp hx with e | e
   .rw[e];exact c
   .exact Int.lt_trans c (h'.1 x e)
  .split
   .exact h
   .rename_i c1 c2;refine List.pairwise_cons.mpr ⟨λ x hx=>?_,bG h'.2⟩;rcases jR.mp hx with e | e
    .rw[e];omega
    .exact h'.1 x e
theorem ez:∀ l:List Int,(xY l).Pairwise (· < ·)
 | []=>.nil
 | n::l=>bG (ez l)
def Yk {l m:List Int}(h1:l.Nodup) (h2:l.Pairwise (·<=·)) (h3:m.Pairwise (· < ·)) (h:∀ k,k∈l↔k∈m):l=m:=by
 have nm:m.Nodup:=h3.imp λ h e=>by omega
 refine L4.jt (r:=λ a b:Int=>a<=b) (λ a b p q=>by omega) ((List.perm_ext_iff_of_nodup h1 nm).mpr h) h2 (h3.imp λ h=>by omega)
section
variable {X:Cx}{K:zFr}{e:Expr}{tA:yk}{pos pos2 p p2:Pos}
def oT:xx:=λ ds S Q=>uh ds S Q\/∃ d,∃ ns:List Int,ds=[d]/\(∀ ts,d≠.tup ts)/\yf d S=some (ns.map D.int)/\ns.length<64/\∀ l,S l=none->Q (.ref l) (ups S l (.lst ((xY ns).map D.int)))
noncomputable def wR:List T->Option T
 | [.lst ts]=>match vJ ts with
  | some ns=>if ns.length<64 then some (.lst ((xY ns).map T.int)) else none
  | none=>mC [.lst ts]
 | _=>none
def SF:vW zH wR oT:=λ S Z ys z ds Q hz hv e hq=>by
 unfold wR at e;split at e
 .split at e
  .rename_i ns hns;split at e
   .rename_i hc;cases e;cases oI hns;obtain⟨d,rfl,h1⟩:=v_ hv;obtain⟨es,h2,h3⟩:=h1.seq rfl;cases tw.mp h3;refine .inr ⟨d,ns,rfl,?_,h2,hc,λ l hl=>hq _ _ (.new hl _) (sr hz hl (tw.mpr rfl))⟩;obtain⟨_,q | ⟨a,q,_⟩,_⟩:=h1.lst <;> subst q <;> exact λ _=>nofun
   .cases e
  .exact .inl (SG S Z _ z ds Q hz hv e hq)
 .cases e
theorem oT.mo:vV oT:=λ ds S Q Q' hq h=>by
 rcases h with h | ⟨d,ns,h1,h2,h3,h4,h5⟩
 .exact .inl (uh.mo ds S Q Q' hq h)
 .exact .inr ⟨d,ns,h1,h2,h3,h4,λ l hl=>hq _ _ (h5 l hl)⟩
def Rf {w:World}{xs:List V}{H:Hp}{S:SS}{Q:VK}{d:D}{ns:List Int}(h0:zm K H [d] xs) (h2:zI K H S) (hn:∀ ts,d≠.tup ts) (e:yf d S=some (ns.map D.int)) (h64:ns.length<64) (h:∀ l,S l=none->wu K H Q (.ref l) (ups S l (.lst ((xY ns).map D.int)))):
  ∃ p,∃ ns':List Int,xs=[.ref p]/\zN K H p (ns'.map V.int)/\ns'.length<64/\
   ∀ (l:Addr) (us:List Value) (ms:List Int),H l=none->IntsAre us ms->ms.Nodup->(∀ n,n∈ms↔n∈ns')->
    ∃ l' us',∃ ms':List Int,[V.ref l]=[.ref l']/\(upd H l (.ext (ST.yJ w l us))) l'=some (.ext (ST.yJ w l' us'))/\IntsAre us' ms'/\ms'.length<64/\
     ∀ (p:Addr) (ns:List Int),(upd H l (.ext (ST.yJ w l us))) p=none->ns.Perm ms'->ns.Pairwise (·<=·)->Q (.ref p) (upd (upd H l (.ext (ST.yJ w l us))) p (.lst (ns.map V.int))):=by
 obtain⟨x,hx,h1⟩:=h0.one;subst hx;obtain⟨a,ys,rfl,g1,g2⟩:=qy h1 h2 e hn;rw[g2.ints] at g1;refine⟨a,ns,rfl,g1,h64,λ l us ms hf hi nd hmem=>⟨l,us,ms,rfl,yL,hi,?_,λ p ns2 hp pm srt=>?_⟩⟩
 .have:=ST.jN ms ns nd λ x hx=>(hmem x).mp hx;omega
 .have x1:Ext H (upd H l (.ext (ST.yJ w l us))):=.new hf _;have hpl:p≠l:=λ z=>by subst z;rw[yL] at hp;cases hp
  have hpH:H p=none:=by rw[yE hpl] at hp;exact hp
  have x2:Ext (upd H l (.ext (ST.yJ w l us))) (upd (upd H l (.ext (ST.yJ w l us))) p (.lst (ns2.map V.int))):=.new hp _;have heq:ns2=xY ns:=Yk (pm.nodup_iff.mpr nd) srt (ez ns) λ k=>by rw[pm.mem_iff,hmem,lj]
  refine h p (h2.none hpH) _ _ (by simp only[zg]) (x1.trans x2) ((h2.new hf).ups x2 ⟨_,yL,?_⟩);rw[<- heq];exact zm.jJ ns2
def mX {k:Nat}(hr:yx k X.A) (hm:X.mg "sorted"=none) (hm2:X.mg "set"=none) (ha:xE X [e] tA) (hc:X.calm=true:=by rfl) (hg:Gl X "sorted":=by rfl) (hg2:Gl X "set":=by rfl)
  (he2:starEach [e] X.env=(false,eval e X.env)::starEach [] X.env:=by rfl)
  (he:starEach [.Call (.Name "set" p2) [e] [] pos2] X.env=(false,eval (.Call (.Name "set" p2) [e] [] pos2) X.env)::starEach [] X.env:=by rfl) (hpl:(backTo pos (starEach [] X.env)).any (·.1)=false:=by rfl) (hpl2:(backTo pos2 (starEach [] X.env)).any (·.1)=false:=by rfl):
  PD X (.Call (.Name "sorted" p) [.Call (.Name "set" p2) [e] [] pos2] [] pos) (xA oT tA):=by
 have h:=su (p:=p) (yK.or (ST.R_ hc) (ST.RZ hc)) hg hm boot_sorted (rL (oj (yK.or (ST.Qb hc hr.units) (ST.Qc hc)) hg2 hm2 PyProof.Rows.boot_set ha.pa (by decide) (by decide) he2 hpl2) qI he) (by decide) (by decide) he hpl;refine⟨xA.mo oT.mo ha.mo,PE.imp h fun O H Q hu=>?_⟩;obtain⟨Y,S,r1,r2,z⟩:=hu;refine xZ.go ha.mo r1 r2 z λ ds S1 xs H1 h1 q1 e1 p1=>?_;rcases h1 with h1 | ⟨d,ns,rfl,c1,c2,c3,h1⟩
 .obtain⟨p,ys,rows,a1,a2,a3,a4,a5⟩:=uh.fits (w:=X.w) xs ds H1 S1 Q q1 p1 (uh.mo ds S1 _ _ (λ d S' z=>z.ext e1) h1);exact .inl ⟨p,ys,rows,a1,a2,a3,a4,λ l us vs rs b1 b2 b3=>.inl (a5 l us vs rs b1 b2 b3)⟩
 .obtain⟨p,ns',a1,a2,a3,a4⟩:=Rf (w:=X.w) q1 p1 c1 c2 c3 (λ l hl=>(h1 l hl).ext e1);exact .inr ⟨p,ns',a1,a2,a3,λ l us ms b1 b2 b3 b4=>.inr (a4 l us ms b1 b2 b3 b4)⟩
end
end L5
namespace HT
open PySem PyProof.Rows
section
variable {prog:Program}{w:World}{A:Around}{E:Value->Shared->Prop}{s:Shared}
end
end HT
namespace L2
open PySem PySem.Spec PyProof.Rows
section
variable {X:Cx}{e st:Expr}{te:TE}{pos p2:Pos}
end
end L2
namespace L5
open PySem PySem.Spec L2 L3
open PyProof.Rows hiding St
section
variable {X:Cx}{K:zFr}{e st:Expr}{te:zt}{pos p2 p3 p4:Pos}
noncomputable def jK:Sm:=λ _=>none
def aE:yI:=λ _ _ _=>False
def dQ {st:Stmt}:ve X st aE:=⟨λ _ _ _ _ _ h=>h.elim,λ _ _ _ _ _ _ ⟨_,_,_,_,h⟩=>h.elim⟩
def VE {R:Rk}:yD R jK aE:=λ S0 Z0 S Z Y J o E F e P=>by cases e
end
end L5
namespace L5
open PySem L2 L3
def i7:Good2 zH qO iM:=i8 (λ _ _ _=>vj) λ _ _ _=>nofun
def i9:Good2 zH iG iO:=i8 (λ _ _ _=>vj) λ _ _ _=>nofun
end L5
namespace L5
open PySem PySem.Spec L2 L3
open PyProof.Rows hiding St
section
variable {X:Cx}{e:Expr}{te:zt}{pos p q:Pos}
end
end L5
namespace L3
open PySem PyProof.Rows L2
section
variable {X:Cx}{pos:Pos}
noncomputable def wE (E:rj) (W:Nat->yc->SS->Prop) (m:Nat):rj:={ E with nx:=fun Y' S'=>∃ m',m'<m/\W m' Y' S',ct:=fun Y' S'=>∃ m',m'<m/\W m' Y' S',bk:=E.nx }
def nc (c:y9) (tb:yI):yI:=λ E Y S=>∃ W:Nat->yc->SS->Prop,(∃ m,W m Y S)/\∀ m Y S,W m Y S->
 c Y S λ b S1=>if b=true then tb (wE E W m) Y S1 else E.nx Y S1
def nc.mo {c:y9}{tb:yI}(hc:w6 c) (hb:uU tb):uU (nc c tb):=λ E E' Y S hE ⟨W,w0,ws⟩=>
 ⟨W,w0,λ m Y S hw=>hc Y S _ _ (λ b S1 z=>wH (λ z=>hb (wE E W m) (wE E' W m) Y S1 ⟨λ _ _ q=>q,hE.rt,hE.nx,λ _ _ q=>q⟩ z) (λ z=>hE.nx _ _ z) z) (ws m Y S hw)⟩
def dP {c:Expr}{body:List Stmt}{tc:y9}{tb:yI}(hp:PassesOwn (model X.prog X.w) X.A X.env X.xe) (hc:xD X c tc) (hb:vU X body tb):ve X (.While c body [] pos) (nc tc tb):=by
 refine⟨nc.mo hc.mo hb.mo,PS.imp (XX hp hc.pt hb.ps) λ D O H hu=>?_⟩;obtain⟨Y,S,r1,r2,W,⟨m0,w0⟩,ws⟩:=hu;refine⟨λ m O' H'=>Ext H H'/\∃ Y S,yQ X.K H' Y O'/\zI X.K H' S/\W m Y S,⟨m0,.refl _,Y,S,r1,r2,w0⟩,?_⟩;rintro m O2 H2 ⟨x2,Y2,S2,q1,q2,w2⟩;refine xR.go hc.mo q1 q2 (ws m Y2 S2 w2) λ k S3 H3 h3 e3 p3=>wH (λ z=>?_) (λ z=>?_) h3
 .refine⟨fun O' H'=>Ext H H'/\∃ Y S m',m'<m/\yQ X.K H' Y O'/\zI X.K H' S/\W m' Y S,fun O' H' ⟨a,Y',S',m',b,c,d,e⟩=>⟨m',b,a,Y',S',c,d,e⟩,Y2,S3,q1.ext e3,p3,?_⟩;exact hb.mo (wE (uN X.K H D) W m) _ Y2 S3 ⟨fun Y5 S5 ⟨m',b,w5⟩ O5 H5 b1 b2 b3=>⟨(x2.trans e3).trans b2,Y5,S5,m',b,b1,b3,w5⟩,λ _ _ q=>wu.ext (x2.trans e3) q,λ _ _ q=>wL.ext (x2.trans e3) q,fun Y5 S5 ⟨m',b,w5⟩ O5 H5 b1 b2 b3=>⟨(x2.trans e3).trans b2,Y5,S5,m',b,b1,b3,w5⟩⟩ z
 .exact z O2 H3 (q1.ext e3) (x2.trans e3) p3
end
end L3
namespace L5
open PySem PyProof.Rows L2 L3
noncomputable def xU (is:List Nat) (c:Ev->Option Bool) (b:Sm):Nat->Ev->Option Out
 | 0,_=>none
 | n+1,J=>(c (y7 is J)).bind λ k=>if k=true then (b (y7 is J)).bind λ o=>match o with
   | .nx J2=>xU is c b n J2
   | .ct J2=>xU is c b n J2
   | .bk J2=>some (.nx (y7 is J2))
   | .rt t=>some (.rt t)
  else some (.nx (y7 is J))
noncomputable def pL (n:Nat) (is:List Nat) (c:Ev->Option Bool) (b:Sm):Sm:=xU is c b n
def VD {R:Rk} [Lo R] {n:Nat}{is:List Nat}{c:Ev->Option Bool}{tc:y9}{b:Sm}{tb:yI}(hc:wO c tc) (hb:yD R b tb):yD R (pL n is c b) (nc tc tb):=λ S0 Z0 S Z Y J o E F e P=>by
 obtain⟨SB,b1,FB,b2⟩:=F.rebase;have lo:∀ S' d y,R SB S' Z0 y d->R S0 S' Z0 y d:=λ S' d y r=>Lo.lo b1 (λ _ z=>z) r;refine⟨λ m Y' S'=>∃ Z' J',FR SB Z0 S' Z' Y' J'/\xU is c b m J'=some o,⟨n,Z,J,FB,e⟩,λ m Y' S' ⟨Z',J',F',e'⟩=>?_⟩;cases m with
 | zero=>cases e'
 | succ m=>
  unfold xU at e';obtain⟨k,c1,e'⟩:=zOb e';have G:=F'.y7 is;refine hc S' Z' Y' _ k _ G.er c1 λ S3 s3=>?_;cases k with
  | true=>
   rw[if_pos rfl] at e' ⊢;obtain⟨o1,g2,e'⟩:=zOb e';refine hb SB Z0 S3 Z' Y' _ o1 _ (G.grow s3) g2 ?_;cases o1 with
   | nx J2=>exact λ S3 Z3 Y3 F3=>⟨m,zE2 m,Z3,J2,F3,e'⟩
   | ct J2=>exact λ S3 Z3 Y3 F3=>⟨m,zE2 m,Z3,J2,F3,e'⟩
   | bk J2=>cases e';exact λ S3 Z3 Y3 F3=>P S3 Z3 Y3 ((F3.y7 is).back b1 F.z0)
   | rt y=>cases e';exact λ d S3 s3 r3=>P d S3 (b1.trans s3) (lo _ _ _ r3)
  | false=>
   rw[if_neg (by decide)] at e' ⊢;cases e';exact P S3 Z' Y' ((G.grow s3).back b1 F.z0)
end L5
namespace ZP
open PySem PyProof.Rows
set_option maxRecDepth 100000
def Tf (k:Bool) (l:Addr) (xs:Array Value):Meets (Builtin.«enumerate.__new__» ⟨[.type "enumerate",.ref l],[]⟩) (λ _ R s=>SQ s.heap k l xs/\
   R (.ok (.ret (.ref (s.heap.push (oG k l)).objs.size))) { s with heap:=(s.heap.push (oG k l)).push { cls:=.type "enumerate",data:=.fields #[.none,.bool false,.ref s.heap.objs.size,rawInt 0,.none,.none] } }):=
 .of_wp λ prog w A R s h=>by
  obtain⟨hp,g,d,tk,os⟩:=s;obtain⟨q,h⟩:=h;have hsub:=sub_enumerate;have hL:SQ (Shared.heap ⟨hp,g,d,tk,os⟩) k l xs:=q;obtain⟨⟨c,ya,dt,sl⟩,hl,hc⟩:=q.cls;replace hc:c=.type (cond k "tuple" "list"):=hc;subst hc
  wp_walk using AutoSeq1.wpAny_loadPart' hl
  refine wpAny_stack_any λ st=>zD1 ?_;split
  .rename_i c _ _ _ _ _;cases (c == Value.type "enumerate")
   .wp_walk using AutoSeq1.wpAny_loadPart' hl,made hL
    exact⟨_,rfl,h⟩
   .wp_walk using AutoSeq1.wpAny_loadPart' hl,made hL
    exact⟨_,rfl,h⟩
  .wp_walk using AutoSeq1.wpAny_loadPart' hl,made hL
   exact⟨_,rfl,h⟩
section
variable {prog:Program}{w:World}{A:Around}{E:Value->Shared->Prop}{s:Shared}
def Ru {k:Bool}{l:Addr}{xs:Array Value}{Q:Value->Shared->Prop}(hL:SQ s.heap k l xs)
  (h:∀ h',IsEnum h' (s.heap.objs.size+1) s.heap.objs.size 0 .none->SI h' k s.heap.objs.size l 0->(∀ b o,s.heap.get? b=some o->h'.get? b=some o)->Q (.ref (s.heap.objs.size+1)) { s with heap:=h' }):
  wpAny (model prog w) A (call (.type "enumerate") [.ref l]) Q E s:=by
 refine callType_new F.called_enumerate (by decide) (F.typeCall_enumerate_1 _) (F.newCall_enumerate_1 _) (λ obj=>F.args_object_init_2 obj _) F.entry_enumerate_new (Tf k l xs) ⟨hL,?_⟩;have hz:(s.heap.push (oG k l)).objs.size=s.heap.objs.size+1:=Heap.size_push ..;show _/\_;rw[hz];have he:IsEnum ((s.heap.push (oG k l)).push { cls:=.type "enumerate",data:=.fields #[.none,.bool false,.ref s.heap.objs.size,rawInt 0,.none,.none] }) (s.heap.objs.size+1) s.heap.objs.size 0 .none:=by
  have:=zA9 (s.heap.push (oG k l)) (o:={ cls:=.type "enumerate",data:=.fields #[.none,.bool false,.ref s.heap.objs.size,rawInt 0,.none,.none] }) rfl;rw[hz] at this;exact this
 exact⟨⟨_,he,rfl⟩,h _ he ⟨_,zHp _ (zA9 _ rfl),rfl,rfl⟩ λ b o x=>zHp _ (zHp _ x)⟩
def R4 (hh:A.handled=none) (k:Bool) (it l:Addr) (hne:l≠it) (xs:Array Value):Draws prog w A it [it,l] xs.size (λ i v=>xs[i]?=some v) (λ i h=>SI h k it l i/\SQ h k l xs) where
 live:=λ _ _ st=>let ⟨o,ho,_⟩:=st.1;⟨o,ho⟩
 frame:=λ _ _ _ st hk=>⟨st.1.on λ o e=>hk it (by simp) o e,st.2.on λ o e=>hk l (by simp) o e⟩
 item:=λ i s Q E hi st hQ=>draw st.1 st.2 (x:=xs[i]) (by simp[hi]) λ h' hit' hs'=>hQ _ h' s.toks (by simp[hi]) ⟨hit',st.2.on λ o e=>(hs'.2 l hne).trans e⟩ hs'
 done:=λ s Q E st hE=>aw hh st.1 st.2 (by simp) hE
end
end ZP
namespace L2
open PySem PySem.Spec PyProof.Rows ZP
section
variable {X:Cx}{pins:List (Addr×Obj)}{O:St}{H:Hp}{s:Shared}
def Zw (K:zFr) (k:Bool) (a:Addr):It:=
 ⟨λ i H=>∃ xs x,uR K H k a xs/\xs[i]?=some x,
   λ i H v H'=>∃ p x,v=.ref p/\H p=none/\H'=upd H p (.tup [.int i,x])/\∀ xs,uR K H k a xs->xs[i]?=some x,
   λ i H=>∃ xs,uR K H k a xs/\xs.length<=i⟩
def Yw {P:Program}{w:World}{K:zFr}{es:List Expr}{kk} {pos:Pos}{k:Bool}{e it a:Addr}(hei:e≠it) (hea:e≠a) (hai:a≠it):
  Turn P w K (.Tuple es kk pos) (Zw K k a) [e,it] e (λ i h=>(∃ old,IsEnum h e it i old)/\SI h k it a i) where
 mem:=by simp
 obj:=λ i h st b hb=>by
  obtain⟨⟨old,q1⟩,o1,q2,_,d1⟩:=st;simp only[zA5,List.not_mem_nil,or_false] at hb;rcases hb with e | e <;> subst e
  .exact⟨_,q1,λ v z=>by cases z⟩
  .exact⟨_,q2,λ v z=>by rw[d1] at z;cases z⟩
 keep:=λ i h h' st k=>⟨let ⟨old,q⟩:=st.1;⟨old,k e (by simp) _ q⟩,st.2.on λ o q=>k it (by simp) o q⟩
 item:=by
  intro X hP hw hK hc i pins s O H E I hf st hg;subst hP hw hK;obtain⟨xs,x,g1,hx⟩:=hg;obtain⟨its,rv,q1⟩:=g1.of I;obtain⟨u1,e1,r1⟩:=rv.get hx;obtain⟨⟨old,he⟩,si⟩:=st;have hlt:i<its.toArray.size:=by have:=(zA2.mp e1).1;simpa using this
  have D:=R4 (prog:=X.prog) (w:=X.w) (A:=X.A.in1) (show X.A.in1.handled=none from I.ok.hd hc) k it a hai its.toArray;refine wpAny_pyNext_enum_itemD D he ⟨si,q1⟩ hlt hei (by simp[hei,hea]) λ u h' tk hP ho hs' hT hsz hk=>⟨_,rfl,?_⟩;have hu:u=u1:=by simp only[List.getElem?_toArray,e1] at hP;exact (zD5 hP).symm
  subst hu;have nT:s.heap.objs.size∉[e,it]:=λ hb=>by
   simp only[zA5,List.not_mem_nil,or_false] at hb;obtain⟨oi,qi,_⟩:=si;rcases hb with z | z
   .exact absurd (zA8 he) (by rw[<- z];exact zE1 _)
   .exact absurd (zA8 qi) (by rw[<- z];exact zE1 _)
  have ne:s.heap.objs.size≠e:=λ z=>nT (by simp[z]);refine wpAny_letOwnedTupleGo_enum ho λ h2 he2 sb=>?_;have fr:H s.heap.objs.size=none:=I.zw.fresh (zA4 _);have I1:Inv X pins O (upd H s.heap.objs.size (.tup [.int i,x])) { s with heap:=s.heap.push { cls:=.type "tuple",data:=.seq [.int i tk,u].toArray },toks:=s.toks }:=
   I.laid (o:=.tup [.int i,x]) (λ b u q=>zHp _ q) (zA4 _) ⟨by show 2<=sizeLine;decide,[.int i tk,u],.cons ⟨tk,rfl⟩ (.cons r1 .nil),IsTup.new _ _⟩
  have hf':∀ b∈[e,it],upd H s.heap.objs.size (.tup [.int i,x]) b=none:=λ b hb=>by
   rw[yE (λ z=>nT (by rw[<- z];exact hb))];exact (hf b hb).1
  have kk:∀ b o,b∉[e,it]->(s.heap.push { cls:=.type "tuple",data:=.seq [.int i tk,u].toArray }).get? b=some o->h2.get? b=some o:=λ b o hb q=>by
   have hbe:b≠e:=λ z=>hb (by simp[z]);have hbi:b≠it:=λ z=>hb (by simp[z]);by_cases hbs:b=s.heap.objs.size
   .subst hbs;rw[zA9 _ rfl] at q;cases q;exact sb.extBut _ _ hbe hT
   .have q':s.heap.get? b=some o:=by rw[Heap.get?_push_ne _ _ _ hbs] at q;exact q
    exact sb.extBut _ _ hbe (hk b o hbe hbi q')
  have I2:=Inv.eC (h':=h2) (t':=tk+1) (fp:=[e,it]) I1 kk λ b hb=>⟨hf' b hb,(hf b hb).2⟩;refine⟨.ref s.heap.objs.size,_,I2,rfl,⟨_,x,rfl,fr,rfl,λ zs hz=>by rw[hz.inj I g1];exact hx⟩,⟨⟨_,by simpa using he2⟩,hs'.1.on λ o q=>(sb.2 it (Ne.symm hei)).trans q⟩,hf'⟩
 done:=by
  intro X hP hw hK hc i pins s O H E I hf st hg;subst hP hw hK;obtain⟨xs,g1,hx⟩:=hg;obtain⟨its,rv,q1⟩:=g1.of I;have l1:=rv.length;obtain⟨⟨old,he⟩,si⟩:=st;have hT:s.TypeIs (.ref e) "enumerate":=⟨_,he,rfl⟩
  unfold pyNext;refine zWb (wpAny_attempt (wpAny_callSpecial?_slot (name:=Str.ofString "__next__") hT F.slot_enumerate_next
   (wpAny_call_entry F.slot_enumerate_next hT F.entry_enumerate_next ?_ (F.args_enumerate_next_1 _))))
  show wpAny _ _ (field (.ref e) 2 >>= _) _ _ _;refine zWb (wpAny_field he rfl (x:=.ref it) rfl ?_);refine zWb (aw (show X.A.in1.handled=none from I.ok.hd hc) si q1 (by simp;omega) λ h' x he' hx'=>?_);obtain⟨o,ho,hc⟩:=hx';refine zWb (wpAny_isInstance (T:="StopIteration") (b:=true) ⟨o,ho,hc⟩ isSubtype_stop ?_);exact zD1 ⟨rfl,I.eC (t':=s.toks) (fp:=[e,it]) (λ b o hb q=>he' b o (λ z=>hb (by simp[z])) q) hf⟩
 self:=λ _ _ _ _ _ st h=>let ⟨_,q⟩:=st.1;wpAny_pyIter_enum q h
def Su (K:zFr) (ta:TA):TI:=fun O H R=>ta O H λ vs H1=>∃ a k,vs=[.ref a]/\(∃ xs,uR K H1 k a xs)/\R (Zw K k a) H1
def Wn {a:Expr}{ta:TA}{p pos pos':Pos}{es:List Expr}{kk} (hg:Gl X "enumerate") (hm:X.mg "enumerate"=none) (ha:PA X [a] ta) (hs:starEach [a] X.env=[(false,eval a X.env)]:=by rfl):
  PI X (.Tuple es kk pos') (.Call (.Name "enumerate" p) [a] [] pos) (Su X.K ta):=by
 intro pins s O H R I h;refine Call_ (qQ I hg hm boot_enumerate (PyProof.Rows.callWith_type1 (zF (ha pos pins s O H _ I h) λ us s1 ⟨vs,H1,I1,r1,q1⟩=>?_) (by rw[hs];rfl) rfl));obtain⟨a1,k,rfl,⟨xs,g1⟩,q⟩:=q1;cases r1 with
 | cons r rr=>
  cases rr;cases r;obtain⟨it1,_,q1⟩:=g1.of I1;have la:=q1.lt;refine ZP.Ru q1 λ h' E S up=>wpAny_pyIter_enum E ?_;have nw:∀ b∈[s1.heap.objs.size+1,s1.heap.objs.size],s1.heap.objs.size<=b:=λ b hb=>by
   simp only[zA5,List.not_mem_nil,or_false] at hb;rcases hb with z | z <;> rw[z]
   .exact Nat.le_succ _
   .exact zA4 _
  exact⟨_,[s1.heap.objs.size+1,s1.heap.objs.size],_,_,H1,rfl,I1.kept (t':=s1.toks) up,Yw (Nat.succ_ne_self _) (Nat.ne_of_gt (Nat.lt_succ_of_lt la)) (zB3 la),⟨⟨_,E⟩,S⟩,λ b hb=>I1.lA (nw b hb) (I1.zw.fresh (nw b hb)),q⟩
end
end L2
namespace L5
open PySem PySem.Spec L2 L3
open PyProof.Rows hiding St
noncomputable def uM (k:Nat):List D->List D
 | []=>[]
 | d::ds=>.tup [.int k,d]::uM (k+1) ds
noncomputable def sP (k:Nat):List T->List T
 | []=>[]
 | d::ds=>.tup [.int k,d]::sP (k+1) ds
theorem aq:∀ (ds:List D) (k i:Nat),(uM k ds)[i]?=(ds[i]?).map λ d=>D.tup [.int ((k+i:Nat):Int),d]
 | [],k,i=>by simp[uM]
 | d::ds,k,0=>by simp[uM]
 | d::ds,k,i+1=>by
  unfold uM;rw[List.getElem?_cons_succ,List.getElem?_cons_succ,aq ds (k+1) i,show k+1+i=k+(i+1) from by omega]
theorem ao:∀ (ds:List D) (k:Nat),(uM k ds).length=ds.length
 | [],k=>rfl
 | d::ds,k=>by unfold uM;rw[zC0,ao ds];rfl
theorem eR {S:SS}:∀ {ts:List T}{ds:List D}(k:Nat),zl S ts ds->zl S (sP k ts) (uM k ds)
 | [],ds,k,h=>by simp only[zl] at h;subst h;exact zl.nil
 | t::ts,ds,k,h=>by
  simp only[zl] at h;obtain⟨c,cs,rfl,h1,h2⟩:=h;exact zl.cons (pR (zl.cons (by simp only[Sn]) (zl.cons h1 zl.nil))) (eR (k+1) h2)
section
variable {X:Cx}{K:zFr}{a:Expr}{tA:yk}{pos p pos':Pos}{es:List Expr}{kk:Nat}
def bh (t:yk):wx:=fun Y S R=>t Y S λ ds S1=>∃ d xs,ds=[d]/\yf d S1=some xs/\R ⟨uM 0 xs,λ S=>yf d S=some xs⟩ S1
def dR (hm:X.mg "enumerate"=none) (ha:xE X [a] tA) (hg:Gl X "enumerate":=by rfl) (hs:starEach [a] X.env=[(false,eval a X.env)]:=by rfl):
  ra X (.Tuple es kk pos') (.Call (.Name "enumerate" p) [a] [] pos) (bh tA):=by
 refine⟨fun Y S Q Q' hq z=>ha.mo Y S _ _ (λ ds S1 ⟨d,xs,h1,h2,h4⟩=>⟨d,xs,h1,h2,hq _ _ h4⟩) z,PI.imp (Wn hg hm ha.pa hs) fun O H R hu=>?_⟩;obtain⟨Y,S,r1,r2,z⟩:=hu;refine xZ.go ha.mo r1 r2 z λ ds S1 vs H1 h1 q1 e1 p1=>?_;obtain⟨d,xs,rfl,s1,h⟩:=h1;obtain⟨v,rfl,d1⟩:=q1.one;obtain⟨a1,us,rfl,g1,g2⟩:=yf.k d1 p1 s1;refine⟨a1,ic d,rfl,⟨us,g1⟩,h _ H1 e1 p1 λ i H2 S2 x1 x2 hk=>?_⟩;obtain⟨b1,us2,q1,m1,m2⟩:=yf.k (zg.ext x1 d d1) x2 hk;cases q1;have l1:=m2.length;refine⟨λ dd hd=>?_,λ hl=>⟨us2,m1,?_⟩⟩
 .rw[aq,Nat.zero_add] at hd;obtain⟨dx,hx,rfl⟩:=zOm hd;obtain⟨x,hx',rx⟩:=m2.get hx;refine⟨⟨us2,x,m1,hx'⟩,λ v H' q=>?_⟩;obtain⟨pp,x',rfl,hp,rfl,f1⟩:=q;have ex:x'=x:=by have:=f1 _ m1;rw[hx'] at this;exact (zD5 this).symm
  subst ex;refine⟨.new hp _,x2.new hp,?_⟩;simp only[zg];exact⟨pp,_,rfl,zS.of yL,zm.ext (.new hp _) _ (.cons (by simp only[zg]) (.cons rx .nil))⟩
 .have hl':(uM 0 xs).length<=i:=hl;rw[ao] at hl';omega
@[simp] noncomputable def sQ:List T->Option (List T)
 | [x]=>(x_ x).map λ xs=>sP 0 xs
 | _=>none
def VP {g:Ev->Option (List T)}(h:qj g tA):qh false (wX sQ g) (bh tA):=λ S Z Y J ts Q hE e hq=>by
 obtain⟨ys,e1,e2⟩:=zOb e;refine h S Z Y J ys _ hE e1 λ ds S1 s1 r1=>?_;unfold sQ at e2;split at e2
 .obtain⟨xs,e3,rfl⟩:=zOm e2;obtain⟨d,rfl,h1⟩:=v_ r1;obtain⟨es,g1,g2⟩:=h1.seq e3;exact⟨d,es,rfl,g1,hq _ S1 s1 (eR 0 g2) λ S'' s=>yf.sx g1 s⟩
 .cases e2
end
end L5
namespace TM
open PySem PyProof.Rows
set_option maxRecDepth 100000
def RE (i:Int) (t:Tok) (l:Addr) (items:Array Value) (n:Nat) (dd:Option Addr) (sl:Array (Option Value)):
  Meets (Builtin.«int.__rmul__» ⟨[.int i t,.ref l],[]⟩) (λ _ R s=>s.heap.get? l=some { cls:=.type "list",dict:=dd,data:=.seq items n,slots:=sl }/\R (.ok (.ret Value.notImplemented)) s):=
 .of_wp λ prog w A R s h=>by
  obtain⟨hp,g,d,tk,os⟩:=s;obtain⟨hl,h⟩:=h
  wp_walk
  exact⟨_,rfl,h⟩
def mulL (l:Addr) (items:Array Value) (n:Nat) (x:Int) (u:Tok) (dd:Option Addr) (sl:Array (Option Value)) (hc0:¬(!Builtin.List.listFitsIndex x)=true) (hc1:¬items.size*x.toNat>(2 ^ 63-1)/8) (hc2:¬Builtin.List.listTooLong (items.size*x.toNat)=true):
  Meets (Builtin.«list.__mul__» ⟨[.ref l,.int x u],[]⟩) (λ _ R s=>s.heap.get? l=some { cls:=.type "list",dict:=dd,data:=.seq items n,slots:=sl }/\R (.ok (.ret (Value.ref s.heap.objs.size))) { s with heap:=s.heap.push { cls:=.type "list",data:=.seq (List.foldl (λ x1 x2=>x1++x2) #[] (List.replicate (if items.isEmpty=true then 0 else x.toNat) items)) } }):=
 .of_wp λ prog w A R s h=>by
  obtain⟨hp,g,d,tk,os⟩:=s;obtain⟨hl,h⟩:=h;have hsz:=AutoListH.joined_fits hc2
  wp_walk;refine wpAny_ite_false (decide_eq_false (Nat.not_lt.mpr hsz)) ?_;wp_walk;exact⟨_,rfl,h⟩
section
variable {prog:Program}{w:World}{A:Around}{E:Value->Shared->Prop}{s:Shared}
def Y0 {l:Addr}{its:List Value}{k:Int}{t:Tok}{Q:Value->Shared->Prop}(ht:PlainL s.heap l its.toArray) (hne:its≠[]) (h0:0<=k) (hz:its.length*k.toNat<=sizeLine)  (hk:k<=1000000)
  (more:Q (.ref s.heap.objs.size) { s with heap:=s.heap.push { cls:=.type "list",data:=.seq (List.replicate k.toNat its).flatten.toArray } }):
  wpAny (model prog w) A (binaryOp .Mult (.ref l) (.int k t)) Q E s:=by
 obtain⟨⟨cls,dd,data,sl⟩,n,ho,hc,he,hd⟩:=id ht;simp only at hc hd he;subst hc hd he;have hl:sizeLine=16777216:=rfl;have hem:its.toArray.isEmpty=false:=by cases its with
  | nil=>exact absurd rfl hne
  | cons a r=>rfl
 have hf:List.foldl (λ x1 x2=>x1++x2) #[] (List.replicate (if its.toArray.isEmpty=true then 0 else k.toNat) its.toArray)=(List.replicate k.toNat its).flatten.toArray:=by
  rw[hem,if_neg (by decide)];have:=iK its k.toNat #[];simpa using this
 refine wpAny_binaryOp_repeat_ref (T:="list") (U:="int") (by decide) ⟨_,ho,rfl⟩ (λ s'=>typeIs_int s' k t) noFill_list_mul F.fills_int_mul F.slot_int_rmul repeat_list F.slot_int_index.lookup
  (call_meets F.slot_int_rmul (typeIs_int s k t) F.entry_int_rmul (F.args_int_rmul_2 _ _) (RE k t l its.toArray n none sl)
   ⟨ho,rfl,⟨_,ho,rfl⟩,call_meets F.slot_list_mul ⟨_,ho,rfl⟩ F.entry_list_mul (F.args_list_mul_2 _ _)
    (mulL l its.toArray n k t none sl (by simp[Builtin.List.listFitsIndex];omega) (by simp;omega) (by simp[Builtin.List.listTooLong];omega)) ⟨ho,?_⟩⟩)
 rw[hf];exact more
end
end TM
namespace L2
open PySem PySem.Spec PyProof.Rows
def jm (K:zFr):R2:=λ x y H Q=>∃ a k xs,x=.ref a/\y=.int k/\zN K H a xs/\xs≠[]/\0<=k/\k<=1000000/\xs.length*k.toNat<=sizeLine/\∀ p,H p=none->Q (.ref p) (upd H p (.lst (List.replicate k.toNat xs).flatten))
def Vt {X:Cx}:yd X (binaryOp .Mult) (jm X.K):=by
 intro pins s O H x y v u Q I rx ry h;obtain⟨a,k,xs,rfl,rfl,hx,hne,h1,h2,hz,q⟩:=h;cases rx;obtain⟨t,rfl⟩:=ry;obtain⟨its,r,ht,_⟩:=I.list hx;have hl:=r.length;refine TM.Y0 ht (λ z=>hne (r.o5.mp z)) h1 (by rw[<- hl];exact hz) h2 ?_;have hlen:(List.replicate k.toNat xs).flatten.length<=sizeLine:=by
  have:(List.replicate k.toNat xs).flatten.length=k.toNat*xs.length:=by simp
  rw[this,Nat.mul_comm];exact hz
 exact⟨.ref _,_,I.laid (t':=s.toks) (o:=.lst (List.replicate k.toNat xs).flatten) (λ b ob q=>zHp _ q) (zA4 _) ⟨hlen,_,0,r.rep k.toNat,zA9 _ rfl⟩,rfl,q _ (I.zw.fresh (zA4 _))⟩
end L2
namespace L5
open PySem PySem.Spec L2 L3
open PyProof.Rows hiding St
section
variable {X:Cx}{K:zFr}{a b:Expr}{ta tb:zt}{pos:Pos}
noncomputable def TV:D->Bool
 | .tup _=>true
 | _=>false
def lD:yR:=λ x y S Q=>∃ k ds,y=.int k/\TV x=false/\yf x S=some ds/\(ds≠[]/\0<=k/\k<=1000000/\ds.length*k.toNat<=sizeLine)/\∀ p,S p=none->Q (.ref p) (ups S p (.lst (List.replicate k.toNat ds).flatten))
def sN:yR:=λ x y S Q=>uI x y S Q\/lD x y S Q
noncomputable def uC:T->T->Option T
 | .lst ts,.int k=>if ts≠[]/\0<=k/\k<=1000000/\ts.length*k.toNat<=sizeLine then some (.lst (List.replicate k.toNat ts).flatten) else none
 | x,y=>jP x y
theorem sN.mo:xr sN:=λ x y S Q Q' hq h=>by
 rcases h with h | ⟨k,ds,h1,h2,h3,h4,h5⟩
 .exact .inl (uI.mo x y S Q Q' hq h)
 .exact .inr ⟨k,ds,h1,h2,h3,h4,λ p hp=>hq _ _ (h5 p hp)⟩
def lD.fits:xt K lD (jm K):=λ x y d e H S Q h1 h2 h3 h=>by
 obtain⟨k,ds,rfl,ht,hs,⟨c1,c2,c3,c4⟩,h⟩:=h;simp only[zg] at h2;obtain⟨a,xs,rfl,g1,g2⟩:=qy h1 h3 hs λ ts z=>by subst z;cases ht
 have hl:=g2.length;refine⟨a,k,xs,rfl,h2,g1,λ z=>c1 (by subst z;cases ds with | nil=>rfl | cons _ _=>simp at hl),c2,c3,by rw[<- hl];exact c4,λ p hp=>?_⟩;exact h p (h3.none hp) _ _ (by simp only[zg]) (.new hp _) (h3.ups (.new hp _) ⟨_,yL,zm.ext (.new hp _) _ (zm.rep g2 _)⟩)
theorem sN.fits:xt K sN (λ x y H Q=>(rI v7 (λ i j=>.int (i*j)) x y H Q\/jl K x y H Q)\/jm K x y H Q):=λ x y d e H S Q h1 h2 h3 h=>by
 rcases h with h | h
 .exact .inl (uI.fits x y d e H S Q h1 h2 h3 h)
 .exact .inr (lD.fits x y d e H S Q h1 h2 h3 h)
def SJ:Good2 zH uC sN:=λ S Z x y z d e Q hz hx hy ef hq=>by
 unfold uC at ef;split at ef
 .rename_i ts k;split at ef
  .rename_i hc;cases ef;obtain⟨ds,g1,g2⟩:=hx.seq (ts:=ts) rfl;cases hy.int;have hl:=g2.len;refine .inr ⟨_,ds,rfl,?_,g1,⟨λ q=>hc.1 (by subst q;simpa using hl.symm),hc.2.1,hc.2.2.1,by rw[hl];exact hc.2.2.2⟩,λ p hp=>hq _ _ (.new hp _) (sr hz hp (zl.rep g2 _))⟩;cases d with
   | tup es=>exact absurd hx (by
     intro q;rcases q with q | ⟨us,p,es',_,q,_⟩
     .simp only[Sn] at q;obtain⟨_,⟨q,_⟩ | ⟨_,q,_⟩,_⟩:=q <;> cases q
     .cases q)
   | _=>rfl
  .cases ef
 .exact .inl (bJ S Z x y z d e Q hz hx hy ef hq)
def mY (ha:PD X a ta) (hb:PD X b tb):PD X (.BinOp a .Mult b pos) (yp sN ta tb):=sy ((Vv.or Vs).or Vt) sN.fits sN.mo ha hb
end
end L5
namespace L3
open PySem PySem.Spec PyProof.Rows L2
section
variable {X:Cx}{K:zFr}{e o:Expr}{te to:zt}{apos cpos:Pos}
def sT (to te:zt):zt:=fun Y S Q=>to Y S λ x S1=>match x with
 | .ref p=>(∃ ds,S1 p=some (.lst ds))/\te Y S1 λ y S2=>∃ q ds es,y=.ref q/\S2 p=some (.lst ds)/\S2 q=some (.lst es)/\ds.length+es.length<=sizeLine/\Q .zi (ups S2 p (.lst (ds++es)))
 | _=>False
def sT.mo (h:ye to) (h':ye te):ye (sT to te):=fun Y S Q Q' hq z=>h Y S _ _ (λ x S1 z=>by
 cases x with
 | ref p=>exact⟨z.1,h' Y S1 _ _ (λ y S2 ⟨q,ds,es,a,b,c,d,w⟩=>⟨q,ds,es,a,b,c,d,hq _ _ w⟩) z.2⟩
 | _=>exact z) z
def Ve {e0:Expr}(hpe:PE X e0 (k7 X.K "list" d5 (zL X.K to) (k6 (zL X.K te) k0))) (h:ye to) (h':ye te):PD X e0 (sT to te):=by
 refine⟨sT.mo h h',PE.imp hpe fun O H Q hu=>?_⟩;obtain⟨Y,S,r1,r2,z⟩:=hu;refine zL.go h r1 r2 z λ x S1 v H1 h1 q1 e1 p1=>?_;cases x with
 | ref p=>
  obtain⟨⟨ds,hd⟩,h1⟩:=h1;simp only[zg] at q1;subst q1;obtain⟨xs,g1,g2⟩:=p1 _ _ hd;refine⟨.inl ⟨rfl,xs,zN.of g1⟩,?_⟩;refine zL.go h' (r1.ext e1) p1 h1 λ y S2 w H2 h2 q2 e2 p2=>?_;obtain⟨q,ds',es,rfl,b1,b2,b3,b4⟩:=h2;simp only[zg] at q2;subst q2;obtain⟨xs',g3,g4⟩:=p2 _ _ b1;obtain⟨ys',g5,g6⟩:=p2 _ _ b2;refine⟨p,q,xs',ys',rfl,rfl,g3,g5,by rw[<- g4.length,<- g6.length];exact b3,?_⟩;have e4:Ext H2 (upd H2 p (.lst (xs'++ys'))):=.lst g3 _;exact b4 _ _ (by simp only[zg]) ((e1.trans e2).trans e4) (p2.ups e4 ⟨_,yL,zm.ext e4 _ (g4.append g6)⟩)
 | zi=>exact h1.elim
 | bl _=>exact h1.elim
 | int _=>exact h1.elim
 | str _=>exact h1.elim
 | tup _=>exact h1.elim
 | yF _=>exact h1.elim
def W_ (ho:PD X o to) (he:PD X e te)
  (hbase:attributeBase o "extend" X.env (eval o X.env)=eval o X.env:=by rfl)
  (hfew:((backTo cpos (starEach [e] X.env)).all (λ x=>!x.1)&&(backToKw cpos (keywordEach [] X.env)).all (λ x=>x.1.isSome)
   && decide ([e].length+([]:List Keyword).length+(if ([]:List Keyword).isEmpty then 0 else 1)<30))=true:=by rfl)
  (hline:(apos.endLine == cpos.line)=true:=by rfl) (hs:starEach [e] X.env=(false,eval e X.env)::starEach [] X.env:=by rfl) (hplain:(backTo cpos (starEach [] X.env)).any (·.1)=false:=by rfl):
  PD X (.Call (.Attribute o "extend" apos) [e] [] cpos) (sT to te):=
 Ve (dM PySem.F.plainAttrs_list PySem.F.slot_list_extend PySem.F.type_list_extend Tc ho.pe (rL he.pe qI hs) hbase hfew hline hs hplain) ho.mo he.mo
end
end L3
namespace L5
open PySem L2 L3
@[simp] noncomputable def iP (i:Nat) (f:Ev->Option T):Sm:=fun J=>match J[i]? with
 | some (some (.own (.lst ts)))=>(f J).bind λ y=>match y with
  | .lst us=>if ts.length+us.length<=sizeLine then some (.nx (J.set i (some (.own (.lst (ts++us)))))) else none
  | _=>none
 | _=>none
section
variable {R:Rk}{f:Ev->Option T}{te:zt}
def VH (i:Nat) (hf:xq f te):yD R (iP i f) (lL (sT (y8 i) te)):=λ S0 Z0 S Z Y J o E F e P=>by
 unfold iP at e;split at e
 .rename_i ts h;obtain⟨y,e1,e2⟩:=zOb e;split at e2
  .rename_i us;split at e2
   .rename_i hl;cases e2;obtain⟨p,ob,h1,h2,h3,h4⟩:=F.er.ow i _ h;obtain⟨ds,rfl⟩:∃ ds,ob=.lst ds:=by
     cases ob with
     | lst ds=>exact⟨ds,rfl⟩
     | ya _=>exact h3.elim
    replace h3:zl (zM S Z) ts ds:=h3;show sT (y8 i) te Y S _;unfold sT y8;rw[h1];refine⟨⟨ds,h2⟩,hf S Z Y J _ _ F.er e1 λ d S1 s1 r1=>?_⟩;obtain⟨q,es,rfl,g1,g2,g3⟩:=r1.2 us rfl;have F1:=F.grow s1;have g4:zl (zM S1 Z) us es:=zl.sx (uG λ a z=>.inl z) us g3;refine⟨q,ds,es,rfl,s1 _ _ h2,g2,by rw[h3.len,g4.len];exact hl,P _ Z Y (F1.mut (us:=.lst (ts++us)) (es:=.lst (ds++es)) i h h1 ((zl.sx (wq s1) ts h3).append g4))⟩
   .cases e2
  .cases e2
 .cases e
end
end L5
namespace L5
open PySem PySem.Spec L2 L3
open PyProof.Rows hiding St
section
variable {X:Cx}{K:zFr}{e:Expr}{es:List Expr}{tA:yk}{pos p:Pos}
end
end L5
namespace L2
open PySem PySem.Spec PyProof.Rows
section
variable {X:Cx}{e st:Expr}{te ts:TE}{pos p2:Pos}
end
end L2
namespace L5
open PySem PySem.Spec L2 L3
open PyProof.Rows hiding St
section
variable {X:Cx}{K:zFr}{e st:Expr}{te ts:zt}{pos p2:Pos}
end
end L5
namespace L5
section
variable {α:Type}{P:List α->Prop}
def sY (h:∀ a,P [a]) (us:List α) (hl:us.length=1):P us:=match us,hl with | [a],_=>h a
def vc (h:∀ a b,P [a,b]) (us:List α) (hl:us.length=2):P us:=match us,hl with | [a,b],_=>h a b
def sX (h:∀ a b c,P [a,b,c]) (us:List α) (hl:us.length=3):P us:=match us,hl with | [a,b,c],_=>h a b c
def Qz (h:∀ a b c d,P [a,b,c,d]) (us:List α) (hl:us.length=4):P us:=match us,hl with | [a,b,c,d],_=>h a b c d
def ar5 (h:∀ a b c d e,P [a,b,c,d,e]) (us:List α) (hl:us.length=5):P us:=match us,hl with | [a,b,c,d,e],_=>h a b c d e
def ar6 (h:∀ a b c d e f,P [a,b,c,d,e,f]) (us:List α) (hl:us.length=6):P us:=match us,hl with | [a,b,c,d,e,f],_=>h a b c d e f
def ar7 (h:∀ a b c d e f g,P [a,b,c,d,e,f,g]) (us:List α) (hl:us.length=7):P us:=match us,hl with | [a,b,c,d,e,f,g],_=>h a b c d e f g
def ar8 (h:∀ a b c d e f g i,P [a,b,c,d,e,f,g,i]) (us:List α) (hl:us.length=8):P us:=match us,hl with | [a,b,c,d,e,f,g,i],_=>h a b c d e f g i
end
end L5
namespace L5
open PySem PySem.Spec L2 L3
open PyProof.Rows hiding St
section
variable {P:Program}{w:World}{K:zFr}{mg:Str->Option Value}{base h:Heap}{x:Str}{st:Stmt}
def Fx (K:zFr) (x:Str) (st:Stmt):Prop:=∃ (f:Addr) (oc:Value) (od:Option Addr) (kV dc pm:Value) (an:Option Addr) (cd ct:Value) (sl:Array (Option Value)),
 PySem.W.nsIn K mainGlobals x=some (some (.ref f))/\K.lookup f=some ⟨oc,od,.func (PySem.W.fnOf x x (tL st) (w_ st) (zG st) .none kV dc pm an cd ct),sl⟩/\PySem.W.codeIn K cd x=true/\PySem.W.keepIn K (.ref f)=true
def Fx.i {f:Addr}{oc:Value}{od:Option Addr}{kV dc pm:Value}{an:Option Addr}{cd ct:Value}{sl:Array (Option Value)}(a:PySem.W.nsIn K mainGlobals x=some (some (.ref f))) (l:K.lookup f=some ⟨oc,od,.func (PySem.W.fnOf x x (tL st) (w_ st) (zG st) .none kV dc pm an cd ct),sl⟩) (c:PySem.W.codeIn K cd x=true) (k:PySem.W.keepIn K (.ref f)=true):Fx K x st:=⟨f,oc,od,kV,dc,pm,an,cd,ct,sl,a,l,c,k⟩
def Fy (K:zFr) (mg:Str->Option Value) (x:Str) (st:Stmt):Prop:=∃ (f:Addr) (fd:FuncData),uu K x x st f fd/\mg x=some (.ref f)
def Fx.mk (H:Fx K x st) (X:K.In h) (G:h.Ns mainGlobals mg):Fy K mg x st:=by
 obtain⟨f,oc,od,kV,dc,pm,an,cd,ct,sl,a,l,c,k⟩:=H;exact⟨f,_,bV l c k,PySem.W.mg_of X G a⟩
theorem Fx.law {fa:Addr}{p:Str}(H:Fx K "law" st) (X:K.In h) (G:h.Ns mainGlobals mg) (hfa:mg "law"=some (.ref fa)) (hb:∀ (kV dc pm:Value) (an:Option Addr) (cd ct:Value) (s:Shared) (v:Value),BindsTo s (PySem.W.fnOf "law" "law" (tL st) (w_ st) (zG st) .none kV dc pm an cd ct) ⟨[v],[]⟩ [(p,v)]):∃ fd:FuncData,uu K "law" "law" st fa fd/\∀ (s:Shared) (v:Value),BindsTo s fd ⟨[v],[]⟩ [(p,v)]:=by
 obtain⟨f,oc,od,kV,dc,pm,an,cd,ct,sl,a,l,c,k⟩:=H;have e:=hfa.symm.trans (PySem.W.mg_of X G a);cases e;exact⟨_,bV l c k,hb kV dc pm an cd ct⟩
def Cn (K:zFr) (x:Str) (t:V):Prop:=∃ u,PySem.W.nsIn K mainGlobals x=some (some u)/\L2.RelV t u
def Cn.i {t:V}{u:Value}(a:PySem.W.nsIn K mainGlobals x=some (some u)) (r:L2.RelV t u):Cn K x t:=⟨u,a,r⟩
def Cn.mk {t:V}(H:Cn K x t) (X:K.In h) (G:h.Ns mainGlobals mg):∃ u,mg x=some u/\L2.RelV t u:=by
 obtain⟨u,a,r⟩:=H;exact⟨u,PySem.W.mg_of X G a,r⟩
def yB {R:Rk} [Lo R] {N ps:List Str}{k n:Nat}{g:Sm}(F:Fy K mg x st) (Sc:yj N ps (zG st)) (hn:n=ps.length)
  (hb:∀ (kV doc pm:Value) (an:Option Addr) (cdv ct:Value) (us:List Value),us.length=ps.length->bindArgs (PySem.W.fnOf x x (tL st) (w_ st) (zG st) .none kV doc pm an cdv ct) ⟨us,[]⟩=pure (ps.zip us))
  (hbody:∀ (f:Addr) (cdv:Value) (A:Around) (outer:List Env) (s:Shared) (H:Hp) (E:XK),yx k (A.deeper (envOfC x (zG st) s.heap.objs.size f cdv))->
   ∃ t,vU (uO vh P w K mg base N x (zG st) f cdv A outer s H E).sF (w_ st) t/\yD R g t):FD P w K mg base x (k+1) ps (zT R (yh N n g)):=by
 obtain⟨f,fd,F,hm⟩:=F;exact Rj F hm Sc hn hb (hbody f)
end
end L5
namespace L2
open PySem PySem.Spec PyProof.Rows
def lX (lo c:Int) (n:Nat):It:=⟨λ i _=>i<n,λ i H x H'=>H'=H/\x=.int (lo+i*c),λ i _=>n<=i⟩
def Yt {P:Program}{w:World}{K:zFr}{tg:Expr}(it:Addr) (lo c:Int) (n:Nat):Turn P w K tg (lX lo c n) [it] it (λ i h=>IsRangeIter h it (lo+(i:Nat)*c) ((n:Int)-(i:Nat)) c) where
 mem:=by simp
 obj:=λ i h st b hb=>by
  have e:b=it:=by simpa using hb
  subst e;exact⟨_,st,λ v z=>by
   have z':Data.fields _=Data.cell v:=z;cases z'⟩
 keep:=λ i h h' st k=>k it (by simp) _ st
 item:=by
  intro X hP hw hK hc i pins s O H E I hf st hg;subst hP hw hK;obtain⟨f0,f1,f2,f3,f4,f5⟩:=hf it (by simp);have W:=Walks.range (prog:=X.prog) (w:=X.w) (I.ok.hd hc) it lo c n;refine W.item i s _ _ hg st λ v h' tk hv st' kk=>?_;obtain⟨t,rfl⟩:=hv;have I1:Inv X pins O H { s with heap:=h',toks:=tk }:=I.turned (λ b o hb e=>kk b o (by simpa using hb) e) f0 f1 f3 f4 f5;exact⟨_,rfl,l9 (s:={ s with heap:=h',toks:=tk }) (n:="range_iterator") st' rfl rfl (by decide) ⟨.int (lo+i*c),H,I1,⟨t,rfl⟩,⟨rfl,rfl⟩,st',λ b hb=>(hf b hb).1⟩⟩
 done:=by
  intro X hP hw hK hc i pins s O H E I hf st hg;subst hP hw hK;obtain⟨f0,f1,f2,f3,f4,f5⟩:=hf it (by simp);exact wpAny_pyNext_range_end (I.ok.hd hc) st (by have:n<=i:=hg;omega) λ h' eb=>⟨rfl,I.turned (t':=s.toks) (λ b o hb e=>eb b o hb e) f0 f1 f3 f4 f5⟩
 self:=λ _ _ _ _ _ st h=>wpAny_pyIter_rangeiter st h
noncomputable def uc (i j c:Int):Nat:=if i<j then ((j-i-1)/c+1).toNat else 0
def cG {i j c:Int}(hc:0<c):((uc i j c:Nat):Int)=Builtin.Range.rangeSize i j c:=by
 unfold uc Builtin.Range.rangeSize;rw[if_pos hc];split
 .rename_i h;have:0<=(j-i-1)/c:=Int.ediv_nonneg (by omega) (by omega);omega
 .rfl
def YZ {a b c:Int}(ha:-(2 ^ 31)<=a) (ha':a<2 ^ 31) (hb:-(2 ^ 31)<=b) (hb':b<2 ^ 31) (hc:0<c) (hc':c<1000000):Builtin.Range.small a b c=true:=by
 have e:=cG (i:=a) (j:=b) hc;have h1:(b-a-1)/c<=(b-a-1)\/¬ a<b:=by
  by_cases h:a<b
  .exact .inl (Int.ediv_le_self _ (by omega))
  .exact .inr h
 have h2:0<=Builtin.Range.rangeSize a b c/\Builtin.Range.rangeSize a b c<=2 ^ 33:=by
  refine⟨by omega,?_⟩;unfold Builtin.Range.rangeSize;rw[if_pos hc];split <;> omega
 have h3:Builtin.Range.rangeSize a b c*c<=2 ^ 33*1000000:=by
  refine Int.le_trans (Int.mul_le_mul_of_nonneg_right h2.2 (by omega)) ?_;exact Int.mul_le_mul_of_nonneg_left (by omega) (by decide)
 have h4:0<=Builtin.Range.rangeSize a b c*c:=Int.mul_nonneg h2.1 (by omega);unfold Builtin.Range.small;simp only[Builtin.Range.rangeFitsLong,zE5,Bool.or_eq_true,decide_eq_true_eq,beq_iff_eq,hc,if_true];omega
section
variable {X:Cx}{tg:Expr}
def X9 {pins:List (Addr×Obj)}{O:St}{H:Hp}{s:Shared}{R:It->Hp->Prop}{E:Value->Shared->Prop}{lo hi c:Int}{t u v:Tok}{tk:Nat}(I:Inv X pins O H s) (h1:-(2 ^ 31)<=lo) (h2:lo<2 ^ 31) (h3:-(2 ^ 31)<=hi) (h4:hi<2 ^ 31) (h5:0<c) (h6:c<1000000)
  (q:R (lX lo c (uc lo hi c)) H):wpAny (model X.prog X.w) X.A (pyIter (.ref s.heap.objs.size)) (gA X pins O tg R) E { s with heap:=s.heap.push { cls:=.type "range",data:=.fields #[.int lo t,.int hi u,.int c v] },toks:=tk }:=by
 refine wpAny_pyIter_range (IsRange.new ..) (YZ h1 h2 h3 h4 h5 h6) ?_;have I1:Inv X pins O H { s with heap:=s.heap.push { cls:=.type "range",data:=.fields #[.int lo t,.int hi u,.int c v] },toks:=tk }:=I.kept λ b o e=>zHp _ e;refine⟨(s.heap.push { cls:=.type "range",data:=.fields #[.int lo t,.int hi u,.int c v] }).objs.size,[(s.heap.push { cls:=.type "range",data:=.fields #[.int lo t,.int hi u,.int c v] }).objs.size],_,_,H,rfl,
  I1.kept (t':=tk) λ b o e=>zHp _ e,Yt _ lo c (uc lo hi c),?_,λ b hb=>?_,q⟩
 .have e1:lo+((0:Nat):Int)*c=lo:=by simp
  have e2:((uc lo hi c:Nat):Int)-((0:Nat):Int)=Builtin.Range.rangeSize lo hi c:=by rw[cG h5];simp
  show IsRangeIter _ _ (lo+((0:Nat):Int)*c) (((uc lo hi c:Nat):Int)-((0:Nat):Int)) c;rw[e1,e2];exact zA9 _ rfl
 .have e:b=(s.heap.push { cls:=.type "range",data:=.fields #[.int lo t,.int hi u,.int c v] }).objs.size:=by simpa using hb
  subst e;exact I1.lA (zA4 _) (I1.zw.fresh (zA4 _))
def Ss (ta:TA):TI:=fun O H R=>ta O H λ vs H1=>∃ i j c:Int,vs=[.int i,.int j,.int c]/\(-(2 ^ 31)<=i/\i<2 ^ 31/\-(2 ^ 31)<=j/\j<2 ^ 31/\0<c/\c<1000000)/\R (lX i c (uc i j c)) H1
def Wl {a b c:Expr}{ta:TA}{p pos:Pos}(hg:Gl X "range") (hm:X.mg "range"=none) (ha:PA X [a,b,c] ta) (hs:starEach [a,b,c] X.env=[(false,eval a X.env),(false,eval b X.env),(false,eval c X.env)]:=by rfl) (hs2:starEach [b,c] X.env=[(false,eval b X.env),(false,eval c X.env)]:=by rfl):
  PI X tg (.Call (.Name "range" p) [a,b,c] [] pos) (Ss ta):=by
 intro pins s O H R I h;refine Call_ (qQ I hg hm boot_range (PyProof.Rows.callWith_type1 (zF (ha pos pins s O H _ I h) λ us s1 ⟨vs,H1,I1,r1,q1⟩=>?_) (by rw[hs,hs2]) (by rw[hs2];rfl)));obtain⟨i,j,c,e,⟨q1,q2,q3,q4,q5,q6⟩,q⟩:=q1;subst e;cases r1 with
 | cons r rr=>
  cases rr with
  | cons r' rr=>
   cases rr with
   | cons r2 rr=>
    cases rr;obtain⟨t,rfl⟩:=r;obtain⟨t',rfl⟩:=r';obtain⟨t2,rfl⟩:=r2;exact call_range_3 (by omega) (X9 I1 q1 q2 q3 q4 q5 q6 q) (.inl (PyProof.noPylong_small (by omega)))
end
end L2
namespace L3
open PySem PySem.Spec L2
open PyProof.Rows hiding St
section
variable {X:Cx}{K:zFr}{tg e a b c:Expr}{es:List Expr}{tA:yk}{pos p:Pos}
noncomputable def t9 (lo c:Int) (n:Nat):List D:=(List.range n).map λ(k:Nat)=>D.int (lo+(k:Int)*c)
def XE {lo c:Int}{n i:Nat}{d:D}(h:(t9 lo c n)[i]?=some d):i<n/\d=.int (lo+(i:Int)*c):=by
 unfold t9 at h;rw[zA3] at h;cases q:(List.range n)[i]? with
 | none=>rw[q] at h;cases h
 | some k=>
  rw[q] at h;obtain⟨h1,h2⟩:=zA2.mp q;rw[zC5] at h1;rw[List.getElem_range] at h2;subst h2;cases h;exact⟨h1,rfl⟩
def nS.XB {H1:Hp}{lo c:Int}{n:Nat}:nS K H1 (lX lo c n) ⟨t9 lo c n,λ _=>True⟩:=λ i H S _ x2 _=>by
 refine⟨λ d hd=>?_,λ hl=>by rw[show (pK.mk (t9 lo c n) λ _=>True).items=t9 lo c n from rfl] at hl;unfold t9 at hl;rw[zA7,zC5] at hl;exact hl⟩;obtain⟨h1,rfl⟩:=XE hd;refine⟨h1,λ x H' q=>?_⟩;obtain⟨rfl,rfl⟩:=q;exact⟨.refl _,x2,by simp only[zg]⟩
def bg (t:yk):wx:=fun Y S R=>t Y S λ ds S1=>match ds with
 | [.int i,.int j,.int c]=>(-(2 ^ 31)<=i/\i<2 ^ 31/\-(2 ^ 31)<=j/\j<2 ^ 31/\0<c/\c<1000000)/\R ⟨t9 i c (uc i j c),λ _=>True⟩ S1
 | _=>False
def zm.three {H:Hp}{d d' d2:D}{xs:List V}(h:zm K H [d,d',d2] xs):∃ x y z,xs=[x,y,z]/\zg K H d x/\zg K H d' y/\zg K H d2 z:=by
 simp only[zm] at h;obtain⟨x,r,rfl,h1,y,r',rfl,h2,z,r2,rfl,h3,rfl⟩:=h;exact⟨x,y,z,rfl,h1,h2,h3⟩
def WV (hm:X.mg "range"=none) (ha:xE X [a,b,c] tA) (hg:Gl X "range":=by rfl) (hs:starEach [a,b,c] X.env=[(false,eval a X.env),(false,eval b X.env),(false,eval c X.env)]:=by rfl) (hs2:starEach [b,c] X.env=[(false,eval b X.env),(false,eval c X.env)]:=by rfl):ra X tg (.Call (.Name "range" p) [a,b,c] [] pos) (bg tA):=by
 refine⟨fun Y S Q Q' hq z=>ha.mo Y S _ _ (λ ds S1 z=>?_) z,PI.imp (Wl hg hm ha.pa hs hs2) fun O H R hu=>?_⟩
 .split at z
  .exact⟨z.1,hq _ _ z.2⟩
  .exact z.elim
 .obtain⟨Y,S,r1,r2,z⟩:=hu;refine xZ.go ha.mo r1 r2 z λ ds S1 xs H1 h1 q1 e1 p1=>?_;split at h1
  .obtain⟨x,y,w,rfl,q,q',q2⟩:=q1.three;simp only[zg] at q q' q2;subst q q' q2;exact⟨_,_,_,rfl,h1.1,h1.2 _ H1 e1 p1 .XB⟩
  .exact h1.elim
def uK:xx:=λ ds S Q=>match ds with
 | [.int i]=>Q (.int (if i<0 then -i else i)) S
 | _=>False
def uK.mo:vV uK:=λ ds S Q Q' hq h=>by
 unfold uK at h ⊢;split at h
 .exact hq _ _ h
 .exact h.elim
def uK.fits:uW K uK (λ xs H Q=>∃ i,xs=[.int i]/\Q (.int (if i<0 then -i else i)) H):=λ xs ds H S Q h0 h2 h=>by
 unfold uK at h;split at h
 .obtain⟨x,rfl,h1⟩:=h0.one;simp only[zg] at h1;subst h1;exact⟨_,rfl,h _ H (by simp only[zg]) (.refl H) h2⟩
 .exact h.elim
def Vl (hm:X.mg "abs"=none) (ha:xE X (e::es) tA) (hg:Gl X "abs":=by rfl) (he:starEach (e::es) X.env=(false,eval e X.env)::starEach es X.env:=by rfl) (hpl:(backTo pos (starEach es X.env)).any (·.1)=false:=by rfl):PD X (.Call (.Name "abs" p) (e::es) [] pos) (xA uK tA):=
 sA (su Qo hg hm boot_abs ha.pa (by decide) (by decide) he hpl) uK.mo uK.fits ha.mo
def ux (_ j:Int):Prop:=0<j/\j<2 ^ 200
def tX (i j:Int):Prop:=i.natAbs<2 ^ 200/\j.natAbs<2 ^ 200
instance (i j:Int):Decidable (ux i j):=by unfold ux;infer_instance
instance (i j:Int):Decidable (tX i j):=by unfold tX;infer_instance
def cQ {n:Nat}(h:n<2 ^ 200):n.log2<200:=by
 rcases Nat.eq_zero_or_pos n with h0 | hp
 .rw[h0];decide
 .exact (Nat.log2_lt (Nat.ne_of_gt hp)).mpr h
def aZ {i:Int}(h:i.natAbs<2 ^ 200):Builtin.Int.intBits i<=2 ^ 20:=by
 have:=cQ h;unfold Builtin.Int.intBits;split <;> omega
def V5:yd X (binaryOp .FloorDiv) (rI ux λ i j=>.int (i/j)):=qJ λ i j _ _ _ _ _ hc q=>by
 have h1:(0:Int)<j:=hc.1;have h2:j.natAbs<2 ^ 200:=by have:=hc.2;omega
 have h3:=cQ h2;exact floordiv_int (by omega) (by rw[Int.fdiv_eq_ediv_of_nonneg i (by omega)];exact q) (.inl (PyProof.noPylong_of_log2 (by omega)))
def Vu:yd X (binaryOp .Mult) (rI tX λ i j=>.int (i*j)):=qJ λ _ _ _ _ _ _ _ hc q=>mul_int q (PySem.IntMulOk.of_bits (aZ hc.1) (aZ hc.2))
variable {ta tb:zt}
def oo (ha:PD X a ta) (hb:PD X b tb):PD X (.BinOp a .FloorDiv b pos) (yp (fI ux λ i j=>.int (i/j)) ta tb):=sy V5 (fI.fits λ _ _ _=>by simp only[zg]) fI.mo ha hb
def j4 (ha:PD X a ta) (hb:PD X b tb):PD X (.BinOp a .Mult b pos) (yp (fI tX λ i j=>.int (i*j)) ta tb):=sy Vu (fI.fits λ _ _ _=>by simp only[zg]) fI.mo ha hb
end
end L3
namespace L5
open PySem PySem.Spec L2 L3
open PyProof.Rows hiding St
structure Ya (mg:Str->Option Value):Prop extends Bq mg where
 abs:mg "abs"=none
@[simp] noncomputable def gu:List T->Option T
 | [.int i]=>some (.int (if i<0 then -i else i))
 | _=>none
def SR:vW zH gu uK:=λ S Z ys z ds Q hz hv e hq=>by
 unfold gu at e;split at e
 .cases e;obtain⟨d,rfl,h1⟩:=v_ hv;cases h1.int;exact hq _ S (.refl S) (Cl.of (λ _=>nofun) xS)
 .cases e
@[simp] noncomputable def xJ:T->T->Option T:=rV ux λ i j=>.int (i/j)
@[simp] noncomputable def vo:T->T->Option T:=rV tX λ i j=>.int (i*j)
def oz {fa fb:Ev->Option T}{ta tb:zt}(ha:yy fa ta) (hb:yy fb tb):xq (zb xJ fa fb) (yp (fI ux λ i j=>.int (i/j)) ta tb):=xT (oK (λ _ _ _=>xS) λ _ _ _=>nofun) ha hb
def jH {fa fb:Ev->Option T}{ta tb:zt}(ha:yy fa ta) (hb:yy fb tb):xq (zb vo fa fb) (yp (fI tX λ i j=>.int (i*j)) ta tb):=xT (oK (λ _ _ _=>xS) λ _ _ _=>nofun) ha hb
noncomputable def sL (j:Int):Bool:=decide (-1000000<=j)&&decide (j<1000000)
noncomputable def mN (lo c:Int) (n:Nat):List T:=(List.range n).map λ(k:Nat)=>T.int (lo+(k:Int)*c)
def YY {S:SS}(lo c:Int) (n:Nat):zl S (mN lo c n) (t9 lo c n):=by
 unfold mN t9
 induction List.range n with
 | nil=>exact .nil
 | cons k l ih=>exact .cons xS ih
noncomputable def pX:List T->Option (List T)
 | [.int i,.int j,.int c]=>if (sL i=true/\sL j=true)/\sL c=true/\0<c then some (mN i c (uc i j c)) else none
 | _=>none
def Yi {S:SS}{Z:Addr->Prop}{a b c:T}{ds:List D}(h:p0 S Z [a,b,c] ds):∃ d d' d2,ds=[d,d',d2]/\Vw S Z a d/\Vw S Z b d'/\Vw S Z c d2:=by
 obtain⟨d,cs,rfl,h1,d',cs2,rfl,h2,d2,cs3,rfl,h3,h4⟩:=h;cases h4;exact⟨d,d',d2,rfl,h1,h2,h3⟩
def VO {b:Bool}{g:Ev->Option (List T)}{tA:yk}(h:qj g tA):qh b (wX pX g) (bg tA):=λ S Z Y J ts Q hE e hq=>by
 obtain⟨ys,e1,e2⟩:=zOb e;refine h S Z Y J ys _ hE e1 λ ds S1 s1 r1=>?_;unfold pX at e2;split at e2
 .split at e2
  .rename_i hc;cases e2;obtain⟨d,d',d2,rfl,h1,h2,h3⟩:=Yi r1;cases h1.int;cases h2.int;cases h3.int;simp only[sL,zE5,decide_eq_true_eq] at hc;exact⟨⟨by omega,by omega,by omega,by omega,by omega,by omega⟩,hq _ S1 s1 (YY _ _ _) λ _ _=>trivial⟩
  .cases e2
 .cases e2
end L5
namespace L5
open L2 L3
def okA {R:Rk}{g:Sm}{t:yI}(h:yD R g t:=by
 repeat' first
  | (with_reducible first | exact wF _ | apply UI | apply Ud | apply U0)
  | (with_reducible first | exact vH _ | refine xT (R:=xO) bN ?_ ?_ | refine uB (R:=xO) ?_ | apply cz | apply c6)
  | ((try first | refine xl.fr ?_ | refine xl.fe ?_);with_reducible first | exact yA _ | refine xT (R:=zH) (by with_reducible first | exact good_add | exact i6 | exact bP | exact SO | exact SN | exact i7 | exact i9 | exact SJ | exact bJ) ?_ ?_ | refine uB (R:=zH) ?_ | refine o3 (R:=zH) (by with_reducible first | exact bM | exact SE | exact SM | exact bL | exact bK | exact SH | exact SF | exact SK) ?_ | apply VW | apply VY | apply qL | apply U3 | apply cx | exact jI _ | exact VZ _ | exact Ue | apply Uk | apply Uz | apply Ui | refine U9 (by with_reducible first | exact i6 | exact i7 | exact i9) (by with_reducible first | exact i6 | exact i7 | exact i9) ?_ ?_ ?_ | apply sE | exact U7 _)
  | (refine xl.er ?_;with_reducible first | exact vH _ | refine xT (R:=xO) bN ?_ ?_ | refine uB (R:=xO) ?_ | apply cz | apply c6)
  | (with_reducible first | apply wW | apply sC | apply jD | exact jB | apply jC | apply jE | apply cp | apply lg | apply VD | exact lb _ | apply VI | exact VE | apply VG | apply cn | apply VH | exact VL _ | apply VJ | apply VF)
  | (with_reducible first | exact sD | apply vG | exact tD | apply wD | apply cv | apply cw | apply cy | apply U4 | apply U6 | exact VX | exact qK _ | exact cq | apply jG | exact VQ | apply VR | apply jF | apply VM | apply VN | apply VP)
  | (first | exact VT _ | apply cu | apply VS)
  | exact (lb _).fv):yD R g t:=h
end L5
namespace RN
open L5
abbrev Bd:=List (Int×Int)
def yb (b c:Bd):Prop:=∀ q,yg b q=true->yg c q=true
def yb.refl (b:Bd):yb b b:=λ _ h=>h
def yb.of {b c:Bd}(h:∀ p∈b,∃ r∈c,r.1<=p.1/\r.2<=p.2):yb b c:=λ q x=>by
 obtain⟨p,hp,h1,h2⟩:=xk.mp x;obtain⟨r,hr,h3,h4⟩:=h p hp;exact xk.mpr ⟨r,hr,by omega,by omega⟩
def yb.at {b c:Bd}(h:yb b c) {p:Int×Int}(hp:p∈b):∃ r∈c,r.1<=p.1/\r.2<=p.2:=xk.mp (h p (xk.mpr ⟨p,hp,zC6 _,zC6 _⟩))
structure Gd (A B:Int) (b:Bd):Prop where
 qT:wQ b
 vK:∀ p∈b,(0<=p.1/\p.1<=A)/\0<=p.2/\p.2<=B
noncomputable def yY:Bd:=[(0,0)]
theorem Gd.yY {A B:Int}(hA:0<=A) (hB:0<=B):Gd A B yY:=⟨by unfold RN.yY wQ;simp,λ p hp=>by
 unfold RN.yY at hp;cases zB6.mp hp;exact⟨⟨zC6 _,hA⟩,zC6 _,hB⟩⟩
def Gd.Tx {A B:Int}{b:Bd}(h:Gd A B b):yb b RN.yY:=yb.of λ p hp=>⟨(0,0),by unfold RN.yY;simp,(h.vK p hp).1.1,(h.vK p hp).2.1⟩
theorem Gd.eq {A B:Int}{b c:Bd}(h:Gd A B b) (h':Gd A B c) (x:yb b c) (y:yb c b):b=c:=wQ.eq h.qT h'.qT λ q=>by
 rw[zC7];exact⟨x q,y q⟩
def Gd.least {A B:Int}{ps:Bd}(h:∀ p∈ps,(0<=p.1/\p.1<=A)/\0<=p.2/\p.2<=B):Gd A B (wj ps):=⟨j_ ps,λ p hp=>h p (cW hp)⟩
def ly {ps qs:Bd}(h:∀ p∈ps,∃ r∈qs,r.1<=p.1/\r.2<=p.2):yb (wj ps) (wj qs):=λ q x=>by
 rw[lz] at x ⊢;exact yb.of h q x
theorem b7:∀ {b:Bd}{lo hi:Int},wQ b->(∀ p∈b,lo<=p.1/\p.1<=hi)->(b.length:Int)<=hi+1-lo\/b=[]
 | [],_,_,_,_=>.inr rfl
 | p::b,lo,hi,h,hb=>by
  have h1:=List.pairwise_cons.mp h;have hp:=hb p zMc;refine .inl ?_;rcases b7 (lo:=p.1+1) (hi:=hi) h1.2 (λ q hq=>⟨by have:=(h1.1 q hq).1;omega,(hb q (zMo _ hq)).2⟩) with x | x
  .rw[zC0];omega
  .subst x;simp;omega
theorem b6:∀ {b:Bd}{lo hi:Int},wQ b->(∀ p∈b,lo<=p.2/\p.2<=hi)->(b.length:Int)<=hi+1-lo\/b=[]
 | [],_,_,_,_=>.inr rfl
 | p::b,lo,hi,h,hb=>by
  have h1:=List.pairwise_cons.mp h;have hp:=hb p zMc;refine .inl ?_;rcases b6 (lo:=lo) (hi:=p.2-1) h1.2 (λ q hq=>⟨(hb q (zMo _ hq)).1,by have:=(h1.1 q hq).2;omega⟩) with x | x
  .rw[zC0];omega
  .subst x;simp;omega
def Gd.qN {A B:Int}{b:Bd}(h:Gd A B b) (hA:0<=A):(b.length:Int)<=A+1:=by
 rcases b7 (lo:=0) (hi:=A) h.qT (λ p hp=>(h.vK p hp).1) with x | x
 .omega
 .subst x;simp;omega
def Gd.Tv {A B:Int}{b:Bd}(h:Gd A B b) (hB:0<=B):(b.length:Int)<=B+1:=by
 rcases b6 (lo:=0) (hi:=B) h.qT (λ p hp=>(h.vK p hp).2) with x | x
 .omega
 .subst x;simp;omega
noncomputable def yi (x:Int):Int:=if x>0 then x else 0
def tE (x:Int):0<=yi x:=by unfold yi;split <;> omega
def rN {x y:Int}(h:x<=y):yi x<=yi y:=by unfold yi;split <;> split <;> omega
def UY {x g:Int}(h:0<=x) (hg:0<=g):yi (x-g)<=x:=by unfold yi;split <;> omega
noncomputable def yv (a b:Int) (p:Int×Int):Int×Int:=(yi (p.1-a),yi (p.2-b))
noncomputable def xW (A B:Int) (p:Int×Int):Bool:=decide (p.1<=A)&&decide (p.2<=B)
noncomputable def wM (A B a b:Int) (bd:Bd):Bd:=wj ((bd.map (yv a b)).filter (xW A B))
def Q5 (A B a b:Int) (bd:Bd):Gd A B (wM A B a b bd):=Gd.least λ p hp=>by
 obtain⟨h1,h2⟩:=zC8.mp hp;obtain⟨q,_,rfl⟩:=zB0.mp h1;have h3:(yv a b q).1<=A/\(yv a b q).2<=B:=by simpa [xW] using h2
 exact⟨⟨tE _,h3.1⟩,tE _,h3.2⟩
def Zl (A B a b:Int) {bd bd':Bd}(h:yb bd bd'):yb (wM A B a b bd) (wM A B a b bd'):=ly λ p hp=>by
 obtain⟨h1,h2⟩:=zC8.mp hp;obtain⟨q,hq,rfl⟩:=zB0.mp h1;obtain⟨r,hr,r1,r2⟩:=h.at hq;have h3:(yv a b q).1<=A/\(yv a b q).2<=B:=by simpa [xW] using h2
 have m1:(yv a b r).1<=(yv a b q).1:=rN (by omega);have m2:(yv a b r).2<=(yv a b q).2:=rN (by omega);exact⟨yv a b r,zC8.mpr ⟨zB0.mpr ⟨r,hr,rfl⟩,by simp[xW];omega⟩,m1,m2⟩
noncomputable def vx (b c:Bd):Bd:=wj (b++c)
def R0 (b c:Bd) (q:Int×Int):yg (vx b c) q=(yg b q||yg c q):=by unfold vx;rw[lz,RK]
def Rz {A B:Int}{b c:Bd}(h:Gd A B b) (h':Gd A B c):Gd A B (vx b c):=Gd.least λ p hp=>by
 rcases zB9.mp hp with x | x
 .exact h.vK p x
 .exact h'.vK p x
noncomputable def lq (p q:Int×Int):Int×Int:=(if q.1>p.1 then q.1 else p.1,if q.2>p.2 then q.2 else p.2)
noncomputable def vb (b c:Bd):Bd:=wj (b.flatMap λ p=>c.map (lq p))
def aX (b c:Bd) (q:Int×Int):yg (vb b c) q=(yg b q&&yg c q):=by
 unfold vb;rw[lz,zC7,zE5,xk,xk,xk];constructor
 .rintro⟨p,hp,h1,h2⟩;obtain⟨x,hx,hp⟩:=List.mem_flatMap.mp hp;obtain⟨y,hy,rfl⟩:=zB0.mp hp;unfold lq at h1 h2;dsimp only at h1 h2;refine⟨⟨x,hx,?_,?_⟩,⟨y,hy,?_,?_⟩⟩ <;> (first | (split at h1 <;> omega) | (split at h2 <;> omega))
 .rintro⟨⟨x,hx,h1,h2⟩,⟨y,hy,h3,h4⟩⟩;refine⟨lq x y,List.mem_flatMap.mpr ⟨x,hx,zB0.mpr ⟨y,hy,rfl⟩⟩,?_,?_⟩
  .show (if y.1>x.1 then y.1 else x.1)<=q.1;split <;> omega
  .show (if y.2>x.2 then y.2 else x.2)<=q.2;split <;> omega
def Qs {A B:Int}{b c:Bd}(h:Gd A B b) (h':Gd A B c):Gd A B (vb b c):=Gd.least λ p hp=>by
 obtain⟨x,hx,hp⟩:=List.mem_flatMap.mp hp;obtain⟨y,hy,rfl⟩:=zB0.mp hp;have a1:=h.vK x hx;have a2:=h'.vK y hy;unfold lq;dsimp only;refine⟨⟨?_,?_⟩,?_,?_⟩ <;> split <;> omega
noncomputable def uj (bs:List Bd):Bd:=bs.foldl vx []
noncomputable def pk (bs:List Bd):Bd:=bs.foldl vb yY
theorem iT:∀ (bs:List Bd) (b:Bd) (q:Int×Int),yg (bs.foldl vx b) q=true↔yg b q=true\/∃ c∈bs,yg c q=true
 | [],b,q=>by simp
 | c::bs,b,q=>by
  rw[List.foldl_cons,iT bs,R0,Bool.or_eq_true];constructor
  .rintro ((h | h) | ⟨d,hd,h⟩)
   .exact .inl h
   .exact .inr ⟨c,zMc,h⟩
   .exact .inr ⟨d,zMo _ hd,h⟩
  .rintro (h | ⟨d,hd,h⟩)
   .exact .inl (.inl h)
   .rcases zA5.mp hd with e | e
    .subst e;exact .inl (.inr h)
    .exact .inr ⟨d,e,h⟩
theorem lF {A B:Int}:∀ (bs:List Bd) (b:Bd),Gd A B b->(∀ c∈bs,Gd A B c)->Gd A B (bs.foldl vx b)
 | [],b,h,_=>h
 | c::bs,b,h,hb=>lF bs _ (Rz h (hb c zMc)) λ d hd=>hb d (zMo _ hd)
def Gd.nil {A B:Int}:Gd A B []:=⟨by unfold wQ;simp,λ p hp=>by cases hp⟩
theorem gf:∀ (bs:List Bd) (b:Bd) (q:Int×Int),yg (bs.foldl vb b) q=true↔yg b q=true/\∀ c∈bs,yg c q=true
 | [],b,q=>by simp
 | c::bs,b,q=>by
  rw[List.foldl_cons,gf bs,aX,zE5];constructor
  .rintro⟨⟨h1,h2⟩,h3⟩;exact⟨h1,λ d hd=>by
    rcases zA5.mp hd with e | e
    .subst e;exact h2
    .exact h3 d e⟩
  .rintro⟨h1,h2⟩;exact⟨⟨h1,h2 c zMc⟩,λ d hd=>h2 d (zMo _ hd)⟩
theorem h_ {A B:Int}:∀ (bs:List Bd) (b:Bd),Gd A B b->(∀ c∈bs,Gd A B c)->Gd A B (bs.foldl vb b)
 | [],b,h,_=>h
 | c::bs,b,h,hb=>h_ bs _ (Qs h (hb c zMc)) λ d hd=>hb d (zMo _ hd)
noncomputable def xm (pu:Bool) (g t:Int):Int×Int:=if pu=true then (t,g) else (g,t)
noncomputable def xH (pu:Bool) (p:Int×Int):Int:=if pu=true then p.2 else p.1
noncomputable def wI (pu:Bool) (p:Int×Int):Int:=if pu=true then p.1 else p.2
noncomputable def xM (pu:Bool) (zK give get:Int):Nat->Int->Int->Bd
 | 0,_,_=>[]
 | n+1,g,t=>if g<=zK then xm pu g t::xM pu zK give get n (g+give) (yi (t-get)) else []
def We {pu:Bool}{g t g' t':Int}(h:g'<=g) (h':t'<=t):(xm pu g' t').1<=(xm pu g t).1/\(xm pu g' t').2<=(xm pu g t).2:=by
 cases pu
 .exact⟨h,h'⟩
 .exact⟨h',h⟩
theorem aR (pu:Bool) (zK give get:Int):∀ (n:Nat) (g t g' t':Int),g'<=g->t'<=t->∀ e∈xM pu zK give get n g t,∃ r∈xM pu zK give get n g' t',r.1<=e.1/\r.2<=e.2
 | 0,_,_,_,_,_,_,e,he=>by cases he
 | n+1,g,t,g',t',h1,h2,e,he=>by
  unfold xM at he ⊢;split at he
  .rw[if_pos (by omega)];rcases zA5.mp he with x | x
   .subst x;exact⟨_,zMc,We h1 h2⟩
   .obtain⟨r,hr,r1⟩:=aR pu zK give get n _ _ (g' + give) (yi (t'-get)) (by omega) (rN (by omega)) e x;exact⟨r,zMo _ hr,r1⟩
  .cases he
theorem hV (pu:Bool) (zK give get most:Int) (hg:1<=give) (hgt:0<=get):∀ (n:Nat) (g t:Int),0<=g->0<=t->t<=most->∀ e∈xM pu zK give get n g t,(0<=xH pu e/\xH pu e<=zK)/\0<=wI pu e/\wI pu e<=most
 | 0,_,_,_,_,_,e,he=>by cases he
 | n+1,g,t,h1,h2,h3,e,he=>by
  unfold xM at he;split at he
  .rcases zA5.mp he with x | x
   .subst x;cases pu <;> exact⟨⟨h1,by assumption⟩,h2,h3⟩
   .exact hV pu zK give get most hg hgt n _ _ (by omega) (tE _) (Int.le_trans (UY h2 hgt) h3) e x
  .cases he
theorem aU (pu:Bool) (zK give get:Int) (hg:1<=give):∀ (n:Nat) (g t:Int),g<=zK+1->((xM pu zK give get n g t).length:Int)<=zK+1-g
 | 0,g,t,h=>by simp[xM];omega
 | n+1,g,t,h=>by
  unfold xM;split
  .rw[zC0];by_cases hh:g+give<=zK+1
   .have:=aU pu zK give get hg n (g+give) (yi (t-get)) hh;omega
   .have e:xM pu zK give get n (g+give) (yi (t-get))=[]:=by
     cases n with
     | zero=>rfl
     | succ n=>unfold xM;rw[if_neg (by omega)]
    rw[e];simp;omega
  .simp;omega
structure Wy where
 f:Nat
 t:Nat
 a:Int
 b:Int
structure Sl where
 p:Nat
 pu:Bool
 gv:Int
 gt:Int
structure zB where
 A:Int
 B:Int
 os:List Bool
 ws:List Wy
 ss:List Sl
structure zB.Ok (F:zB):Prop where
 a0:0<=F.A
 a1:F.A<=12
 b0:0<=F.B
 b1:F.B<=12
 n1:1<=F.os.length
 n8:F.os.length<=8
 ws:∀ w∈F.ws,w.f<F.os.length/\w.t<F.os.length
 uZ:F.ws.length<=60
 ss:∀ s∈F.ss,1<=s.gv/\0<=s.gt
 sl:F.ss=[]\/(F.A+1)*(F.B+1)<64
 s8:F.ss.length<=60
noncomputable def zB.zK (F:zB) (pu:Bool):Int:=if pu=true then F.B else F.A
noncomputable def yU (F:zB) (s:Sl) (p:Int×Int):Bd:=xM s.pu (F.zK s.pu) s.gv s.gt 100 (xH s.pu p) (wI s.pu p)
noncomputable def nq (F:zB) (s:Sl) (bd:Bd):Bd:=wj (bd.flatMap (yU F s))
def RU (F:zB) (s:Sl) {b c:Bd}(h:yb b c):yb (nq F s b) (nq F s c):=ly λ p hp=>by
 obtain⟨x,hx,hp⟩:=List.mem_flatMap.mp hp;obtain⟨r,hr,r1,r2⟩:=h.at hx;obtain⟨e,he,e1⟩:=aR s.pu (F.zK s.pu) s.gv s.gt 100 (xH s.pu x) (wI s.pu x) (xH s.pu r) (wI s.pu r) (by unfold xH;split <;> assumption) (by unfold wI;split <;> assumption) p hp;exact⟨e,List.mem_flatMap.mpr ⟨r,hr,he⟩,e1⟩
def RT {F:zB}{s:Sl}(hs:1<=s.gv/\0<=s.gt) {p:Int×Int}(hp:(0<=p.1/\p.1<=F.A)/\0<=p.2/\p.2<=F.B):∀ e∈yU F s p,(0<=e.1/\e.1<=F.A)/\0<=e.2/\e.2<=F.B:=λ e he=>by
 obtain⟨p,pu,gv,gt⟩:=s;unfold yU zB.zK at he;cases pu with
 | true=>exact (hV true F.B gv gt F.A hs.1 hs.2 100 _ _ hp.2.1 hp.1.1 hp.1.2 e he).symm
 | false=>exact hV false F.A gv gt F.B hs.1 hs.2 100 _ _ hp.1.1 hp.2.1 hp.2.2 e he
def RV {F:zB}{s:Sl}(hs:1<=s.gv/\0<=s.gt) {b:Bd}(h:Gd F.A F.B b):Gd F.A F.B (nq F s b):=Gd.least λ p hp=>by
 obtain⟨x,hx,hp⟩:=List.mem_flatMap.mp hp;exact RT hs (h.vK x hx) p hp
noncomputable def xN (F:zB) (last:List Bd) (p:Nat):List Bd:=(F.ws.filter λ w=>decide (w.f=p)).map λ w=>wM F.A F.B w.a w.b (last.getD w.t [])
noncomputable def zB.stall (F:zB) (p:Nat):Option Sl:=F.ss.find? λ s=>decide (s.p=p)
noncomputable def y6 (F:zB) (last:List Bd) (p:Nat):Bd:=
 if F.os.getD p false=true then match F.stall p with
  | none=>uj (xN F last p)
  | some s=>nq F s (uj (xN F last p))
 else pk (xN F last p)
def gr (F:zB) (last:List Bd) (p:Nat):∀ c∈xN F last p,Gd F.A F.B c:=λ c hc=>by
 obtain⟨w,_,rfl⟩:=zB0.mp hc;exact Q5 ..
def cE {F:zB}(ok:F.Ok) (last:List Bd) (p:Nat):Gd F.A F.B (y6 F last p):=by
 unfold y6;have h1:Gd F.A F.B (uj (xN F last p)):=lF _ _ Gd.nil (gr F last p);split
 .split
  .exact h1
  .rename_i s e;exact RV (ok.ss s (List.mem_of_find?_eq_some e)) h1
 .exact h_ _ _ (Gd.yY ok.a0 ok.b0) (gr F last p)
def UX (F:zB) {l m:List Bd}(p:Nat) (h:∀ w∈F.ws,w.f=p->yb (l.getD w.t []) (m.getD w.t [])):yb (y6 F l p) (y6 F m p):=by
 have h1:yb (uj (xN F l p)) (uj (xN F m p)):=λ q hq=>by
  unfold uj at hq ⊢;rw[iT] at hq ⊢;rcases hq with x | ⟨c,hc,x⟩
  .exact .inl x
  .obtain⟨w,hw,rfl⟩:=zB0.mp hc;obtain⟨w1,w2⟩:=zC8.mp hw;exact .inr ⟨_,zB0.mpr ⟨w,hw,rfl⟩,Zl _ _ _ _ (h w w1 (by simpa using w2)) q x⟩
 unfold y6;split
 .split
  .exact h1
  .exact RU F _ h1
 .intro q hq;unfold pk at hq ⊢;rw[gf] at hq ⊢;refine⟨hq.1,λ c hc=>?_⟩;obtain⟨w,hw,rfl⟩:=zB0.mp hc;obtain⟨w1,w2⟩:=zC8.mp hw;exact Zl _ _ _ _ (h w w1 (by simpa using w2)) q (hq.2 _ (zB0.mpr ⟨w,hw,rfl⟩))
def UW (F:zB) {l m:List Bd}(p:Nat) (h:∀ w∈F.ws,w.f=p->l.getD w.t []=m.getD w.t []):y6 F l p=y6 F m p:=by
 have:xN F l p=xN F m p:=by
  unfold xN;refine List.map_congr_left λ w hw=>?_;obtain⟨w1,w2⟩:=zC8.mp hw;rw[h w w1 (by simpa using w2)]
 unfold y6;rw[this]
noncomputable def box:List (Int×Int):=(List.range 13).flatMap λ(i:Nat)=>(List.range 13).map λ(j:Nat)=>((i:Int),(j:Int))
noncomputable def mu (b:Bd):Nat:=box.countP (yg b)
def Qr {p:Int×Int}(h:(0<=p.1/\p.1<=12)/\0<=p.2/\p.2<=12):p∈box:=by
 obtain⟨x,y⟩:=p;dsimp only at h;refine List.mem_flatMap.mpr ⟨x.toNat,zC1.mpr (by omega),zB0.mpr ⟨y.toNat,zC1.mpr (by omega),?_⟩⟩;rw[zF2 h.1.1,zF2 h.2.1]
theorem aN {α:Type}{p q:α->Bool}:∀ {l:List α},(∀ x,q x=true->p x=true)->(∃ x∈l,p x=true/\q x=false)->l.countP q<l.countP p
 | [],_,⟨x,hx,_⟩=>by cases hx
 | a::l,h,⟨x,hx,h1,h2⟩=>by
  have hle:l.countP q<=l.countP p:=List.countP_mono_left λ y _=>h y;rw[List.countP_cons,List.countP_cons];rcases zA5.mp hx with e | e
  .subst e;rw[if_neg (by rw[h2];decide),if_pos h1];omega
  .have:=aN h ⟨x,e,h1,h2⟩;by_cases c:q a=true
   .rw[if_pos c,if_pos (h a c)];omega
   .rw[if_neg c];split <;> omega
def Ta {A B:Int}(hA:A<=12) (hB:B<=12) {b c:Bd}(hb:Gd A B b) (hc:Gd A B c) (h:yb b c) (hne:b≠c):mu b<mu c:=by
 refine aN h ?_;by_cases x:∃ p∈c,yg b p=false
 .obtain⟨p,hp,e⟩:=x;have q:=hc.vK p hp;exact⟨p,Qr ⟨⟨q.1.1,by omega⟩,q.2.1,by omega⟩,xk.mpr ⟨p,hp,zC6 _,zC6 _⟩,e⟩
 .exact absurd (hb.eq hc h (yb.of λ p hp=>by
   cases e:yg b p with
   | true=>exact xk.mp e
   | false=>exact absurd ⟨p,hp,e⟩ x)) hne
def Tb (b:Bd):mu b<=169:=by
 have:box.length=169:=by decide
 rw[<- this];exact List.countP_le_length
noncomputable def vp (l:List Bd):Nat:=(l.map mu).sum
theorem cH:∀ (l:List Bd),vp l<=169*l.length
 | []=>by simp[vp]
 | b::l=>by
  have h1:=cH l;have h2:=Tb b;unfold vp at h1 ⊢;rw[zA6,List.sum_cons,zC0];omega
theorem jQ {A B:Int}(hA:A<=12) (hB:B<=12):∀ {l m:List Bd},l.length=m.length->(∀ b∈l,Gd A B b)->(∀ b∈m,Gd A B b)->(∀ i,yb (l.getD i []) (m.getD i []))->l≠m->vp l<vp m
 | [],[],_,_,_,_,h=>absurd rfl h
 | [],_::_,h,_,_,_,_=>by simp at h
 | _::_,[],h,_,_,_,_=>by simp at h
 | b::l,c::m,hl,gb,gc,h,hne=>by
  have hl':l.length=m.length:=by simpa using hl
  have h0:yb b c:=h 0;have hs:∀ i,yb (l.getD i []) (m.getD i []):=λ i=>by simpa using h (i+1)
  have key:vp l<=vp m:=by
   by_cases e:l=m
   .rw[e];exact zA4 _
   .exact zE3 (jQ hA hB hl' (λ x hx=>gb x (zMo _ hx)) (λ x hx=>gc x (zMo _ hx)) hs e)
  show (List.map mu (b::l)).sum<(List.map mu (c::m)).sum;rw[zA6,List.sum_cons,zA6,List.sum_cons];by_cases e:b=c
  .subst e;have:l≠m:=λ q=>hne (by rw[q]);have:=jQ hA hB hl' (λ x hx=>gb x (zMo _ hx)) (λ x hx=>gc x (zMo _ hx)) hs this;unfold vp at this;omega
  .have:=Ta hA hB (gb b zMc) (gc c zMc) h0 e;unfold vp at key;omega
noncomputable def uf (F:zB) (fresh:List Nat) (p:Nat):Bool:=F.ws.any λ w=>decide (w.f=p)&&fresh.contains w.t
noncomputable def zY (F:zB) (last:List Bd) (fresh:List Nat):List Bd:=(List.range last.length).map λ p=>if uf F fresh p=true then y6 F last p else last.getD p []
noncomputable def xj (last following:List Bd):List Nat:=(List.range following.length).filter λ p=>decide (following.getD p []≠last.getD p [])
noncomputable def sk (F:zB):Nat->List (List Bd)->List Bd->List Nat->Option (List (List Bd))
 | 0,_,_,_=>none
 | n+1,told,last,fresh=>if fresh=[] then some (told++[last]) else
   let fo:=zY F last fresh
   let fr:=xj last fo
   if fr=[] then some (told++[last]) else sk F n (told++[last]) fo fr
structure St (F:zB) (last:List Bd) (fresh:List Nat):Prop where
 len:last.length=F.os.length
 gd:∀ b∈last,Gd F.A F.B b
 fr:∀ p<F.os.length,uf F fresh p=false->(∃ w∈F.ws,w.f=p)->y6 F last p=last.getD p []
 le:∀ p<F.os.length,(∃ w∈F.ws,w.f=p)->yb (y6 F last p) (last.getD p [])
def iC {α:Type}(f:Nat->α) (n p:Nat) (d:α) (h:p<n):((List.range n).map f).getD p d=f p:=by
 rw[zB1,zA3,List.getElem?_range h];rfl
def sG (F:zB) (last:List Bd) (fresh:List Nat):(zY F last fresh).length=last.length:=by unfold zY;simp
def St.at {F:zB}{last:List Bd}{fresh:List Nat}(s:St F last fresh) {p:Nat}(hp:p<F.os.length) (hw:∃ w∈F.ws,w.f=p):(zY F last fresh).getD p []=y6 F last p:=by
 unfold zY;rw[iC _ _ _ _ (by rw[s.len];exact hp)];split
 .rfl
 .rename_i h;exact (s.fr p hp (by simpa using h) hw).symm
def S9 {F:zB}{fresh:List Nat}{p:Nat}(h:uf F fresh p=true):∃ w∈F.ws,w.f=p:=by
 unfold uf at h;obtain⟨w,h1,h2⟩:=zD0.mp h;exact⟨w,h1,by simp at h2;exact h2.1⟩
def St.no {F:zB}{last:List Bd}{fresh:List Nat}(s:St F last fresh) {p:Nat}(hp:p<F.os.length) (hw:¬ ∃ w∈F.ws,w.f=p):(zY F last fresh).getD p []=last.getD p []:=by
 unfold zY;rw[iC _ _ _ _ (by rw[s.len];exact hp),if_neg (λ h=>hw (S9 h))]
def St.aQ {F:zB}{last:List Bd}{fresh:List Nat}(s:St F last fresh) (p:Nat):yb ((zY F last fresh).getD p []) (last.getD p []):=by
 by_cases hp:p<F.os.length
 .by_cases hw:∃ w∈F.ws,w.f=p
  .rw[s.at hp hw];exact s.le p hp hw
  .rw[s.no hp hw];exact yb.refl _
 .have h1:(zY F last fresh).getD p []=[]:=by
   rw[zB1,List.getElem?_eq_none (by rw[sG,s.len];omega)];rfl
  rw[h1];intro q x;cases x
def St.next {F:zB}(ok:F.Ok) {last:List Bd}{fresh:List Nat}(s:St F last fresh):St F (zY F last fresh) (xj last (zY F last fresh)) where
 len:=by rw[sG,s.len]
 gd:=λ b hb=>by
  unfold zY at hb;obtain⟨p,hp,rfl⟩:=zB0.mp hb;split
  .exact cE ok last p
  .have hlt:=zC1.mp hp;rw[zB1,zA1 hlt];exact s.gd _ (List.getElem_mem hlt)
 fr:=λ p hp hn hw=>by
  rw[s.at hp hw];refine UW F p λ w w1 w2=>?_;have hwt:=(ok.ws w w1).2;by_cases e:(zY F last fresh).getD w.t []=last.getD w.t []
  .exact e
  .have:uf F (xj last (zY F last fresh)) p=true:=by
    unfold uf;refine zD0.mpr ⟨w,w1,?_⟩;have:w.t∈xj last (zY F last fresh):=by
     unfold xj;exact zC8.mpr ⟨zC1.mpr (by rw[sG,s.len];exact hwt),by simpa using e⟩
    simp[w2,this]
   rw[this] at hn;cases hn
 le:=λ p hp hw=>by
  rw[s.at hp hw];exact UX F p λ w w1 w2=>s.aQ w.t
def SY {last fo:List Bd}(hl:fo.length=last.length) (h:xj last fo≠[]):fo≠last:=λ e=>h (by
 subst e;unfold xj;simp)
noncomputable def start (F:zB):List Bd:=List.replicate F.os.length yY
theorem St.start {F:zB}(ok:F.Ok):St F (start F) (List.range F.os.length) where
 len:=by unfold RN.start;simp
 gd:=λ b hb=>by rw[List.eq_of_mem_replicate hb];exact Gd.yY ok.a0 ok.b0
 fr:=λ p hp hn ⟨w,w1,w2⟩=>by
  have:uf F (List.range F.os.length) p=true:=by
   unfold uf;refine zD0.mpr ⟨w,w1,?_⟩;have:=(ok.ws w w1).2;simp[w2,this]
  rw[this] at hn;cases hn
 le:=λ p hp hw=>by
  have e:(RN.start F).getD p []=yY:=by
   unfold RN.start;rw[zB1,List.getElem?_replicate,if_pos hp];rfl
  rw[e];exact (cE ok _ p).Tx
theorem di {F:zB}(ok:F.Ok):∀ (n:Nat) (told:List (List Bd)) (last:List Bd) (fresh:List Nat),St F last fresh->vp last<n->
  ∃ more last',sk F n told last fresh=some (told++last::more)/\(∀ r∈last::more,r.length=F.os.length/\∀ b∈r,Gd F.A F.B b)/\(last::more).getLast?=some last'/\more.length<=vp last
 | 0,_,_,_,_,h=>by omega
 | n+1,told,last,fresh,s,h=>by
  unfold sk;split
  .exact⟨[],last,rfl,λ r hr=>by cases zB6.mp hr;exact⟨s.len,s.gd⟩,rfl,zD4 _⟩
  .dsimp only;split
   .exact⟨[],last,rfl,λ r hr=>by cases zB6.mp hr;exact⟨s.len,s.gd⟩,rfl,zD4 _⟩
   .rename_i hf;have s':=s.next ok;have hlt:vp (zY F last fresh)<vp last:=jQ ok.a1 ok.b1 (sG ..) s'.gd s.gd s.aQ (SY (sG ..) hf);obtain⟨more,last',e1,e2,e3,e4⟩:=di ok n (told++[last]) _ _ s' (by omega);refine⟨zY F last fresh::more,last',by rw[e1];simp,λ r hr=>?_,by rw[List.getLast?_cons_cons];exact e3,by rw[zC0];omega⟩;rcases zA5.mp hr with e | e
    .subst e;exact⟨s.len,s.gd⟩
    .exact e2 r e
noncomputable def zy (F:zB):Nat->List Bd
 | 0=>start F
 | k+1=>(List.range F.os.length).map λ p=>y6 F (zy F k) p
theorem rR (F:zB):∀ k,(zy F k).length=F.os.length
 | 0=>by unfold zy start;simp
 | k+1=>by unfold zy;simp
def US {F:zB}{last:List Bd}{fresh:List Nat}(s:St F last fresh) (hw:∀ p<F.os.length,∃ w∈F.ws,w.f=p):zY F last fresh=(List.range F.os.length).map λ p=>y6 F last p:=by
 refine List.ext_getElem (by rw[sG,s.len];simp) λ i h1 h2=>?_;have hi:i<F.os.length:=by simpa using h2
 have e:=s.at hi (hw i hi);rw[zB1,zA1 h1] at e;simpa using e
def S_ {last fo:List Bd}(hl:fo.length=last.length) (h:xj last fo=[]):fo=last:=by
 refine List.ext_getElem hl λ i h1 h2=>?_;have:i∉xj last fo:=by rw[h];simp
 unfold xj at this;rw[zC8] at this;have e:fo.getD i []=last.getD i []:=Classical.byContradiction λ hne=>this ⟨zC1.mpr h1,by simpa using hne⟩;rw[zB1,zA1 h1,zB1,zA1 h2] at e;simpa using e
theorem dk {F:zB}(ok:F.Ok) (hw:∀ p<F.os.length,∃ w∈F.ws,w.f=p):∀ (n:Nat) (told:List (List Bd)) (k:Nat) (fresh:List Nat) (res:List (List Bd)),St F (zy F k) fresh->fresh≠[]->told=(List.range k).map (zy F)->
  sk F n told (zy F k) fresh=some res->∃ m,res=(List.range (m+1)).map (zy F)/\zy F (m+1)=zy F m
 | 0,_,_,_,_,_,_,_,h=>by cases h
 | n+1,told,k,fresh,res,s,hf,ht,h=>by
  unfold sk at h;rw[if_neg hf] at h;dsimp only at h;have e:zY F (zy F k) fresh=zy F (k+1):=US s hw;have et:told++[zy F k]=(List.range (k+1)).map (zy F):=by rw[ht,List.range_succ,zE7];rfl
  rw[e,et] at h;split at h
  .rename_i hfr;cases h;exact⟨k,rfl,S_ (by rw[rR,rR]) hfr⟩
  .rename_i hfr;have s':=s.next ok;rw[e] at s';exact dk ok hw n _ (k+1) _ res s' hfr rfl h
theorem ik {F:zB}{m:Nat}(h:zy F (m+1)=zy F m):∀ k,zy F (m+k)=zy F m
 | 0=>rfl
 | k+1=>by
  have ih:=ik h k;show (List.range F.os.length).map (λ p=>y6 F (zy F (m+k)) p)=_;rw[ih];exact h
def Zr (pu:Bool) (b:Bd):Prop:=∀ p∈b,wI pu p=0
def Zr.nil {pu:Bool}:Zr pu []:=λ _ h=>by cases h
theorem Zr.yY {pu:Bool}:Zr pu yY:=λ p h=>by
 cases zB6.mp h;cases pu <;> rfl
def Zr.least {pu:Bool}{ps:Bd}(h:Zr pu ps):Zr pu (wj ps):=λ p hp=>h p (cW hp)
noncomputable def uA (pu:Bool) (w:Wy):Int:=if pu=true then w.a else w.b
def qM {x:Int}(h:x<=0):yi x=0:=by unfold yi;rw[if_neg (by omega)]
def Q4 {pu:Bool}{A B:Int}{w:Wy}{bd:Bd}(h:Zr pu bd) (hw:uA pu w=0):Zr pu (wM A B w.a w.b bd):=Zr.least λ p hp=>by
 obtain⟨h1,_⟩:=zC8.mp hp;obtain⟨q,hq,rfl⟩:=zB0.mp h1;have:=h q hq;unfold wI at this;unfold uA at hw;cases pu
 .show yi (q.2-w.b)=0;exact qM (by simp at this hw;omega)
 .show yi (q.1-w.a)=0;exact qM (by simp at this hw;omega)
theorem ar {pu:Bool}:∀ (bs:List Bd) (b:Bd),Zr pu b->(∀ c∈bs,Zr pu c)->Zr pu (bs.foldl vx b)
 | [],b,h,_=>h
 | c::bs,b,h,hb=>ar bs _ (Zr.least λ p hp=>by
   rcases zB9.mp hp with x | x
   .exact h p x
   .exact hb c zMc p x) λ d hd=>hb d (zMo _ hd)
theorem aY {pu:Bool}:∀ (bs:List Bd) (b:Bd),Zr pu b->(∀ c∈bs,Zr pu c)->Zr pu (bs.foldl vb b)
 | [],b,h,_=>h
 | c::bs,b,h,hb=>aY bs _ (Zr.least λ p hp=>by
   obtain⟨x,hx,hm⟩:=List.mem_flatMap.mp hp;obtain⟨y,hy,rfl⟩:=zB0.mp hm;have h1:=h x hx;have h2:=hb c zMc y hy;unfold wI at h1 h2;cases pu
   .simp at h1 h2;show (if y.2>x.2 then y.2 else x.2)=0;split <;> omega
   .simp at h1 h2;show (if y.1>x.1 then y.1 else x.1)=0;split <;> omega) λ d hd=>hb d (zMo _ hd)
def UQ {F:zB}(h:F.ss=[]) (p:Nat):F.stall p=none:=by unfold zB.stall;rw[h];rfl
def jO {F:zB}(h:F.ss=[]) (last:List Bd) (p:Nat):y6 F last p=if F.os.getD p false=true then uj (xN F last p) else pk (xN F last p):=by
 unfold y6;rw[UQ h]
def UT {pu:Bool}{F:zB}(hs:F.ss=[]) (hz:∀ w∈F.ws,uA pu w=0) {last:List Bd}(h:∀ t,Zr pu (last.getD t [])) (p:Nat):Zr pu (y6 F last p):=by
 have ha:∀ c∈xN F last p,Zr pu c:=λ c hc=>by
  obtain⟨w,hw,rfl⟩:=zB0.mp hc;exact Q4 (h w.t) (hz w (zC8.mp hw).1)
 rw[jO hs];split
 .exact ar _ _ Zr.nil ha
 .exact aY _ _ Zr.yY ha
def ip (F:zB) (k:Nat) {t:Nat}(h:t<F.os.length):(zy F (k+1)).getD t []=y6 F (zy F k) t:=iC _ _ _ _ h
def bq (F:zB) (k:Nat) {t:Nat}(h:¬ t<F.os.length):(zy F k).getD t []=[]:=by
 rw[zB1,List.getElem?_eq_none (by rw[rR];omega)];rfl
def iq (F:zB) {t:Nat}(h:t<F.os.length):(zy F 0).getD t []=yY:=by
 show (List.replicate F.os.length yY).getD t []=yY;rw[zB1,List.getElem?_replicate,if_pos h];rfl
theorem bp {pu:Bool}{F:zB}(hs:F.ss=[]) (hz:∀ w∈F.ws,uA pu w=0):∀ (k t:Nat),Zr pu ((zy F k).getD t [])
 | k,t=>by
  by_cases h:t<F.os.length
  .cases k with
   | zero=>rw[iq F h];exact Zr.yY
   | succ k=>rw[ip F k h];exact UT hs hz (bp hs hz k) t
  .rw[bq F k h];exact Zr.nil
def fW {pu:Bool}{b:Bd}(hb:wQ b) (hz:Zr pu b):b=[]\/∃ x,b=[xm pu x 0]:=by
 cases b with
 | nil=>exact .inl rfl
 | cons p b=>
  cases b with
  | nil=>
   refine .inr ⟨xH pu p,?_⟩;have:=hz p zMc;obtain⟨x,y⟩:=p;cases pu
   .have e:y=0:=this;subst e;rfl
   .have e:x=0:=this;subst e;rfl
  | cons q b=>
   exfalso;have h1:=hz p zMc;have h2:=hz q (zMo _ zMc);have h3:=(List.pairwise_cons.mp hb).1 q zMc;unfold wI at h1 h2;cases pu
   .simp at h1 h2;omega
   .simp at h1 h2;omega
structure Zn (F G:zB) (R:Wy->Wy->Prop):Prop where
 A:G.A=F.A
 B:G.B=F.B
 os:G.os=F.os
 s1:F.ss=[]
 s2:G.ss=[]
 to:∀ w∈F.ws,∃ v∈G.ws,(v.f=w.f/\v.t=w.t)/\R w v
 oQ:∀ v∈G.ws,∃ w∈F.ws,(v.f=w.f/\v.t=w.t)/\R w v
def UU {F G:zB}{R:Wy->Wy->Prop}(S:Zn F G R) {l m:List Bd}(hR:∀ w v,R w v->v.t=w.t->yb (wM F.A F.B w.a w.b (l.getD w.t [])) (wM F.A F.B v.a v.b (m.getD w.t []))) (p:Nat):yb (y6 F l p) (y6 G m p):=by
 rw[jO S.s1,jO S.s2,S.os];split
 .intro q h;rw[uj,iT] at h ⊢;rcases h with h | ⟨c,hc,h⟩
  .exact .inl h
  .obtain⟨w,hw,rfl⟩:=zB0.mp hc;obtain⟨hw1,hw2⟩:=zC8.mp hw;obtain⟨v,hv,⟨e1,e2⟩,r⟩:=S.to w hw1;refine .inr ⟨wM G.A G.B v.a v.b (m.getD v.t []),zB0.mpr ⟨v,zC8.mpr ⟨hv,by rw[e1];exact hw2⟩,rfl⟩,?_⟩;rw[S.A,S.B,e2];exact hR w v r e2 q h
 .intro q h;rw[pk,gf] at h ⊢;refine⟨h.1,λ c hc=>?_⟩;obtain⟨v,hv,rfl⟩:=zB0.mp hc;obtain⟨hv1,hv2⟩:=zC8.mp hv;obtain⟨w,hw,⟨e1,e2⟩,r⟩:=S.oQ v hv1;have:=h.2 _ (zB0.mpr ⟨w,zC8.mpr ⟨hw,by rw[<- e1];exact hv2⟩,rfl⟩);rw[S.A,S.B,e2];exact hR w v r e2 q this
theorem il {F G:zB}{R:Wy->Wy->Prop}(S:Zn F G R) (P:Nat->List Bd->List Bd->Prop) (hP:∀ k,P k (zy F k) (zy G k))
  (hR:∀ (k:Nat) (l m:List Bd) w v,P k l m->(∀ t,yb (l.getD t []) (m.getD t []))->R w v->yb (wM F.A F.B w.a w.b (l.getD w.t [])) (wM F.A F.B v.a v.b (m.getD w.t []))):∀ (k t:Nat),yb ((zy F k).getD t []) ((zy G k).getD t [])
 | k,t=>by
  by_cases h:t<F.os.length
  .have h':t<G.os.length:=by rw[S.os];exact h
   cases k with
   | zero=>rw[iq F h,iq G h'];exact yb.refl _
   | succ k=>
    rw[ip F k h,ip G k h'];exact UU S (λ w v r _=>hR k _ _ w v (hP k) (il S P hP hR k) r) t
  .rw[bq F k h];exact λ q hq=>by cases hq
noncomputable def yw (pu:Bool) (w:Wy):Wy:=if pu=true then ⟨w.f,w.t,0,w.b⟩ else ⟨w.f,w.t,w.a,0⟩
def Q0 (pu:Bool) (w:Wy):uA pu (yw pu w)=0:=by cases pu <;> rfl
def sZ (pu:Bool) (w:Wy):(yw pu w).f=w.f/\(yw pu w).t=w.t:=by cases pu <;> exact⟨rfl,rfl⟩
def Q3 {pu:Bool}{A B:Int}(hA:0<=A) (hB:0<=B) {w:Wy}{b c:Bd}(h:yb b c) (hz:Zr pu c):yb (wM A B w.a w.b b) (wM A B (yw pu w).a (yw pu w).b c):=ly λ p hp=>by
 obtain⟨h1,h2⟩:=zC8.mp hp;obtain⟨q,hq,rfl⟩:=zB0.mp h1;obtain⟨r,hr,r1,r2⟩:=h.at hq;have h3:(yv w.a w.b q).1<=A/\(yv w.a w.b q).2<=B:=by simpa [xW] using h2
 have z:=hz r hr;unfold wI at z;have m1:(yv (yw pu w).a (yw pu w).b r).1<=(yv w.a w.b q).1:=by
  cases pu
  .exact rN (by show r.1-w.a<=_;omega)
  .show yi (r.1-0)<=yi _;simp at z;rw[qM (by omega)];exact tE _
 have m2:(yv (yw pu w).a (yw pu w).b r).2<=(yv w.a w.b q).2:=by
  cases pu
  .show yi (r.2-0)<=yi _;simp at z;rw[qM (by omega)];exact tE _
  .exact rN (by show r.2-w.b<=_;omega)
 exact⟨yv (yw pu w).a (yw pu w).b r,zC8.mpr ⟨zB0.mpr ⟨r,hr,rfl⟩,by simp[xW];omega⟩,m1,m2⟩
def Q2 {pu:Bool}{A B:Int}{w:Wy}{b c:Bd}(h:yb b c) (hz:Zr pu b) (hw:0<=uA pu w):yb (wM A B (yw pu w).a (yw pu w).b b) (wM A B w.a w.b c):=ly λ p hp=>by
 obtain⟨h1,h2⟩:=zC8.mp hp;obtain⟨q,hq,rfl⟩:=zB0.mp h1;obtain⟨r,hr,r1,r2⟩:=h.at hq;have h3:(yv (yw pu w).a (yw pu w).b q).1<=A/\(yv (yw pu w).a (yw pu w).b q).2<=B:=by simpa [xW] using h2
 have z:=hz q hq;unfold wI at z;unfold uA at hw;have m1:(yv w.a w.b r).1<=(yv (yw pu w).a (yw pu w).b q).1:=by
  cases pu
  .exact rN (by show r.1-w.a<=q.1-w.a;omega)
  .show yi (r.1-w.a)<=yi _;simp at z hw;rw[qM (x:=r.1-w.a) (by omega)];exact tE _
 have m2:(yv w.a w.b r).2<=(yv (yw pu w).a (yw pu w).b q).2:=by
  cases pu
  .show yi (r.2-w.b)<=yi _;simp at z hw;rw[qM (x:=r.2-w.b) (by omega)];exact tE _
  .exact rN (by show r.2-w.b<=q.2-w.b;omega)
 exact⟨yv w.a w.b r,zC8.mpr ⟨zB0.mpr ⟨r,hr,rfl⟩,by simp[xW];omega⟩,m1,m2⟩
structure uY (pu:Bool) (F G:zB):Prop where
 A:G.A=F.A
 B:G.B=F.B
 os:G.os=F.os
 s1:F.ss=[]
 s2:G.ss=[]
 to:∀ w∈F.ws,yw pu w∈G.ws
 oQ:∀ v∈G.ws,∃ w∈F.ws,v=yw pu w
section
variable {pu:Bool}{F G:zB}
def uY.ou (a:uY pu F G):∀ w∈G.ws,uA pu w=0:=λ w hw=>by
 obtain⟨v,_,rfl⟩:=a.oQ w hw;exact Q0 pu v
def uY.zr (a:uY pu F G) (k t:Nat):Zr pu ((zy G k).getD t []):=bp a.s2 a.ou k t
def uY.le (a:uY pu F G) (hA:0<=F.A) (hB:0<=F.B) (k t:Nat):yb ((zy F k).getD t []) ((zy G k).getD t []):=
 il (R:=λ w v=>v=yw pu w) ⟨a.A,a.B,a.os,a.s1,a.s2,λ w hw=>⟨_,a.to w hw,sZ pu w,rfl⟩,λ v hv=>by
  obtain⟨w,hw,rfl⟩:=a.oQ v hv;exact⟨w,hw,sZ pu w,rfl⟩⟩ (λ _ _ m=>∀ t,Zr pu (m.getD t [])) (λ k t=>a.zr k t)
  (λ k l m w v hp hc r=>by subst r;exact Q3 hA hB (hc w.t) (hp w.t)) k t
def uY.ge (a:uY pu F G) (h0:∀ w∈F.ws,0<=uA pu w) (k t:Nat):yb ((zy G k).getD t []) ((zy F k).getD t []):=
 il (R:=λ v w=>v=yw pu w/\0<=uA pu w) ⟨a.A.symm,a.B.symm,a.os.symm,a.s2,a.s1,λ v hv=>by
  obtain⟨w,hw,rfl⟩:=a.oQ v hv;exact⟨w,hw,⟨(sZ pu w).1.symm,(sZ pu w).2.symm⟩,rfl,h0 w hw⟩,λ w hw=>⟨_,a.to w hw,⟨(sZ pu w).1.symm,(sZ pu w).2.symm⟩,rfl,h0 w hw⟩⟩ (λ _ l _=>∀ t,Zr pu (l.getD t [])) (λ k t=>a.zr k t)
  (λ k l m v w hp hc r=>by
   obtain⟨rfl,hw⟩:=r;exact Q2 (hc _) (hp _) hw) k t
end
def bu {F G:zB}{m n:Nat}(h:zy F (m+1)=zy F m) (h':zy G (n+1)=zy G n):∃ k,zy F k=zy F m/\zy G k=zy G n:=
 ⟨m+n,ik h n,by rw[Nat.add_comm];exact ik h' m⟩
noncomputable def qc (pu:Bool) (b:Bd):Option Int:=b.head?.map (xH pu)
end RN
namespace yz
open PySem L2 L3 L5
def fL:Sm:=
 (retS (lN (instS "int" (zf 0)) (c7 (instS "bool" (zf 0)))))
def kd:List T->Option T:=yh ["thing"] 1 fL
def f6:Sm:=
 (retS (zx vI (zc (zb zo (zf 0) (cS (.int 1))) zj)))
def qm:List T->Option T:=yh ["floor"] 1 f6
def fU:Sm:=
 (retS (lN (zb iG (zb zo (zf 0) (cS (.int 0))) (zb zo (zf 1) (cS (.int 0)))) (zb iG (zb zo (zf 0) (cS (.int 1))) (zb zo (zf 1) (cS (.int 1))))))
def mn:List T->Option T:=yh ["pair","other"] 2 fU
def pz:Sm:=
 (xi (lG (sR (xy (zf 1))) (y4 (zb ud (zb zo (zf 2) (cS (.int 1))) (zb zo (zb zo (zf 1) (lh (cS (.int 1)))) (cS (.int 1)))))) (xB 1 (zq 2)) xg)
def fB:Sm:=
 (zv (vQ 1 (wg zj))
 (zv (xV [2] (xh (zx qv (zc (zf 0) zj))) (zD 2) pz)
 (retS (zx tj (zc (zf 1) zj)))))
def tU:List T->Option T:=yh ["pairs","least","pair"] 1 fB
def sW:Sm:=
 (zv (xB 4 (iu (y4 (zb (zU false) (zf 3) (cS (.int 0)))) (tupS (zc (zq 5) (zc (zq 6) zj))) (tupS (zc (zq 6) (zc (zq 5) zj)))))
 (zv (zZ 5 (zb yq (zf 5) (zb zo (zf 1) (cS (.int 2)))))
 (zZ 6 (zx uE (zc (cS (.int 0)) (zc (zb se (zf 6) (zb zo (zf 1) (cS (.int 3)))) zj))))))
def f7:Sm:=
 (zv (zZ 3 (zb zo (zf 1) (cS (.int 1))))
 (zv (vQ 4 (wg zj))
 (zv (zZ 5 (zb zo (zf 2) (zf 3)))
 (zv (zZ 6 (zb zo (zf 2) (zb se (cS (.int 1)) (zf 3))))
 (zv (pL 1000000 [] (y4 (zb qO (zf 5) (zb zo (zf 0) (zf 3)))) sW)
 (rC 4))))))
def nW:List T->Option T:=yh ["brims","stall","pair","purse","pairs","given","got"] 3 f7
def kf:Sm:=
 (zv (xi (y4 (zb (zU false) (zf 1) (cS (.int 0)))) (retS (tupS (zc (zb zo (zf 0) (cS (.int 0))) (zc (zb zo (zf 0) (cS (.int 1))) (zc (zb zo (zf 0) (cS (.int 2))) (zc (cS (.int 0)) zj)))))) xg)
 (retS (tupS (zc (zb zo (zf 0) (cS (.int 0))) (zc (zb zo (zf 0) (cS (.int 1))) (zc (cS (.int 0)) (zc (zb zo (zf 0) (cS (.int 3))) zj)))))))
def pC:List T->Option T:=yh ["way","purse"] 2 kf
def fH:Sm:=
 (zv (xi (y4 (zb ud (zf 1) (zx vI (zc (zf 0) zj)))) (retS (zb zo (zf 0) (zf 1))) xg)
 (retS (cS (.int 0))))
def uv:List T->Option T:=yh ["_law_script","_law_k"] 2 fH
def Zf:Sm:=
 (zv (xB 2 (zb yu (zf 3) (zb xv (cS (.int 10)) (cS (.int 6)))))
 (zZ 3 (zb xJ (zf 3) (zb xv (cS (.int 10)) (cS (.int 6))))))
def Ze:Sm:=
 (zv (zZ 3 (zb yu (zb yq (zb yq (zb vo (zf 3) (cS (.int 52027))) (zb xJ (zf 3) (zb xv (cS (.int 10)) (cS (.int 22))))) (zb vo (cS (.int 13)) (zf 4))) (zb yq (zb xv (cS (.int 10)) (cS (.int 45))) (cS (.int 9)))))
 (xB 2 (zb xJ (zb vo (zf 3) (zb yq (zb xJ (zf 3) (zb xv (cS (.int 10)) (cS (.int 23)))) (cS (.int 7)))) (zb xv (cS (.int 10)) (cS (.int 9))))))
def Yb:Sm:=
 (zv (vQ 2 (wg zj))
 (zv (zZ 3 (zx gu (zc (zb xJ (zf 0) (cS (.int 2))) zj)))
 (zv (xi (y4 (zb (zU false) (zb yu (zf 0) (cS (.int 2))) (cS (.int 1)))) (zv (xV [4] (wX t8 (zc (zf 1) zj)) (zD 4) Zf)
 (rC 2)) xg)
 (zv (zZ 3 (zb yq (zb yu (zf 3) (zb yq (zb xv (cS (.int 10)) (cS (.int 45))) (cS (.int 9)))) (cS (.int 77003))))
 (zv (xV [4] (wX t8 (zc (zf 1) zj)) (zD 4) Ze)
 (rC 2))))))
def pF:List T->Option T:=yh ["_law_cell","_law_count","_law_found","_law_number","_law_k"] 2 Yb
def fJ:Sm:=
 (retS (zx oA (zc (cS (.int 12)) (zc (zb yq (zb se (zb yu (zb yu (zf 0) (cS (.int 25))) (zb yq (zb uC (cS (.int 2)) (zf 1)) (cS (.int 1)))) (zf 1)) (zb yu (zb vv (zf 0) (cS (.int 25))) (cS (.int 2)))) zj))))
def pG:List T->Option T:=yh ["_law_number","_law_most"] 2 fJ
def fD:Sm:=
 (retS (zb zo (wg (zc (tupS (zc (cS (.int 4)) (zc (cS (.int 5)) zj))) (zc (tupS (zc (cS (.int 3)) (zc (cS (.int 5)) zj))) (zc (tupS (zc (cS (.int 4)) (zc (cS (.int 4)) zj))) (zc (tupS (zc (cS (.int 2)) (zc (cS (.int 6)) zj))) (zc (tupS (zc (cS (.int 5)) (zc (cS (.int 3)) zj))) (zc (tupS (zc (cS (.int 3)) (zc (cS (.int 4)) zj))) (zc (tupS (zc (cS (.int 1)) (zc (cS (.int 8)) zj))) (zc (tupS (zc (cS (.int 4)) (zc (cS (.int 3)) zj))) (zc (tupS (zc (cS (.int 8)) (zc (cS (.int 2)) zj))) (zc (tupS (zc (cS (.int 2)) (zc (cS (.int 5)) zj))) zj))))))))))) (zb yu (zf 0) (cS (.int 10)))))
def nY:List T->Option T:=yh ["_law_number"] 1 fD
def nF:Sm:=
 (zv (xi (y4 (zb (zU false) (zf 1) (cS (.int 1)))) (zZ 5 (zx uE (zc (cS (.int 0)) (zc (zf 5) zj)))) xg)
 (zv (xi (y4 (zb (zU false) (zf 1) (cS (.int 2)))) (zZ 6 (zx uE (zc (cS (.int 0)) (zc (zf 6) zj)))) xg)
 (xB 2 (tupS (zc (zq 3) (zc (zq 4) (zc (zq 5) (zc (zq 6) zj))))))))
def fE:Sm:=
 (zv (vQ 2 (wg zj))
 (zv (xV [3,4,5,6] (xh (zb zo (zf 0) (cS (.int 2)))) (w9 4 (yH (zD 3) (yH (zD 4) (yH (zD 5) (yH (zD 6) vn))))) nF)
 (retS (tupS (zc (zb zo (zf 0) (cS (.int 0))) (zc (zb zo (zf 0) (cS (.int 1))) (zc (zx tj (zc (zx wR (zc (zf 2) zj)) zj)) (zc (tupS zj) zj))))))))
def nZ:List T->Option T:=yh ["_law_floor_here","_law_way_here","_law_ways","_law_start","_law_end","_law_first","_law_second"] 2 fE
def kg:Sm:=
 (zv (xi (y4 (zb (wY false) (zf 2) (cS .zi))) (retS (zb (zU false) (zf 0) (tupS zj))) xg)
 (retS (zb (zU false) (zf 0) (tupS (zc (zb zo (wg (zc (tupS (zc (zq 2) (zc (cS (.int 0)) zj))) (zc (tupS (zc (cS (.int 0)) (zc (zq 2) zj))) zj))) (zf 1)) zj)))))
def tV:List T->Option T:=yh ["_law_border","_law_purse","_law_number"] 3 kg
def fK:Sm:=
 (retS (lN (zx kd (zc (zq 0) zj)) (aV qO qO (zf 1) (zf 0) (zf 2))))
def qo:List T->Option T:=yh ["thing","least","most"] 3 fK
def hZ:Ev->Option T:=
 wo [none] (xh (zf 0)) (zD 0) sV (tupS (zc (zb zo (zf 0) (cS (.int 0))) (zc (cS (.int 0)) (zc (zb zo (zf 0) (cS (.int 1))) zj))))
def hX:Ev->Option T:=
 wo [none] (xh (zf 1)) (zD 0) sV (tupS (zc (zb zo (zf 0) (cS (.int 0))) (zc (cS (.int 1)) (zc (zb zo (zf 0) (cS (.int 1))) zj))))
def nJ:Sm:=
 (zv (ax 3 (zf 6) (zx oA (zc (zf 7) (zc (az 3 (zf 6) (zq 7)) zj))))
 (xi (y4 (zb (zU false) (iV 3) (cS (.int 2)))) (xB 4 (tupS (zc (zq 5) (zc (zx uE (zc (iW 3 (cS (.int 0))) (zc (iW 3 (cS (.int 1))) zj))) zj)))) xg))
def fP:Sm:=
 (zv (zZ 2 (zb yq hZ hX))
 (zv (ay 3)
 (zv (vQ 4 (wg zj))
 (zv (xV [5,6,7] (xh (zx qv (zc (zf 2) zj))) (w9 3 (yH (zD 5) (yH (zD 6) (yH (zD 7) vn)))) nJ)
 (iI 4 (retS (zx tU (zc (zq 4) zj))))))))
def mh:List T->Option T:=yh ["border","other","steps","lows","shared","first","side","second"] 2 fP
def fN:Sm:=
 (retS (zx tU (zc (zb yq (zx listS (zc (zf 0) zj)) (zx listS (zc (zf 1) zj))) zj)))
def me:List T->Option T:=yh ["border","other"] 2 fN
def nB:Ev->Option T:=
 wo [none,some 1] (xh (zf 2)) (zD 0) sV (tupS (zc (zx uE (zc (cS (.int 0)) (zc (zb se (zb zo (zf 0) (cS (.int 0))) (zb zo (zf 1) (cS (.int 2)))) zj))) (zc (zx uE (zc (cS (.int 0)) (zc (zb se (zb zo (zf 0) (cS (.int 1))) (zb zo (zf 1) (cS (.int 3)))) zj))) zj)))
def ny:Ev->Option T:=
 wo [none,some 0] (xh (zf 3)) (zD 0) (xy (zx mn (zc (zq 1) (zc (zq 0) zj)))) (zq 0)
def fT:Sm:=
 (zv (zZ 3 nB)
 (retS (zx tU (zc ny zj))))
def ml:List T->Option T:=yh ["brims","way","border","pairs"] 3 fT
def nA:Ev->Option T:=
 wo [none,some 1] (xh (zb zo (zf 0) (cS (.int 2)))) (zD 0) sV (zx pC (zc (zq 0) (zc (zq 1) zj)))
def fM:Sm:=
 (zv (zZ 2 (zx wR (zc nA zj)))
 (retS (tupS (zc (zb zo (zf 0) (cS (.int 0))) (zc (zb zo (zf 0) (cS (.int 1))) (zc (zx tj (zc (zf 2) zj)) (zc (tupS zj) zj)))))))
def md:List T->Option T:=yh ["floor","purse","ways"] 2 fM
def fC:Sm:=
 (retS (tupS (zc (zq 0) (zc (zb yu (zb yu (zf 2) (cS (.int 8))) (zf 1)) (zc (zx pG (zc (zb yu (zb vv (zf 2) (cS (.int 8))) (cS (.int 50))) (zc (zq 3) zj))) (zc (zx pG (zc (zb yu (zb vv (zf 2) (cS (.int 400))) (cS (.int 50))) (zc (zq 3) zj))) zj))))))
def rf:List T->Option T:=yh ["_law_place","_law_many","_law_number","_law_size"] 4 fC
def fO:Sm:=
 (xi (sR (xy (zx qo (zc (zq 1) (zc (cS (.int 0)) (zc (zb se (zx qm (zc (zq 0) zj)) (cS (.int 1))) zj)))))) jK xg)
def mf:List T->Option T:=yh ["floor","place"] 2 fO
def nK:Sm:=
 (zZ 1 (zx me (zc (zq 1) (zc (zq 2) zj))))
def fR:Sm:=
 (zv (zZ 1 (tupS zj))
 (zv (xV [2] (xh (zq 0)) (zD 2) nK)
 (retS (zq 1))))
def mi:List T->Option T:=yh ["borders","joined","border"] 1 fR
def nL:Sm:=
 (zZ 1 (zx mh (zc (zq 1) (zc (zq 2) zj))))
def fS:Sm:=
 (zv (zZ 1 (tupS (zc (tupS (zc (cS (.int 0)) (zc (cS (.int 0)) zj))) zj)))
 (zv (xV [2] (xh (zq 0)) (zD 2) nL)
 (retS (zq 1))))
def mj:List T->Option T:=yh ["borders","joined","border"] 1 fS
def nH:Sm:=
 (xB 6 (zx rf (zc (zq 8) (zc (zq 4) (zc (zb zo (zf 3) (zb yq (zb yq (cS (.int 3)) (zb uC (cS (.int 4)) (zf 8))) (zf 11))) (zc (zq 10) zj))))))
def qb:Sm:=
 (zv (zZ 9 (zb zo (zf 3) (zb yq (cS (.int 2)) (zb uC (cS (.int 4)) (zf 8)))))
 (zv (xB 5 (zb zo (wg (zc (cS (.str "keeper")) (zc (cS (.str "taker")) zj))) (zb yu (zf 9) (cS (.int 2)))))
 (zv (zZ 10 (zb zo (wg (zc (cS (.int 2)) (zc (cS (.int 3)) (zc (cS (.int 3)) (zc (cS (.int 12)) zj))))) (zb yu (zb vv (zf 9) (cS (.int 2))) (cS (.int 4)))))
 (zv (xV [11] (wX t8 (zc (zb yq (cS (.int 1)) (zb yu (zb vv (zf 9) (cS (.int 8))) (cS (.int 3)))) zj)) (zD 11) nH)
 (xi (oX (y4 (zb (zU false) (zb zo (zf 5) (zf 8)) (cS (.str "keeper")))) (y4 (zb (zU false) (zb yu (zb vv (zf 9) (cS (.int 24))) (cS (.int 3))) (cS (.int 0))))) (xB 7 (tupS (zc (zq 8) (zc (zb yu (zb vv (zf 9) (cS (.int 72))) (cS (.int 2))) (zc (zb yq (cS (.int 1)) (zb yu (zb vv (zf 9) (cS (.int 144))) (cS (.int 4)))) (zc (zb yu (zb vv (zf 9) (cS (.int 576))) (cS (.int 5))) zj)))))) xg)))))
def nD:Sm:=
 (xB 6 (zx rf (zc (zb yu (zb yu (zb vv (zb zo (zf 3) (cS (.int 0))) (cS (.int 64))) (cS (.int 8))) (zf 4)) (zc (zq 4) (zc (zb zo (zf 3) (zb yq (cS (.int 34)) (zf 11))) (zc (cS (.int 3)) zj))))))
def fG:Sm:=
 (zv (zZ 3 (zx pF (zc (zq 0) (zc (cS (.int 43)) zj))))
 (zv (zZ 4 (zb yq (cS (.int 1)) (zb yu (zb zo (zf 3) (cS (.int 0))) (zf 1))))
 (zv (vQ 5 (wg zj))
 (zv (vQ 6 (wg zj))
 (zv (vQ 7 (wg zj))
 (zv (xV [8,9,10,11] (wX t8 (zc (zf 4) zj)) (zD 8) qb)
 (zv (xi (y4 (zb (zU false) (zb yu (zb vv (zb zo (zf 3) (cS (.int 0))) (cS (.int 8))) (cS (.int 8))) (cS (.int 1)))) (xV [11] (wX t8 (zc (zx oA (zc (cS (.int 9)) (zc (zb se (cS (.int 24)) (zx vI (zc (zf 6) zj))) zj))) zj)) (zD 11) nD) xg)
 (zv (zZ 12 (tupS (zc (zb yu (zb zo (zf 3) (cS (.int 1))) (zb yq (zf 2) (cS (.int 1)))) (zc (zb yu (zb vv (zb zo (zf 3) (cS (.int 1))) (cS (.int 13))) (zb yq (zf 2) (cS (.int 1)))) zj))))
 (retS (tupS (zc (zq 12) (zc (zx tj (zc (zf 5) zj)) (zc (zx tj (zc (zx wR (zc (zf 6) zj)) zj)) (zc (zx tj (zc (zf 7) zj)) zj))))))))))))))
def ma:List T->Option T:=yh ["_law_cell","_law_most","_law_brim","_law_xs","_law_many","_law_owners","_law_ways","_law_stalls","_law_place","_law_number","_law_size","_law_k","_law_brims"] 3 fG
def n4:Ev->Option T:=
 wo [none,none,some 1] (wX sQ (zc (zb zo (zf 0) (cS (.int 2))) zj)) (w9 2 (yH (zD 0) (yH (zD 1) vn))) (y4 (zb (zU false) (zb zo (zf 1) (cS (.int 0))) (zf 2))) (zq 0)
def fu:Sm:=
 (zv (iU (zx mf (zc (zq 0) (zc (zq 1) zj))))
 (retS n4))
def nV:List T->Option T:=yh ["floor","place"] 2 fu
def px:Sm:=
 (xi (y4 (zb (zU false) (zb zo (zf 2) (cS (.int 0))) (zf 1))) (retS (zq 2)) xg)
def fx:Sm:=
 (zv (iU (zx mf (zc (zq 0) (zc (zq 1) zj))))
 (zv (xV [2] (xh (zb zo (zf 0) (cS (.int 3)))) (zD 2) px)
 (retS (cS .zi))))
def ql:List T->Option T:=yh ["floor","place","stall"] 2 fx
def nM:Sm:=
 (iP 4 (zx nW (zc (zb zo (zf 0) (cS (.int 0))) (zc (zq 3) (zc (zq 5) zj)))))
def kh:Sm:=
 (zv (zZ 3 (zx ql (zc (zq 0) (zc (zq 1) zj))))
 (zv (xi (y4 (zb (wY false) (zf 3) (cS .zi))) (retS (zq 2)) xg)
 (zv (vQ 4 (wg zj))
 (zv (xV [5] (xh (zq 2)) (zD 5) nM)
 (iI 4 (retS (zx tU (zc (zq 4) zj))))))))
def pJ:List T->Option T:=yh ["floor","place","border","stall","pairs","pair"] 3 kh
def n6:Ev->Option T:=
 wo [none,some 0] (xh (zx nV (zc (zq 0) (zc (zq 1) zj)))) (zD 0) sV (zb zo (zb zo (zf 1) (cS (.int 2))) (zf 0))
def nv:Ev->Option T:=
 wo [none,some 0,some 2] (xh (zf 3)) (zD 0) sV (zx ml (zc (zb zo (zf 1) (cS (.int 0))) (zc (zq 0) (zc (zb zo (zf 2) (zb zo (zf 0) (cS (.int 1)))) zj))))
def fA:Sm:=
 (zv (zZ 3 n6)
 (zv (zZ 4 nv)
 (zv (xi (y4 (zb (zU false) (zb zo (zb zo (zf 0) (cS (.int 1))) (zf 1)) (cS (.str "keeper")))) (retS (zx pJ (zc (zq 0) (zc (zq 1) (zc (zx mi (zc (zq 4) zj)) zj))))) xg)
 (retS (zx mj (zc (zq 4) zj))))))
def nX:List T->Option T:=yh ["floor","place","last","ways","ahead"] 3 fA
def n5:Ev->Option T:=
 wo [none,some 2] (xh (zb zo (zf 0) (cS (.int 2)))) (zD 0) (y4 (zb (qU false) (zb zo (zf 0) (cS (.int 1))) (zf 1))) (zb zo (zf 0) (cS (.int 0)))
def nE:Sm:=
 (cM 3 (zf 4) (zx nX (zc (zq 0) (zc (zq 4) (zc (zq 1) zj)))))
def f9:Sm:=
 (zv (vQ 3 (zx listS (zc (zf 1) zj)))
 (zv (xV [4] (xh (zx wR (zc n5 zj))) (zD 4) nE)
 (rC 3)))
def pE:List T->Option T:=yh ["floor","last","fresh","following","place"] 3 f9
def ph:Ev->Option T:=
 wo [none,none,some 3] (wX sQ (zc (zf 4) zj)) (w9 2 (yH (zD 0) (yH (zD 1) vn))) (y4 (zb (zU true) (zf 1) (zb zo (zf 2) (zf 0)))) (zq 0)
def uo:Sm:=
 (zv (zZ 3 (zb zo (zf 1) (lh (cS (.int 1)))))
 (zv (zZ 4 (zx pE (zc (zq 0) (zc (zq 3) (zc (zq 2) zj)))))
 (zv (zZ 2 ph)
 (xi (xy (zf 2)) (xB 1 (zq 4)) xg))))
def fy:Sm:=
 (zv (vQ 1 (wg (zc (zb uC (wg (zc (tupS (zc (tupS (zc (cS (.int 0)) (zc (cS (.int 0)) zj))) zj)) zj)) (zx qm (zc (zq 0) zj))) zj)))
 (zv (zZ 2 (zx oD (zc (zx qm (zc (zq 0) zj)) zj)))
 (zv (pL 1000000 [3,4] (xy (zf 2)) uo)
 (rC 1))))
def pD:List T->Option T:=yh ["floor","told","fresh","last","following"] 1 fy
def fQ:Sm:=
 (retS (zb zo (zx pD (zc (zq 0) zj)) (lh (cS (.int 1)))))
def rg:List T->Option T:=yh ["floor"] 1 fQ
def nC:Ev->Option T:=
 wo [none,some 1] (xh (zx rg (zc (zx md (zc (zq 0) (zc (zq 1) zj))) zj))) (zD 0) sV (iu (xy (zf 0)) (zb zo (zb zo (zf 0) (cS (.int 0))) (zf 1)) (cS .zi))
def fV:Sm:=
 (zv (xi (sR (xy (zx qo (zc (zq 1) (zc (cS (.int 0)) (zc (cS (.int 1)) zj)))))) jK xg)
 (retS (zx tj (zc nC zj))))
def rh:List T->Option T:=yh ["floor","purse"] 2 fV
def nG:Sm:=
 (xi (lG (y4 (zb ud (zf 7) (zb zo (zf 2) (zf 5)))) (y4 (zb ud (zf 8) (zb zo (zf 3) (zf 5))))) (retS (cS (.bl false))) xg)
def pq:Sm:=
 (zv (zZ 6 (zb zo (zf 4) (zf 5)))
 (zv (xi (oX (lG (y4 (zb (wY false) (zb zo (zf 2) (zf 5)) (cS .zi))) (y4 (zb (wY false) (zb zo (zf 3) (zf 5)) (cS .zi)))) (y4 (zb (zU true) (zf 6) (tupS zj)))) (retS (cS (.bl false))) xg)
 (zv (xV [7,8] (xh (zq 6)) (w9 2 (yH (zD 7) (yH (zD 8) vn))) nG)
 (zv (xi (oX (y4 (zb (zU false) (zf 1) (cS (.int 2)))) (sR (xy (zx tV (zc (zq 6) (zc (cS (.int 0)) (zc (zb zo (zf 2) (zf 5)) zj))))))) (retS (cS (.bl false))) xg)
 (xi (oX (y4 (zb (zU false) (zf 1) (cS (.int 1)))) (sR (xy (zx tV (zc (zq 6) (zc (cS (.int 1)) (zc (zb zo (zf 3) (zf 5)) zj))))))) (retS (cS (.bl false))) xg)))))
def fF:Sm:=
 (zv (zZ 2 (zx rh (zc (zq 0) (zc (cS (.int 0)) zj))))
 (zv (zZ 3 (zx rh (zc (zq 0) (zc (cS (.int 1)) zj))))
 (zv (zZ 4 (zx rg (zc (zq 0) zj)))
 (zv (xV [5,6,7,8] (wX t8 (zc (zx vI (zc (zb zo (zf 0) (cS (.int 1))) zj)) zj)) (zD 5) pq)
 (retS (cS (.bl true)))))))
def n_:List T->Option T:=yh ["_law_floor_here","_law_way_here","_law_firsts","_law_seconds","_law_told","_law_place","_law_border","_law_x","_law_y"] 2 fF
def nI:Sm:=
 (zv (zZ 5 (zx uv (zc (zq 0) (zc (zq 4) zj))))
 (zv (zZ 6 (zb yu (zx uv (zc (zq 0) (zc (zb yq (zf 4) (cS (.int 1))) zj))) (cS (.int 3))))
 (xi (sR (xy (zx n_ (zc (zx nZ (zc (zx ma (zc (zq 5) (zc (zq 2) (zc (zq 3) zj)))) (zc (zq 6) zj))) (zc (zq 6) zj))))) (retS (cS (.bl false))) xg)))
def Yc:Sm:=
 (zv (zZ 1 (zx uv (zc (zq 0) (zc (cS (.int 0)) zj))))
 (zv (eE (zx nY (zc (zq 1) zj)) (w9 2 (yH (zD 2) (yH (zD 3) vn))))
 (zv (xV [4,5,6] (wX pX (zc (cS (.int 1)) (zc (zx uE (zc (cS (.int 2)) (zc (zx oA (zc (zx vI (zc (zf 0) zj)) (zc (cS (.int 60)) zj))) zj))) (zc (cS (.int 20)) zj)))) (zD 4) nI)
 (retS (cS (.bl true))))))
def pH:List T->Option T:=yh ["_law_script","_law_cell","_law_most","_law_brim","_law_k","_law_number","_law_way_here"] 1 Yc
def YX (ps:List (Int×Int)) (h:ps.length<64):qv [.lst (ps.map zp)]=some (.lst ((tu ps).map zp)):=by
 show (vA (ps.map zp)).bind _=_;rw[Xy,zC9,if_pos ⟨by simpa using h,λ r hr=>by obtain⟨p,_,rfl⟩:=zB0.mp hr;simp[vk]⟩,<- eP,zD6];rfl
def SA {qs p:List (Int×Int)}{x:Int×Int}(hr:∀ r,qs++yG r (qs.getLast?.map (·.2))=yG (p++r) none) (hb:uP (qs.getLast?.map (·.2)) x.2=true) (r:List (Int×Int)):
  (qs++[x])++yG r ((qs++[x]).getLast?.map (·.2))=yG (p++[x]++r) none:=by
 have:=hr (x::r);rw[show yG (x::r) (qs.getLast?.map (·.2))=x::yG r (some x.2) by rw[yG,if_pos hb]] at this;simpa using this
def SD {qs p:List (Int×Int)}{x:Int×Int}(hr:∀ r,qs++yG r (qs.getLast?.map (·.2))=yG (p++r) none) (hb:uP (qs.getLast?.map (·.2)) x.2=false) (r:List (Int×Int)):
  qs++yG r (qs.getLast?.map (·.2))=yG (p++[x]++r) none:=by
 have:=hr (x::r);rw[show yG (x::r) (qs.getLast?.map (·.2))=yG r (qs.getLast?.map (·.2)) by rw[yG,if_neg (by rw[hb];nofun)]] at this;simpa using this
def kc (ps:List (Int×Int)) (hl:ps.length<64):tU [.lst (ps.map zp)]=some (.tup ((wj ps).map zp)):=by
 obtain⟨J',h1,qs,h2,h3,h4⟩:=ue (is:=[2]) (g:=zD 2) (b:=pz) zp (λ p J=>∃ qs:List (Int×Int),J=[some (.im (.lst (ps.map zp))),some (.own (.lst (qs.map zp))),none]/\qs.length<=p.length/\
   ∀ r,qs++yG r (qs.getLast?.map (·.2))=yG (p++r) none) (tu ps) [some (.im (.lst (ps.map zp))),some (.own (.lst [])),none] ⟨[],by simp,by simp,λ r=>by simp⟩ (by
  rintro p x q e J ⟨qs,rfl,hq,hr⟩;have hlen:p.length<64:=by
   have:=congrArg List.length e;rw[(kB ps).length_eq] at this;simp at this;omega
  have app:uP (qs.getLast?.map (·.2)) x.2=true->∃ qs':List (Int×Int),y7 [2] [some (.im (.lst (ps.map zp))),some (.own (.lst (qs.map zp++[zp x]))),some (.im (zp x))]=[some (.im (.lst (ps.map zp))),some (.own (.lst (qs'.map zp))),none]/\qs'.length<=(p++[x]).length/\∀ r,qs'++yG r (qs'.getLast?.map (·.2))=yG (p++[x]++r) none:=λ hb=>
   ⟨qs++[x],by simp,by simp;omega,SA hr hb⟩
  rcases List.eq_nil_or_concat qs with rfl | ⟨init,l,rfl⟩
  .refine⟨_,?_,app (by simp[uP])⟩;simp[turn,pz]
  .simp only[List.concat_eq_append] at *;by_cases hb:x.2<l.2
   .refine⟨_,?_,app (by simp[uP,hb])⟩;simp at hq;simp[turn,pz,zp,hb,ud];omega
   .refine⟨[some (.im (.lst (ps.map zp))),some (.own (.lst ((init++[l]).map zp))),some (.im (zp x))],?_,init++[l],by simp,by simp at hq ⊢;omega,SD hr (by simp[uP];omega)⟩;simp[turn,pz,zp,hb,ud])
 have h5:=h4 [];simp[yG] at h5;unfold tU fB;simp[YX ps hl,h1,h2,h5,wj]
def QS (b o:List (Int×Int)) (hl:b.length+o.length<64):me [.tup (b.map zp),.tup (o.map zp)]=some (.tup ((wj (b++o)).map zp)):=by
 have h:=kc (b++o) (by simpa using hl);rw[zE7] at h;have:b.length+o.length<=16777216:=by omega
 unfold me fN;simp[h,this]
noncomputable def r0 (p:Int×Int):List Int:=[p.1,0,p.2]
noncomputable def r1 (p:Int×Int):List Int:=[p.1,1,p.2]
noncomputable def yX (l:Option Int) (v:Int):Int:=match l with
 | none=>v
 | some m=>if m<v then m else v
noncomputable def vC (l:Option Int) (sh:List (Int×Int)) (f:Int->Int×Int):List (Int×Int):=match l with
 | some m=>sh++[f m]
 | none=>sh
structure Sw (b o:List (Int×Int)) (p:List (List Int)) (l0 l1:Option Int) (sh:List (Int×Int)):Prop where
 jU:∀ x,r0 x∈p->∃ m,l0=some m/\m<=x.2
 jT:∀ x,r1 x∈p->∃ m,l1=some m/\m<=x.2
 gm:∀ m,l0=some m->∃ x,r0 x∈p/\x.2=m
 gk:∀ m,l1=some m->∃ x,r1 x∈p/\x.2=m
 len:sh.length<=p.length
 snd:∀ s∈sh,(∃ x,r0 x∈p/\x.1<=s.1/\x.2<=s.2)/\∃ x,r1 x∈p/\x.1<=s.1/\x.2<=s.2
 all:∀ x y,r0 x∈p->r1 y∈p->∃ s∈sh,(s.1<=x.1\/s.1<=y.1)/\(s.2<=x.2\/s.2<=y.2)
def mP {x y:Int×Int}(h:r0 x=r0 y):x=y:=by
 unfold r0 at h;injection h with h1 h2;injection h2 with _ h2;injection h2 with h2 _;exact Prod.ext h1 h2
def mO {x y:Int×Int}(h:r1 x=r1 y):x=y:=by
 unfold r1 at h;injection h with h1 h2;injection h2 with _ h2;injection h2 with h2 _;exact Prod.ext h1 h2
def qA {x y:Int×Int}(h:r0 x=r1 y):False:=by
 unfold r0 r1 at h;injection h with h1 h2;injection h2 with h2 _;omega
def uD {p:List (List Int)}{a x:List Int}(h:a∈p++[x]):a∈p\/a=x:=by simpa using h
def Sw.YQ {b o:List (Int×Int)}{p:List (List Int)}{l0 l1:Option Int}{sh:List (Int×Int)}(h:Sw b o p l0 l1 sh) (x:Int×Int) (hx:∀ y,r0 y∈p->y.1<=x.1) (hy:∀ y,r1 y∈p->y.1<=x.1):
  Sw b o (p++[r0 x]) (some (yX l0 x.2)) l1 (vC l1 sh λ m=>(x.1,if m>yX l0 x.2 then m else yX l0 x.2)):=by
 have lo:yX l0 x.2<=x.2/\∀ m,l0=some m->yX l0 x.2<=m:=by
  unfold yX;cases l0 with
  | none=>exact⟨zC6 _,nofun⟩
  | some m=>dsimp only;split <;> refine⟨by omega,λ m' e=>?_⟩ <;> cases e <;> omega
 have la:∃ y,r0 y∈p++[r0 x]/\y.2=yX l0 x.2:=by
  unfold yX;cases l0 with
  | none=>exact⟨x,by simp,rfl⟩
  | some m=>
   dsimp only;split
   .obtain⟨y,h1,h2⟩:=h.gm m rfl;exact⟨y,by simp[h1],h2⟩
   .exact⟨x,by simp,rfl⟩
 have snd':∀ s∈sh,(∃ x',r0 x'∈p++[r0 x]/\x'.1<=s.1/\x'.2<=s.2)/\∃ x',r1 x'∈p++[r0 x]/\x'.1<=s.1/\x'.2<=s.2:=λ s hs=>by
  obtain⟨⟨a,a1,a2⟩,c,c1,c2⟩:=h.snd s hs;exact⟨⟨a,by simp[a1],a2⟩,c,by simp[c1],c2⟩
 refine⟨λ y hm=>?_,λ y hm=>?_,λ m e=>?_,λ m e=>?_,?_,λ s hs=>?_,λ y z hm hz=>?_⟩
 .rcases uD hm with q | q
  .obtain⟨m,e,q2⟩:=h.jU y q;exact⟨_,rfl,by have:=lo.2 m e;omega⟩
  .cases mP q;exact⟨_,rfl,lo.1⟩
 .rcases uD hm with q | q
  .exact h.jT y q
  .exact (qA q.symm).elim
 .cases e;exact la
 .obtain⟨y,q1,q2⟩:=h.gk m e;exact⟨y,by simp[q1],q2⟩
 .have:=h.len;cases l1 <;> simp[vC] <;> omega
 .cases l1 with
  | none=>exact snd' s hs
  | some m=>
   rcases zB9.mp hs with q | q
   .exact snd' s q
   .obtain rfl:s=_:=by simpa using q
    obtain⟨y,y1,y2⟩:=la;obtain⟨z,z1,z2⟩:=h.gk m rfl;have hzx:=hy z z1;refine⟨⟨y,y1,?_,by dsimp only;split <;> omega⟩,z,by simp[z1],hzx,by dsimp only;split <;> omega⟩;rcases uD y1 with w | w
    .exact hx y w
    .cases mP w;exact zC6 _
 .have hz':r1 z∈p:=by
   rcases uD hz with q | q
   .exact q
   .exact (qA q.symm).elim
  rcases uD hm with q | q
  .obtain⟨s,s1,s2⟩:=h.all y z q hz';refine⟨s,?_,s2⟩;cases l1 <;> simp[vC,s1]
  .cases mP q;obtain⟨m,e,hm⟩:=h.jT z hz';subst e;refine⟨_,zB4 _ zMc,.inl (zC6 _),?_⟩;have:=lo.1;dsimp only;split <;> omega
def Sw.swap {b o:List (Int×Int)}{p:List (List Int)}{l0 l1:Option Int}{sh:List (Int×Int)}(x:Int×Int) (h:Sw b o p l0 l1 sh) (hx:∀ y,r0 y∈p->y.1<=x.1) (hy:∀ y,r1 y∈p->y.1<=x.1):
  Sw b o (p++[r1 x]) l0 (some (yX l1 x.2)) (vC l0 sh λ m=>(x.1,if yX l1 x.2>m then yX l1 x.2 else m)):=by
 have lo:yX l1 x.2<=x.2/\∀ m,l1=some m->yX l1 x.2<=m:=by
  unfold yX;cases l1 with
  | none=>exact⟨zC6 _,nofun⟩
  | some m=>dsimp only;split <;> refine⟨by omega,λ m' e=>?_⟩ <;> cases e <;> omega
 have la:∃ y,r1 y∈p++[r1 x]/\y.2=yX l1 x.2:=by
  unfold yX;cases l1 with
  | none=>exact⟨x,by simp,rfl⟩
  | some m=>
   dsimp only;split
   .obtain⟨y,h1,h2⟩:=h.gk m rfl;exact⟨y,by simp[h1],h2⟩
   .exact⟨x,by simp,rfl⟩
 have snd':∀ s∈sh,(∃ x',r0 x'∈p++[r1 x]/\x'.1<=s.1/\x'.2<=s.2)/\∃ x',r1 x'∈p++[r1 x]/\x'.1<=s.1/\x'.2<=s.2:=λ s hs=>by
  obtain⟨⟨a,a1,a2⟩,c,c1,c2⟩:=h.snd s hs;exact⟨⟨a,by simp[a1],a2⟩,c,by simp[c1],c2⟩
 refine⟨λ y hm=>?_,λ y hm=>?_,λ m e=>?_,λ m e=>?_,?_,λ s hs=>?_,λ y z hm hz=>?_⟩
 .rcases uD hm with q | q
  .exact h.jU y q
  .exact (qA q).elim
 .rcases uD hm with q | q
  .obtain⟨m,e,q2⟩:=h.jT y q;exact⟨_,rfl,by have:=lo.2 m e;omega⟩
  .cases mO q;exact⟨_,rfl,lo.1⟩
 .obtain⟨y,q1,q2⟩:=h.gm m e;exact⟨y,by simp[q1],q2⟩
 .cases e;exact la
 .have:=h.len;cases l0 <;> simp[vC] <;> omega
 .cases l0 with
  | none=>exact snd' s hs
  | some m=>
   rcases zB9.mp hs with q | q
   .exact snd' s q
   .obtain rfl:s=_:=by simpa using q
    obtain⟨y,y1,y2⟩:=la;obtain⟨z,z1,z2⟩:=h.gm m rfl;have hzx:=hx z z1;refine⟨⟨z,by simp[z1],hzx,by dsimp only;split <;> omega⟩,y,y1,?_,by dsimp only;split <;> omega⟩;rcases uD y1 with w | w
    .exact hy y w
    .cases mO w;exact zC6 _
 .have hm':r0 y∈p:=by
   rcases uD hm with q | q
   .exact q
   .exact (qA q).elim
  rcases uD hz with q | q
  .obtain⟨s,s1,s2⟩:=h.all y z hm' q;refine⟨s,?_,s2⟩;cases l0 <;> simp[vC,s1]
  .cases mO q;obtain⟨m,e,hm⟩:=h.jU y hm';subst e;refine⟨_,zB4 _ zMc,.inr (zC6 _),?_⟩;have:=lo.1;dsimp only;split <;> omega
structure Lw (d:List (Key×T)) (l0 l1:Option Int):Prop where
 v0:xa d (.inl 0)=l0.map T.int
 v1:xa d (.inl 1)=l1.map T.int
 len:d.length=(if l0.isSome then 1 else 0)+if l1.isSome then 1 else 0
def Lw.XO {d:List (Key×T)}{l0 l1:Option Int}(h:Lw d l0 l1) (v:Int):Lw (vB d (.inl 0) (.int v)) (some v) l1:=by
 refine⟨by rw[mv];simp,by rw[mv];simpa using h.v1,?_⟩;rw[cV,h.v0,h.len];cases l0 <;> cases l1 <;> simp
def Lw.XN {d:List (Key×T)}{l0 l1:Option Int}(h:Lw d l0 l1) (v:Int):Lw (vB d (.inl 1) (.int v)) l0 (some v):=by
 refine⟨by rw[mv];simpa using h.v0,by rw[mv];simp,?_⟩;rw[cV,h.v1,h.len];cases l0 <;> cases l1 <;> simp
def lC {rows p q:List (List Int)}{x:List Int}(e:L4.xu rows=p++x::q) {a:List Int}(ha:a∈p) {i j:Int}{as xs:List Int}(h1:a=i::as) (h2:x=j::xs):i<=j:=by
 have h:=L4.kA rows;rw[e,List.pairwise_append] at h;have:=h.2.2 a ha x zMc;subst h1 h2;rw[HT.sI] at this;by_cases c:j=i
 .omega
 .rw[if_neg c] at this;have:=of_decide_eq_false this;omega
def QX (b o:List (Int×Int)) (hl:b.length+o.length<64):∃ sh:List (Int×Int),mh [.tup (b.map zp),.tup (o.map zp)]=some (.tup ((wj sh).map zp))/\sh.length<64/\∀ q,yg sh q=(yg b q&&yg o q):=by
 let a0:W:=.im (.tup (b.map zp))
 let a1:W:=.im (.tup (o.map zp))
 let rows:=b.map r0++o.map r1
 let a2:W:=.im (.lst (rows.map zP))
 have hlen:rows.length<64:=by simp[rows];exact hl
 have hs:qv [.lst (rows.map zP)]=some (.lst ((L4.xu rows).map zP)):=by
  show ((vA (rows.map zP)).bind λ rs=>_)=_;rw[jg,zC9,if_pos ⟨hlen,λ r hr=>by
   rcases zB9.mp hr with h | h <;> obtain⟨_,_,rfl⟩:=zB0.mp h <;> simp[r0,r1]⟩]
 have plen:(L4.xu rows).length=rows.length:=(L4.tq rows).length_eq;obtain⟨J1,h1,d,l0,l1,sh,e1,w1,s1⟩:=ue (is:=[5,6,7]) (g:=w9 3 (yH (zD 5) (yH (zD 6) (yH (zD 7) vn)))) (b:=nJ) zP (λ p J=>∃ d l0 l1 sh,J=[some a0,some a1,some a2,some (.own (.ya d)),some (.own (.lst (sh.map zp))),none,none,none]/\Lw d l0 l1/\Sw b o p l0 l1 sh) (L4.xu rows) [some a0,some a1,some a2,some (.own (.ya [])),some (.own (.lst [])),none,none,none]
  ⟨[],none,none,[],by simp,⟨rfl,rfl,rfl⟩,⟨nofun,nofun,nofun,nofun,by simp,nofun,nofun⟩⟩ (by
  rintro p x q e J ⟨d,l0,l1,sh,rfl,hw,hsw⟩;have hx:x∈rows:=(L4.tq rows).mem_iff.mp (by rw[e];simp);have hpl:p.length<64:=by
   have:=congrArg List.length e;rw[plen] at this;simp at this;omega
  have hsl:sh.length<16777216:=by have:=hsw.len;omega
  have hdl:d.length<16777216:=by rw[hw.len];split <;> split <;> omega
  rcases zB9.mp hx with hm | hm
  .obtain⟨y,_,rfl⟩:=zB0.mp hm;have st:=hsw.YQ y (λ z hz=>lC e hz rfl rfl) (λ z hz=>lC e hz rfl rfl);have hw':=hw.XO (yX l0 y.2);refine⟨[some a0,some a1,some a2,some (.own (.ya (vB d (.inl 0) (.int (yX l0 y.2))))),some (.own (.lst ((vC l1 sh λ m=>(y.1,if m>yX l0 y.2 then m else yX l0 y.2)).map zp))),some (.im (.int y.1)),some (.im (.int 0)),some (.im (.int y.2))],?_,_,_,_,_,(by simp),hw',st⟩;have hr:zP (r0 y)=.tup [.int y.1,.int 0,.int y.2]:=rfl;have v0:=hw'.v0;have v1:=hw'.v1;have ln:=hw'.len;cases l0 <;> cases l1 <;> simp[turn,nJ,hr,hw.v0,hdl,hsl,yX,vC,zU,dep,eqT] at v0 v1 ln ⊢ <;> simp[v0,v1,ln,zp,vC]
  .obtain⟨y,_,rfl⟩:=zB0.mp hm;have st:=hsw.swap y (λ z hz=>lC e hz rfl rfl) (λ z hz=>lC e hz rfl rfl);have hw':=hw.XN (yX l1 y.2);refine⟨[some a0,some a1,some a2,some (.own (.ya (vB d (.inl 1) (.int (yX l1 y.2))))),some (.own (.lst ((vC l0 sh λ m=>(y.1,if yX l1 y.2>m then yX l1 y.2 else m)).map zp))),some (.im (.int y.1)),some (.im (.int 1)),some (.im (.int y.2))],?_,_,_,_,_,(by simp),hw',st⟩;have hr:zP (r1 y)=.tup [.int y.1,.int 1,.int y.2]:=rfl;have v0:=hw'.v0;have v1:=hw'.v1;have ln:=hw'.len;cases l0 <;> cases l1 <;> simp[turn,nJ,hr,hw.v1,hdl,hsl,yX,vC,zU,dep,eqT] at v0 v1 ln ⊢ <;> simp[v0,v1,ln,zp,vC])
 have hsh:sh.length<64:=by have:=s1.len;omega
 refine⟨sh,?_,hsh,λ q=>?_⟩
 .subst e1;have hc1:hZ [some a0,some a1,none,none,none,none,none,none]=some (.lst ((b.map r0).map zP)):=by
   rw[zD6];exact rQ zp (zP ∘ r0) b (by simp[a0]) (by omega) λ y _=>by simp[zp,zP,r0]
  have hc2:hX [some a0,some a1,none,none,none,none,none,none]=some (.lst ((o.map r1).map zP)):=by
   rw[zD6];exact rQ zp (zP ∘ r1) o (by simp[a1]) (by omega) λ y _=>by simp[zp,zP,r1]
  have hF:=kc sh hsh;have z:b.length+o.length<=16777216:=by omega
  simp only[a0,a1,a2,rows,zE7] at hc1 hc2 hs h1;unfold mh fP;simp[hc1,hc2,z,hs,h1,hF] at hc1 hc2 hs h1 ⊢;simp[hc1,hc2,z,hs,h1,hF]
 .have m0:∀ x,r0 x∈L4.xu rows↔x∈b:=λ x=>by
   rw[(L4.tq rows).mem_iff];constructor
   .intro h;rcases zB9.mp h with h | h <;> obtain⟨y,hy,e⟩:=zB0.mp h
    .cases mP e;exact hy
    .exact (qA e.symm).elim
   .exact λ h=>List.mem_append_left _ (List.mem_map_of_mem h)
  have m1:∀ x,r1 x∈L4.xu rows↔x∈o:=λ x=>by
   rw[(L4.tq rows).mem_iff];constructor
   .intro h;rcases zB9.mp h with h | h <;> obtain⟨y,hy,e⟩:=zB0.mp h
    .exact (qA e).elim
    .cases mO e;exact hy
   .exact λ h=>zB4 _ (List.mem_map_of_mem h)
  rw[zC7,zE5,xk,xk,xk];constructor
  .rintro⟨s,hs,g1,g2⟩;obtain⟨⟨x,x1,x2,x3⟩,y,y1,y2,y3⟩:=s1.snd s hs;exact⟨⟨x,(m0 x).mp x1,by omega,by omega⟩,y,(m1 y).mp y1,by omega,by omega⟩
  .rintro⟨⟨x,x1,x2,x3⟩,y,y1,y2,y3⟩;obtain⟨s,s1,g1,g2⟩:=s1.all x y ((m0 x).mpr x1) ((m1 y).mpr y1);exact⟨s,s1,by omega,by omega⟩
theorem iX {α:Type}(enc:α->T) (n:Nat) (h:∀ x,dep (enc x)<=n):∀ xs:List α,yC (xs.map enc)<=n
 | []=>by simp[yC]
 | x::xs=>by
  have:=h x;have:=iX enc n h xs;simp only[zA6,yC];omega
def RD (p:Int×Int):dep (zp p)<=1:=by simp[zp,dep,yC]
def lI (ps:List (Int×Int)):dep (.tup (ps.map zp))<=60:=by
 have:=iX zp 1 RD ps;simp only[dep];omega
def af {ps qs:List (Int×Int)}(h:ps=qs):zU false (.tup (ps.map zp)) (.tup (qs.map zp))=some (.bl true):=by
 subst h;unfold zU;rw[if_pos ⟨lI ps,lI ps⟩,lE];rfl
end yz
namespace yz
open PySem L2 L3 L5 RN
noncomputable def bT (b:Bd):T:=.tup (b.map zp)
noncomputable def rT (r:List Bd):T:=.lst (r.map bT)
noncomputable def kt (b:Bool):T:=if b=true then .str "keeper" else .str "taker"
noncomputable def zJ (w:Wy):T:=.tup [.int w.f,.int w.t,.int w.a,.int w.b]
noncomputable def xb (b:Bool):Int:=if b=true then 1 else 0
noncomputable def x8 (s:Sl):T:=.tup [.int s.p,.int (xb s.pu),.int s.gv,.int s.gt]
noncomputable def zu (F:zB):T:=.tup [.tup [.int F.A,.int F.B],.tup (F.os.map kt),.tup (F.ws.map zJ),.tup (F.ss.map x8)]
def eq_int (i j:Int) (neg:Bool):zU neg (.int i) (.int j)=some (.bl (cond neg (!decide (i=j)) (decide (i=j)))):=by
 simp[zU,dep,eqT];cases neg <;> simp[Bool.beq_eq_decide_eq]
def Z4 (F:zB):qm [zu F]=some (.int F.os.length):=by
 simp[qm,f6,zu]
def Q_ (q p:Int×Int):mn [zp q,zp p]=some (.bl (wK q p)):=by
 by_cases h1:p.1<=q.1 <;> by_cases h2:p.2<=q.2 <;> simp[mn,fU,zp,wK,h1,h2]
def QZ (A B:Int) (w:Wy) (bd:Bd) (hl:bd.length<64):ml [.tup [.int A,.int B],zJ w,bT bd]=some (bT (wM A B w.a w.b bd)):=by
 have h1:nB [some (.im (.tup [.int A,.int B])),some (.im (zJ w)),some (.im (bT bd)),none]=some (.lst ((bd.map (yv w.a w.b)).map zp)):=by
  rw[zD6];unfold nB;refine rQ zp _ bd (by simp[bT]) (by omega) λ p _=>?_;simp[zp,zJ,yv,yi,qV]
 have h2:ny [some (.im (.tup [.int A,.int B])),some (.im (zJ w)),some (.im (bT bd)),some (.im (.lst ((bd.map (yv w.a w.b)).map zp)))]=some (.lst (((bd.map (yv w.a w.b)).filter (xW A B)).map zp)):=by
  have:=l4 zp (λ p=>if xW A B p=true then some (zp p) else none) (pick:=[none,some 0]) (it:=xh (zf 3)) (g:=zD 0) (c:=xy (zx mn (zc (zq 1) (zc (zq 0) zj)))) (f:=zq 0) (J:=[some (.im (.tup [.int A,.int B])),some (.im (zJ w)),some (.im (bT bd)),some (.im (.lst ((bd.map (yv w.a w.b)).map zp)))]) (bd.map (yv w.a w.b)) (by simp) (by simp;omega) (λ p _=>by
   have e:T.tup [.int A,.int B]=zp (A,B):=rfl;have ga:wK (A,B) p=xW A B p:=rfl;simp only[tF,e];simp[Q_,ga];cases xW A B p <;> simp)
  unfold ny;rw[this,show ∀ l:List (Int×Int),l.filterMap (λ p=>if xW A B p=true then some (zp p) else none)=(l.filter (xW A B)).map zp from λ l=>by
   induction l with
   | nil=>rfl
   | cons a l ih=>by_cases h:xW A B a=true <;> simp[List.filterMap_cons,h,ih]]
 have h3:=kc ((bd.map (yv w.a w.b)).filter (xW A B)) (Nat.lt_of_le_of_lt (List.length_filter_le _ _) (by simpa using hl));unfold ml fT;generalize nB=d1 at h1 ⊢;generalize ny=d2 at h2 ⊢;generalize tU=ff at h3 ⊢;generalize (bd.map (yv w.a w.b)).map zp=L1 at h1 h2;generalize (((bd.map (yv w.a w.b)).filter (xW A B)).map zp)=L2 at h2 h3;simp[h1,h2,h3];rfl
def QR (b c:Bd) (hl:b.length+c.length<64):me [bT b,bT c]=some (bT (vx b c)):=QS b c hl
def QW (b c:Bd) (hl:b.length+c.length<64):mh [bT b,bT c]=some (bT (vb b c)):=by
 obtain⟨sh,h1,_,h2⟩:=QX b c hl;have:wj sh=vb b c:=wQ.eq (j_ _) (j_ _) λ q=>by
  rw[lz,h2,<- aX]
 rw[<- this];exact h1
def QQ {A B:Int}(hA:0<=A/\A<=12) (bs:List Bd) (h:∀ b∈bs,Gd A B b):mi [.lst (bs.map bT)]=some (bT (uj bs)):=by
 obtain⟨J',h1,h2⟩:=ue (is:=[2]) (g:=zD 2) (b:=nK) bT (λ p J=>J=[some (.im (.lst (bs.map bT))),some (.im (bT (p.foldl vx []))),none]) bs [some (.im (.lst (bs.map bT))),some (.im (bT [])),none] rfl (by
  rintro p x q e J rfl;have g1:Gd A B (p.foldl vx []):=lF p [] Gd.nil λ c hc=>h c (by rw[e];simp[hc]);have g2:Gd A B x:=h x (by rw[e];simp);have l1:=g1.qN hA.1;have l2:=g2.qN hA.1;refine⟨[some (.im (.lst (bs.map bT))),some (.im (bT (vx (p.foldl vx []) x))),some (.im (bT x))],?_,by simp⟩;simp[turn,nK,QR (p.foldl vx []) x (by omega)])
 subst h2;unfold mi fR;generalize nK=bb at h1 ⊢;have e:bT []=.tup []:=rfl;rw[e] at h1;simp[h1,uj]
def QV {A B:Int}(hA:0<=A/\A<=12) (hB:0<=B) (bs:List Bd) (h:∀ b∈bs,Gd A B b):mj [.lst (bs.map bT)]=some (bT (pk bs)):=by
 obtain⟨J',h1,h2⟩:=ue (is:=[2]) (g:=zD 2) (b:=nL) bT (λ p J=>J=[some (.im (.lst (bs.map bT))),some (.im (bT (p.foldl vb yY))),none]) bs [some (.im (.lst (bs.map bT))),some (.im (bT yY)),none] rfl (by
  rintro p x q e J rfl;have g1:Gd A B (p.foldl vb yY):=h_ p yY (Gd.yY hA.1 hB) λ c hc=>h c (by rw[e];simp[hc]);have g2:Gd A B x:=h x (by rw[e];simp);have l1:=g1.qN hA.1;have l2:=g2.qN hA.1;refine⟨[some (.im (.lst (bs.map bT))),some (.im (bT (vb (p.foldl vb yY) x))),some (.im (bT x))],?_,by simp⟩;simp[turn,nL,QW (p.foldl vb yY) x (by omega)])
 subst h2;unfold mj fS;generalize nL=bb at h1 ⊢;have e:bT yY=.tup [.tup [.int 0,.int 0]]:=rfl;rw[e] at h1;simp[h1,pk]
theorem cO {α:Type}{is:List Nat}{g:T->Ev->Option Ev}{b:Sm}(enc ret:α->T) (test:α->Bool) (J0:Ev):∀ (xs:List α) (J:Ev),y7 is J=J0->
  (∀ x∈xs,∃ J',y7 is J'=J0/\turn g b (enc x) J0=some (if test x=true then .rt (ret x) else .nx J'))->
  xw is g b (xs.map enc) J=some (match xs.find? test with | some x=>.rt (ret x) | none=>.nx J0)
 | [],J,h,_=>by rw[List.map_nil,List.find?_nil,xw,h]
 | x::xs,J,h,ht=>by
  rw[zA6,jV,h];obtain⟨J',h1,h2⟩:=ht x zMc;rw[h2,List.find?_cons];by_cases c:test x=true
  .rw[if_pos c,c];rfl
  .rw[if_neg c];rw[Bool.not_eq_true] at c;rw[c];exact cO enc ret test J0 xs J' h1 λ y hy=>ht y (zMo _ hy)
def Zy (i a b:Int):qo [.int i,.int a,.int b]=some (.bl (decide (a<=i)&&decide (i<=b))):=by
 have h:kd [.int i]=some (.bl true):=by simp[kd,fL,tH]
 by_cases h1:a<=i <;> by_cases h2:i<=b <;> simp[qo,fK,h,h1,h2]
def Z5 (F:zB) (p:Nat) (h:p<F.os.length):mf [zu F,.int p]=some .zi:=by
 have h1:=Zy p 0 ((F.os.length:Int)-1);rw[show decide ((0:Int)<=p)=true from decide_eq_true (by omega),show decide ((p:Int)<=(F.os.length:Int)-1)=true from decide_eq_true (by omega)] at h1;have h2:=Z4 F;unfold mf fO;generalize zu F=fl at *;simp[h1,h2]
def RS (pu:Bool) (A B:Int) (sp gv gt:Int) (x y:Int) (hg:1<=gv) (b0 b1:T) (hb:zo b0 (.int (xb pu))=some (.int (if pu=true then B else A))) (hs2:zo b1 (.int 2)=some (.int gv)) (hs3:zo b1 (.int 3)=some (.int gt)) (pr:T):
  ∀ (n m:Nat) (g t:Int) (acc:Bd),(if pu=true then B else A)+1-g<=n->n<m->acc.length+n<=1000->
  ∃ g' t',xU [] (y4 (zb qO (zf 5) (zb zo (zf 0) (zf 3)))) sW m [some (.im b0),some (.im b1),some (.im pr),some (.im (.int (xb pu))),some (.own (.lst (acc.map zp))),some (.im (.int g)),some (.im (.int t))]
   = some (.nx [some (.im b0),some (.im b1),some (.im pr),some (.im (.int (xb pu))),some (.own (.lst ((acc++xM pu (if pu=true then B else A) gv gt n g t).map zp))),some (.im (.int g')),some (.im (.int t'))]):=by
 have hend:∀ (m:Nat) (g t:Int) (acc:Bd),¬ g<=(if pu=true then B else A)->xU [] (y4 (zb qO (zf 5) (zb zo (zf 0) (zf 3)))) sW (m+1) [some (.im b0),some (.im b1),some (.im pr),some (.im (.int (xb pu))),some (.own (.lst (acc.map zp))),some (.im (.int g)),some (.im (.int t))]
   = some (.nx [some (.im b0),some (.im b1),some (.im pr),some (.im (.int (xb pu))),some (.own (.lst (acc.map zp))),some (.im (.int g)),some (.im (.int t))]):=λ m g t acc hn=>by
  unfold xU;simp only[zo] at hb;simp[hb,hn]
 intro n
 induction n with
 | zero=>
  intro m g t acc h1 h2 h3;obtain⟨m,rfl⟩:∃ k,m=k+1:=⟨m-1,by omega⟩
  refine⟨g,t,?_⟩;rw[hend m g t acc (by omega)];simp[xM]
 | succ n ih=>
  intro m g t acc h1 h2 h3;obtain⟨m,rfl⟩:∃ k,m=k+1:=⟨m-1,by omega⟩
  by_cases hc:g<=(if pu=true then B else A)
  .obtain⟨g',t',e⟩:=ih m (g+gv) (yi (t-gt)) (acc++[xm pu g t]) (by omega) (by omega) (by simp;omega);refine⟨g',t',?_⟩;have hb1:sW [some (.im b0),some (.im b1),some (.im pr),some (.im (.int (xb pu))),some (.own (.lst (acc.map zp))),some (.im (.int g)),some (.im (.int t))]=some (.nx [some (.im b0),some (.im b1),some (.im pr),some (.im (.int (xb pu))),some (.own (.lst ((acc++[xm pu g t]).map zp))),some (.im (.int (g+gv))),some (.im (.int (yi (t-gt))))]):=by
    simp only[zo] at hs2 hs3;have hl:acc.length<16777216:=by omega
    unfold sW;cases pu <;> simp[xb,eq_int,hs2,hs3,hl,qV,yi,xm,zp]
   unfold xU;simp only[zo] at hb;generalize sW=bb at *;have e2:xM pu (if pu=true then B else A) gv gt (n+1) g t=xm pu g t::xM pu (if pu=true then B else A) gv gt n (g+gv) (yi (t-gt)):=by
    rw[xM,if_pos hc]
   rw[e2];simp only[List.append_assoc,List.singleton_append] at e;simp[hb,hc,hb1];simpa using e
  .refine⟨g,t,?_⟩;rw[hend m g t acc hc,xM,if_neg hc,List.append_nil]
def QU {F:zB}(ok:F.Ok) (s:Sl) (hs:1<=s.gv/\0<=s.gt) (p:Int×Int) (h0:0<=p.1/\0<=p.2):nW [.tup [.int F.A,.int F.B],x8 s,zp p]=some (.lst ((yU F s p).map zp)):=by
 obtain⟨sp,pu,gv,gt⟩:=s;have a1:=ok.a1;have b1:=ok.b1;obtain⟨g',t',h⟩:=RS pu F.A F.B sp gv gt p.1 p.2 hs.1 (.tup [.int F.A,.int F.B]) (x8 ⟨sp,pu,gv,gt⟩) (by cases pu <;> simp[xb]) (by simp[x8]) (by simp[x8]) (zp p) 100 1000000 (xH pu p) (wI pu p) [] (by cases pu <;> simp[xH] <;> omega) (by decide) (by simp);unfold nW f7 pL;generalize hb:sW=bb at h ⊢;unfold yU zB.zK;simp only[List.map_nil,List.nil_append] at h;cases pu <;> simp[x8,xb,zp,xH,wI] at h ⊢ <;> simp[h]
def QH (F:zB) (p:Nat) (h:p<F.os.length) (hl:F.ss.length<=60):ql [zu F,.int p]=some (match F.stall p with | some s=>x8 s | none=>.zi):=by
 have hl':=cO (is:=[2]) (g:=zD 2) (b:=px) x8 x8 (λ s=>decide (s.p=p)) [some (.im (zu F)),some (.im (.int p)),none] F.ss [some (.im (zu F)),some (.im (.int p)),none] (by simp) λ s _=>⟨[some (.im (zu F)),some (.im (.int p)),some (.im (x8 s))],by simp,by
  by_cases c:s.p=p
  .simp[turn,px,x8,eq_int,c]
  .have c':¬ ((s.p:Int)=(p:Int)):=by omega
   simp[turn,px,x8,eq_int,c,c']⟩
 have h1:=Z5 F p h;have h2:zo (zu F) (.int 3)=some (.tup (F.ss.map x8)):=by simp[zu]
 unfold ql fx;generalize px=bb,zu F=fl at *;simp only[zo] at h2;unfold zB.stall;generalize F.ss.find? _=o at *;simp[h1,h2,hl'];cases o <;> simp
theorem aj:∀ (ws:List Wy) (k:Nat),sP k (ws.map zJ)=(ws.zipIdx k).map λ wi=>T.tup [.int (wi.2:Int),zJ wi.1]
 | [],k=>rfl
 | w::ws,k=>by
  rw[zA6,sP,aj ws (k+1),List.zipIdx_cons,zA6]
theorem ki (f:Wy->Bool):∀ (ws:List Wy) (k:Nat),((ws.zipIdx k).filter λ wi=>f wi.1).map (λ wi=>wi.1)=ws.filter f
 | [],k=>rfl
 | w::ws,k=>by
  rw[List.zipIdx_cons,List.filter_cons,List.filter_cons];by_cases c:f w=true
  .rw[if_pos (by exact c),if_pos c,zA6,ki f ws]
  .rw[if_neg (by exact c),if_neg c,ki f ws]
def QE (F:zB) (p:Nat) (h:p<F.os.length) (hl:F.ws.length<=60):nV [zu F,.int p]=some (.lst (((F.ws.zipIdx).filter λ wi=>decide (wi.1.f=p)).map λ wi=>T.int (wi.2:Int))):=by
 have hc:n4 [some (.im (zu F)),some (.im (.int p))]=some (.lst (((F.ws.zipIdx).filter λ wi=>decide (wi.1.f=p)).map λ wi=>T.int (wi.2:Int))):=by
  have:=l4 (λ wi:Wy×Nat=>T.tup [.int (wi.2:Int),zJ wi.1]) (λ wi=>if wi.1.f=p then some (T.int (wi.2:Int)) else none) (pick:=[none,none,some 1]) (it:=wX sQ (zc (zb zo (zf 0) (cS (.int 2))) zj)) (g:=w9 2 (yH (zD 0) (yH (zD 1) vn))) (c:=y4 (zb (zU false) (zb zo (zf 1) (cS (.int 0))) (zf 2))) (f:=zq 0) (J:=[some (.im (zu F)),some (.im (.int p))]) (F.ws.zipIdx) (by
   rw[<- aj];simp[zu]) (by simp;omega) (λ wi _=>by
   by_cases c:wi.1.f=p
   .simp[zJ,eq_int,c]
   .have c':¬ ((wi.1.f:Int)=(p:Int)):=by omega
    simp[zJ,eq_int,c,c'])
  unfold n4;rw[this];congr 2
  induction F.ws.zipIdx with
  | nil=>rfl
  | cons a l ih=>by_cases c:a.1.f=p <;> simp[List.filterMap_cons,c,ih]
 have h1:=Z5 F p h;unfold nV fu;generalize n4=cc,zu F=fl at *;generalize List.map (λ wi:Wy×Nat=>T.int (wi.2:Int)) _=LL at *;simp[h1,hc]
theorem ag:∀ (b c:Bd),xK (b.map zp) (c.map zp)=decide (b=c)
 | [],[]=>by simp[xK]
 | [],_::_=>by simp[xK]
 | _::_,[]=>by simp[xK]
 | p::b,q::c=>by
  have h:=ag b c;have e:eqT (zp p) (zp q)=decide (p=q):=by
   obtain⟨p1,p2⟩:=p;obtain⟨q1,q2⟩:=q;by_cases h1:p1=q1 <;> by_cases h2:p2=q2 <;> simp[zp,eqT,xK,h1,h2]
  rw[zA6,zA6,xK,e,h];by_cases h1:p=q <;> by_cases h2:b=c <;> simp[h1,h2]
def cF (b c:Bd):zU true (bT b) (bT c)=some (.bl (decide (b≠c))):=by
 have h1:dep (bT b)<=60:=lI b;have h2:dep (bT c)<=60:=lI c;unfold zU;rw[if_pos ⟨h1,h2⟩];show some (T.bl (!(xK (b.map zp) (c.map zp))))=_;rw[ag];by_cases h:b=c <;> simp[h]
def ij (l:List Bd) (p:Nat) (h:p<l.length):zo (rT l) (.int p)=some (bT (l.getD p [])):=by
 show L2.zR (l.map bT) (p:Int)=_;refine uq ?_;rw[zA3,zA1 h,zB1,zA1 h];rfl
def QT {F:zB}(ok:F.Ok) (p:Nat) (hp:p<F.os.length) (b:Bd) (hb:Gd F.A F.B b):pJ [zu F,.int p,bT b]=some (bT (match F.stall p with | none=>b | some s=>nq F s b)):=by
 have h1:=QH F p hp ok.s8;cases hs:F.stall p with
 | none=>
  rw[hs] at h1;unfold pJ kh;generalize ql=f1 at h1 ⊢;generalize zu F=fl,bT b=bb at *;have is1:wY false .zi .zi=some (.bl true):=rfl;simp[h1,is1]
 | some s=>
  rw[hs] at h1;replace h1:ql [zu F,.int p]=some (x8 s):=h1;have hmem:s∈F.ss:=List.mem_of_find?_eq_some hs;have hsz:=ok.ss s hmem;have h64:(F.A+1)*(F.B+1)<64:=by
   rcases ok.sl with x | x
   .rw[x] at hmem;cases hmem
   .exact x
  have a0:=ok.a0;have b0:=ok.b0;have hone:∀ x∈b,((yU F s x).length:Int)<=F.zK s.pu+1:=λ x hx=>by
   have q:=hb.vK x hx;have:=aU s.pu (F.zK s.pu) s.gv s.gt hsz.1 100 (xH s.pu x) (wI s.pu x) (by unfold zB.zK xH;split <;> omega);have g0:0<=xH s.pu x:=by unfold xH;split <;> omega
   unfold yU;omega
  have hall:∀ q:Bd,(∀ x∈q,x∈b)->((q.flatMap (yU F s)).length:Int)<=q.length*(F.zK s.pu+1):=λ q=>by
   induction q with
   | nil=>intro _;simp
   | cons x q ih=>
    intro hq;have i1:=ih λ y hy=>hq y (zMo _ hy);have i2:=hone x (hq x zMc);rw[List.flatMap_cons,zD7,zC0,Int.natCast_add,Int.natCast_add,Int.add_mul];omega
  have hlen:(b.flatMap (yU F s)).length<64:=by
   have h2:=hall b λ _ h=>h;have l1:=hb.qN a0;have l2:=hb.Tv b0;have:((b.flatMap (yU F s)).length:Int)<64:=by
    refine Int.lt_of_le_of_lt h2 (Int.lt_of_le_of_lt ?_ h64);unfold zB.zK;split
    .exact Int.mul_le_mul_of_nonneg_right l1 (by omega)
    .rw[Int.mul_comm (F.A+1)];exact Int.mul_le_mul_of_nonneg_right l2 (by omega)
   omega
  have hbr:zo (zu F) (.int 0)=some (.tup [.int F.A,.int F.B]):=by simp[zu]
  obtain⟨J',h2,h3⟩:=ue (is:=[5]) (g:=zD 5) (b:=nM) zp (λ q J=>J=[some (.im (zu F)),some (.im (.int p)),some (.im (bT b)),some (.im (x8 s)),some (.own (.lst ((q.flatMap (yU F s)).map zp))),none]) b [some (.im (zu F)),some (.im (.int p)),some (.im (bT b)),some (.im (x8 s)),some (.own (.lst [])),none] rfl (by
   rintro q x r e J rfl;have hx:x∈b:=by rw[e];simp
   have q1:=hb.vK x hx;have hF:=QU ok s hsz x ⟨q1.1.1,q1.2.1⟩;have hl2:(q.flatMap (yU F s)).length+(yU F s x).length<=16777216:=by
    have e2:(b.flatMap (yU F s)).length=(q.flatMap (yU F s)).length+((yU F s x).length+(r.flatMap (yU F s)).length):=by rw[e];simp
    omega
   refine⟨[some (.im (zu F)),some (.im (.int p)),some (.im (bT b)),some (.im (x8 s)),some (.own (.lst (((q++[x]).flatMap (yU F s)).map zp))),some (.im (zp x))],?_,by simp⟩;have e3:((q++[x]).flatMap (yU F s)).map zp=(q.flatMap (yU F s)).map zp++(yU F s x).map zp:=by simp
   rw[e3];unfold turn nM;have l3:((q.flatMap (yU F s)).map zp).length+((yU F s x).map zp).length<=16777216:=by simpa using hl2
   generalize nW=ff,(q.flatMap (yU F s)).map zp=L1,(yU F s x).map zp=L2,zu F=fl at *;simp only[zo] at hbr;simp[hbr,hF,l3])
  subst h3;have hF:=kc (b.flatMap (yU F s)) hlen;have nn:wY false (x8 s) .zi=some (.bl false):=rfl;unfold pJ kh;generalize nM=bb,tU=ff,ql=f1,(b.flatMap (yU F s)).map zp=L1 at *;have hbT:x_ (bT b)=some (b.map zp):=rfl;generalize bT b=bt,zu F=fl,x8 s=st at *;simp[h1,nn,hbT,h2,hF];rfl
def QN {F:zB}(ok:F.Ok) (p:Nat) (hp:p<F.os.length) (l:List Bd) (hl:l.length=F.os.length) (hg:∀ b∈l,Gd F.A F.B b):nX [zu F,.int p,rT l]=some (bT (y6 F l p)):=by
 have h1:=QE F p hp ok.uZ;have hw2:zo (zu F) (.int 2)=some (.tup (F.ws.map zJ)):=by simp[zu]
 have hw0:zo (zu F) (.int 0)=some (.tup [.int F.A,.int F.B]):=by simp[zu]
 have hw1:zo (zu F) (.int 1)=some (.tup (F.os.map kt)):=by simp[zu]
 have c1:n6 [some (.im (zu F)),some (.im (.int p)),some (.im (rT l)),none,none]=some (.lst ((F.ws.filter λ w=>decide (w.f=p)).map zJ)):=by
  rw[<- ki (λ w=>decide (w.f=p)) F.ws 0,zD6];unfold n6;refine rQ (λ wi:Wy×Nat=>T.int (wi.2:Int)) _ ((F.ws.zipIdx).filter λ wi=>decide (wi.1.f=p)) ?_ (zE0 (List.length_filter_le _ _) (by rw[List.length_zipIdx];have:=ok.uZ;omega)) λ wi hwi=>?_
  .generalize nV=ff at *;simp[h1]
  .have hm:=(zC8.mp hwi).1;have hg:=List.mem_zipIdx_iff_getElem?.mp hm;have:L2.zR (F.ws.map zJ) (wi.2:Int)=some (zJ wi.1):=by
    exact uq (by rw[zA3,hg];rfl)
   generalize zu F=fl at *;simp only[zo] at hw2;simp[hw2,this]
 have c2:nv [some (.im (zu F)),some (.im (.int p)),some (.im (rT l)),some (.im (.lst ((F.ws.filter λ w=>decide (w.f=p)).map zJ))),none]=some (.lst ((xN F l p).map bT)):=by
  unfold xN;rw[zD6];unfold nv;refine rQ zJ _ (F.ws.filter λ w=>decide (w.f=p)) (by simp) (zE0 (List.length_filter_le _ _) (by have:=ok.uZ;omega)) λ w hw=>?_;have hm:=(zC8.mp hw).1;have ht:w.t<l.length:=by rw[hl];exact (ok.ws w hm).2
  have e1:=ij l w.t ht;have gb:Gd F.A F.B (l.getD w.t []):=by
   rw[zB1,zA1 ht];exact hg _ (List.getElem_mem ht)
  have l13:=gb.qN ok.a0;have a12:=ok.a1;have hF:=QZ F.A F.B w (l.getD w.t []) (by omega);have e2:zo (zJ w) (.int 1)=some (.int (w.t:Int)):=by simp[zJ]
  obtain⟨bd,hbd⟩:∃ bd,l.getD w.t []=bd:=⟨_,rfl⟩
  rw[hbd] at e1 gb hF;have hbd':(l[w.t]?).getD []=bd:=by rw[<- hbd,zB1]
  generalize ml=ff,zu F=fl,rT l=rt,zJ w=wt at *;simp only[zo] at hw0 e1 e2;simp[hw0,e1,e2,hF,hbd']
 have gah:=gr F l p;have c3:=QQ ⟨ok.a0,ok.a1⟩ (xN F l p) gah;have c4:=QV ⟨ok.a0,ok.a1⟩ ok.b0 (xN F l p) gah;have c5:=QT ok p hp (uj (xN F l p)) (lF _ _ Gd.nil gah);have ho:L2.zR (F.os.map kt) (p:Int)=some (kt (F.os.getD p false)):=by
  refine uq ?_;rw[zA3,zA1 hp,zB1,zA1 hp];rfl
 have hk:∀ b:Bool,zU false (kt b) (.str "keeper")=some (.bl b):=λ b=>by cases b <;> rfl
 unfold nX fA;generalize n6=d1,nv=d2,mi=f1,mj=f2,pJ=f3,((F.ws.filter λ w=>decide (w.f=p)).map zJ)=L1,zu F=fl,rT l=rt at *;unfold y6;have hk':=hk (F.os.getD p false);generalize F.os.getD p false=kb at *;generalize kt kb=ktb at *;generalize (T.str "keeper")=ks at *;simp only[zo] at hw1;cases kb with
 | true=>
  simp[c1,c2,hw1,ho,hk',c3,c5]
  all_goals (cases F.stall p <;> rfl)
 | false=>simp[c1,c2,hw1,ho,hk',c4]
theorem iL {α β:Type}(c:α->Bool) (g:α->β):∀ l:List α,l.filterMap (λ x=>if c x=true then some (g x) else none)=(l.filter c).map g
 | []=>rfl
 | a::l=>by by_cases h:c a=true <;> simp[List.filterMap_cons,h,iL c g l]
def Sj (t:Nat) (fr:List Nat):qU false (.int t) (.lst (fr.map λ(k:Nat)=>T.int (k:Int)))=some (.bl (fr.contains t)):=by
 have d1:yC (fr.map λ(k:Nat)=>T.int (k:Int))<=60:=by
  refine iX _ 60 (λ x=>?_) fr;simp[dep]
 have d0:dep (.int (t:Int))<=60:=by simp[dep]
 unfold qU;show (if dep (.int (t:Int))<=60/\yC (fr.map λ(k:Nat)=>T.int (k:Int))<=60 then _ else _)=_;rw[if_pos ⟨d0,d1⟩];show some (T.bl ((fr.map λ(k:Nat)=>T.int (k:Int)).any λ x=>eqT x (.int t)))=_;congr 2;rw[zC7,zD0,List.contains_iff_mem];constructor
 .rintro⟨x,hx,h⟩;obtain⟨k,hk,rfl⟩:=zB0.mp hx;have:(k:Int)=(t:Int):=by simpa [eqT] using h
  have:k=t:=by omega
  subst this;exact hk
 .intro h;exact⟨_,zB0.mpr ⟨t,h,rfl⟩,by simp[eqT]⟩
def QM {F:zB}(ok:F.Ok) (last:List Bd) (fr:List Nat) (hl:last.length=F.os.length) (hg:∀ b∈last,Gd F.A F.B b):
  pE [zu F,rT last,.lst (fr.map λ(k:Nat)=>T.int (k:Int))]=some (rT (zY F last fr)):=by
 have hw2:zo (zu F) (.int 2)=some (.tup (F.ws.map zJ)):=by simp[zu]
 have c1:n5 [some (.im (zu F)),some (.im (rT last)),some (.im (.lst (fr.map λ(k:Nat)=>T.int (k:Int)))),some (.own (.lst (last.map bT))),none]=some (.lst (((F.ws.filter λ w=>fr.contains w.t).map λ w=>(w.f:Int)).map T.int)):=by
  have:=l4 zJ (λ w=>if fr.contains w.t=true then some (T.int (w.f:Int)) else none) (pick:=[none,some 2]) (it:=xh (zb zo (zf 0) (cS (.int 2)))) (g:=zD 0) (c:=y4 (zb (qU false) (zb zo (zf 0) (cS (.int 1))) (zf 1))) (f:=zb zo (zf 0) (cS (.int 0))) (J:=[some (.im (zu F)),some (.im (rT last)),some (.im (.lst (fr.map λ(k:Nat)=>T.int (k:Int)))),some (.own (.lst (last.map bT))),none]) F.ws (by
    generalize zu F=fl at *;simp only[zo] at hw2;simp[hw2]) (by have:=ok.uZ;omega) (λ w _=>by
   have hi:=Sj w.t fr;generalize (T.lst (fr.map λ(k:Nat)=>T.int (k:Int)))=ft,fr.contains w.t=cb at *;cases cb <;> simp[zJ,hi])
  unfold n5;rw[this];rw[iL (λ w:Wy=>fr.contains w.t) (λ w:Wy=>T.int (w.f:Int)),zD6];rfl
 have hss:wR [.lst (((F.ws.filter λ w=>fr.contains w.t).map λ w=>(w.f:Int)).map T.int)]=some (.lst ((xY ((F.ws.filter λ w=>fr.contains w.t).map λ w=>(w.f:Int))).map T.int)):=by
  show (match vJ (((F.ws.filter λ w=>fr.contains w.t).map λ w=>(w.f:Int)).map T.int) with | some ns=>_ | none=>_)=_;rw[bE];refine if_pos ?_;have:=List.length_filter_le (λ w:Wy=>fr.contains w.t) F.ws;have:=ok.uZ;simp only[zA7];omega
 have hmem:∀ k∈xY ((F.ws.filter λ w=>fr.contains w.t).map λ w=>(w.f:Int)),∃ p:Nat,k=(p:Int)/\p<F.os.length/\uf F fr p=true:=λ k hk=>by
  obtain⟨w,hw,rfl⟩:=zB0.mp (lj.mp hk);obtain⟨w1,w2⟩:=zC8.mp hw;exact⟨w.f,rfl,(ok.ws w w1).1,zD0.mpr ⟨w,w1,by simpa using w2⟩⟩
 have hway:∀ p:Nat,uf F fr p=true->(p:Int)∈xY ((F.ws.filter λ w=>fr.contains w.t).map λ w=>(w.f:Int)):=λ p h=>by
  obtain⟨w,w1,w2⟩:=zD0.mp h;have w3:w.f=p/\fr.contains w.t=true:=by simpa using w2
  exact lj.mpr (zB0.mpr ⟨w,zC8.mpr ⟨w1,w3.2⟩,by rw[w3.1]⟩)
 generalize xY ((F.ws.filter λ w=>fr.contains w.t).map λ w=>(w.f:Int))=up at *;have ft:∃ t,(T.lst (fr.map λ(k:Nat)=>T.int (k:Int)))=t:=⟨_,rfl⟩
 obtain⟨J',h1,h2⟩:=ue (is:=[4]) (g:=zD 4) (b:=nE) T.int (λ pre J=>J=[some (.im (zu F)),some (.im (rT last)),some (.im (.lst (fr.map λ(k:Nat)=>T.int (k:Int)))),some (.own (.lst (((List.range last.length).map λ(p:Nat)=>if (p:Int)∈pre then y6 F last p else last.getD p []).map bT))),none]) up
   [some (.im (zu F)),some (.im (rT last)),some (.im (.lst (fr.map λ(k:Nat)=>T.int (k:Int)))),some (.own (.lst (last.map bT))),none] (by
  have e:(List.range last.length).map (λ(p:Nat)=>if (p:Int)∈([]:List Int) then y6 F last p else last.getD p [])=last:=by
   refine List.ext_getElem (by simp) λ i h1 h2=>?_;simp[h2]
  rw[e];rfl) (by
  rintro pre k q e J rfl;obtain⟨p,rfl,hp,hw⟩:=hmem k (by rw[e];simp);have hF:=QN ok p hp last hl hg;refine⟨[some (.im (zu F)),some (.im (rT last)),some (.im (.lst (fr.map λ(k:Nat)=>T.int (k:Int)))),some (.own (.lst (((List.range last.length).map λ(i:Nat)=>if (i:Int)∈pre++[(p:Int)] then y6 F last i else last.getD i []).map bT))),some (.im (.int p))],?_,by simp⟩;have hset:(((List.range last.length).map λ(i:Nat)=>if (i:Int)∈pre then y6 F last i else last.getD i []).map bT).set p (bT (y6 F last p))=((List.range last.length).map λ(i:Nat)=>if (i:Int)∈pre++[(p:Int)] then y6 F last i else last.getD i []).map bT:=by
   refine List.ext_getElem (by simp) λ i h1 h2=>?_;rw[List.getElem_set];simp only[List.getElem_map,List.getElem_range,zB9,zB6];by_cases c:p=i
   .subst c;simp
   .have c':¬ ((i:Int)=(p:Int)):=by omega
    simp[c,c']
  have hix:wG (((List.range last.length).map λ(i:Nat)=>if (i:Int)∈pre then y6 F last i else last.getD i []).map bT).length (p:Int)=some p:=by
   unfold wG;simp only[zA7,zC5];rw[if_pos (by omega),if_pos (by omega),Int.toNat_natCast]
  rw[<- hset];unfold turn nE;generalize nX=ff,(((List.range last.length).map λ(i:Nat)=>if (i:Int)∈pre then y6 F last i else last.getD i []).map bT)=LL,zu F=fl,rT last=rl,(T.lst (fr.map λ(k:Nat)=>T.int (k:Int)))=ftt at *;simp[hF,hix])
 subst h2;have fin:((List.range last.length).map λ(p:Nat)=>if (p:Int)∈up then y6 F last p else last.getD p [])=zY F last fr:=by
  unfold zY;refine List.map_congr_left λ p hp=>?_;by_cases c:uf F fr p=true
  .rw[if_pos c,if_pos (hway p c)]
  .rw[if_neg c,if_neg λ h=>c (by obtain⟨p',e,_,h'⟩:=hmem _ h;exact (show p'=p by omega)▸h')]
 rw[fin] at h1;have hlist:listS [rT last]=some (.lst (last.map bT)):=rfl;unfold pE f9;generalize n5=cc,nE=bb,(((F.ws.filter λ w=>fr.contains w.t).map λ w=>(w.f:Int)).map T.int)=L1 at *;generalize hup:up.map T.int=L2 at *;generalize last.map bT=L3,zu F=fl at *;have hsq:x_ (rT last)=some L3:=by simpa using hlist
 generalize rT last=rl,(T.lst (fr.map λ(k:Nat)=>T.int (k:Int)))=ftt at *;simp[hsq,c1,hss,h1,rT]
theorem ak {α:Type}(enc:α->T) (d:α) (fo:List α):∀ (l:List α) (k:Nat),(∀ i,l.getD i d=fo.getD (k+i) d)->sP k (l.map enc)=(List.range l.length).map λ(p:Nat)=>T.tup [.int ((k+p:Nat):Int),enc (fo.getD (k+p) d)]
 | [],k,_=>rfl
 | b::l,k,h=>by
  have h0:=h 0;rw[zA6,sP,ak enc d fo l (k+1) λ i=>by have:=h (i+1);rw[show k+1+i=k+(i+1) from by omega];simpa using this];rw[zC0,List.range_succ_eq_map,zA6,zD6];have e:b=fo.getD k d:=by simpa using h0
  congr 1
  .rw[e];rfl
  .refine List.map_congr_left λ p _=>?_;simp only[Function.comp];rw[show k+1+p=k+Nat.succ p from by omega]
noncomputable def xc (fr:List Nat):T:=.lst (fr.map λ(k:Nat)=>T.int (k:Int))
def Qq (a:T) (b c:Option L5.W) (last fo:List Bd) (hl:fo.length=last.length) (h16:fo.length<=10000):ph [some (.im a),b,c,some (.im (rT last)),some (.im (rT fo))]=some (xc (xj last fo)):=by
 have:=l4 (λ p:Nat=>T.tup [.int (p:Int),bT (fo.getD p [])]) (λ p=>if decide (fo.getD p []≠last.getD p [])=true then some (T.int (p:Int)) else none) (pick:=[none,none,some 3]) (it:=wX sQ (zc (zf 4) zj)) (g:=w9 2 (yH (zD 0) (yH (zD 1) vn))) (c:=y4 (zb (zU true) (zf 1) (zb zo (zf 2) (zf 0)))) (f:=zq 0) (J:=[some (.im a),b,c,some (.im (rT last)),some (.im (rT fo))]) (List.range fo.length) (by
   have:=ak bT [] fo fo 0 λ i=>by rw[Nat.zero_add]
   simp only[Nat.zero_add] at this;have e:sQ [rT fo]=some (sP 0 (fo.map bT)):=rfl;rw[<- this];generalize sQ=en at *;simp[e]) (by simp;omega) (λ p hp=>by
  have hp':p<last.length:=by rw[<- hl];exact zC1.mp hp
  have h1:=ij last p hp';have h2:=cF (fo.getD p []) (last.getD p []);generalize fo.getD p []=x,last.getD p []=y,rT last=rl at *;generalize decide (x≠y)=d at *;simp only[zo] at h1;cases d <;> simp[h1,h2])
 unfold ph;rw[this,iL (λ p:Nat=>decide (fo.getD p []≠last.getD p [])) (λ p:Nat=>T.int (p:Int))];rfl
theorem dh {F:zB}(ok:F.Ok):∀ (n:Nat) (pre:List (List Bd)) (last:List Bd) (fr:List Nat) (res:List (List Bd)),St F last fr->sk F n pre last fr=some res->pre.length+n<=10000->∀ (m:Nat),n<m->∀ x3 x4:Option L5.W,
  ∃ fr',xU [3,4] (xy (zf 2)) uo m [some (.im (zu F)),some (.own (.lst ((pre++[last]).map rT))),some (.im (xc fr)),x3,x4]=some (.nx [some (.im (zu F)),some (.own (.lst (res.map rT))),some (.im fr'),none,none])
 | 0,_,_,_,_,_,h,_,_,_,_,_=>by cases h
 | n+1,pre,last,fr,res,s,h,hn,m,hm,x3,x4=>by
  have hend:∀ (m:Nat) (told:List (List Bd)) (x3 x4:Option L5.W),xU [3,4] (xy (zf 2)) uo (m+1) [some (.im (zu F)),some (.own (.lst (told.map rT))),some (.im (xc [])),x3,x4]=some (.nx [some (.im (zu F)),some (.own (.lst (told.map rT))),some (.im (xc [])),none,none]):=λ m told x3 x4=>by
   unfold xU;simp[xc]
  obtain⟨m,rfl⟩:∃ k,m=k+1:=⟨m-1,by omega⟩
  unfold sk at h;by_cases hfr:fr=[]
  .rw[if_pos hfr] at h;cases h;subst hfr;exact⟨_,hend m _ x3 x4⟩
  .rw[if_neg hfr] at h;dsimp only at h;have hlen:=s.len;have n8:=ok.n8;have hF:=QM ok last fr s.len s.gd;have hlast:zo (.lst ((pre++[last]).map rT)) (.int (-1))=some (rT last):=by
    show L2.zR ((pre++[last]).map rT) (-1)=_;rw[zE7];exact gi _ _
   have hc:=λ b c=>Qq (zu F) b c last (zY F last fr) (sG ..) (by rw[sG,s.len];omega);have hne:sa (xc fr)=some true:=by
    cases fr with
    | nil=>exact absurd rfl hfr
    | cons a l=>rfl
   have hb:∃ told',uo [some (.im (zu F)),some (.own (.lst ((pre++[last]).map rT))),some (.im (xc fr)),none,none]=some (.nx [some (.im (zu F)),some (.own (.lst (told'.map rT))),some (.im (xc (xj last (zY F last fr)))),some (.im (rT last)),some (.im (rT (zY F last fr)))])/\told'=if xj last (zY F last fr)=[] then pre++[last] else pre++[last]++[zY F last fr]:=by
    have hl2:((pre++[last]).map rT).length<16777216:=by simp;omega
    by_cases hf:xj last (zY F last fr)=[]
    .refine⟨pre++[last],?_,by rw[if_pos hf]⟩;have ht:sa (xc (xj last (zY F last fr)))=some false:=by rw[hf];rfl
     unfold uo;generalize ph=cc,pE=ff,(pre++[last]).map rT=L1,xc (xj last (zY F last fr))=f2 at *;unfold xc at *;simp only[zo] at hlast;generalize (T.lst (fr.map λ(k:Nat)=>T.int (k:Int)))=f1,rT (zY F last fr)=r2,rT last=r1 at *;simp only[x_] at hlast;simp[-sa,hlast,hF,hc,ht]
    .refine⟨pre++[last]++[zY F last fr],?_,by rw[if_neg hf]⟩;have ht:sa (xc (xj last (zY F last fr)))=some true:=by
      cases e:xj last (zY F last fr) with
      | nil=>exact absurd e hf
      | cons a l=>rfl
     have e2:(pre++[last]++[zY F last fr]).map rT=(pre++[last]).map rT++[rT (zY F last fr)]:=by simp
     rw[e2];unfold uo;generalize ph=cc,pE=ff,(pre++[last]).map rT=L1,xc (xj last (zY F last fr))=f2 at *;unfold xc at *;simp only[zo] at hlast;generalize (T.lst (fr.map λ(k:Nat)=>T.int (k:Int)))=f1,rT (zY F last fr)=r2,rT last=r1 at *;simp only[x_] at hlast;simp[-sa,hlast,hF,hc,ht,hl2]
   obtain⟨told',hb1,hb2⟩:=hb;have key:∀ R,xU [3,4] (xy (zf 2)) uo m [some (.im (zu F)),some (.own (.lst (told'.map rT))),some (.im (xc (xj last (zY F last fr)))),some (.im (rT last)),some (.im (rT (zY F last fr)))]=R->xU [3,4] (xy (zf 2)) uo (m+1) [some (.im (zu F)),some (.own (.lst ((pre++[last]).map rT))),some (.im (xc fr)),x3,x4]=R:=λ R e=>by
    rw[xU];generalize hbb:uo=bb at *;generalize hlw:xU [3,4] (xy (zf 2)) bb m=lw at *;have hf:y7 [3,4] [some (.im (zu F)),some (.own (.lst ((pre++[last]).map rT))),some (.im (xc fr)),x3,x4]=[some (.im (zu F)),some (.own (.lst ((pre++[last]).map rT))),some (.im (xc fr)),none,none]:=rfl;rw[hf];have ht:xy (zf 2) [some (.im (zu F)),some (.own (.lst ((pre++[last]).map rT))),some (.im (xc fr)),none,none]=some true:=by
     generalize xc fr=f1 at *;simp[-sa,hne]
    rw[ht,zC9,if_pos rfl,hb1,zC9];exact e
   by_cases hf:xj last (zY F last fr)=[]
   .rw[if_pos hf] at h hb2;cases h;subst hb2;rw[hf] at key;obtain⟨m,rfl⟩:∃ k,m=k+1:=⟨m-1,by omega⟩
    exact⟨_,key _ (hend m _ _ _)⟩
   .rw[if_neg hf] at h hb2;subst hb2;obtain⟨fr',e⟩:=dh ok n (pre++[last]) (zY F last fr) (xj last (zY F last fr)) res (s.next ok) h (by simp;omega) m (by omega) (some (.im (rT last))) (some (.im (rT (zY F last fr))));exact⟨fr',key _ e⟩
def QK {F:zB}(ok:F.Ok):∃ more,pD [zu F]=some (.lst ((RN.start F::more).map rT))/\(∀ r∈RN.start F::more,r.length=F.os.length/\∀ b∈r,Gd F.A F.B b)/\more.length<=2000/\sk F 2000 [] (RN.start F) (List.range F.os.length)=some (RN.start F::more):=by
 have hmu:=cH (RN.start F);have hsl:(RN.start F).length=F.os.length:=by unfold RN.start;simp
 have n8:=ok.n8;have n1:=ok.n1;obtain⟨more,last',e1,e2,_,e4⟩:=di ok 2000 [] (RN.start F) (List.range F.os.length) (St.start ok) (by omega);obtain⟨fr',e⟩:=dh ok 2000 [] (RN.start F) (List.range F.os.length) _ (St.start ok) e1 (by simp) 1000000 (by decide) none none;refine⟨more,?_,e2,by omega,e1⟩;have hp:=Z4 F;have hst:rT (RN.start F)=.lst (List.replicate F.os.length (.tup [.tup [.int 0,.int 0]])):=by
  unfold rT RN.start;rw[List.map_replicate];rfl
 have hmul:uC (.lst [.tup [.tup [.int 0,.int 0]]]) (.int F.os.length)=some (rT (RN.start F)):=by
  rw[hst];unfold uC;dsimp only;rw[if_pos ⟨by simp,by omega,by omega,Tr (by simp;omega)⟩];have:∀ n:Nat,(List.replicate n [T.tup [.tup [.int 0,.int 0]]]).flatten=List.replicate n (.tup [.tup [.int 0,.int 0]]):=λ n=>by
   induction n with
   | zero=>rfl
   | succ n ih=>rw[List.replicate_succ,List.replicate_succ,List.flatten_cons,ih];rfl
  rw[Int.toNat_natCast,this]
 have hrg:oD [.int F.os.length]=some (xc (List.range F.os.length)):=by
  show (if 0<=(F.os.length:Int)/\(F.os.length:Int)<=16777216 then some (T.lst (rangeT 0 (F.os.length:Int).toNat)) else none)=_;rw[if_pos ⟨by omega,by omega⟩];show some (T.lst ((List.range (F.os.length:Int).toNat).map λ(k:Nat)=>T.int (0+(k:Int))))=_;rw[Int.toNat_natCast];unfold xc;simp
 unfold pD fy pL;generalize uo=bb,qm=ff,oD=lr at *;simp only[List.nil_append,zA6,List.map_nil] at e;generalize xc (List.range F.os.length)=f1 at *;rw[zA6];generalize rT (RN.start F)=r0,zu F=fl at *;generalize hlw:xU [3,4] (xy (zf 2)) bb 1000000=lw at *;generalize uC=mw at *;simp[hp,hmul,hrg,e]
def o8 (i j:Int):uC (.int i) (.int j)=if v7 i j then some (.int (i*j)) else none:=rfl
def Sh {r:List Int}{rs:List (List Int)}:vJ ((r::rs).map zP)=none:=rfl
def YT (rs:List (List Int)) (h0:rs≠[]) (hl:rs.length<64) (hn:∀ r∈rs,r≠[]):wR [.lst (rs.map zP)]=some (.lst ((L4.xu (wc rs)).map zP)):=by
 cases rs with
 | nil=>exact absurd rfl h0
 | cons r rs=>
  show (match vJ ((r::rs).map zP) with
   | some ns=>if ns.length<64 then some (T.lst ((xY ns).map T.int)) else none
   | none=>mC [T.lst ((r::rs).map zP)])=_
  rw[Sh];show (vA ((r::rs).map zP)).bind _=_;rw[jg,zC9,if_pos ⟨hl,hn⟩]
def ck {f:T->T->Option T}{fa fb:Ev->Option T}{J:Ev}{x y:T}{r:Option T}(h1:fa J=some x) (h2:fb J=some y) (h:f x y=r):zb f fa fb J=r:=by
 show (fa J).bind _=r;rw[h1];show (fb J).bind _=r;rw[h2];exact h
def Wf (n:Nat) (h:n<=1000):xv (.int 10) (.int (n:Int))=some (.int (10 ^ n)):=by
 have hc:rn 10 (n:Int):=⟨by omega,by omega,by decide⟩
 show (if rn 10 (n:Int) then some (T.int (10 ^ (n:Int).toNat)) else none)=_;rw[if_pos hc,Int.toNat_natCast]
def oe (n:Nat) (h:n<=1000) (J:Ev):zb xv (cS (.int 10)) (cS (.int (n:Int))) J=some (.int (10 ^ n)):=ck rfl rfl (Wf n h)
def YO (c:Int) (n:Nat) (hn:n<=100) (o6:Ev->Option T) (q6:Int) (h6:∀ J,o6 J=some (.int q6)) (g6:0<q6/\q6<2 ^ 200) (num0:Int):
  ∃ (v:Int) (xs:List Int),xw [4] (zD 4) (zv (xB 2 (zb yu (zf 3) o6)) (zZ 3 (zb xJ (zf 3) o6))) ((List.range n).map λ(k:Nat)=>T.int (0+(k:Int))) [some (.im (.int c)),some (.im (.int n)),some (.own (.lst [])),some (.im (.int num0)),none]
   = some (.nx [some (.im (.int c)),some (.im (.int n)),some (.own (.lst (xs.map T.int))),some (.im (.int v)),none])/\xs.length=n:=by
 obtain⟨J',h1,v,xs,h2,h3⟩:=ue (is:=[4]) (g:=zD 4) (b:=(zv (xB 2 (zb yu (zf 3) o6)) (zZ 3 (zb xJ (zf 3) o6)))) (λ k:Nat=>T.int (0+(k:Int))) (λ p J=>∃ (v:Int) (xs:List Int),J=[some (.im (.int c)),some (.im (.int n)),some (.own (.lst (xs.map T.int))),some (.im (.int v)),none]/\xs.length=p.length)
   (List.range n) [some (.im (.int c)),some (.im (.int n)),some (.own (.lst [])),some (.im (.int num0)),none] ⟨num0,[],rfl,rfl⟩ (by
  rintro p k q e J ⟨v,xs,rfl,r1⟩;have hp:p.length<n:=by have:=congrArg List.length e;simp at this;omega
  have hl:(xs.map T.int).length<16777216:=by simp;omega
  have d6:ux v q6:=g6;have p6:=g6.1;refine⟨[some (.im (.int c)),some (.im (.int n)),some (.own (.lst ((xs++[v%q6]).map T.int))),some (.im (.int (v/q6))),some (.im (.int (0+(k:Int))))],?_,v/q6,xs++[v%q6],by simp,by simp[r1]⟩;have e2:(xs++[v%q6]).map T.int=xs.map T.int++[.int (v%q6)]:=by simp
  rw[e2];generalize xs.map T.int=L,(0+(k:Int))=kk at *;simp[turn,h6,hl,d6,p6])
 subst h2;exact⟨v,xs,h1,by simpa using h3⟩
def YN (c:Int) (n:Nat) (hn:n<=100) (oM o22 o23 o9:Ev->Option T) (M q22 q23 q9:Int) (hM:∀ J,oM J=some (.int M)) (h22:∀ J,o22 J=some (.int q22)) (h23:∀ J,o23 J=some (.int q23)) (h9:∀ J,o9 J=some (.int q9))
  (gM:0<M/\M<2 ^ 180) (g22:0<q22/\q22<2 ^ 200) (g23:0<q23/\q23<2 ^ 200) (g9:0<q9/\q9<2 ^ 200) (num0:Int) (hnum:0<=num0/\num0<2 ^ 181):
  ∃ (v:Int) (xs:List Int),xw [4] (zD 4) (zv (zZ 3 (zb yu (zb yq (zb yq (zb vo (zf 3) (cS (.int 52027))) (zb xJ (zf 3) o22)) (zb vo (cS (.int 13)) (zf 4))) oM)) (xB 2 (zb xJ (zb vo (zf 3) (zb yq (zb xJ (zf 3) o23) (cS (.int 7)))) o9))) ((List.range n).map λ(k:Nat)=>T.int (0+(k:Int))) [some (.im (.int c)),some (.im (.int n)),some (.own (.lst [])),some (.im (.int num0)),none]
   = some (.nx [some (.im (.int c)),some (.im (.int n)),some (.own (.lst (xs.map T.int))),some (.im (.int v)),none])/\xs.length=n:=by
 obtain⟨J',h1,v,xs,h2,h3,h4⟩:=ue (is:=[4]) (g:=zD 4) (b:=(zv (zZ 3 (zb yu (zb yq (zb yq (zb vo (zf 3) (cS (.int 52027))) (zb xJ (zf 3) o22)) (zb vo (cS (.int 13)) (zf 4))) oM)) (xB 2 (zb xJ (zb vo (zf 3) (zb yq (zb xJ (zf 3) o23) (cS (.int 7)))) o9)))) (λ k:Nat=>T.int (0+(k:Int)))
   (λ p J=>∃ (v:Int) (xs:List Int),J=[some (.im (.int c)),some (.im (.int n)),some (.own (.lst (xs.map T.int))),some (.im (.int v)),none]/\xs.length=p.length/\0<=v/\v<2 ^ 181)
   (List.range n) [some (.im (.int c)),some (.im (.int n)),some (.own (.lst [])),some (.im (.int num0)),none] ⟨num0,[],rfl,rfl,hnum⟩ (by
  rintro p k q e J ⟨v,xs,rfl,r1,r2,r3⟩;have hp:p.length<n:=by have:=congrArg List.length e;simp at this;omega
  have hk:k<n:=zC1.mp (by rw[e];simp);have hl:(xs.map T.int).length<16777216:=by simp;omega
  generalize hu:(v*52027+v/q22+13*(0+(k:Int)))%M=u;have u0:0<=u:=by rw[<- hu];exact zF0 _ (by omega)
  have u1:u<M:=by rw[<- hu];exact zF1 _ gM.1
  have d22:ux v q22:=g22;have m1:tX v 52027:=⟨by omega,by decide⟩
  have m2:tX 13 (0+(k:Int)):=⟨by decide,by omega⟩
  have pM:=gM.1;have d23:ux u q23:=g23;have w0:0<=u/q23:=Int.ediv_nonneg u0 (by omega);have w1:u/q23<=u:=Int.ediv_le_self _ u0;have m3:tX u (u/q23+7):=⟨by omega,by omega⟩
  have d9:ux (u*(u/q23+7)) q9:=g9;refine⟨[some (.im (.int c)),some (.im (.int n)),some (.own (.lst ((xs++[u*(u/q23+7)/q9]).map T.int))),some (.im (.int u)),some (.im (.int (0+(k:Int))))],?_,u,xs++[u*(u/q23+7)/q9],by simp,by simp[r1],u0,by omega⟩;have e2:(xs++[u*(u/q23+7)/q9]).map T.int=xs.map T.int++[.int (u*(u/q23+7)/q9)]:=by simp
  rw[e2];generalize xs.map T.int=L,(0+(k:Int))=kk at *;simp[turn,hM,h22,h23,h9,hl,d22,m1,m2,pM,hu,d23,m3,d9])
 subst h2;exact⟨v,xs,h1,by simpa using h3⟩
def Q8 (i:Int):0<=(if i<0 then -i else i):=by split <;> omega
def QG (c:Int) (n:Nat) (hn:n<=100):∃ xs:List Int,pF [.int c,.int n]=some (.lst (xs.map T.int))/\xs.length=n:=by
 obtain⟨q6,h6,g6⟩:∃ q:Int,(∀ J,zb xv (cS (.int 10)) (cS (.int 6)) J=some (.int q))/\0<q/\q<2 ^ 200:=⟨_,oe 6 (by decide),by decide +kernel⟩
 obtain⟨q9,h9,g9⟩:∃ q:Int,(∀ J,zb xv (cS (.int 10)) (cS (.int 9)) J=some (.int q))/\0<q/\q<2 ^ 200:=⟨_,oe 9 (by decide),by decide +kernel⟩
 obtain⟨q22,h22,g22⟩:∃ q:Int,(∀ J,zb xv (cS (.int 10)) (cS (.int 22)) J=some (.int q))/\0<q/\q<2 ^ 200:=⟨_,oe 22 (by decide),by decide +kernel⟩
 obtain⟨q23,h23,g23⟩:∃ q:Int,(∀ J,zb xv (cS (.int 10)) (cS (.int 23)) J=some (.int q))/\0<q/\q<2 ^ 200:=⟨_,oe 23 (by decide),by decide +kernel⟩
 obtain⟨M,hM,gM⟩:∃ q:Int,(∀ J,zb yq (zb xv (cS (.int 10)) (cS (.int 45))) (cS (.int 9)) J=some (.int q))/\0<q/\q<2 ^ 180:=⟨10 ^ 45+9,fun J=>ck (oe 45 (by decide) J) rfl rfl,by decide +kernel⟩
 have hr:=pY n (by omega);unfold pF Yb Zf Ze;have a0:=Q8 (c/2);generalize ha:(if c/2<0 then -(c/2) else c/2)=num at *;have hnm0:0<=num%M:=zF0 _ (by omega);have hnm1:num%M<M:=zF1 _ gM.1;have pM:=gM.1;have d2:ux c 2:=⟨by decide,by decide⟩
 obtain⟨v1,xs1,e1,l1⟩:=YO c n hn _ q6 h6 g6 num;obtain⟨v2,xs2,e2,l2⟩:=YN c n hn _ _ _ _ M q22 q23 q9 hM h22 h23 h9 gM g22 g23 g9 (num%M+77003) ⟨by omega,by omega⟩;generalize zb yq (zb xv (cS (.int 10)) (cS (.int 45))) (cS (.int 9))=oM,zb xv (cS (.int 10)) (cS (.int 6))=o6,zb xv (cS (.int 10)) (cS (.int 9))=o9,zb xv (cS (.int 10)) (cS (.int 22))=o22,zb xv (cS (.int 10)) (cS (.int 23))=o23 at *;generalize hb1:(zv (xB 2 (zb yu (zf 3) o6)) (zZ 3 (zb xJ (zf 3) o6)))=b1 at *;generalize hb2:(zv (zZ 3 (zb yu (zb yq (zb yq (zb vo (zf 3) (cS (.int 52027))) (zb xJ (zf 3) o22)) (zb vo (cS (.int 13)) (zf 4))) oM)) (xB 2 (zb xJ (zb vo (zf 3) (zb yq (zb xJ (zf 3) o23) (cS (.int 7)))) o9)))=b2 at *;by_cases h:c%2=1
 .refine⟨xs1,?_,l1⟩;generalize xs1.map T.int=L1,(List.range n).map (λ(k:Nat)=>T.int (0+(k:Int)))=R at *;simp[d2,ha,h,hr,e1,eq_int]
 .refine⟨xs2,?_,l2⟩;generalize xs2.map T.int=L2',(List.range n).map (λ(k:Nat)=>T.int (0+(k:Int)))=R at *;simp[d2,ha,h,hr,hM,pM,e2,eq_int]
def Z7 (x:Int) (m:Nat) (h:m<=100):∃ y,pG [.int x,.int m]=some (.int y):=by
 have m1:v7 2 (m:Int):=.inl ⟨by decide,by decide⟩;have m2:(0:Int)<2*(m:Int)+1:=by omega
 have d:xP x 25:=⟨by decide,by decide⟩
 exact⟨_,by simp[pG,fJ,o8,m1,m2,d];rfl⟩
def vZ (many:Nat) (r:List Int):Prop:=∃ (f t:Nat) (a b:Int),r=[(f:Int),(t:Int),a,b]/\f<many/\t<many
def Zz (place many:Nat) (num:Int) (sz:Nat) (hp:place<many) (hs:sz<=100):∃ r,(vZ many r/\r.head?=some (place:Int))/\rf [.int place,.int many,.int num,.int sz]=some (zP r):=by
 have d8:xP num 8:=⟨by decide,by decide⟩
 have d400:xP num 400:=⟨by decide,by decide⟩
 obtain⟨a,ha⟩:=Z7 (num/8%50) sz hs;obtain⟨b,hb⟩:=Z7 (num/400%50) sz hs;have hmp:(0:Int)<many:=by omega
 have t0:0<=num%8%many:=zF0 _ (by omega);have t1:num%8%many<many:=zF1 _ hmp;have hm':0<many:=by omega
 refine⟨[(place:Int),((num%8%many).toNat:Int),a,b],⟨⟨place,(num%8%many).toNat,a,b,rfl,hp,by omega⟩,rfl⟩,?_⟩;rw[zF2 t0];have hr:zP [(place:Int),num%8%many,a,b]=.tup [.int place,.int (num%8%many),.int a,.int b]:=rfl;rw[hr];unfold rf fC;generalize pG=fa at *;simp[d8,d400,ha,hb,hm']
def oE {xs:List Int}{j:Nat}(h:j<xs.length):∃ v,L2.zR (xs.map T.int) (j:Int)=some (.int v):=⟨xs.getD j 0,uq (by simp[h])⟩
def T8 (b:Bool):zU false (kt b) (.str "keeper")=some (.bl b):=by
 have h:(("taker":Str) == ("keeper":Str))=false:=by decide
 cases b
 .show zU false (.str "taker") (.str "keeper")=_;simp[zU,dep,eqT,h]
 .show zU false (.str "keeper") (.str "keeper")=_;simp[zU,dep,eqT]
def Zh (b:Sm) (n many pl:Nat) (E:List T->Option L5.W->Ev) (hE:∀ r x,y7 [11] (E r x)=E r none) (hn:n<=100)
  (ht:∀ k<n,∀ rows:List T,rows.length<=1000->∃ r,(vZ many r/\r.head?=some (pl:Int))/\turn (zD 11) b (.int (0+(k:Int))) (E rows none)=some (.nx (E (rows++[zP r]) (some (.im (.int (0+(k:Int))))))))
  (rows:List (List Int)) (hl:rows.length<=100) (hr:∀ r∈rows,vZ many r):
  ∃ rows':List (List Int),xw [11] (zD 11) b ((List.range n).map λ(k:Nat)=>T.int (0+(k:Int))) (E (rows.map zP) none)=some (.nx (E (rows'.map zP) none))/\rows'.length=rows.length+n/\(∀ r∈rows',vZ many r)/\(∀ r∈rows,r∈rows')/\(0<n->∃ r∈rows',r.head?=some (pl:Int)):=by
 obtain⟨J',h1,rows',h2,h3,h4,h5,h6⟩:=ue (is:=[11]) (g:=zD 11) (b:=b) (λ k:Nat=>T.int (0+(k:Int))) (λ p J=>∃ rows':List (List Int),J=E (rows'.map zP) none/\rows'.length=rows.length+p.length/\(∀ r∈rows',vZ many r)/\(∀ r∈rows,r∈rows')/\(0<p.length->∃ r∈rows',r.head?=some (pl:Int)))
   (List.range n) (E (rows.map zP) none) ⟨rows,hE _ _,rfl,hr,λ _ h=>h,λ h=>absurd h (by simp)⟩ (by
  rintro p k q e J ⟨rows',rfl,u1,u2,u3,u4⟩;have hp:p.length<n:=by have:=congrArg List.length e;simp at this;omega
  have hk:k<n:=zC1.mp (by rw[e];simp);obtain⟨r,⟨v1,v3⟩,v2⟩:=ht k hk (rows'.map zP) (by simp;omega);refine⟨_,v2,rows'++[r],by rw[hE];simp,by simp only[zD7,List.length_singleton,u1];omega,λ r' hr'=>?_,λ r' h=>List.mem_append_left _ (u3 r' h),λ _=>⟨r,by simp,v3⟩⟩;rcases zB9.mp hr' with h | h
  .exact u2 r' h
  .cases zB6.mp h;exact v1)
 subst h2;exact⟨rows',h1,by simpa using h3,h4,h5,λ h=>h6 (by simpa using h)⟩
def Wh (c mo br:T) (xs:List Int) (hx:xs.length=43) (many:Nat) (hm:many<=8) (os:List Bool) (rows:List (List Int)) (sts:List T) (k:Nat) (hk:k<many) (ho:os.length=k) (hrl:rows.length<=3*k) (hr:∀ r∈rows,vZ many r) (hs:sts.length<=k):
  ∃ (b:Bool) (rows':List (List Int)) (sts':List T) (nu sz:Int),turn (zD 8) qb (.int (0+(k:Int))) [some (.im c),some (.im mo),some (.im br),some (.im (.lst (xs.map T.int))),some (.im (.int many)),some (.own (.lst (os.map kt))),some (.own (.lst (rows.map zP))),some (.own (.lst sts)),none,none,none,none,none]
   = some (.nx [some (.im c),some (.im mo),some (.im br),some (.im (.lst (xs.map T.int))),some (.im (.int many)),some (.own (.lst ((os++[b]).map kt))),some (.own (.lst (rows'.map zP))),some (.own (.lst sts')),some (.im (.int (0+(k:Int)))),some (.im (.int nu)),some (.im (.int sz)),none,none])
   /\ rows'.length<=3*(k+1)/\(∀ r∈rows',vZ many r)/\(∀ r∈rows,r∈rows')/\(∃ r∈rows',r.head?=some (k:Int))/\sts'.length<=k+1:=by
 obtain⟨v,hv⟩:=oE (xs:=xs) (j:=2+4*k) (by omega);have hv':L2.zR (xs.map T.int) (2+4*(k:Int))=some (.int v):=hv;obtain⟨b,hb⟩:∃ b:Bool,L2.zR [T.str "keeper",T.str "taker"] (v%2)=some (kt b):=by
  rcases Int.emod_two_eq v with h | h <;> rw[h]
  .exact⟨true,rfl⟩
  .exact⟨false,rfl⟩
 obtain⟨sz,hsz,sz1⟩:∃ sz:Nat,L2.zR [T.int 2,T.int 3,T.int 3,T.int 12] (v/2%4)=some (.int (sz:Int))/\sz<=12:=by
  have h0:0<=v/2%4:=zF0 _ (by decide);have h1:v/2%4<4:=zF1 _ (by decide);generalize v/2%4=z at *;obtain h | h | h | h:z=0\/z=1\/z=2\/z=3:=by omega
  all_goals subst h
  .exact⟨2,rfl,by decide⟩
  .exact⟨3,rfl,by decide⟩
  .exact⟨3,rfl,by decide⟩
  .exact⟨12,rfl,by decide⟩
 obtain⟨n1,hn1,n0,n3⟩:∃ n:Nat,1+v/8%3=(n:Int)/\0<n/\n<=3:=⟨(1+v/8%3).toNat,by omega,by omega,by omega⟩
 obtain⟨rows',g1,g2,g3,g4,g5⟩:=Zh nH n1 many k (λ rs x=>[some (.im c),some (.im mo),some (.im br),some (.im (.lst (xs.map T.int))),some (.im (.int many)),some (.own (.lst ((os++[b]).map kt))),some (.own (.lst rs)),some (.own (.lst sts)),some (.im (.int (k:Int))),some (.im (.int v)),some (.im (.int sz)),x,none]) (λ _ _=>rfl) (by omega)
  (λ k' hk' rs hrs=>by
   obtain⟨v2,hv2⟩:=oE (xs:=xs) (j:=3+4*k+k') (by omega);have hv2':L2.zR (xs.map T.int) (3+4*(k:Int)+(0+(k':Int)))=some (.int v2):=by rw[<- hv2];congr 1;omega
   obtain⟨r,hr1,hr2⟩:=Zz k many v2 sz hk (by omega);refine⟨r,hr1,?_⟩;have m1:v7 4 (k:Int):=.inl ⟨by decide,by decide⟩;have hrs':rs.length<16777216:=by omega
   unfold turn nH;generalize rf=fw,xs.map T.int=XL,(os++[b]).map kt=OL,zP r=rr,(0+(k':Int))=kk at *;generalize hk4:(k:Int)=kI at *;simp[o8,m1,hv2',hr2,hrs'])
  rows (by omega) hr
 have hrg:=pY n1 (by omega);have hos:(os.map kt).length<16777216:=by simp;omega
 have hix:L2.zR ((os++[b]).map kt) (k:Int)=some (kt b):=uq (by rw[zE7,List.getElem?_append_right (by simp;omega)];simp[ho]);have hst:sts.length<16777216:=by omega
 have hkf:=T8 b;have m1:v7 4 (k:Int):=.inl ⟨by decide,by decide⟩;have d2:xP v 2:=⟨by decide,by decide⟩
 have d8:xP v 8:=⟨by decide,by decide⟩
 have d24:xP v 24:=⟨by decide,by decide⟩
 have d72:xP v 72:=⟨by decide,by decide⟩
 have d144:xP v 144:=⟨by decide,by decide⟩
 have d576:xP v 576:=⟨by decide,by decide⟩
 have fin:∀ sts':List T,(if b=true/\v/24%3=0 then sts++[.tup [.int k,.int (v/72%2),.int (1+v/144%4),.int (v/576%5)]] else sts)=sts'->turn (zD 8) qb (.int (0+(k:Int))) [some (.im c),some (.im mo),some (.im br),some (.im (.lst (xs.map T.int))),some (.im (.int many)),some (.own (.lst (os.map kt))),some (.own (.lst (rows.map zP))),some (.own (.lst sts)),none,none,none,none,none]
   = some (.nx [some (.im c),some (.im mo),some (.im br),some (.im (.lst (xs.map T.int))),some (.im (.int many)),some (.own (.lst ((os++[b]).map kt))),some (.own (.lst (rows'.map zP))),some (.own (.lst sts')),some (.im (.int (0+(k:Int)))),some (.im (.int v)),some (.im (.int sz)),none,none]):=λ sts' he=>by
  have e2:(os++[b]).map kt=os.map kt++[kt b]:=by simp
  unfold turn qb;rw[e2] at g1 hix ⊢;simp only[Int.zero_add] at g1 hrg ⊢;generalize nH=bb,(List.range n1).map (λ(k:Nat)=>T.int (k:Int))=RR,rows'.map zP=L2',rows.map zP=L1',xs.map T.int=XL,os.map kt=OL,(T.str "taker")=s2 at *;generalize hs1:(T.str "keeper")=s1 at *;generalize kt b=kb at *;generalize hkI:(k:Int)=kI at *;generalize hee:zU=ee at *;have hee0:ee false (.int (v/24%3)) (.int 0)=some (.bl (decide (v/24%3=0))):=by rw[<- hee];exact eq_int _ _ _
  by_cases hb1:b=true
  .subst hb1;by_cases hz:v/24%3=0
   .rw[if_pos ⟨rfl,hz⟩] at he;subst he;rw[hz] at hee0;simp[o8,m1,hv',hb,hos,d2,hsz,d8,hn1,hrg,g1,hix,hkf,d24,hee0,hz,hst,d72,d144,d576]
   .rw[if_neg (λ h=>hz h.2)] at he;subst he;simp[o8,m1,hv',hb,hos,d2,hsz,d8,hn1,hrg,g1,hix,hkf,d24,hee0,hz]
  .have hb2:b=false:=by simpa using hb1
   subst hb2;rw[if_neg (λ h=>hb1 h.1)] at he;subst he;simp[o8,m1,hv',hb,hos,d2,hsz,d8,hn1,hrg,g1,hix,hkf]
 refine⟨b,rows',_,v,sz,fin _ rfl,by omega,g3,g4,g5 n0,?_⟩;split
 .simp;omega
 .omega
noncomputable def qt (w:Wy):List Int:=[(w.f:Int),(w.t:Int),w.a,w.b]
def fX {w v:Wy}(h:qt w=qt v):w=v:=by
 obtain⟨f,t,a,b⟩:=w;obtain⟨f',t',a',b'⟩:=v;simp only[qt,List.cons.injEq,and_true] at h;obtain⟨h1,h2,rfl,rfl⟩:=h;have e1:f=f':=by omega
 have e2:t=t':=by omega
 subst e1 e2;rfl
theorem dg {many:Nat}:∀ l:List (List Int),(∀ r∈l,vZ many r)->∃ ws:List Wy,l=ws.map qt/\∀ w∈ws,w.f<many/\w.t<many
 | [],_=>⟨[],rfl,nofun⟩
 | r::l,h=>by
  obtain⟨ws,e1,e2⟩:=dg l λ x hx=>h x (zMo _ hx);obtain⟨f,t,a,b,rfl,hf,ht⟩:=h r zMc;refine⟨⟨f,t,a,b⟩::ws,by rw[e1];rfl,λ w hw=>?_⟩;rcases zA5.mp hw with x | x
  .subst x;exact⟨hf,ht⟩
  .exact e2 w x
def eK {many:Nat}(rs:List (List Int)) (h0:rs≠[]) (hl:rs.length<64) (hw:∀ r∈rs,vZ many r):
  ∃ ws:List Wy,wR [.lst (rs.map zP)]=some (.lst (ws.map zJ))/\ws.length<=rs.length/\(∀ w∈ws,w.f<many/\w.t<many)/\∀ w:Wy,w∈ws↔qt w∈rs:=by
 have hn:∀ r∈rs,r≠[]:=λ r hr=>by obtain⟨f,t,a,b,rfl,_⟩:=hw r hr;simp
 have hm:∀ r,r∈L4.xu (wc rs)↔r∈rs:=λ r=>by rw[(L4.tq _).mem_iff,oB]
 obtain⟨ws,e1,e2⟩:=dg (many:=many) (L4.xu (wc rs)) λ r hr=>hw r ((hm r).mp hr);refine⟨ws,?_,?_,e2,λ w=>?_⟩
 .rw[YT rs h0 hl hn,e1,zD6];rfl
 .have:=congrArg List.length e1;rw[(L4.tq _).length_eq,zA7] at this;have:=jM rs;omega
 .rw[<- hm,e1];constructor
  .exact λ h=>zB0.mpr ⟨w,h,rfl⟩
  .intro h;obtain⟨v,hv,e⟩:=zB0.mp h;rw[<- fX e];exact hv
def eM {many:Nat}(ws:List Wy) (φ:Wy->Wy) (h0:ws≠[]) (hl:ws.length<64) (hb:∀ w∈ws,w.f<many/\w.t<many) (hφ:∀ w,(φ w).f=w.f/\(φ w).t=w.t):
  ∃ ws':List Wy,wR [.lst (ws.map λ w=>zJ (φ w))]=some (.lst (ws'.map zJ))/\ws'.length<=ws.length/\(∀ w∈ws',w.f<many/\w.t<many)/\∀ w:Wy,w∈ws'↔∃ v∈ws,φ v=w:=by
 obtain⟨ws',e1,e2,e3,e4⟩:=eK (many:=many) (ws.map λ w=>qt (φ w)) (by simpa using h0) (by simpa using hl) λ r hr=>by
  obtain⟨w,hw,rfl⟩:=zB0.mp hr;have:=hb w hw;have:=hφ w;exact⟨(φ w).f,(φ w).t,(φ w).a,(φ w).b,rfl,by omega,by omega⟩
 refine⟨ws',?_,by simpa using e2,e3,λ w=>?_⟩
 .rw[<- e1,zD6];rfl
 .rw[e4];constructor
  .intro h;obtain⟨v,hv,e⟩:=zB0.mp h;exact⟨v,hv,fX e⟩
  .rintro⟨v,hv,rfl⟩;exact zB0.mpr ⟨v,hv,rfl⟩
structure uV (F:zB):Prop where
 ok:F.Ok
 ss:F.ss=[]
 way:∀ x<F.os.length,∃ w∈F.ws,w.f=x
def uV.ne {F:zB}(h:uV F):F.ws≠[]:=λ e=>by
 obtain⟨w,hw,_⟩:=h.way 0 h.ok.n1;rw[e] at hw;cases hw
def QO (c:Int) (most zK:Nat) (h1:1<=most) (h8:most<=8) (hb:zK<=12):
  ∃ (F:zB) (st:T),ma [.int c,.int most,.int zK]=some (.tup [.tup [.int F.A,.int F.B],.tup (F.os.map kt),.tup (F.ws.map zJ),st])/\uV F:=by
 obtain⟨xs,hxs,hx⟩:=QG c 43 (by decide);have hxs':pF [.int c,.int 43]=some (.lst (xs.map T.int)):=hxs;obtain⟨v0,hv0⟩:=oE (xs:=xs) (j:=0) (by omega);obtain⟨v1,hv1⟩:=oE (xs:=xs) (j:=1) (by omega);have hv0':L2.zR (xs.map T.int) 0=some (.int v0):=hv0;have hv1':L2.zR (xs.map T.int) 1=some (.int v1):=hv1;have hmo:(0:Int)<most:=by omega
 have hmoN:0<most:=h1;obtain⟨many,hmany,m1,m8⟩:∃ n:Nat,1+v0%most=(n:Int)/\1<=n/\n<=8:=by
  have:=zF0 v0 (b:=(most:Int)) (by omega);have:=zF1 v0 hmo;exact⟨(1+v0%most).toNat,by omega,by omega,by omega⟩
 obtain⟨J',g1,os,rows,sts,g2,g3,g4,g5,g6,g7⟩:=ue (is:=[8,9,10,11]) (g:=zD 8) (b:=qb) (λ k:Nat=>T.int (0+(k:Int)))
   (λ p J=>∃ (os:List Bool) (rows:List (List Int)) (sts:List T),J=[some (.im (.int c)),some (.im (.int most)),some (.im (.int zK)),some (.im (.lst (xs.map T.int))),some (.im (.int many)),some (.own (.lst (os.map kt))),some (.own (.lst (rows.map zP))),some (.own (.lst sts)),none,none,none,none,none]
    /\ os.length=p.length/\rows.length<=3*p.length/\(∀ r∈rows,vZ many r)/\(∀ x∈p,∃ r∈rows,r.head?=some (x:Int))/\sts.length<=p.length)
   (List.range many) [some (.im (.int c)),some (.im (.int most)),some (.im (.int zK)),some (.im (.lst (xs.map T.int))),some (.im (.int many)),some (.own (.lst [])),some (.own (.lst [])),some (.own (.lst [])),none,none,none,none,none] ⟨[],[],[],rfl,rfl,by simp,nofun,nofun,by simp⟩ (by
  rintro p k q e J ⟨os,rows,sts,rfl,r1,r2,r3,r4,r5⟩;have hk:k<many:=zC1.mp (by rw[e];simp);have hpk:p.length=k:=by
   have h2:=congrArg (λ l=>l[p.length]?) e;simp only[List.getElem?_append_right (zA4 _),Nat.sub_self,List.getElem?_cons_zero] at h2;obtain⟨h3,h4⟩:=zA2.mp h2;simpa using h4
  obtain⟨b,rows',sts',nu,sz,t1,t2,t3,t4,t5,t6⟩:=Wh (.int c) (.int most) (.int zK) xs hx many m8 os rows sts k hk (by omega) (by omega) r3 (by omega);refine⟨_,t1,os++[b],rows',sts',rfl,by simp[r1],by simp;omega,t3,λ x hx=>?_,by simp;omega⟩;rcases zB9.mp hx with h | h
  .obtain⟨r,y1,y2⟩:=r4 x h;exact⟨r,t4 r y1,y2⟩
  .cases zB6.mp h;exact t5)
 subst g2;rw[zC5] at g3 g4 g7;obtain⟨n9,hn9,n9'⟩:∃ n:Nat,(if 24-(rows.length:Int)<9 then 24-(rows.length:Int) else 9)=(n:Int)/\n<=9:=by
  split
  .exact⟨24-rows.length,by omega,by omega⟩
  .exact⟨9,rfl,by omega⟩
 obtain⟨pl,hpl,pl1⟩:∃ n:Nat,v0/64%8%many=(n:Int)/\n<many:=by
  have:=zF0 (v0/64%8) (b:=(many:Int)) (by omega);have:=zF1 (v0/64%8) (b:=(many:Int)) (by omega);exact⟨(v0/64%8%many).toNat,by omega,by omega⟩
 have d64:xP v0 64:=⟨by decide,by decide⟩
 have hmp:0<many:=m1;obtain⟨rows2,k1,k2,k3,k4,_⟩:=Zh nD n9 many pl (λ rs x=>[some (.im (.int c)),some (.im (.int most)),some (.im (.int zK)),some (.im (.lst (xs.map T.int))),some (.im (.int many)),some (.own (.lst (os.map kt))),some (.own (.lst rs)),some (.own (.lst sts)),none,none,none,x,none]) (λ _ _=>rfl) (by omega)
  (λ k' hk' rs hrs=>by
   obtain⟨v2,hv2⟩:=oE (xs:=xs) (j:=34+k') (by omega);have hv2':L2.zR (xs.map T.int) (34+(0+(k':Int)))=some (.int v2):=by rw[<- hv2];congr 1;omega
   obtain⟨r,hr1,hr2⟩:=Zz pl many v2 3 pl1 (by omega);have hr2':rf [.int pl,.int many,.int v2,.int 3]=some (zP r):=hr2;refine⟨r,hr1,?_⟩;have hrs':rs.length<16777216:=by omega
   unfold turn nD;generalize rf=fw,xs.map T.int=XL,os.map kt=OL,zP r=rr,(0+(k':Int))=kk at *;simp[hv0',d64,hmp,hpl,hv2',hr2',hrs'])
  rows (by omega) g5
 have fin:∃ rows3:List (List Int),(if v0/8%8=1 then rows2 else rows)=rows3/\rows3≠[]/\rows3.length<=60/\(∀ r∈rows3,vZ many r)/\∀ x<many,∃ r∈rows3,r.head?=some (x:Int):=by
  refine⟨_,rfl,?_⟩;have hx:∀ x<many,∃ r∈rows,r.head?=some (x:Int):=λ x hx=>g6 x (zC1.mpr hx);have hx2:∀ x<many,∃ r∈rows2,r.head?=some (x:Int):=λ x hh=>by
   obtain⟨r,y1,y2⟩:=hx x hh;exact⟨r,k4 r y1,y2⟩
  split
  .refine⟨λ e=>?_,by omega,k3,hx2⟩;obtain⟨r,y,_⟩:=hx2 0 hmp;rw[e] at y;cases y
  .refine⟨λ e=>?_,by omega,g5,hx⟩;obtain⟨r,y,_⟩:=hx 0 hmp;rw[e] at y;cases y
 obtain⟨rows3,e3,r0,r1,r2,r3⟩:=fin;obtain⟨ws,w1,w2,w3,w4⟩:=eK rows3 r0 (by omega) r2;have hbp:(0:Int)<(zK:Int)+1:=by omega
 have A0:=zF0 v1 (b:=(zK:Int)+1) (by omega);have A1:=zF1 v1 hbp;have B0:=zF0 (v1/13) (b:=(zK:Int)+1) (by omega);have B1:=zF1 (v1/13) hbp;refine⟨⟨v1%((zK:Int)+1),v1/13%((zK:Int)+1),os,ws,[]⟩,.tup sts,?_,⟨⟨A0,by dsimp only;omega,B0,by dsimp only;omega,by dsimp only;omega,by dsimp only;omega,λ w hw=>by dsimp only;rw[g3];exact w3 w hw,by dsimp only;omega,nofun,.inl rfl,by simp⟩,rfl,λ x hx=>?_⟩⟩
 .have hrg:=pY many (by omega);have hrg9:=pY n9 (by omega);have d8:xP v0 8:=⟨by decide,by decide⟩
  have d13:xP v1 13:=⟨by decide,by decide⟩
  have hlen:vI [.lst (rows.map zP)]=some (.int rows.length):=by simp
  have hlo:(os.map kt).length<=16777216:=by simp;omega
  have hls:sts.length<=16777216:=by omega
  have hlw:(ws.map zJ).length<=16777216:=by simp;omega
  have hq:=eq_int (v0/8%8) 1 false;unfold ma fG;dsimp only;generalize qb=bb2,nD=bb3,pF=fs,xs.map T.int=XL,(List.range many).map (λ(k:Nat)=>T.int (0+(k:Int)))=R1,(List.range n9).map (λ(k:Nat)=>T.int (0+(k:Int)))=R9,os.map kt=OL at *;by_cases h:v0/8%8=1
  .rw[if_pos h] at e3;subst e3;rw[h] at hq;generalize ws.map zJ=WL at *;generalize hrr:rows.map zP=RR at *;generalize rows2.map zP=RR2 at *;have hlr:RR.length=rows.length:=by rw[<- hrr,zA7]
   generalize zU=ee,wR=sv at *;simp[hxs',hv0',hmo,hmoN,hmany,hrg,g1,d8,hq,h,hlr,hn9,hrg9,k1,hv1',hbp,d13,w1,hlo,hls,hlw]
  .rw[if_neg h] at e3;subst e3;generalize ws.map zJ=WL,rows.map zP=RR,zU=ee,wR=sv at *;simp[hxs',hv0',hmo,hmoN,hmany,hrg,g1,d8,hq,h,hv1',hbp,d13,w1,hlo,hls,hlw]
 .dsimp only at hx;rw[g3] at hx;obtain⟨r,y1,y2⟩:=r3 x hx;obtain⟨f,t,a,b,rfl,hf,ht⟩:=r2 r y1;refine⟨⟨f,t,a,b⟩,(w4 _).mpr y1,?_⟩;have:(f:Int)=(x:Int):=by simpa using y2
  dsimp only;omega
def QY {F:zB}{pre:List (List Bd)}{lst:List Bd}(hr:pD [zu F]=some (.lst ((pre++[lst]).map rT))):rg [zu F]=some (rT lst):=by
 have hix:L2.zR ((pre++[lst]).map rT) (-1)=some (rT lst):=by
  rw[zE7];exact gi
 unfold rg fQ;generalize (pre++[lst]).map rT=L,pD=f1,zu F=fl at *;simp[hr,hix]
def Z6 {F:zB}(h:uV F):∃ m,rg [zu F]=some (rT (zy F m))/\zy F (m+1)=zy F m/\∀ b∈zy F m,Gd F.A F.B b:=by
 have ok:=h.ok;obtain⟨more,hr,hn,hm,hR⟩:=QK ok;have n1:=ok.n1;have hne:List.range F.os.length≠[]:=λ h=>by
  have h2:=congrArg List.length h;rw[zC5] at h2;rw[h2] at n1;exact absurd n1 (by decide)
 obtain⟨m,e,hst⟩:=dk ok h.way 2000 [] 0 (List.range F.os.length) _ (St.start ok) hne rfl hR;have e':RN.start F::more=(List.range m).map (zy F)++[zy F m]:=by rw[e,List.range_succ,zE7];rfl
 rw[e'] at hr hn;exact⟨m,QY hr,hst,(hn (zy F m) (by simp)).2⟩
def iH {A B:Int}{l:List Bd}(h:∀ b∈l,Gd A B b) (t:Nat):Gd A B (l.getD t []):=by
 rw[zB1];cases e:l[t]? with
 | none=>exact Gd.nil
 | some b=>exact h b (zB7 e)
noncomputable def t7 (wh:Int) (w:Wy):Wy:=⟨w.f,w.t,if wh=1 then yi w.a else w.a,if wh=2 then yi w.b else w.b⟩
def cJ (x:Int):uE [.int 0,.int x]=some (.int (yi x)):=rfl
def QJ {F:zB}(h:uV F) (st:T) (wh:Int):∃ G:zB,nZ [.tup [.tup [.int F.A,.int F.B],.tup (F.os.map kt),.tup (F.ws.map zJ),st],.int wh]=some (zu G)/\uV G/\∀ w,w∈G.ws↔∃ v∈F.ws,t7 wh v=w:=by
 have ok:=h.ok;have uZ:=ok.uZ;obtain⟨ws',e1,e2,e3,e4⟩:=eM (many:=F.os.length) F.ws (t7 wh) h.ne (by omega) ok.ws λ w=>⟨rfl,rfl⟩;refine⟨⟨F.A,F.B,F.os,ws',[]⟩,?_,⟨⟨ok.a0,ok.a1,ok.b0,ok.b1,ok.n1,ok.n8,e3,by dsimp only;omega,nofun,.inl rfl,by simp⟩,rfl,λ x hx=>?_⟩,e4⟩
 .generalize hfl:(T.tup [.tup [.int F.A,.int F.B],.tup (F.os.map kt),.tup (F.ws.map zJ),st])=fl;have i0:zo fl (.int 0)=some (.tup [.int F.A,.int F.B]):=by rw[<- hfl];rfl
  have i1:zo fl (.int 1)=some (.tup (F.os.map kt)):=by rw[<- hfl];rfl
  have i2:zo fl (.int 2)=some (.tup (F.ws.map zJ)):=by rw[<- hfl];rfl
  obtain⟨J',g1,g2⟩:=ue (is:=[3,4,5,6]) (g:=w9 4 (yH (zD 3) (yH (zD 4) (yH (zD 5) (yH (zD 6) vn))))) (b:=nF) zJ
    (λ p J=>J=[some (.im fl),some (.im (.int wh)),some (.own (.lst (p.map λ w=>zJ (t7 wh w)))),none,none,none,none])
    F.ws [some (.im fl),some (.im (.int wh)),some (.own (.lst [])),none,none,none,none] rfl (by
   rintro p w q e J rfl;have hp:p.length<F.ws.length:=by have:=congrArg List.length e;simp at this;omega
   have hl:(p.map λ w=>zJ (t7 wh w)).length<16777216:=by simp;omega
   have hs:zJ (t7 wh w)=.tup [.int w.f,.int w.t,.int (if wh=1 then yi w.a else w.a),.int (if wh=2 then yi w.b else w.b)]:=rfl;refine⟨[some (.im fl),some (.im (.int wh)),some (.own (.lst ((p++[w]).map λ w=>zJ (t7 wh w)))),some (.im (.int w.f)),some (.im (.int w.t)),some (.im (.int (if wh=1 then yi w.a else w.a))),some (.im (.int (if wh=2 then yi w.b else w.b)))],?_,rfl⟩;rw[zE7,zA6,List.map_nil,hs];generalize (p.map λ w=>zJ (t7 wh w))=L at *;have q1:=eq_int wh 1 false;have q2:=eq_int wh 2 false;have x1:=cJ w.a;have x2:=cJ w.b;unfold turn nF zJ;generalize zU=ee,uE=mm at *;by_cases h1:wh=1
   .subst h1;simp[q1,q2,x1,x2,hl]
   .by_cases h2:wh=2
    .subst h2;simp[q1,q2,x1,x2,hl]
    .simp[q1,q2,h1,h2,x1,x2,hl])
  subst g2;have hlw:(ws'.map zJ).length<=16777216:=by simp;omega
  unfold nZ fE zu;dsimp only;generalize nF=bb,ws'.map zJ=WL,(F.ws.map λ w=>zJ (t7 wh w))=SL,F.ws.map zJ=L0,F.os.map kt=OL,zo=ix,wR=sv at *;simp[i0,i1,i2,g1,e1,hlw]
 .obtain⟨w,hw,hf⟩:=h.way x hx;exact⟨t7 wh w,(e4 _).mpr ⟨w,hw,rfl⟩,hf⟩
def QF (pu:Bool) (w:Wy):pC [zJ w,.int (xb pu)]=some (zJ (yw pu w)):=by
 cases pu
 .simp[pC,kf,zJ,yw,xb,eq_int]
 .simp[pC,kf,zJ,yw,xb,eq_int]
def QP {F:zB}(h:uV F) (pu:Bool):∃ G:zB,md [zu F,.int (xb pu)]=some (zu G)/\uV G/\uY pu F G:=by
 have ok:=h.ok;have uZ:=ok.uZ;obtain⟨ws',e1,e2,e3,e4⟩:=eM (many:=F.os.length) F.ws (yw pu) h.ne (by omega) ok.ws (sZ pu);refine⟨⟨F.A,F.B,F.os,ws',[]⟩,?_,⟨⟨ok.a0,ok.a1,ok.b0,ok.b1,ok.n1,ok.n8,e3,by dsimp only;omega,nofun,.inl rfl,by simp⟩,rfl,λ x hx=>?_⟩,⟨rfl,rfl,rfl,h.ss,rfl,λ w hw=>(e4 _).mpr ⟨w,hw,rfl⟩,λ v hv=>by
  obtain⟨w,hw,rfl⟩:=(e4 v).mp hv;exact⟨w,hw,rfl⟩⟩⟩
 .have hc:nA [some (.im (zu F)),some (.im (.int (xb pu))),none]=some (.lst (F.ws.map λ w=>zJ (yw pu w))):=by
   unfold nA;refine rQ zJ (λ w=>zJ (yw pu w)) F.ws (by simp[zu]) (by omega) λ w _=>?_;have:=QF pu w;generalize pC=fw,zu F=fl at *;simp[tF,this]
  have i0:zo (zu F) (.int 0)=some (.tup [.int F.A,.int F.B]):=rfl;have i1:zo (zu F) (.int 1)=some (.tup (F.os.map kt)):=rfl;have hlw:(ws'.map zJ).length<=16777216:=by simp;omega
  unfold md fM;rw[show zu ⟨F.A,F.B,F.os,ws',[]⟩=.tup [.tup [.int F.A,.int F.B],.tup (F.os.map kt),.tup (ws'.map zJ),.tup []] from rfl];generalize nA=cc,ws'.map zJ=WL,(F.ws.map λ w=>zJ (yw pu w))=SL,F.os.map kt=OL,zu F=fl,zo=ix,wR=sv at *;simp[i0,i1,hc,e1,hlw]
 .obtain⟨w,hw,hf⟩:=h.way x hx;exact⟨yw pu w,(e4 _).mpr ⟨w,hw,rfl⟩,by rw[(sZ pu w).1];exact hf⟩
noncomputable def zV (pu:Bool) (b:Bd):T:=match qc pu b with
 | none=>.zi
 | some x=>.int x
def Z8 {F:zB}(h:uV F) (pu:Bool):∃ (G:zB) (m:Nat),rh [zu F,.int (xb pu)]=some (.tup ((zy G m).map (zV pu)))/\uY pu F G/\zy G (m+1)=zy G m/\∀ b∈zy G m,Gd F.A F.B b:=by
 obtain⟨G,g1,g2,g3⟩:=QP h pu;obtain⟨m,b1,b2,b3⟩:=Z6 g2;rw[g3.A,g3.B] at b3;refine⟨G,m,?_,g3,b2,b3⟩;have hlen:(zy G m).length<=16777216:=by rw[rR];have:=g2.ok.n8;omega
 have hc:nC [some (.im (zu F)),some (.im (.int (xb pu)))]=some (.lst ((zy G m).map (zV pu))):=by
  unfold nC;refine rQ bT (zV pu) (zy G m) ?_ hlen λ b _=>?_
  .generalize rg=fb,md=ff,zu F=fl,zu G=gl at *;simp[g1,b1,rT]
  .cases b with
   | nil=>
    generalize zu F=fl at *;simp[tF,bT,zV,qc]
   | cons p b=>
    generalize zu F=fl at *;cases pu <;> simp[tF,bT,zV,qc,zp,xb,xH]
 have hwi:qo [.int (xb pu),.int 0,.int 1]=some (.bl true):=by rw[Zy];cases pu <;> rfl
 have hl2:((zy G m).map (zV pu)).length<=16777216:=by simpa using hlen
 unfold rh fV;generalize nC=cc,qo=fi,(zy G m).map (zV pu)=AL,zu F=fl at *;simp[hwi,hc,hl2]
def Z2 (pu:Bool) {b:Bd}(h:b=[]\/∃ x,b=[xm pu x 0]):tV [bT b,.int (xb pu),zV pu b]=some (.bl true):=by
 rcases h with rfl | ⟨x,rfl⟩
 .have e:zU false (.tup []) (.tup [])=some (.bl true):=af (ps:=[]) (qs:=[]) rfl;unfold tV kg;generalize zU=ee at *;cases pu <;> simp[bT,zV,qc,wY,e]
 .have e:zU false (.tup [zp (xm pu x 0)]) (.tup [zp (xm pu x 0)])=some (.bl true):=af (ps:=[xm pu x 0]) (qs:=[xm pu x 0]) rfl;unfold tV kg;generalize zU=ee at *;cases pu
  .simp only[xm,zp] at e;simp[bT,zV,qc,wY,xm,zp,xH,xb,e] at *;simp[e]
  .simp only[xm,zp] at e;simp[bT,zV,qc,wY,xm,zp,xH,xb,e] at *;simp[e]
structure Pl (wh:Int) (b b0 b1:Bd):Prop where
 c0:yb b b0
 c1:yb b b1
 z0:b0=[]\/∃ x,b0=[xm false x 0]
 z1:b1=[]\/∃ x,b1=[xm true x 0]
 e2:wh=2->b=b0
 e1:wh=1->b=b1
def Pl.n0 {wh:Int}{b b0 b1:Bd}(h:Pl wh b b0 b1) (e:b0=[]):b=[]:=by
 cases b with
 | nil=>rfl
 | cons p b=>
  obtain⟨r,hr,_⟩:=h.c0.at (p:=p) zMc;rw[e] at hr;cases hr
def Pl.n1 {wh:Int}{b b0 b1:Bd}(h:Pl wh b b0 b1) (e:b1=[]):b=[]:=by
 cases b with
 | nil=>rfl
 | cons p b=>
  obtain⟨r,hr,_⟩:=h.c1.at (p:=p) zMc;rw[e] at hr;cases hr
def Pl.So {wh:Int}{b b0 b1:Bd}(h:Pl wh b b0 b1) {p:Int×Int}(hp:p∈b):∃ x,zV false b0=.int x/\x<=p.1:=by
 obtain⟨r,hr,r1,_⟩:=h.c0.at hp;rcases h.z0 with e | ⟨x,e⟩
 .rw[e] at hr;cases hr
 .rw[e] at hr;cases zB6.mp hr;exact⟨x,by rw[e];rfl,r1⟩
def Pl.in1 {wh:Int}{b b0 b1:Bd}(h:Pl wh b b0 b1) {p:Int×Int}(hp:p∈b):∃ x,zV true b1=.int x/\x<=p.2:=by
 obtain⟨r,hr,_,r1⟩:=h.c1.at hp;rcases h.z1 with e | ⟨x,e⟩
 .rw[e] at hr;cases hr
 .rw[e] at hr;cases zB6.mp hr;exact⟨x,by rw[e];rfl,r1⟩
def bz (pu:Bool) (b:Bd):wY false (zV pu b) .zi=some (.bl (decide (b=[]))):=by
 cases b <;> simp[zV,qc,wY]
def bj (pu:Bool) (l:List Bd) (k:Nat) (h:k<l.length):zo (.tup (l.map (zV pu))) (.int k)=some (zV pu (l.getD k [])):=by
 show L2.zR (l.map (zV pu)) (k:Int)=_;exact uq (by rw[zA3,zB1,zA1 h];rfl)
def X2 (fl:T) (wh:Int) (l l0 l1:List Bd) (k:Nat) (hk:k<l.length) (hk0:k<l0.length) (hk1:k<l1.length) (h:Pl wh (l.getD k []) (l0.getD k []) (l1.getD k [])):
  ∃ J',y7 [5,6,7,8] J'=[some (.im fl),some (.im (.int wh)),some (.im (.tup (l0.map (zV false)))),some (.im (.tup (l1.map (zV true)))),some (.im (rT l)),none,none,none,none]
   /\ turn (zD 5) pq (.int (0+(k:Int))) [some (.im fl),some (.im (.int wh)),some (.im (.tup (l0.map (zV false)))),some (.im (.tup (l1.map (zV true)))),some (.im (rT l)),none,none,none,none]=some (.nx J'):=by
 have i0:=bj false l0 k hk0;have i1:=bj true l1 k hk1;have ib:=ij l k hk;have s0:=bz false (l0.getD k []);have s1:=bz true (l1.getD k []);have nb:zU true (bT (l.getD k [])) (.tup [])=some (.bl (decide (l.getD k []≠[]))):=cF (l.getD k []) [];have f0:wh=2->tV [bT (l.getD k []),.int 0,zV false (l0.getD k [])]=some (.bl true):=λ e=>by rw[<- h.e2 e];exact Z2 false (by rw[h.e2 e];exact h.z0)
 have f1:wh=1->tV [bT (l.getD k []),.int 1,zV true (l1.getD k [])]=some (.bl true):=λ e=>by rw[<- h.e1 e];exact Z2 true (by rw[h.e1 e];exact h.z1)
 have hloop:=lx (is:=[7,8]) (g:=w9 2 (yH (zD 7) (yH (zD 8) vn))) (b:=nG) zp (λ _=>false) (.bl false)
  [some (.im fl),some (.im (.int wh)),some (.im (.tup (l0.map (zV false)))),some (.im (.tup (l1.map (zV true)))),some (.im (rT l)),some (.im (.int (k:Int))),some (.im (bT (l.getD k []))),none,none] (l.getD k [])
  [some (.im fl),some (.im (.int wh)),some (.im (.tup (l0.map (zV false)))),some (.im (.tup (l1.map (zV true)))),some (.im (rT l)),some (.im (.int (k:Int))),some (.im (bT (l.getD k []))),none,none] (by simp) λ p hp=>by
   obtain⟨x,x1,x2⟩:=h.So hp;obtain⟨y,y1,y2⟩:=h.in1 hp;refine⟨[some (.im fl),some (.im (.int wh)),some (.im (.tup (l0.map (zV false)))),some (.im (.tup (l1.map (zV true)))),some (.im (rT l)),some (.im (.int (k:Int))),some (.im (bT (l.getD k []))),some (.im (.int p.1)),some (.im (.int p.2))],rfl,?_⟩;rw[x1] at i0;rw[y1] at i1;have n1:¬ p.1<x:=by omega
   have n2:¬ p.2<y:=by omega
   unfold turn nG zp;generalize bT (l.getD k [])=bb,(T.tup (l0.map (zV false)))=t0,(T.tup (l1.map (zV true)))=t1,rT l=tl,zo=ix at *;simp[i0,i1,ud,n1,n2]
 have hany:(l.getD k []).any (λ _=>false)=false:=by simp
 rw[hany,if_neg (by decide)] at hloop;have hcond:((decide (l0.getD k []=[])||decide (l1.getD k []=[]))&&decide (l.getD k []≠[]))=false:=by
  have n0:=h.n0;have n1:=h.n1;generalize l.getD k []=b,l0.getD k []=b0,l1.getD k []=b1 at *;by_cases e0:b0=[]
  .simp[n0 e0]
  .by_cases e1:b1=[]
   .simp[n1 e1]
   .simp[e0,e1]
 have q1:=eq_int wh 1 false;have q2:=eq_int wh 2 false;have sq:x_ (bT (l.getD k []))=some ((l.getD k []).map zp):=rfl;refine⟨[some (.im fl),some (.im (.int wh)),some (.im (.tup (l0.map (zV false)))),some (.im (.tup (l1.map (zV true)))),some (.im (rT l)),some (.im (.int (k:Int))),some (.im (bT (l.getD k []))),none,none],rfl,?_⟩;rw[Int.zero_add];unfold turn pq;generalize nG=bb1,tV=fs,(l.getD k []).map zp=PL,decide (l.getD k []≠[])=d,decide (l0.getD k []=[])=d0,decide (l1.getD k []=[])=d1,bT (l.getD k [])=bb,zV false (l0.getD k [])=a0,zV true (l1.getD k [])=a1,(T.tup (l0.map (zV false)))=t0,(T.tup (l1.map (zV true)))=t1,rT l=tl,zo=ix,wY=is',zU=ee at *;by_cases h2:wh=2
 .have f0':=f0 h2;subst h2;cases d <;> cases d0 <;> cases d1 <;> simp at hcond <;> simp[i0,i1,ib,s0,s1,nb,sq,hloop,q1,q2,f0']
 .by_cases h1:wh=1
  .have f1':=f1 h1;subst h1;cases d <;> cases d0 <;> cases d1 <;> simp at hcond <;> simp[i0,i1,ib,s0,s1,nb,sq,hloop,q1,q2,f1']
  .cases d <;> cases d0 <;> cases d1 <;> simp at hcond <;> simp[i0,i1,ib,s0,s1,nb,sq,hloop,q1,q2,h1,h2]
def QL {F:zB}(h:uV F) (wh:Int) (h2:wh=2->∀ w∈F.ws,0<=w.b) (h1:wh=1->∀ w∈F.ws,0<=w.a):n_ [zu F,.int wh]=some (.bl true):=by
 obtain⟨G0,m0,a0,b0,c0,d0⟩:=Z8 h false;obtain⟨G1,m1,a1,b1,c1,d1⟩:=Z8 h true;obtain⟨m,a,c,d⟩:=Z6 h;have ok:=h.ok;have pl:∀ k<F.os.length,Pl wh ((zy F m).getD k []) ((zy G0 m0).getD k []) ((zy G1 m1).getD k []):=λ k _=>by
  obtain⟨j0,x0,y0⟩:=bu c c0;obtain⟨j1,x1,y1⟩:=bu c c1;have g:=iH d k;have g0:=iH d0 k;have g1:=iH d1 k;have l0:yb ((zy F m).getD k []) ((zy G0 m0).getD k []):=by rw[<- x0,<- y0];exact b0.le ok.a0 ok.b0 j0 k
  have l1:yb ((zy F m).getD k []) ((zy G1 m1).getD k []):=by rw[<- x1,<- y1];exact b1.le ok.a0 ok.b0 j1 k
  refine⟨l0,l1,fW g0.qT (b0.zr m0 k),fW g1.qT (b1.zr m1 k),λ e=>g.eq g0 l0 ?_,λ e=>g.eq g1 l1 ?_⟩
  .rw[<- x0,<- y0];exact b0.ge (h2 e) j0 k
  .rw[<- x1,<- y1];exact b1.ge (h1 e) j1 k
 have ln:=rR F m;have ln0:(zy G0 m0).length=F.os.length:=by rw[rR,b0.os]
 have ln1:(zy G1 m1).length=F.os.length:=by rw[rR,b1.os]
 have n8:=ok.n8;have hloop:=lx (is:=[5,6,7,8]) (g:=zD 5) (b:=pq) (λ k:Nat=>T.int (0+(k:Int))) (λ _=>false) (.bl false)
  [some (.im (zu F)),some (.im (.int wh)),some (.im (.tup ((zy G0 m0).map (zV false)))),some (.im (.tup ((zy G1 m1).map (zV true)))),some (.im (rT (zy F m))),none,none,none,none] (List.range F.os.length)
  [some (.im (zu F)),some (.im (.int wh)),some (.im (.tup ((zy G0 m0).map (zV false)))),some (.im (.tup ((zy G1 m1).map (zV true)))),some (.im (rT (zy F m))),none,none,none,none] rfl λ k hk=>by
   have hk':=zC1.mp hk;obtain⟨J',r1,r2⟩:=X2 (zu F) wh (zy F m) (zy G0 m0) (zy G1 m1) k (by omega) (by omega) (by omega) (pl k hk');exact⟨J',r1,by rw[if_neg (by decide)];exact r2⟩
 have hany:(List.range F.os.length).any (λ _=>false)=false:=by simp
 rw[hany,if_neg (by decide)] at hloop;have hrg:=pY F.os.length (by omega);have i1:zo (zu F) (.int 1)=some (.tup (F.os.map kt)):=rfl;have k2:vI [.tup (F.os.map kt)]=some (.int (F.os.length:Int)):=by simp
 have a0':rh [zu F,.int 0]=some (.tup ((zy G0 m0).map (zV false))):=a0;have a1':rh [zu F,.int 1]=some (.tup ((zy G1 m1).map (zV true))):=a1;unfold n_ fF;generalize pq=bb,rh=fa,rg=fb,(List.range F.os.length).map (λ(k:Nat)=>T.int (0+(k:Int)))=RR,(T.tup ((zy G0 m0).map (zV false)))=t0,(T.tup ((zy G1 m1).map (zV true)))=t1,rT (zy F m)=tl,(T.tup (F.os.map kt))=ot,zu F=fl,zo=ix,vI=ll at *;simp[a0',a1',a,i1,k2,hrg,hloop]
def fg (ns:List Int) (k:Nat):∃ v,uv [wA ns,.int (k:Int)]=some (.int v):=by
 unfold uv fH wA;by_cases h:k<ns.length
 .have e:L2.zR (ns.map T.int) (k:Int)=some (.int (ns.getD k 0)):=uq (by simp[h]);exact⟨_,by simp[h,e,ud];rfl⟩
 .exact⟨0,by simp[h,ud]⟩
def QI (c:Int):∃ most zK:Nat,nY [.int c]=some (.tup [.int most,.int zK])/\(1<=most/\most<=8)/\zK<=12:=by
 have h0:0<=c%10:=zF0 _ (by decide);have h1:c%10<10:=zF1 _ (by decide);have key:∀ z:Int,0<=z->z<10->∃ most zK:Nat,L2.zR [T.tup [.int 4,.int 5],T.tup [.int 3,.int 5],T.tup [.int 4,.int 4],T.tup [.int 2,.int 6],T.tup [.int 5,.int 3],T.tup [.int 3,.int 4],T.tup [.int 1,.int 8],T.tup [.int 4,.int 3],T.tup [.int 8,.int 2],T.tup [.int 2,.int 5]] z=some (.tup [.int most,.int zK])/\(1<=most/\most<=8)/\zK<=12:=λ z a b=>by
  obtain h | h | h | h | h | h | h | h | h | h:z=0\/z=1\/z=2\/z=3\/z=4\/z=5\/z=6\/z=7\/z=8\/z=9:=by omega
  all_goals subst h
  .exact⟨4,5,rfl,by decide,by decide⟩
  .exact⟨3,5,rfl,by decide,by decide⟩
  .exact⟨4,4,rfl,by decide,by decide⟩
  .exact⟨2,6,rfl,by decide,by decide⟩
  .exact⟨5,3,rfl,by decide,by decide⟩
  .exact⟨3,4,rfl,by decide,by decide⟩
  .exact⟨1,8,rfl,by decide,by decide⟩
  .exact⟨4,3,rfl,by decide,by decide⟩
  .exact⟨8,2,rfl,by decide,by decide⟩
  .exact⟨2,5,rfl,by decide,by decide⟩
 obtain⟨most,zK,e,r⟩:=key _ h0 h1;refine⟨most,zK,?_,r⟩;unfold nY fD;simp[e]
def T4 (ns:List Int) (c:T) (most zK:Nat) (hm:1<=most/\most<=8) (hb:zK<=12) (k:Nat):
  ∃ J',y7 [4,5,6] J'=[some (.im (wA ns)),some (.im c),some (.im (.int most)),some (.im (.int zK)),none,none,none]
   /\ turn (zD 4) nI (.int (1+(k:Int)*20)) [some (.im (wA ns)),some (.im c),some (.im (.int most)),some (.im (.int zK)),none,none,none]=some (.nx J'):=by
 obtain⟨v,hv⟩:=fg ns (1+k*20);obtain⟨u,hu⟩:=fg ns (1+k*20+1);have hv':uv [wA ns,.int (1+(k:Int)*20)]=some (.int v):=by rw[<- hv];congr 3
 have hu':uv [wA ns,.int (1+(k:Int)*20+1)]=some (.int u):=by rw[<- hu];congr 3
 obtain⟨F,st,f1,f2⟩:=QO v most zK hm.1 hm.2 hb;generalize hwh:u%3=wh;obtain⟨G,g1,g2,g3⟩:=QJ f2 st wh;have hR:=QL g2 wh (λ e w hw=>by
  obtain⟨x,_,rfl⟩:=(g3 w).mp hw;show 0<=(if wh=2 then yi x.b else x.b)
  rw[if_pos e];exact tE _) (λ e w hw=>by
  obtain⟨x,_,rfl⟩:=(g3 w).mp hw;show 0<=(if wh=1 then yi x.a else x.a)
  rw[if_pos e];exact tE _)
 refine⟨[some (.im (wA ns)),some (.im c),some (.im (.int most)),some (.im (.int zK)),some (.im (.int (1+(k:Int)*20))),some (.im (.int v)),some (.im (.int wh))],rfl,?_⟩;unfold turn nI;generalize uv=fc,ma=ff,nZ=fs,n_=fr at *;generalize (T.tup [.tup [.int F.A,.int F.B],.tup (F.os.map kt),.tup (F.ws.map zJ),st])=fl at *;generalize zu G=gl,wA ns=sc,(1+(k:Int)*20)=kk at *;simp[hv',hu',hwh,f1,g1,hR]
def T5 (ns:List Int) (hns:ns.length<=63):pH [wA ns]=some (.bl true):=by
 obtain⟨v,hv⟩:=fg ns 0;have hv':uv [wA ns,.int 0]=some (.int v):=hv;obtain⟨most,zK,hs,hm,hb⟩:=QI v;obtain⟨n,hn⟩:∃ n:Nat,pX [.int 1,.int (if (if (60:Int)<ns.length then 60 else (ns.length:Int))>2 then (if (60:Int)<ns.length then 60 else (ns.length:Int)) else 2),.int 20]=some ((List.range n).map λ(k:Nat)=>T.int (1+(k:Int)*20)):=by
  generalize hz:(if (if (60:Int)<ns.length then 60 else (ns.length:Int))>2 then (if (60:Int)<ns.length then 60 else (ns.length:Int)) else 2)=z;have hz1:0<=z/\z<=60:=by rw[<- hz];split <;> split <;> omega
  refine⟨uc 1 z 20,?_⟩;show (if (sL 1=true/\sL z=true)/\sL 20=true/\(0:Int)<20 then some (mN 1 20 (uc 1 z 20)) else none)=_;rw[if_pos ⟨⟨by decide,by simp[sL];omega⟩,by decide,by decide⟩];rfl
 have hloop:=lx (is:=[4,5,6]) (g:=zD 4) (b:=nI) (λ k:Nat=>T.int (1+(k:Int)*20)) (λ _=>false) (.bl false)
  [some (.im (wA ns)),some (.im (.int v)),some (.im (.int most)),some (.im (.int zK)),none,none,none] (List.range n)
  [some (.im (wA ns)),some (.im (.int v)),some (.im (.int most)),some (.im (.int zK)),none,none,none] rfl λ k _=>by
   obtain⟨J',r1,r2⟩:=T4 ns (.int v) most zK hm hb k;exact⟨J',r1,by rw[if_neg (by decide)];exact r2⟩
 have hany:(List.range n).any (λ _=>false)=false:=by simp
 rw[hany,if_neg (by decide)] at hloop;have hlen:vI [wA ns]=some (.int (ns.length:Int)):=by simp[wA]
 unfold pH Yc;generalize nI=bb,uv=fc,nY=fz,(List.range n).map (λ(k:Nat)=>T.int (1+(k:Int)*20))=RR,wA ns=sc,vI=ll,pX=rr at *;simp[hv',hs,hlen,hn,hloop]
end yz
namespace PySem.W.Fast
def te12079642197196885283:=0
def tw17397933287186005027:=0
def tw1295188029535676438:=0
def tw5724960559812104299:=0
def tw924932461199089188:=0
def tw7602530635703486739:=0
def tw11137451165351999775:=0
def tw9848219963433751276:=0
def tw7321741411203385151:=0
def tw4569960796593874554:=0
def tw1986163737874997992:=0
def tw17023080420171908722:=0
def tw12121936189365730672:=0
def tw17871192011425559278:=0
def tw13785996972664475118:=0
def tw5995708326415893650:=0
def tw17427542818003391016:=0
def tw9006707604757292111:=0
def tw10899106524504749342:=0
def tw5850584874671108959:=0
def tw2526025968136547271:=0
def tw2979804339869210796:=0
def tw18270816573980993049:=0
def tw15953231864947710915:=0
def tw1510735639166994089:=0
def tw10587025657262504585:=0
def tw5847096915049751833:=0
def tw17205925678287934137:=0
def tw5133904699628913582:=0
def tw1312182576140809596:=0
def tw9548661923218771505:=0
def tw9599435423471273210:=0
def tw13096761139634342942:=0
def tw7773105622096548744:=0
def tw11495017345257041607:=0
def tw18367439710781369539:=0
def tw10332122493931639689:=0
def tw17105231930411181327:=0
def tw4484201301118027503:=0
def tw7048943914465179697:=0
def tw6823849159765049829:=0
def tw11609451097571651580:=0
def tw3307476947755884794:=0
def tw9163977218018651851:=0
def tw13359611073326482222:=0
def tw1640686991404446998:=0
def tw13728116476058171285:=0
def tw4670217181570683543:=0
def tw3495078060317514962:=0
def tw16534928879809335991:=0
def tw15216985362354836551:=0
def tw9906656514188727296:=0
def tw7715230527478210931:=0
def tw15258966058878316783:=0
def tw9848374359476423167:=0
def tw8429112787588819899:=0
def tw4224983798584151704:=0
def tw10211942424398627843:=0
def tw1083251203378178551:=0
def tw5316671138439141614:=0
def tw970477073492617549:=0
def tw3268517794937588454:=0
def tw12772545831346995616:=0
def tw13292107941714526254:=0
def tw6581796643440746015:=0
def tw8664809392540421525:=0
def tw7837533801710854304:=0
def tw8281374836718911529:=0
def tw8343874333841203867:=0
def tw13392330175805968781:=0
def tw17708336956155873770:=0
def tw2122110650793394566:=0
def tw11013446041038872619:=0
def tw15391352481188213206:=0
def tw7025902593715016696:=0
def tw14994567763711166059:=0
def tw10221888691515728232:=0
def tw4926223954469400974:=0
def tw10849673684745296055:=0
def tw7545313535951182743:=0
def tw7946733732863641789:=0
def tw7214997771286857143:=0
def tw4532737567839887524:=0
def tw9910395624353444449:=0
def tw9655452056686055423:=0
def tw6451943593007155969:=0
def tw6814748571140081075:=0
def tw14811756017422154102:=0
def tw15720952409828558159:=0
def tw17561968016752140529:=0
def tw11532159090721921456:=0
def tw9858909184430218595:=0
def tw15247129027300954248:=0
def tw2336954346753907875:=0
def tw15789202744263340314:=0
def tw2651903817847571443:=0
def tw9778977301969364106:=0
def tw9224417238451478400:=0
def tw14387421302280487758:=0
def tw6963377929997580862:=0
def tw8347371363273196085:=0
def tw2091606343720832832:=0
def tw15074886803451168208:=0
def tw16752695052690369920:=0
def tw11740481184841854010:=0
def tw16286361995896411405:=0
def tw10120514592103057272:=0
def tw10661991292728359012:=0
def tw2693802989875900545:=0
def tw11555032241511159097:=0
end PySem.W.Fast
namespace yz
open PySem L2 L3 L5
open PyProof.Rows hiding St
def yo (i:Nat):Stmt:=PySem.Challenge.pw_purseborder_k52_whole_alone_and_borders.main.body.getD i (.Pass ⟨0,0,0,0⟩)
abbrev kX:Stmt:=yo 6
abbrev kW:Stmt:=yo 7
abbrev kH:Stmt:=yo 8
abbrev kZ:Stmt:=yo 9
abbrev mH:Stmt:=yo 10
abbrev kG:Stmt:=yo 11
abbrev jd:Stmt:=yo 13
abbrev kK:Stmt:=yo 14
abbrev pT:Stmt:=yo 15
abbrev kY:Stmt:=yo 16
abbrev pU:Stmt:=yo 18
abbrev kJ:Stmt:=yo 19
abbrev jc:Stmt:=yo 20
abbrev ja:Stmt:=yo 21
abbrev jb:Stmt:=yo 22
abbrev pS:Stmt:=yo 23
abbrev mJ:Stmt:=yo 24
abbrev mI:Stmt:=yo 25
abbrev k_:Stmt:=yo 27
abbrev kF:Stmt:=yo 29
abbrev mK:Stmt:=yo 30
abbrev mL:Stmt:=yo 31
abbrev kS:Stmt:=yo 33
abbrev kM:Stmt:=yo 34
abbrev kT:Stmt:=yo 35
abbrev kL:Stmt:=yo 36
abbrev kR:Stmt:=yo 37
abbrev kN:Stmt:=yo 38
abbrev kP:Stmt:=yo 39
abbrev kO:Stmt:=yo 40
abbrev kQ:Stmt:=yo 41
abbrev kU:Stmt:=yo 42
def Xp:yj ["thing"] ["thing"] (zG kX):=⟨rfl,rfl,rfl,by decide +kernel,rfl,by decide +kernel,by decide +kernel⟩
def Xi:yj ["floor"] ["floor"] (zG kH):=⟨rfl,rfl,rfl,by decide +kernel,rfl,by decide +kernel,by decide +kernel⟩
def Xt:yj ["pair","other"] ["pair","other"] (zG jd):=⟨rfl,rfl,rfl,by decide +kernel,rfl,by decide +kernel,by decide +kernel⟩
def kE:yj ["pairs","least","pair"] ["pairs"] (zG kK):=⟨rfl,rfl,rfl,by decide +kernel,rfl,by decide +kernel,by decide +kernel⟩
def r9:yj ["brims","stall","pair","purse","pairs","given","got"] ["brims","stall","pair"] (zG kJ):=⟨rfl,rfl,rfl,by decide +kernel,rfl,by decide +kernel,by decide +kernel⟩
def Xh:yj ["way","purse"] ["way","purse"] (zG kF):=⟨rfl,rfl,rfl,by decide +kernel,rfl,by decide +kernel,by decide +kernel⟩
def Xm:yj ["_law_script","_law_k"] ["_law_script","_law_k"] (zG kS):=⟨rfl,rfl,rfl,by decide +kernel,rfl,by decide +kernel,by decide +kernel⟩
def sf:yj ["_law_cell","_law_count","_law_found","_law_number","_law_k"] ["_law_cell","_law_count"] (zG kM):=⟨rfl,rfl,rfl,by decide +kernel,rfl,by decide +kernel,by decide +kernel⟩
def Xn:yj ["_law_number","_law_most"] ["_law_number","_law_most"] (zG kT):=⟨rfl,rfl,rfl,by decide +kernel,rfl,by decide +kernel,by decide +kernel⟩
def Xk:yj ["_law_number"] ["_law_number"] (zG kN):=⟨rfl,rfl,rfl,by decide +kernel,rfl,by decide +kernel,by decide +kernel⟩
def sg:yj ["_law_floor_here","_law_way_here","_law_ways","_law_start","_law_end","_law_first","_law_second"] ["_law_floor_here","_law_way_here"] (zG kP):=⟨rfl,rfl,rfl,by decide +kernel,rfl,by decide +kernel,by decide +kernel⟩
def Xl:yj ["_law_border","_law_purse","_law_number"] ["_law_border","_law_purse","_law_number"] (zG kO):=⟨rfl,rfl,rfl,by decide +kernel,rfl,by decide +kernel,by decide +kernel⟩
def Xo:yj ["thing","least","most"] ["thing","least","most"] (zG kW):=⟨rfl,rfl,rfl,by decide +kernel,rfl,by decide +kernel,by decide +kernel⟩
def rB:yj ["border","other","steps","lows","shared","first","side","second"] ["border","other"] (zG pT):=⟨rfl,rfl,rfl,by decide +kernel,rfl,by decide +kernel,by decide +kernel⟩
def Xq:yj ["border","other"] ["border","other"] (zG kY):=⟨rfl,rfl,rfl,by decide +kernel,rfl,by decide +kernel,by decide +kernel⟩
def da:yj ["brims","way","border","pairs"] ["brims","way","border"] (zG pU):=⟨rfl,rfl,rfl,by decide +kernel,rfl,by decide +kernel,by decide +kernel⟩
def e_:yj ["floor","purse","ways"] ["floor","purse"] (zG mK):=⟨rfl,rfl,rfl,by decide +kernel,rfl,by decide +kernel,by decide +kernel⟩
def Xj:yj ["_law_place","_law_many","_law_number","_law_size"] ["_law_place","_law_many","_law_number","_law_size"] (zG kL):=⟨rfl,rfl,rfl,by decide +kernel,rfl,by decide +kernel,by decide +kernel⟩
def Xr:yj ["floor","place"] ["floor","place"] (zG kZ):=⟨rfl,rfl,rfl,by decide +kernel,rfl,by decide +kernel,by decide +kernel⟩
def mE:yj ["borders","joined","border"] ["borders"] (zG ja):=⟨rfl,rfl,rfl,by decide +kernel,rfl,by decide +kernel,by decide +kernel⟩
def mF:yj ["borders","joined","border"] ["borders"] (zG jb):=⟨rfl,rfl,rfl,by decide +kernel,rfl,by decide +kernel,by decide +kernel⟩
def v9:yj ["_law_cell","_law_most","_law_brim","_law_xs","_law_many","_law_owners","_law_ways","_law_stalls","_law_place","_law_number","_law_size","_law_k","_law_brims"] ["_law_cell","_law_most","_law_brim"] (zG kR):=⟨rfl,rfl,rfl,by decide +kernel,rfl,by decide +kernel,by decide +kernel⟩
def Xg:yj ["floor","place"] ["floor","place"] (zG mH):=⟨rfl,rfl,rfl,by decide +kernel,rfl,by decide +kernel,by decide +kernel⟩
def eZ:yj ["floor","place","stall"] ["floor","place"] (zG kG):=⟨rfl,rfl,rfl,by decide +kernel,rfl,by decide +kernel,by decide +kernel⟩
def mG:yj ["floor","place","border","stall","pairs","pair"] ["floor","place","border"] (zG jc):=⟨rfl,rfl,rfl,by decide +kernel,rfl,by decide +kernel,by decide +kernel⟩
def kD:yj ["floor","place","last","ways","ahead"] ["floor","place","last"] (zG pS):=⟨rfl,rfl,rfl,by decide +kernel,rfl,by decide +kernel,by decide +kernel⟩
def kC:yj ["floor","last","fresh","following","place"] ["floor","last","fresh"] (zG mJ):=⟨rfl,rfl,rfl,by decide +kernel,rfl,by decide +kernel,by decide +kernel⟩
def qz:yj ["floor","told","fresh","last","following"] ["floor"] (zG mI):=⟨rfl,rfl,rfl,by decide +kernel,rfl,by decide +kernel,by decide +kernel⟩
def Xs:yj ["floor"] ["floor"] (zG k_):=⟨rfl,rfl,rfl,by decide +kernel,rfl,by decide +kernel,by decide +kernel⟩
def Xu:yj ["floor","purse"] ["floor","purse"] (zG mL):=⟨rfl,rfl,rfl,by decide +kernel,rfl,by decide +kernel,by decide +kernel⟩
def sj:yj ["_law_floor_here","_law_way_here","_law_firsts","_law_seconds","_law_told","_law_place","_law_border","_law_x","_law_y"] ["_law_floor_here","_law_way_here"] (zG kQ):=⟨rfl,rfl,rfl,by decide +kernel,rfl,by decide +kernel,by decide +kernel⟩
def rA:yj ["_law_script","_law_cell","_law_most","_law_brim","_law_k","_law_number","_law_way_here"] ["_law_script"] (zG kU):=⟨rfl,rfl,rfl,by decide +kernel,rfl,by decide +kernel,by decide +kernel⟩
section
variable (P:Program) (w:World) (K:zFr) (mg:Str->Option Value) (base:Heap)
abbrev ZR:=FD P w K mg base "is_whole" 1 ["thing"] (zT zH kd)
abbrev fh:=FD P w K mg base "places_of" 1 ["floor"] (zT zH qm)
abbrev ZZ:=FD P w K mg base "at_or_above" 1 ["pair","other"] (zT zH mn)
abbrev mq:=FD P w K mg base "least_pairs" 1 ["pairs"] (zT zH tU)
abbrev ZE:=FD P w K mg base "pairs_ahead_of_changes" 1 ["brims","stall","pair"] (zT zH nW)
abbrev ZA:=FD P w K mg base "way_alone" 1 ["way","purse"] (zT zH pC)
abbrev ZO:=FD P w K mg base "_law_cell_at" 1 ["_law_script","_law_k"] (zT xO uv)
abbrev ZI:=FD P w K mg base "_law_stirred" 1 ["_law_cell","_law_count"] (zT zH pF)
abbrev ZQ:=FD P w K mg base "_law_amount" 1 ["_law_number","_law_most"] (zT zH pG)
abbrev ZJ:=FD P w K mg base "_law_sized" 1 ["_law_number"] (zT xO nY)
abbrev ZL:=FD P w K mg base "_law_shaped" 1 ["_law_floor_here","_law_way_here"] (zT zH nZ)
abbrev ZK:=FD P w K mg base "_law_single" 1 ["_law_border","_law_purse","_law_number"] (zT zH tV)
abbrev fj:=FD P w K mg base "is_whole_within" 2 ["thing","least","most"] (zT zH qo)
abbrev ZU:=FD P w K mg base "both" 2 ["border","other"] (zT zH mh)
abbrev ZT:=FD P w K mg base "either" 2 ["border","other"] (zT zH me)
abbrev ZX:=FD P w K mg base "border_ahead_of_way" 2 ["brims","way","border"] (zT zH ml)
abbrev ZS:=FD P w K mg base "floor_alone" 2 ["floor","purse"] (zT zH md)
abbrev ZH:=FD P w K mg base "_law_way" 2 ["_law_place","_law_many","_law_number","_law_size"] (zT zH rf)
abbrev fk:=FD P w K mg base "check_place" 3 ["floor","place"] (zT zH mf)
abbrev ZV:=FD P w K mg base "border_of_either" 3 ["borders"] (zT xO mi)
abbrev ZW:=FD P w K mg base "border_of_all" 3 ["borders"] (zT xO mj)
abbrev ZN:=FD P w K mg base "_law_floor" 3 ["_law_cell","_law_most","_law_brim"] (zT zH ma)
abbrev Z9:=FD P w K mg base "ways_from" 4 ["floor","place"] (zT zH nV)
abbrev ZC:=FD P w K mg base "stall_at" 4 ["floor","place"] (zT xO ql)
abbrev ZY:=FD P w K mg base "border_ahead_of_changes" 5 ["floor","place","border"] (zT xO pJ)
abbrev ZG:=FD P w K mg base "next_border" 6 ["floor","place","last"] (zT xO nX)
abbrev ZF:=FD P w K mg base "next_round" 7 ["floor","last","fresh"] (zT zH pE)
abbrev ZD:=FD P w K mg base "rounds" 8 ["floor"] (zT zH pD)
abbrev fm:=FD P w K mg base "borders" 9 ["floor"] (zT xO rg)
abbrev Z_:=FD P w K mg base "alone" 10 ["floor","purse"] (zT zH rh)
abbrev ZM:=FD P w K mg base "_law_right" 11 ["_law_floor_here","_law_way_here"] (zT zH n_)
variable {K mg} (T:Bt mg) (U:Ya mg)
include T U
theorem Uy (F:Fy K mg "is_whole" kX):ZR P w K mg base:=
 yB (k:=0) F Xp rfl (λ _ _ _ _ _ _=>sY λ _=>rfl) λ f cdv A outer s H E hr=>⟨_,
  (zE (z_ (j6 (Vb T (za 0 (pv 0))) (jy (WZ (Vc T (za 0 (pv 0)))))))),
  (by unfold fL;exact okA)⟩
theorem Ub (F:Fy K mg "places_of" kH):fh P w K mg base:=
 yB (k:=0) F Xi rfl (λ _ _ _ _ _ _=>sY λ _=>rfl) λ f cdv A outer s H E hr=>⟨_,
  (zE (z_ (om T.len (ze (zC (za 0 (pv 0)) zh) zk)))),
  (by unfold f6;exact okA)⟩
theorem UH (F:Fy K mg "at_or_above" jd):ZZ P w K mg base:=
 yB (k:=0) F Xt rfl (λ _ _ _ _ _ _=>vc λ _ _=>rfl) λ f cdv A outer s H E hr=>⟨_,
  (zE (z_ (j6 (dX (zC (za 0 (pv 0)) zh) (zC (za 1 (pv 1)) zh)) (jy (dX (zC (za 0 (pv 0)) zh) (zC (za 1 (pv 1)) zh)))))),
  (by unfold fU;exact okA)⟩
theorem Uj (F:Fy K mg "least_pairs" kK):mq P w K mg base:=
 yB (k:=0) F kE rfl (λ _ _ _ _ _ _=>sY λ _=>rfl) λ f cdv A outer s H E hr=>⟨_,
  (zA (zW 1 kE.nd (wC zk))
  (zA (wb PassesOwn.never rfl (xG (dS T.sorted (ze (za 0 (pv 0)) zk))) (ym 2 kE.nd) (zE (xo (wN.pt (jv (qC (u9 (za 1 (pv 1)))) (ju (mT hr (zC (za 2 (pv 2)) zh) (zC (zC (za 1 (pv 1)) (jz zh)) zh))))) (zE (wV (ua (za 1 (pv 1)) (za 2 (pv 2))))) xn)))
  (zE (z_ (rE T.tuple (ze (za 1 (pv 1)) zk)))))),
  (by unfold fB pz;exact okA)⟩
theorem Uc (F:Fy K mg "pairs_ahead_of_changes" kJ):ZE P w K mg base:=
 yB (k:=0) F r9 rfl (λ _ _ _ _ _ _=>sX λ _ _ _=>rfl) λ f cdv A outer s H E hr=>⟨_,
  (zA (zW 3 r9.nd (zC (za 1 (pv 1)) zh))
  (zA (zW 4 r9.nd (wC zk))
  (zA (zW 5 r9.nd (zC (za 2 (pv 2)) (za 3 (pv 3))))
  (zA (zW 6 r9.nd (zC (za 2 (pv 2)) (rF zh (za 3 (pv 3)))))
  (zA (dP PassesOwn.never (WO (za 5 (pv 5)) (zC (za 0 (pv 0)) (za 3 (pv 3)))) (zA (wV (ua (za 4 (pv 4)) (dW (wU hr (za 3 (pv 3)) zh) (yn (ze (za 5 (pv 5)) (ze (za 6 (pv 6)) zk))) (yn (ze (za 6 (pv 6)) (ze (za 5 (pv 5)) zk))))))
  (zA (zW 5 r9.nd (xp (za 5 (pv 5)) (zC (za 1 (pv 1)) zh)))
  (zE (zW 6 r9.nd (rH T.max (ze zh (ze (rF (za 6 (pv 6)) (zC (za 1 (pv 1)) zh)) zk))))))))
  (zE (z_ (za 4 (pv 4))))))))),
  (by unfold f7 sW;exact okA)⟩
theorem VV (F:Fy K mg "way_alone" kF):ZA P w K mg base:=
 yB (k:=0) F Xh rfl (λ _ _ _ _ _ _=>vc λ _ _=>rfl) λ f cdv A outer s H E hr=>⟨_,
  (zA (xo (wU hr (za 1 (pv 1)) zh) (zE (z_ (yn (ze (zC (za 0 (pv 0)) zh) (ze (zC (za 0 (pv 0)) zh) (ze (zC (za 0 (pv 0)) zh) (ze zh zk))))))) xn)
  (zE (z_ (yn (ze (zC (za 0 (pv 0)) zh) (ze (zC (za 0 (pv 0)) zh) (ze zh (ze (zC (za 0 (pv 0)) zh) zk)))))))),
  (by unfold kf;exact okA)⟩
theorem Uu (F:Fy K mg "_law_cell_at" kS):ZO P w K mg base:=
 yB (k:=0) F Xm rfl (λ _ _ _ _ _ _=>vc λ _ _=>rfl) λ f cdv A outer s H E hr=>⟨_,
  (zA (xo (mT hr (za 1 (pv 1)) (om T.len (ze (za 0 (pv 0)) zk))) (zE (z_ (zC (za 0 (pv 0)) (za 1 (pv 1))))) xn)
  (zE (z_ zh))),
  (by unfold fH;exact okA)⟩
theorem Um (F:Fy K mg "_law_stirred" kM):ZI P w K mg base:=
 yB (k:=0) F sf rfl (λ _ _ _ _ _ _=>vc λ _ _=>rfl) λ f cdv A outer s H E hr=>⟨_,
  (zA (zW 2 sf.nd (wC zk))
  (zA (zW 3 sf.nd (Vl U.abs (ze (oo (za 0 (pv 0)) zh) zk)))
  (zA (xo (wU hr (yW (za 0 (pv 0)) zh) zh) (zA (wb PassesOwn.never rfl (qE T.range (ze (za 1 (pv 1)) zk)) (ym 4 sf.nd) (zA (wV (ua (za 2 (pv 2)) (yW (za 3 (pv 3)) (rG zh zh))))
  (zE (zW 3 sf.nd (oo (za 3 (pv 3)) (rG zh zh))))))
  (zE (z_ (za 2 (pv 2))))) xn)
  (zA (zW 3 sf.nd (xp (yW (za 3 (pv 3)) (xp (rG zh zh) zh)) zh))
  (zA (wb PassesOwn.never rfl (qE T.range (ze (za 1 (pv 1)) zk)) (ym 4 sf.nd) (zA (zW 3 sf.nd (yW (xp (xp (j4 (za 3 (pv 3)) zh) (oo (za 3 (pv 3)) (rG zh zh))) (j4 zh (za 4 (pv 4)))) (xp (rG zh zh) zh)))
  (zE (wV (ua (za 2 (pv 2)) (oo (j4 (za 3 (pv 3)) (xp (oo (za 3 (pv 3)) (rG zh zh)) zh)) (rG zh zh)))))))
  (zE (z_ (za 2 (pv 2))))))))),
  (wW (cp 2 (cx tD))
  (wW (sC 3 ((o3 SR (vG ((oz (wF 0) ((yA _)).fr)).fr sD))).fe)
  (wW (jD (cv (xT bP ((qL (wF 0) ((yA _)).fr)).fr ((yA _)).fr).fr) (wW (lg (jF (b:=true) (vG (wF 1) sD)) (qK 4) (wW (jE 2 ((qL (wF 3) ((sE ((yA _)).fr ((yA _)).fr)).fr)).fe)
  (sC 3 ((oz (wF 3) ((sE ((yA _)).fr ((yA _)).fr)).fr)).fe)))
  (lb 2)) jB)
  (wW (sC 3 ((xT good_add ((qL (wF 3) ((xT good_add ((sE ((yA _)).fr ((yA _)).fr)).fr ((yA _)).fr)).fr)).fr ((yA _)).fr)).fe)
  (wW (lg (jF (b:=true) (vG (wF 1) sD)) (qK 4) (wW (sC 3 ((qL ((xT good_add ((xT good_add ((jH (wF 3) ((yA _)).fr)).fr ((oz (wF 3) ((sE ((yA _)).fr ((yA _)).fr)).fr)).fr)).fr ((jH ((yA _)).fr (wF 4))).fr)).fr ((xT good_add ((sE ((yA _)).fr ((yA _)).fr)).fr ((yA _)).fr)).fr)).fe)
  (jE 2 ((oz ((jH (wF 3) ((xT good_add ((oz (wF 3) ((sE ((yA _)).fr ((yA _)).fr)).fr)).fr ((yA _)).fr)).fr)).fr ((sE ((yA _)).fr ((yA _)).fr)).fr)).fe)))
  (lb 2))))))⟩
theorem Uv (F:Fy K mg "_law_amount" kT):ZQ P w K mg base:=
 yB (k:=0) F Xn rfl (λ _ _ _ _ _ _=>vc λ _ _=>rfl) λ f cdv A outer s H E hr=>⟨_,
  (zE (z_ (mZ T.min (ze zh (ze (xp (rF (yW (yW (za 0 (pv 0)) zh) (xp (mY zh (za 1 (pv 1))) zh)) (za 1 (pv 1))) (yW (vF (za 0 (pv 0)) zh) zh)) zk))))),
  (by unfold fJ;exact okA)⟩
theorem Uo (F:Fy K mg "_law_sized" kN):ZJ P w K mg base:=
 yB (k:=0) F Xk rfl (λ _ _ _ _ _ _=>sY λ _=>rfl) λ f cdv A outer s H E hr=>⟨_,
  (zE (z_ (zC (wC (ze (yn (ze zh (ze zh zk))) (ze (yn (ze zh (ze zh zk))) (ze (yn (ze zh (ze zh zk))) (ze (yn (ze zh (ze zh zk))) (ze (yn (ze zh (ze zh zk))) (ze (yn (ze zh (ze zh zk))) (ze (yn (ze zh (ze zh zk))) (ze (yn (ze zh (ze zh zk))) (ze (yn (ze zh (ze zh zk))) (ze (yn (ze zh (ze zh zk))) zk))))))))))) (yW (za 0 (pv 0)) zh)))),
  (by unfold fD;exact okA)⟩
theorem Ur (F:Fy K mg "_law_shaped" kP):ZL P w K mg base:=
 yB (k:=0) F sg rfl (λ _ _ _ _ _ _=>vc λ _ _=>rfl) λ f cdv A outer s H E hr=>⟨_,
  (zA (zW 2 sg.nd (wC zk))
  (zA (wb PassesOwn.never rfl (xG (zC (za 0 (pv 0)) zh)) (qG (n:=4) (wB (ym 3 sg.nd) (wB (ym 4 sg.nd) (wB (ym 5 sg.nd) (wB (ym 6 sg.nd) qF))))) (zA (xo (wU hr (za 1 (pv 1)) zh) (zE (zW 5 sg.nd (rH T.max (ze zh (ze (za 5 (pv 5)) zk))))) xn)
  (zA (xo (wU hr (za 1 (pv 1)) zh) (zE (zW 6 sg.nd (rH T.max (ze zh (ze (za 6 (pv 6)) zk))))) xn)
  (zE (wV (ua (za 2 (pv 2)) (yn (ze (za 3 (pv 3)) (ze (za 4 (pv 4)) (ze (za 5 (pv 5)) (ze (za 6 (pv 6)) zk)))))))))))
  (zE (z_ (yn (ze (zC (za 0 (pv 0)) zh) (ze (zC (za 0 (pv 0)) zh) (ze (rE T.tuple (ze (mX hr T.sorted U.set (ze (za 2 (pv 2)) zk)) zk)) (ze (yn zk) zk))))))))),
  (by unfold fE nF;exact okA)⟩
theorem Uq (F:Fy K mg "_law_single" kO):ZK P w K mg base:=
 yB (k:=0) F Xl rfl (λ _ _ _ _ _ _=>sX λ _ _ _=>rfl) λ f cdv A outer s H E hr=>⟨_,
  (zA (xo (mU (za 2 (pv 2)) qH) (zE (z_ (dY hr (za 0 (pv 0)) (yn zk)))) xn)
  (zE (z_ (dY hr (za 0 (pv 0)) (yn (ze (zC (wC (ze (yn (ze (za 2 (pv 2)) (ze zh zk))) (ze (yn (ze zh (ze (za 2 (pv 2)) zk))) zk))) (za 1 (pv 1))) zk)))))),
  (by unfold kg;exact okA)⟩
theorem Ux (F:Fy K mg "is_whole_within" kW) (gQ:ZR P w K mg base):fj P w K mg base:=
 yB (k:=1) F Xo rfl (λ _ _ _ _ _ _=>sX λ _ _ _=>rfl) λ f cdv A outer s H E hr=>⟨_,
  (zE (z_ (j6 (zX gQ (hr.mono (by decide)) (ze (za 0 (pv 0)) zk)) (jy (Vi j8 j8 fit_le fit_le x9.mo x9.mo (za 1 (pv 1)) (za 0 (pv 0)) (za 2 (pv 2))))))),
  (by unfold fK;exact okA)⟩
theorem UA (F:Fy K mg "both" pT) (vX:mq P w K mg base):ZU P w K mg base:=
 yB (k:=1) F rB rfl (λ _ _ _ _ _ _=>vc λ _ _=>rfl) λ f cdv A outer s H E hr=>⟨_,
  (zA (zW 2 rB.nd (xp (rJ (N':=["pair"]) (pick:=[none]) (um (N:=["border","other","steps","lows","shared","first","side","second"]) (esc:=zG pT)) rfl (xG (za 0 (pv 0))) (λ _ _ _ _ _=>(ym 0 (by decide +kernel:List.Nodup (α:=Str) ["pair"]))) (λ _ _ _ _ _=>rD) (λ _ _ _ _ _=>(yn (ze (zC (za 0 (pv 0)) zh) (ze zh (ze (zC (za 0 (pv 0)) zh) zk)))))) (rJ (N':=["pair"]) (pick:=[none]) (um (N:=["border","other","steps","lows","shared","first","side","second"]) (esc:=zG pT)) rfl (xG (za 1 (pv 1))) (λ _ _ _ _ _=>(ym 0 (by decide +kernel:List.Nodup (α:=Str) ["pair"]))) (λ _ _ _ _ _=>rD) (λ _ _ _ _ _=>(yn (ze (zC (za 0 (pv 0)) zh) (ze zh (ze (zC (za 0 (pv 0)) zh) zk))))))))
  (zA (zW 3 rB.nd Vg)
  (zA (zW 4 rB.nd (wC zk))
  (zA (wb PassesOwn.never rfl (xG (dS T.sorted (ze (za 2 (pv 2)) zk))) (qG (n:=3) (wB (ym 5 rB.nd) (wB (ym 6 rB.nd) (wB (ym 7 rB.nd) qF)))) (zA (WT hr (za 3 (pv 3)) (za 6 (pv 6)) (mZ T.min (ze (za 7 (pv 7)) (ze (Vh hr (za 3 (pv 3)) (za 6 (pv 6)) (za 7 (pv 7))) zk))))
  (zE (xo (wU hr (Vf T.len (ze (za 3 (pv 3)) zk)) zh) (zE (wV (ua (za 4 (pv 4)) (yn (ze (za 5 (pv 5)) (ze (rH T.max (ze (dZ hr (za 3 (pv 3)) zh) (ze (dZ hr (za 3 (pv 3)) zh) zk))) zk)))))) xn))))
  (zE (z_ (zX vX (hr.mono (by decide)) (ze (za 4 (pv 4)) zk)))))))),
  (by unfold fP nJ hX hZ;exact okA)⟩
theorem U5 (F:Fy K mg "either" kY) (vX:mq P w K mg base):ZT P w K mg base:=
 yB (k:=1) F Xq rfl (λ _ _ _ _ _ _=>vc λ _ _=>rfl) λ f cdv A outer s H E hr=>⟨_,
  (zE (z_ (zX vX (hr.mono (by decide)) (ze (xp (j5 T.list (ze (za 0 (pv 0)) zk)) (j5 T.list (ze (za 1 (pv 1)) zk))) zk)))),
  (by unfold fN;exact okA)⟩
theorem UE (F:Fy K mg "border_ahead_of_way" pU) (vX:mq P w K mg base) (gZ:ZZ P w K mg base):ZX P w K mg base:=
 yB (k:=1) F da rfl (λ _ _ _ _ _ _=>sX λ _ _ _=>rfl) λ f cdv A outer s H E hr=>⟨_,
  (zA (mV (i:=3) (N':=["pair","way"]) (pick:=[none,some 1]) (um (N:=["brims","way","border","pairs"]) (esc:=zG pU)) rfl (xG (za 2 (pv 2))) (λ _ _ _ _ _=>(ym 0 (by decide +kernel:List.Nodup (α:=Str) ["pair","way"]))) (λ _ _ _ _ _=>rD) (λ _ _ _ _ _=>(yn (ze (rH T.max (ze zh (ze (rF (zC (za 0 (pv 0)) zh) (zC (za 1 (pv 1)) zh)) zk))) (ze (rH T.max (ze zh (ze (rF (zC (za 0 (pv 0)) zh) (zC (za 1 (pv 1)) zh)) zk))) zk)))) da.nd rfl (by first | exact Or.inl rfl | exact Or.inr rfl))
  (zE (z_ (zX vX (hr.mono (by decide)) (ze (rJ (N':=["pair","brims"]) (pick:=[none,some 0]) (um (N:=["brims","way","border","pairs"]) (esc:=zG pU)) rfl (xG (za 3 (pv 3))) (λ _ _ _ _ _=>(ym 0 (by decide +kernel:List.Nodup (α:=Str) ["pair","brims"]))) (λ _ _ _ _ _=>mW (u9 (zX gZ (hr.mono (by decide)) (ze (za 1 (pv 1)) (ze (za 0 (pv 0)) zk))))) (λ _ _ _ _ _=>(za 0 (pv 0)))) zk))))),
  (by unfold fT ny nB;exact okA)⟩
theorem U1 (F:Fy K mg "floor_alone" mK) (gE:ZA P w K mg base):ZS P w K mg base:=
 yB (k:=1) F e_ rfl (λ _ _ _ _ _ _=>vc λ _ _=>rfl) λ f cdv A outer s H E hr=>⟨_,
  (zA (zW 2 e_.nd (mX hr T.sorted U.set (ze (rJ (N':=["way","purse"]) (pick:=[none,some 1]) (um (N:=["floor","purse","ways"]) (esc:=zG mK)) rfl (xG (zC (za 0 (pv 0)) zh)) (λ _ _ _ _ _=>(ym 0 (by decide +kernel:List.Nodup (α:=Str) ["way","purse"]))) (λ _ _ _ _ _=>rD) (λ _ _ _ _ _=>(zX gE (hr.mono (by decide)) (ze (za 0 (pv 0)) (ze (za 1 (pv 1)) zk))))) zk)))
  (zE (z_ (yn (ze (zC (za 0 (pv 0)) zh) (ze (zC (za 0 (pv 0)) zh) (ze (rE T.tuple (ze (za 2 (pv 2)) zk)) (ze (yn zk) zk)))))))),
  (by unfold fM nA;exact okA)⟩
theorem Ul (F:Fy K mg "_law_way" kL) (l_:ZQ P w K mg base):ZH P w K mg base:=
 yB (k:=1) F Xj rfl (λ _ _ _ _ _ _=>Qz λ _ _ _ _=>rfl) λ f cdv A outer s H E hr=>⟨_,
  (zE (z_ (yn (ze (za 0 (pv 0)) (ze (yW (yW (za 2 (pv 2)) zh) (za 1 (pv 1))) (ze (zX l_ (hr.mono (by decide)) (ze (yW (vF (za 2 (pv 2)) zh) zh) (ze (za 3 (pv 3)) zk))) (ze (zX l_ (hr.mono (by decide)) (ze (yW (vF (za 2 (pv 2)) zh) zh) (ze (za 3 (pv 3)) zk))) zk))))))),
  (by unfold fC;exact okA)⟩
theorem U8 (F:Fy K mg "check_place" kZ) (p9:fj P w K mg base) (qk:fh P w K mg base):fk P w K mg base:=
 yB (k:=2) F Xr rfl (λ _ _ _ _ _ _=>vc λ _ _=>rfl) λ f cdv A outer s H E hr=>⟨_,
  (zE (xo (qC (u9 (zX p9 (hr.mono (by decide)) (ze (za 1 (pv 1)) (ze zh (ze (rF (zX qk (hr.mono (by decide)) (ze (za 0 (pv 0)) zk)) zh) zk)))))) (zE dQ) xn)),
  (by unfold fO;exact okA)⟩
theorem UC (F:Fy K mg "border_of_either" ja) (gS:ZT P w K mg base):ZV P w K mg base:=
 yB (k:=2) F mE rfl (λ _ _ _ _ _ _=>sY λ _=>rfl) λ f cdv A outer s H E hr=>⟨_,
  (zA (zW 1 mE.nd (yn zk))
  (zA (wb PassesOwn.never rfl (xG (za 0 (pv 0))) (ym 2 mE.nd) (zE (zW 1 mE.nd (zX gS (hr.mono (by decide)) (ze (za 1 (pv 1)) (ze (za 2 (pv 2)) zk))))))
  (zE (z_ (za 1 (pv 1)))))),
  (by unfold fR nK;exact okA)⟩
theorem UD (F:Fy K mg "border_of_all" jb) (gT:ZU P w K mg base):ZW P w K mg base:=
 yB (k:=2) F mF rfl (λ _ _ _ _ _ _=>sY λ _=>rfl) λ f cdv A outer s H E hr=>⟨_,
  (zA (zW 1 mF.nd (yn (ze (yn (ze zh (ze zh zk))) zk)))
  (zA (wb PassesOwn.never rfl (xG (za 0 (pv 0))) (ym 2 mF.nd) (zE (zW 1 mF.nd (zX gT (hr.mono (by decide)) (ze (za 1 (pv 1)) (ze (za 2 (pv 2)) zk))))))
  (zE (z_ (za 1 (pv 1)))))),
  (by unfold fS nL;exact okA)⟩
theorem Ut (F:Fy K mg "_law_floor" kR) (gK:ZI P w K mg base) (lY:ZH P w K mg base):ZN P w K mg base:=
 yB (k:=2) F v9 rfl (λ _ _ _ _ _ _=>sX λ _ _ _=>rfl) λ f cdv A outer s H E hr=>⟨_,
  (zA (zW 3 v9.nd (zX gK (hr.mono (by decide)) (ze (za 0 (pv 0)) (ze zh zk))))
  (zA (zW 4 v9.nd (xp zh (yW (zC (za 3 (pv 3)) zh) (za 1 (pv 1)))))
  (zA (zW 5 v9.nd (wC zk))
  (zA (zW 6 v9.nd (wC zk))
  (zA (zW 7 v9.nd (wC zk))
  (zA (wb PassesOwn.never rfl (qE T.range (ze (za 4 (pv 4)) zk)) (ym 8 v9.nd) (zA (zW 9 v9.nd (zC (za 3 (pv 3)) (xp zh (mY zh (za 8 (pv 8))))))
  (zA (wV (ua (za 5 (pv 5)) (zC (wC (ze jw (ze jw zk))) (yW (za 9 (pv 9)) zh))))
  (zA (zW 10 v9.nd (zC (wC (ze zh (ze zh (ze zh (ze zh zk))))) (yW (vF (za 9 (pv 9)) zh) zh)))
  (zA (wb PassesOwn.never rfl (qE T.range (ze (xp zh (yW (vF (za 9 (pv 9)) zh) zh)) zk)) (ym 11 v9.nd) (zE (wV (ua (za 6 (pv 6)) (zX lY (hr.mono (by decide)) (ze (za 8 (pv 8)) (ze (za 4 (pv 4)) (ze (zC (za 3 (pv 3)) (xp (xp zh (mY zh (za 8 (pv 8)))) (za 11 (pv 11)))) (ze (za 10 (pv 10)) zk)))))))))
  (zE (xo (wN.pt (mS (wU hr (zC (za 5 (pv 5)) (za 8 (pv 8))) jw) (mR (wU hr (yW (vF (za 9 (pv 9)) zh) zh) zh)))) (zE (wV (ua (za 7 (pv 7)) (yn (ze (za 8 (pv 8)) (ze (yW (vF (za 9 (pv 9)) zh) zh) (ze (xp zh (yW (vF (za 9 (pv 9)) zh) zh)) (ze (yW (vF (za 9 (pv 9)) zh) zh) zk)))))))) xn)))))))
  (zA (xo (wU hr (yW (vF (zC (za 3 (pv 3)) zh) zh) zh) zh) (zE (wb PassesOwn.never rfl (qE T.range (ze (mZ T.min (ze zh (ze (rF zh (om T.len (ze (za 6 (pv 6)) zk))) zk))) zk)) (ym 11 v9.nd) (zE (wV (ua (za 6 (pv 6)) (zX lY (hr.mono (by decide)) (ze (yW (yW (vF (zC (za 3 (pv 3)) zh) zh) zh) (za 4 (pv 4))) (ze (za 4 (pv 4)) (ze (zC (za 3 (pv 3)) (xp zh (za 11 (pv 11)))) (ze zh zk)))))))))) xn)
  (zA (zW 12 v9.nd (yn (ze (yW (zC (za 3 (pv 3)) zh) (xp (za 2 (pv 2)) zh)) (ze (yW (vF (zC (za 3 (pv 3)) zh) zh) (xp (za 2 (pv 2)) zh)) zk))))
  (zE (z_ (yn (ze (za 12 (pv 12)) (ze (rE T.tuple (ze (za 5 (pv 5)) zk)) (ze (rE T.tuple (ze (mX hr T.sorted U.set (ze (za 6 (pv 6)) zk)) zk)) (ze (rE T.tuple (ze (za 7 (pv 7)) zk)) zk))))))))))))))),
  (by unfold fG nD qb nH;exact okA)⟩
theorem VU (F:Fy K mg "ways_from" mH) (pA:fk P w K mg base):Z9 P w K mg base:=
 yB (k:=3) F Xg rfl (λ _ _ _ _ _ _=>vc λ _ _=>rfl) λ f cdv A outer s H E hr=>⟨_,
  (zA (wV (zX pA (hr.mono (by decide)) (ze (za 0 (pv 0)) (ze (za 1 (pv 1)) zk))))
  (zE (z_ (rJ (N':=["number","way","place"]) (pick:=[none,none,some 1]) (um (N:=["floor","place"]) (esc:=zG mH)) rfl (dR U.enumerate (ze (zC (za 0 (pv 0)) zh) zk)) (λ _ _ _ _ _=>(qG (n:=2) (wB (ym 0 (by decide +kernel:List.Nodup (α:=Str) ["number","way","place"])) (wB (ym 1 (by decide +kernel:List.Nodup (α:=Str) ["number","way","place"])) qF)))) (λ _ _ _ _ _=>mW (wU hr (zC (za 1 (pv 1)) zh) (za 2 (pv 2)))) (λ _ _ _ _ _=>(za 0 (pv 0))))))),
  (by unfold fu n4;exact okA)⟩
theorem V_ (F:Fy K mg "stall_at" kG) (pA:fk P w K mg base):ZC P w K mg base:=
 yB (k:=3) F eZ rfl (λ _ _ _ _ _ _=>vc λ _ _=>rfl) λ f cdv A outer s H E hr=>⟨_,
  (zA (wV (zX pA (hr.mono (by decide)) (ze (za 0 (pv 0)) (ze (za 1 (pv 1)) zk))))
  (zA (wb PassesOwn.never rfl (xG (zC (za 0 (pv 0)) zh)) (ym 2 eZ.nd) (zE (xo (wU hr (zC (za 2 (pv 2)) zh) (za 1 (pv 1))) (zE (z_ (za 2 (pv 2)))) xn)))
  (zE (z_ qH)))),
  (by unfold fx px;exact okA)⟩
theorem UG (F:Fy K mg "border_ahead_of_changes" jc) (gF:ZC P w K mg base) (vX:mq P w K mg base) (gH:ZE P w K mg base):ZY P w K mg base:=
 yB (k:=4) F mG rfl (λ _ _ _ _ _ _=>sX λ _ _ _=>rfl) λ f cdv A outer s H E hr=>⟨_,
  (zA (zW 3 mG.nd (zX gF (hr.mono (by decide)) (ze (za 0 (pv 0)) (ze (za 1 (pv 1)) zk))))
  (zA (xo (mU (za 3 (pv 3)) qH) (zE (z_ (za 2 (pv 2)))) xn)
  (zA (zW 4 mG.nd (wC zk))
  (zA (wb PassesOwn.never rfl (xG (za 2 (pv 2))) (ym 5 mG.nd) (zE (wV (W_ (za 4 (pv 4)) (zX gH (hr.mono (by decide)) (ze (zC (za 0 (pv 0)) zh) (ze (za 3 (pv 3)) (ze (za 5 (pv 5)) zk))))))))
  (zE (z_ (zX vX (hr.mono (by decide)) (ze (za 4 (pv 4)) zk)))))))),
  (by unfold kh nM;exact okA)⟩
theorem Uh {ku:Value}(F:Fy K mg "next_border" pS) (oP:mg "KEEPER"=some ku) (jk:L2.RelV (.str "keeper") ku) (gW:ZW P w K mg base) (gX:ZX P w K mg base) (gY:ZY P w K mg base) (gD:Z9 P w K mg base) (gU:ZV P w K mg base):ZG P w K mg base:=
 yB (k:=5) F kD rfl (λ _ _ _ _ _ _=>sX λ _ _ _=>rfl) λ f cdv A outer s H E hr=>⟨_,
  (zA (mV (i:=3) (N':=["number","floor"]) (pick:=[none,some 0]) (um (N:=["floor","place","last","ways","ahead"]) (esc:=zG pS)) rfl (xG (zX gD (hr.mono (by decide)) (ze (za 0 (pv 0)) (ze (za 1 (pv 1)) zk)))) (λ _ _ _ _ _=>(ym 0 (by decide +kernel:List.Nodup (α:=Str) ["number","floor"]))) (λ _ _ _ _ _=>rD) (λ _ _ _ _ _=>(zC (zC (za 1 (pv 1)) zh) (za 0 (pv 0)))) kD.nd rfl (by first | exact Or.inl rfl | exact Or.inr rfl))
  (zA (mV (i:=4) (N':=["way","floor","last"]) (pick:=[none,some 0,some 2]) (um (N:=["floor","place","last","ways","ahead"]) (esc:=zG pS)) rfl (xG (za 3 (pv 3))) (λ _ _ _ _ _=>(ym 0 (by decide +kernel:List.Nodup (α:=Str) ["way","floor","last"]))) (λ _ _ _ _ _=>rD) (λ _ _ _ _ _=>(zX gX (hr.mono (by decide)) (ze (zC (za 1 (pv 1)) zh) (ze (za 0 (pv 0)) (ze (zC (za 2 (pv 2)) (zC (za 0 (pv 0)) zh)) zk))))) kD.nd rfl (by first | exact Or.inl rfl | exact Or.inr rfl))
  (zA (xo (wU hr (zC (zC (za 0 (pv 0)) zh) (za 1 (pv 1))) (Vd oP jk)) (zE (z_ (zX gY (hr.mono (by decide)) (ze (za 0 (pv 0)) (ze (za 1 (pv 1)) (ze (zX gU (hr.mono (by decide)) (ze (za 4 (pv 4)) zk)) zk)))))) xn)
  (zE (z_ (zX gW (hr.mono (by decide)) (ze (za 4 (pv 4)) zk))))))),
  (by unfold fA nv n6;exact okA)⟩
theorem Ug (F:Fy K mg "next_round" mJ) (gJ:ZG P w K mg base):ZF P w K mg base:=
 yB (k:=6) F kC rfl (λ _ _ _ _ _ _=>sX λ _ _ _=>rfl) λ f cdv A outer s H E hr=>⟨_,
  (zA (zW 3 kC.nd (j5 T.list (ze (za 1 (pv 1)) zk)))
  (zA (wb PassesOwn.never rfl (xG (mX hr T.sorted U.set (ze (rJ (N':=["way","fresh"]) (pick:=[none,some 2]) (um (N:=["floor","last","fresh","following","place"]) (esc:=zG mJ)) rfl (xG (zC (za 0 (pv 0)) zh)) (λ _ _ _ _ _=>(ym 0 (by decide +kernel:List.Nodup (α:=Str) ["way","fresh"]))) (λ _ _ _ _ _=>mW (WQ hr (zC (za 0 (pv 0)) zh) (za 1 (pv 1)))) (λ _ _ _ _ _=>(zC (za 0 (pv 0)) zh))) zk))) (ym 4 kC.nd) (zE (WS (za 3 (pv 3)) (za 4 (pv 4)) (zX gJ (hr.mono (by decide)) (ze (za 0 (pv 0)) (ze (za 4 (pv 4)) (ze (za 1 (pv 1)) zk)))))))
  (zE (z_ (za 3 (pv 3)))))),
  (by unfold f9 nE n5;exact okA)⟩
theorem Ua (F:Fy K mg "rounds" mI) (gI:ZF P w K mg base) (qk:fh P w K mg base):ZD P w K mg base:=
 yB (k:=7) F qz rfl (λ _ _ _ _ _ _=>sY λ _=>rfl) λ f cdv A outer s H E hr=>⟨_,
  (zA (zW 1 qz.nd (wC (ze (mY (wC (ze (yn (ze (yn (ze zh (ze zh zk))) zk)) zk)) (zX qk (hr.mono (by decide)) (ze (za 0 (pv 0)) zk))) zk)))
  (zA (zW 2 qz.nd (Va T.list T.range (ze (zX qk (hr.mono (by decide)) (ze (za 0 (pv 0)) zk)) zk)))
  (zA (dP PassesOwn.never (u9 (za 2 (pv 2))) (zA (zW 3 qz.nd (zC (za 1 (pv 1)) (jz zh)))
  (zA (zW 4 qz.nd (zX gI (hr.mono (by decide)) (ze (za 0 (pv 0)) (ze (za 3 (pv 3)) (ze (za 2 (pv 2)) zk)))))
  (zA (mV (i:=2) (N':=["place","border","last"]) (pick:=[none,none,some 3]) (um (N:=["floor","told","fresh","last","following"]) (esc:=zG mI)) rfl (dR U.enumerate (ze (za 4 (pv 4)) zk)) (λ _ _ _ _ _=>(qG (n:=2) (wB (ym 0 (by decide +kernel:List.Nodup (α:=Str) ["place","border","last"])) (wB (ym 1 (by decide +kernel:List.Nodup (α:=Str) ["place","border","last"])) qF)))) (λ _ _ _ _ _=>mW (dN hr (za 1 (pv 1)) (zC (za 2 (pv 2)) (za 0 (pv 0))))) (λ _ _ _ _ _=>(za 0 (pv 0))) qz.nd rfl (by first | exact Or.inl rfl | exact Or.inr rfl))
  (zE (xo (u9 (za 2 (pv 2))) (zE (wV (ua (za 1 (pv 1)) (za 4 (pv 4))))) xn))))))
  (zE (z_ (za 1 (pv 1))))))),
  (by unfold fy uo ph;exact okA)⟩
theorem UB (F:Fy K mg "borders" k_) (gG:ZD P w K mg base):fm P w K mg base:=
 yB (k:=8) F Xs rfl (λ _ _ _ _ _ _=>sY λ _=>rfl) λ f cdv A outer s H E hr=>⟨_,
  (zE (z_ (zC (zX gG (hr.mono (by decide)) (ze (za 0 (pv 0)) zk)) (jz zh)))),
  (by unfold fQ;exact okA)⟩
theorem UJ (F:Fy K mg "alone" mL) (p9:fj P w K mg base) (pB:fm P w K mg base) (gR:ZS P w K mg base):Z_ P w K mg base:=
 yB (k:=9) F Xu rfl (λ _ _ _ _ _ _=>vc λ _ _=>rfl) λ f cdv A outer s H E hr=>⟨_,
  (zA (xo (qC (u9 (zX p9 (hr.mono (by decide)) (ze (za 1 (pv 1)) (ze zh (ze zh zk)))))) (zE dQ) xn)
  (zE (z_ (rE T.tuple (ze (rJ (N':=["border","purse"]) (pick:=[none,some 1]) (um (N:=["floor","purse"]) (esc:=zG mL)) rfl (xG (zX pB (hr.mono (by decide)) (ze (zX gR (hr.mono (by decide)) (ze (za 0 (pv 0)) (ze (za 1 (pv 1)) zk))) zk))) (λ _ _ _ _ _=>(ym 0 (by decide +kernel:List.Nodup (α:=Str) ["border","purse"]))) (λ _ _ _ _ _=>rD) (λ _ _ _ _ _=>(dW (u9 (za 0 (pv 0))) (zC (zC (za 0 (pv 0)) zh) (za 1 (pv 1))) qH))) zk))))),
  (by unfold fV nC;exact okA)⟩
theorem Us (F:Fy K mg "_law_right" kQ) (ka:Z_ P w K mg base) (pB:fm P w K mg base) (lZ:ZK P w K mg base):ZM P w K mg base:=
 yB (k:=10) F sj rfl (λ _ _ _ _ _ _=>vc λ _ _=>rfl) λ f cdv A outer s H E hr=>⟨_,
  (zA (zW 2 sj.nd (zX ka (hr.mono (by decide)) (ze (za 0 (pv 0)) (ze zh zk))))
  (zA (zW 3 sj.nd (zX ka (hr.mono (by decide)) (ze (za 0 (pv 0)) (ze zh zk))))
  (zA (zW 4 sj.nd (zX pB (hr.mono (by decide)) (ze (za 0 (pv 0)) zk)))
  (zA (wb PassesOwn.never rfl (qE T.range (ze (om T.len (ze (zC (za 0 (pv 0)) zh) zk)) zk)) (ym 5 sj.nd) (zA (zW 6 sj.nd (zC (za 4 (pv 4)) (za 5 (pv 5))))
  (zA (xo (wN.pt (mS (wN.pt (jv (mU (zC (za 2 (pv 2)) (za 5 (pv 5))) qH) (ju (mU (zC (za 3 (pv 3)) (za 5 (pv 5))) qH)))) (mR (dN hr (za 6 (pv 6)) (yn zk))))) (zE (z_ rK)) xn)
  (zA (wb PassesOwn.never rfl (xG (za 6 (pv 6))) (qG (n:=2) (wB (ym 7 sj.nd) (wB (ym 8 sj.nd) qF))) (zE (xo (wN.pt (jv (mT hr (za 7 (pv 7)) (zC (za 2 (pv 2)) (za 5 (pv 5)))) (ju (mT hr (za 8 (pv 8)) (zC (za 3 (pv 3)) (za 5 (pv 5))))))) (zE (z_ rK)) xn)))
  (zA (xo (wN.pt (mS (wU hr (za 1 (pv 1)) zh) (mR (qC (u9 (zX lZ (hr.mono (by decide)) (ze (za 6 (pv 6)) (ze zh (ze (zC (za 2 (pv 2)) (za 5 (pv 5))) zk))))))))) (zE (z_ rK)) xn)
  (zE (xo (wN.pt (mS (wU hr (za 1 (pv 1)) zh) (mR (qC (u9 (zX lZ (hr.mono (by decide)) (ze (za 6 (pv 6)) (ze zh (ze (zC (za 3 (pv 3)) (za 5 (pv 5))) zk))))))))) (zE (z_ rK)) xn)))))))
  (zE (z_ rK)))))),
  (by unfold fF pq nG;exact okA)⟩
theorem Uw {f:Addr}{fd:FuncData}(F:uu K "law" "law" kU f fd) (nU:ZO P w K mg base) (gL:ZJ P w K mg base) (gO:ZM P w K mg base) (gN:ZL P w K mg base) (gP:ZN P w K mg base):vY P w K mg base vh 12 f fd ["_law_script"] (tf K (zT zH pH)):=
 bX (k:=11) F rA rfl λ cdv A outer s H E hr=>⟨_,
  (zA (zW 1 rA.nd (zX nU (hr.mono (by decide)) (ze (za 0 (pv 0)) (ze zh zk))))
  (zA (WU (zX gL (hr.mono (by decide)) (ze (za 1 (pv 1)) zk)) (qG (n:=2) (wB (ym 2 rA.nd) (wB (ym 3 rA.nd) qF))))
  (zA (wb PassesOwn.never rfl (WV T.range (ze zh (ze (rH T.max (ze zh (ze (mZ T.min (ze (om T.len (ze (za 0 (pv 0)) zk)) (ze zh zk))) zk))) (ze zh zk)))) (ym 4 rA.nd) (zA (zW 5 rA.nd (zX nU (hr.mono (by decide)) (ze (za 0 (pv 0)) (ze (za 4 (pv 4)) zk))))
  (zA (zW 6 rA.nd (yW (zX nU (hr.mono (by decide)) (ze (za 0 (pv 0)) (ze (xp (za 4 (pv 4)) zh) zk))) zh))
  (zE (xo (qC (u9 (zX gO (hr.mono (by decide)) (ze (zX gN (hr.mono (by decide)) (ze (zX gP (hr.mono (by decide)) (ze (za 5 (pv 5)) (ze (za 2 (pv 2)) (ze (za 3 (pv 3)) zk)))) (ze (za 6 (pv 6)) zk))) (ze (za 6 (pv 6)) zk))))) (zE (z_ rK)) xn)))))
  (zE (z_ rK))))),
  (wW (sC 1 (uB (wD (vH 0) (wD ((yA _)).fe tD))))
  (wW (cn (uB (wD (vH 1) tD)) (cu (jG (qK 2) (jG (qK 3) cq))))
  (wW (lg (VO (b:=true) (vG ((yA _)).fr (vG ((o3 bL (vG ((yA _)).fr (vG ((o3 bK (vG ((o3 bM (vG (wF 0) sD))).fr (vG ((yA _)).fr sD)))).fr sD)))).fr (vG ((yA _)).fr sD)))) (qK 4) (wW (sC 5 (uB (wD (vH 0) (wD (vH 4) tD))))
  (wW (sC 6 ((qL ((uB (wD (vH 0) (wD ((xT good_add (wF 4) ((yA _)).fr)).fe tD)))).er ((yA _)).fr)).fe)
  (jD (cy (cw ((uB (wD ((uB (wD ((uB (wD (vH 5) (wD (vH 2) (wD (vH 3) tD))))).fe (wD (vH 6) tD)))).fe (wD (vH 6) tD)))).fr)) (jC (jI _)) jB))))
  (jC (jI _)))))⟩
end
def Q1 {l:PySem.W.OpenLaw}{w:World}{K:zFr}{h:Heap}{mg:Str->Option Value}{fa:Addr}(X:K.In h) (G:h.Ns mainGlobals mg) (hfa:mg "law"=some (.ref fa))
  (h0:Fx K "is_whole" kX) (h1:Fx K "is_whole_within" kW) (h2:Fx K "places_of" kH) (h3:Fx K "check_place" kZ) (h4:Fx K "ways_from" mH) (h5:Fx K "stall_at" kG) (h6:Fx K "at_or_above" jd) (h7:Fx K "least_pairs" kK) (h8:Fx K "both" pT) (h9:Fx K "either" kY) (h10:Fx K "border_ahead_of_way" pU) (h11:Fx K "pairs_ahead_of_changes" kJ) (h12:Fx K "border_ahead_of_changes" jc) (h13:Fx K "border_of_either" ja) (h14:Fx K "border_of_all" jb) (h15:Fx K "next_border" pS) (h16:Fx K "next_round" mJ) (h17:Fx K "rounds" mI) (h18:Fx K "borders" k_) (h19:Fx K "way_alone" kF) (h20:Fx K "floor_alone" mK) (h21:Fx K "alone" mL) (h22:Fx K "_law_cell_at" kS) (h23:Fx K "_law_stirred" kM) (h24:Fx K "_law_amount" kT) (h25:Fx K "_law_way" kL) (h26:Fx K "_law_floor" kR) (h27:Fx K "_law_sized" kN) (h28:Fx K "_law_shaped" kP) (h29:Fx K "_law_single" kO) (h30:Fx K "_law_right" kQ) (h31:Fx K "law" kU)
  (oP:Cn K "KEEPER" (.str "keeper"))
  (y0:PySem.W.nsIn K mainGlobals "set"=some none) (y1:PySem.W.nsIn K mainGlobals "zip"=some none) (y2:PySem.W.nsIn K mainGlobals "enumerate"=some none) (y3:PySem.W.nsIn K mainGlobals "abs"=some none)
  (z0:PySem.W.nsIn K mainGlobals "len"=some none) (z1:PySem.W.nsIn K mainGlobals "range"=some none) (z2:PySem.W.nsIn K mainGlobals "any"=some none) (z3:PySem.W.nsIn K mainGlobals "all"=some none) (z4:PySem.W.nsIn K mainGlobals "sorted"=some none) (z5:PySem.W.nsIn K mainGlobals "isinstance"=some none) (z6:PySem.W.nsIn K mainGlobals "bool"=some none) (z7:PySem.W.nsIn K mainGlobals "int"=some none) (z8:PySem.W.nsIn K mainGlobals "str"=some none) (z9:PySem.W.nsIn K mainGlobals "list"=some none) (z10:PySem.W.nsIn K mainGlobals "tuple"=some none) (z11:PySem.W.nsIn K mainGlobals "max"=some none) (z12:PySem.W.nsIn K mainGlobals "min"=some none):
  ∃ fd:FuncData,(∀ (s:Shared) (v:Value),BindsTo s fd ⟨[v],[]⟩ [("_law_script",v)])/\∀ base:Heap,K.In base->base.Ns mainGlobals mg->vY l.prog w K mg base vh 12 fa fd ["_law_script"] (tf K (zT zH pH)):=by
 have T:Bt mg:=⟨zC2 X G z0,zC2 X G z1,zC2 X G z2,zC2 X G z3,zC2 X G z4,zC2 X G z5,zC2 X G z6,zC2 X G z7,zC2 X G z8,zC2 X G z9,zC2 X G z10,zC2 X G z11,zC2 X G z12⟩
 have U:Ya mg:=⟨⟨zC2 X G y0,zC2 X G y1,zC2 X G y2⟩,zC2 X G y3⟩
 obtain⟨ku,oP,jk⟩:=oP.mk X G;obtain⟨fd,Fl,hb⟩:=h31.law X G hfa λ _ _ _ _ _ _ _ _=>.of_eq rfl;refine⟨fd,hb,λ base _ _=>?_⟩;have gQ:=Uy l.prog w base T U (h0.mk X G);have qk:=Ub l.prog w base T U (h2.mk X G);have gZ:=UH l.prog w base T U (h6.mk X G);have vX:=Uj l.prog w base T U (h7.mk X G);have gH:=Uc l.prog w base T U (h11.mk X G);have gE:=VV l.prog w base T U (h19.mk X G);have nU:=Uu l.prog w base T U (h22.mk X G);have gK:=Um l.prog w base T U (h23.mk X G);have l_:=Uv l.prog w base T U (h24.mk X G);have gL:=Uo l.prog w base T U (h27.mk X G);have gN:=Ur l.prog w base T U (h28.mk X G);have lZ:=Uq l.prog w base T U (h29.mk X G);have p9:=Ux l.prog w base T U (h1.mk X G) gQ;have gT:=UA l.prog w base T U (h8.mk X G) vX;have gS:=U5 l.prog w base T U (h9.mk X G) vX;have gX:=UE l.prog w base T U (h10.mk X G) vX gZ;have gR:=U1 l.prog w base T U (h20.mk X G) gE;have lY:=Ul l.prog w base T U (h25.mk X G) l_;have pA:=U8 l.prog w base T U (h3.mk X G) p9 qk;have gU:=UC l.prog w base T U (h13.mk X G) gS;have gW:=UD l.prog w base T U (h14.mk X G) gT;have gP:=Ut l.prog w base T U (h26.mk X G) gK lY;have gD:=VU l.prog w base T U (h4.mk X G) pA;have gF:=V_ l.prog w base T U (h5.mk X G) pA;have gY:=UG l.prog w base T U (h12.mk X G) gF vX gH;have gJ:=Uh l.prog w base T U (h15.mk X G) oP jk gW gX gY gD gU;have gI:=Ug l.prog w base T U (h16.mk X G) gJ;have gG:=Ua l.prog w base T U (h17.mk X G) gI qk;have pB:=UB l.prog w base T U (h18.mk X G) gG;have ka:=UJ l.prog w base T U (h21.mk X G) p9 pB gR;have gO:=Us l.prog w base T U (h30.mk X G) ka pB lZ;exact Uw l.prog w base T U Fl nU gL gO gN gP
def Yh {l:PySem.W.OpenLaw}{q:Program}{loose:List Str}{XP:(Str->Option Value)->Heap->Prop}{YP:World->Heap->Prop}{d:DefRec}{K:Params->zFr}(hn:l.most=some 63) (hdf:d.params.defaults=[])
  (hY:∀ (w:World) (h:Heap),YP w h->(K w.params).In h)
  (F:∀ (w:World) (mg:Str->Option Value) (fa:Addr) (h:Heap),(K w.params).In h->h.Ns mainGlobals mg->mg d.name=some (.ref fa)->
   ∃ fd:FuncData,(∀ (s:Shared) (u:Value),BindsTo s fd ⟨[u],[]⟩ [("_law_script",u)])/\∀ base:Heap,(K w.params).In base->base.Ns mainGlobals mg->vY l.prog w (K w.params) mg base vh 12 fa fd ["_law_script"] (tf (K w.params) (zT zH pH))):
  PySem.W.WalkO q loose XP YP l.row.toRowW d [] (λ f vs=>PySem.call f vs):=
 L2.Yg (n:=63) (k:=12) (x:="_law_script") (CX:=λ _=>vh) (sp:=λ w=>tf (K w.params) (zT zH pH)) hn (by decide) hdf ⟨rfl,by decide,by decide⟩ hY F (λ _ _ a ns hl hO hS=>T7 T5 hO hS hl) λ _ _ _ _ _ z=>z
end yz
open PySem PySem.W PyProof.Rows
set_option maxRecDepth 100000 in
set_option maxHeartbeats 0 in
theorem PySem.Challenge.cw_purseborder_k52_whole_alone_and_borders_holds : PySem.Challenge.rw_purseborder_k52_whole_alone_and_borders.Holds := by
 w_on;o_law;k_head;(case hw=>w_witness2)
 k_fill
 refine yz.Yh (l:=PySem.Challenge.rw_purseborder_k52_whole_alone_and_borders) rfl rfl (λ w h Y=>PySem.W.kIn_of Y) ?F
 case F=>
  intro w mg fa h KX G hmg;refine' yz.Q1 KX G hmg ?_ ?_ ?_ ?_ ?_ ?_ ?_ ?_ ?_ ?_ ?_ ?_ ?_ ?_ ?_ ?_ ?_ ?_ ?_ ?_ ?_ ?_ ?_ ?_ ?_ ?_ ?_ ?_ ?_ ?_ ?_ ?_ ?_ ?_ ?_ ?_ ?_ ?_ ?_ ?_ ?_ ?_ ?_ ?_ ?_ ?_ ?_ ?_ ?_ ?_
  all_goals first | exact L5.Fx.i (by k_is) (by k_is) (by k_is) (by k_is) | k_is | exact L5.Cn.i (by k_is) (by exact⟨_,rfl⟩)
