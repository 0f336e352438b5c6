import PyProof.Rows.All
import Wide.All
import OpenK.AllK
import Wide.FinOn
import Lean
import PyProof.EqAt
import PyProof.EqKinds
import PyProof.TupleCall
import PySem.SetOps
import PyProof.SetScanFacts
import PyProof.TupleKey
import PyProof.SetKind
import PyProof.SetRoads
import PyProof.IsRules
import PyProof.ZipIter
import PyProof.TupleIter
import PyProof.ListMulRoad
import PyProof.FactsAll.tuple
import PyProof.ListRange
import PyProof.Draws
import PyProof.EnumFor
import PyProof.Rows.ListMul
import PyProof.AutoListH
import PyProof.Rows.Range3
import PyProof.FitsBits
import PyProof.Rows.CallKwBuiltin
import PyProof.MinMaxWalk
import PyProof.WalkInts
import PyProof.Rows.MinMaxN
import PySem.Challenge.RW_purseborder_k51_one_purse
set_option Elab.async false
set_option linter.all false
set_option maxRecDepth 100000
noncomputable section
def AY:=@List.not_mem_nil
def A_:=@List.nodup_cons
def Bj:=@List.map_nil
def Bi:=@Nat.lt_or_ge
def Bh:=@List.pairwise_cons
def Bv:=@List.lookup_cons
def Bu:=@Nat.lt_succ_of_lt
def Bs:=@List.ext_getElem
def Br:=@List.any_cons
def BA:=@Bool.false_ne_true
def BM:=@List.filterMap_cons
def BL:=@Nat.ne_of_gt
def BK:=@List.replicate_succ
def Cb:=@List.mem_append_left
def Ca:=@List.flatten_cons
def B_:=@Bool.and_false
def B9:=@List.pairwise_map
def B8:=@Nat.le_add_right
def Cu:=@List.getElem?_append_right
def Ct:=@List.getElem?_append_left
def Cs:=@List.pairwise_iff_getElem
def Cr:=@List.mem_iff_getElem
def Cq:=@List.find?_cons
def Cp:=@Array.getElem_toList
def Co:=@Int.toNat_natCast
def Cm:=@List.mem_flatMap
def CM:=@List.getElem?_replicate
def CL:=@List.length_nil
def CK:=@List.map_congr_left
def CJ:=@Array.getElem?_eq_none
def CI:=@List.length_filter_le
def C0:=@List.append_nil
def CZ:=@Nat.lt_trans
def CY:=@Array.size_map
def CW:=@Nat.le_succ
def CV:=@List.range_succ_eq_map
def CU:=@Nat.mod_lt
def CT:=@List.toList_toArray
def Dz:=@Option.isSome_iff_exists
def Dy:=@List.length_set
def Dx:=@List.forIn_cons
def Dw:=@List.getElem?_set
def Dv:=@List.getElem_range
def Du:=@Array.getD_eq_getD_getElem?
def Dt:=@Bool.and_self
def Ds:=@List.getElem_mem
def Dr:=@Nat.mul_comm
def Dq:=@List.length_pos_of_mem
def Dp:=@Nat.lt_trichotomy
def Dn:=@Array.getElem?_setIfInBounds
def Dm:=@List.foldl_cons
def Dl:=@List.mem_iff_getElem?
def Dk:=@List.map_take
def Dj:=@List.map_drop
def Di:=@List.zipIdx_cons
def Dh:=@Int.emod_two_eq
def DU:=@List.mem_filterMap
def DT:=@List.of_mem_zip
def DS:=@List.length_take
def DR:=@Nat.eq_zero_or_pos
def DQ:=@List.mem_erase_of_ne
def DP:=@List.length_erase_of_mem
def DN:=@List.nodup_range
def DM:=@List.getElem?_cons_succ
def DL:=@List.take_append_drop
def DJ:=@List.perm_ext_iff_of_nodup
def DI:=@List.map_filterMap
def DH:=@Bool.or_eq_true
def DG:=@Int.mul_le_mul_of_nonneg_right
def DF:=@List.getElem?_eq_none
def Av:=@List.size_toArray
def AX:=@List.getElem?_eq_getElem
def AK:=@List.getElem?_eq_some_iff
def Az:=@List.getElem?_map
def Ag:=@Nat.le_refl
def Ah:=@List.mem_cons
def Au:=@List.map_cons
def Ay:=@List.length_map
def Ap:=@PySem.Heap.lt_size
def AE:=@PySem.Heap.get?_push_size
def Al:=@List.mem_map
def AW:=@List.getD_eq_getElem?_getD
def AB:=@Bool.not_false
def Aw:=@Nat.ne_of_lt
def AV:=@List.mem_append_right
def AA:=@Bool.not_true
def AJ:=@List.mem_singleton
def Bb:=@List.mem_of_getElem?
def Ba:=@Array.getElem?_eq_getElem
def AZ:=@List.mem_append
def AR:=@List.length_cons
def AH:=@List.mem_range
def A6:=@PySem.W.mg_none_of
def A8:=@Nat.lt_of_lt_of_le
def A5:=@Bool.false_eq_true
def BP:=@List.length_range
def AF:=@Int.le_refl
def BD:=@Bool.eq_iff_iff
def AU:=@List.mem_filter
def Bn:=@Option.bind_some
def Bf:=@List.any_eq_true
def Ad:=@PySem.wpAny_pure
def Bm:=@Array.length_toList
def Bx:=@Array.getElem?_toList
def AN:=@Nat.zero_le
def A4:=@Option.some.inj
def AG:=@List.map_map
def Cc:=@List.length_append
def Bl:=@Nat.le_trans
def BO:=@Nat.lt_irrefl
def Cw:=@Nat.lt_succ_self
def BC:=@Nat.le_of_lt
def Cv:=@List.all_eq_true
def BN:=@Bool.and_eq_true
def Bk:=@List.map_append
def Bw:=@Int.emod_nonneg
def BB:=@Int.emod_lt_of_pos
def CN:=@Int.toNat_of_nonneg
abbrev Ac:=PySem.W.Frag
noncomputable def Ab:=@PySem.wpAny_bind
noncomputable def Ao:=@PySem.Heap.get?_push_of_some
def Ak {α β:Type}{x:Option α}{f:α->Option β}{b:β} (h:x.bind f=some b):∃ a,x=some a/\f a=some b:=Option.bind_eq_some_iff.mp h
def AD {α β:Type}{x:Option α}{f:α->β}{b:β} (h:x.map f=some b):∃ a,x=some a/\f a=b:=Option.map_eq_some_iff.mp h
def Am {α:Type}{a:α}{l:List α}:a∈a::l:=List.mem_cons_self
def Ar {α:Type} (y:α) {a:α}{l:List α} (h:a∈l):a∈y::l:=List.mem_cons_of_mem y h
namespace L2
open PySem PySem.Spec PyProof.Rows
abbrev Key:=Sum Int Str
noncomputable def pK:Key->Value->Bool
 | .inl k,v=>Value.isInt k v
 | .inr x,v=>Value.isStrOf x v
noncomputable def RJ (w:World):Key->Int
 | .inl k=>hashInt k
 | .inr x=>hashStr w x
theorem sr:∀ {k:Key}{v:Value},pK k v=true->(∃ i t,k=Sum.inl i/\v=Value.int i t)\/(∃ x t,k=Sum.inr x/\v=Value.str x t)
 | .inl i,v,h=>by
  obtain⟨t,e⟩:=Value.isInt_shape (k:=i) (v:=v) h;exact .inl ⟨i,t,rfl,e⟩
 | .inr x,v,h=>by
  obtain⟨t,e⟩:=Value.isStrOf_shape (x:=x) (v:=v) h;exact .inr ⟨x,t,rfl,e⟩
def RI (i:Int) (t:Tok):pK (.inl i) (.int i t)=true:=by simp[pK,Value.isInt]
def RH (x:Str) (t:Tok):pK (.inr x) (.str x t)=true:=by simp[pK,Value.isStrOf]
def RG (a b:Int):decide ((Sum.inl a:Key)=Sum.inl b)=(a == b):=by
 by_cases e:a=b
 .subst e;simp
 .have h:¬ (Sum.inl a:Key)=Sum.inl b:=λ q=>e (Sum.inl.inj q);rw[decide_eq_false h];exact (beq_eq_false_iff_ne.mpr e).symm
def RD (a b:Str):decide ((Sum.inr a:Key)=Sum.inr b)=decide (a=b):=by
 by_cases e:a=b
 .subst e;simp
 .have h:¬ (Sum.inr a:Key)=Sum.inr b:=λ q=>e (Sum.inr.inj q);rw[decide_eq_false h,decide_eq_false e]
def RF (a:Int) (b:Str):decide ((Sum.inl a:Key)=Sum.inr b)=false:=decide_eq_false (λ q=>nomatch q)
def RE (a:Str) (b:Int):decide ((Sum.inr a:Key)=Sum.inl b)=false:=decide_eq_false (λ q=>nomatch q)
noncomputable def wV (prog:Program) (w:World):PySem.KeyKind prog w Key where
 is:=pK
 hash:=RJ w
 inj:=λ v a b ha hb=>by
  rcases sr ha with ⟨i,t,rfl,rfl⟩ | ⟨x,t,rfl,rfl⟩
  .rcases sr hb with ⟨j,u,rfl,e⟩ | ⟨y,u,rfl,e⟩
   .injection e with e1 _;rw[e1]
   .exact nomatch e
  .rcases sr hb with ⟨j,u,rfl,e⟩ | ⟨y,u,rfl,e⟩
   .exact nomatch e
   .injection e with e1 _;rw[e1]
 byValue:=λ k v h=>by
  rcases sr h with ⟨i,t,rfl,rfl⟩ | ⟨x,t,rfl,rfl⟩ <;> rfl
 pyHash:=λ hv h=>by
  rcases sr hv with ⟨i,t,rfl,rfl⟩ | ⟨x,t,rfl,rfl⟩
  .exact wpAny_pyHash_int h
  .exact wpAny_pyHash_str h
 eqBool:=λ hu hv h=>by
  rcases sr hu with ⟨i,t,rfl,rfl⟩ | ⟨x,t,rfl,rfl⟩
  .rcases sr hv with ⟨j,u,rfl,rfl⟩ | ⟨y,u,rfl,rfl⟩
   .rw[RG] at h;exact wpAny_eqBool_int h
   .rw[RF] at h;exact SeqAt.EqAt.int_str i t y u _ _ _ _ h
  .rcases sr hv with ⟨j,u,rfl,rfl⟩ | ⟨y,u,rfl,rfl⟩
   .rw[RE] at h;exact SeqAt.EqAt.str_int x t j u _ _ _ _ h
   .rw[RD] at h;exact wpAny_eqBool_str h
 «strs»:=λ k x t v h=>by
  rcases sr h with ⟨i,u,rfl,e⟩ | ⟨y,u,rfl,e⟩
  .exact nomatch e
  .injection e with e1 _
   subst e1;cases v <;> rfl
def Rb (prog:Program) (w:World) (i:Int) (t:Tok):(wV prog w).is (.inl i) (.int i t)=true:=RI i t
def Ra (prog:Program) (w:World) (x:Str) (t:Tok):(wV prog w).is (.inr x) (.str x t)=true:=RH x t
inductive V where
 | zi | bl (b:Bool) | int (i:Int) | str (x:Str) | oh (b:Array UInt8) | kQ (b:UInt64) | ref (a:Addr) | ty (n:String)
 deriving DecidableEq
noncomputable def RelV:V->Value->Prop
 | .zi,u=>u=Value.none
 | .bl b,u=>u=Value.bool b
 | .int i,u=>∃ t,u=Value.int i t
 | .str x,u=>∃ t,u=Value.str x t
 | .oh b,u=>∃ t,u=Value.bytes b t
 | .kQ b,u=>∃ t,u=Value.float b t
 | .ref a,u=>u=Value.ref a
 | .ty n,u=>u=Value.type n
abbrev Vals:List V->List Value->Prop:=Paired RelV
theorem Vals.length {xs:List V}{us:List Value}(r:Vals xs us):xs.length=us.length:=Paired.length r
theorem Vals.get:∀ {xs:List V}{us:List Value}{i:Nat}{x:V},Vals xs us->xs[i]?=some x->∃ u,us[i]?=some u/\RelV x u
 | _,_,_,_,.nil,e=>by simp at e
 | _,_,0,_,.cons r _,e=>by simp at e;subst e;exact⟨_,rfl,r⟩
 | _,_,i+1,x,.cons _ t,e=>by
  obtain⟨u,h1,h2⟩:=Vals.get (i:=i) (x:=x) t (by simpa using e);exact⟨u,by simpa using h1,h2⟩
theorem Vals.set {x:V}{u:Value}(r:RelV x u):∀ {xs:List V}{us:List Value}(i:Nat),Vals xs us->Vals (xs.set i x) (us.set i u)
 | _,_,_,.nil=>.nil
 | _,_,0,.cons _ t=>.cons r t
 | _,_,i+1,.cons q t=>.cons q (Vals.set r i t)
theorem Vals.append:∀ {xs ys:List V}{us ws:List Value},Vals xs us->Vals ys ws->Vals (xs++ys) (us++ws)
 | _,_,_,_,.nil,s=>s
 | _,_,_,_,.cons r t,s=>.cons r (Vals.append t s)
noncomputable def u6:Option V->Option Value->Prop
 | some v,some u=>RelV v u
 | none,none=>True
 | _,_=>False
def KV {κ:Type}:List (κ × V)->List (κ × Value)->Prop:=Paired λ(p:κ × V) (q:κ × Value)=>p.1=q.1/\RelV p.2 q.2
noncomputable def kV:Key->V
 | .inl i=>.int i
 | .inr x=>.str x
inductive HO where
  | lst (xs:List V)
  | tup (xs:List V)
  | dK (Aa:List (Key×V)) | dT (Aa:List (List Key×V))
  | set (S:Int->Bool) (n:Nat)
  | ins (C dx:Addr) (fs:List (Str×V))
  | own (x:Addr)
  | xd (fs:List (Str×V))
  | met (f x:Addr)
  | i9 (lo hi:Int)
  | wu (o:Obj) (u:HO)
  | qe (ps:Array Value)
  | ext (φ:Heap->Prop)
abbrev Hp:=Addr->Option HO
noncomputable def upd (H:Hp) (a:Addr) (o:HO):Hp:=λ b=>if b=a then some o else H b
def yL {H:Hp}{a:Addr}{o:HO}:upd H a o a=some o:=by unfold upd;rw[if_pos rfl]
def yG {H:Hp}{a b:Addr}{o:HO}(h:b≠a):upd H a o b=H b:=by unfold upd;rw[if_neg h]
def nJ {H:Hp}{a b:Addr}{o u:HO}(h:H a=some o) (h':H b=some u) (d:o≠u):a≠b:=by
 intro e;subst e;rw[h] at h';exact d (A4 h')
def r9 {H:Hp}{a b:Addr}{o:HO}(h:H a=some o) (h':H b=none):a≠b:=by
 intro e;subst e;rw[h] at h';cases h'
section
variable (P:Program) (w:World)
noncomputable def xg (H:Hp) (h:Heap) (a:Addr):HO->Prop
 | .lst xs=>xs.length<=sizeLine/\∃ (its:List Value) (n:Nat),Vals xs its/\h.get? a=some { cls:=.type "list",data:=.seq its.toArray n }
 | .tup xs=>xs.length<=sizeLine/\∃ its:List Value,Vals xs its/\IsTup h a its.toArray
 | .dK Aa=>Aa.length<=sizeLine/\(a == sysModules)=false/\∃ vs,KV Aa vs/\h.DictOf (wV P w) a vs
 | .dT Aa=>Aa.length<=sizeLine/\(a == sysModules)=false/\∃ xs:List (List Key×Addr×Value),
   Paired (λ(p:List Key×V) (q:List Key×Addr×Value)=>p.1=q.1/\H q.2.1=some (.tup (p.1.map kV))/\RelV p.2 q.2.2) Aa xs/\
   ∃ o es ep,h.get? a=some o/\o.ExactDict/\o.data=.dict es ep/\es.toList=xs.map (entryOfKey (tupleKind (wV P w)))/\(xs.map (·.1)).Nodup
 | .set S n=>h.SetOf (intKind P w) a S n
 | .ins C dx fs=>H dx=some (.own a)/\fs.length<=1000/\dx≠a/\h.get? a=some (PySem.W.instObj C dx)/\
   ∃ mA,h.Ns1 dx mA/\(∀ f,u6 (fs.lookup f) (mA f))/\PySem.Within mA (fs.map (·.1))
 | .own _=>∃ o,h.get? a=some o
 | .xd fs=>∃ mA,h.Ns1 a mA/\∀ f,u6 (fs.lookup f) (mA f)
 | .i9 lo hi=>∃ t u v,h.get? a=some { cls:=.type "range",data:=.fields #[.int lo t,.int hi u,.int 1 v] }
 | .wu o u=>h.get? a=some o/\xg H h a u
 | .qe ps=>h.get? a=some { cls:=.none,data:=.fields ps }
 | .met f x=>h.get? a=some (PySem.W.methodObj (.ref f) (.ref x))
 | .ext φ=>φ h/\(∃ o,h.get? a=some o)/\∀ h1 h2:Heap,φ h1->(∀ o,h1.get? a=some o->h2.get? a=some o)->φ h2
def yX (H:Hp) (h:Heap):Prop:=∀ a o,H a=some o->xg P w H h a o
end
section
variable {P:Program}{w:World}{H H':Hp}{h h':Heap}{a:Addr}{o:HO}
theorem xg.lt (x:xg P w H h a o):a<h.objs.size:=by
 cases o with
 | lst xs=>obtain⟨_,_,_,_,e⟩:=x;exact Ap e
 | tup xs=>obtain⟨_,_,_,p⟩:=x;exact p.lt
 | dK Aa=>obtain⟨_,_,_,_,o,_,_,e,_⟩:=x;exact Ap e
 | dT Aa=>obtain⟨_,_,_,_,o,_,_,e,_⟩:=x;exact Ap e
 | set S n=>obtain⟨o,_,_,_,e,_⟩:=x;exact Ap e
 | ins C dx fs=>obtain⟨_,_,_,e,_⟩:=x;exact Ap e
 | own y=>obtain⟨_,e⟩:=x;exact Ap e
 | xd fs=>obtain⟨_,⟨_,_,_,e,_⟩,_⟩:=x;exact Ap e
 | i9 lo hi=>obtain⟨_,_,_,e⟩:=x;exact Ap e
 | wu ob u=>obtain⟨e,_⟩:=x;exact Ap e
 | qe ps=>exact Ap (show h.get? a=some _ from x)
 | met f y=>exact Ap (show h.get? a=some _ from x)
 | ext φ=>obtain⟨_,⟨_,e⟩,_⟩:=x;exact Ap e
theorem Paired.kA {α β:Type}{F G:α->β->Prop}:∀ {l₁:List α}{l₂:List β},Paired F l₁ l₂->(∀ a b,F a b->G a b)->Paired G l₁ l₂
 | _,_,.nil,_=>.nil
 | _,_,.cons r t,f=>.cons (f _ _ r) (Paired.kA t f)
def xg.tY (x:xg P w H h a o) (k:∀ b u,(b=a\/H b=some (.own a))->h.get? b=some u->h'.get? b=some u)
  (ho:∀ b,H b=some (.own a)->H' b=some (.own a)) (ht:∀ b xs,H b=some (.tup xs)->H' b=some (.tup xs)):xg P w H' h' a o:=by
 induction o with
 | lst xs=>obtain⟨z,its,n,r,e⟩:=x;exact⟨z,its,n,r,k _ _ (.inl rfl) e⟩
 | tup xs=>obtain⟨z,its,r,ob,e,c⟩:=x;exact⟨z,its,r,ob,k _ _ (.inl rfl) e,c⟩
 | dK Aa=>obtain⟨z,y,vs,r,ob,es,ep,e,c⟩:=x;exact⟨z,y,vs,r,ob,es,ep,k _ _ (.inl rfl) e,c⟩
 | dT Aa=>
  obtain⟨z,y,xs,r,ob,es,ep,e,c⟩:=x;exact⟨z,y,xs,Paired.kA r λ p q z=>⟨z.1,ht _ _ z.2.1,z.2.2⟩,ob,es,ep,k _ _ (.inl rfl) e,c⟩
 | set S n=>obtain⟨ob,es,ep,t,e,c⟩:=x;exact⟨ob,es,ep,t,k _ _ (.inl rfl) e,c⟩
 | ins C dx fs=>
  obtain⟨d,z,ne,e,mA,⟨od,es,ep,e2,c⟩,r⟩:=x;exact⟨ho _ d,z,ne,k _ _ (.inl rfl) e,mA,⟨od,es,ep,k _ _ (.inr d) e2,c⟩,r⟩
 | own y=>obtain⟨ob,e⟩:=x;exact⟨ob,k _ _ (.inl rfl) e⟩
 | xd fs=>obtain⟨mA,⟨od,es,ep,e,c⟩,r⟩:=x;exact⟨mA,⟨od,es,ep,k _ _ (.inl rfl) e,c⟩,r⟩
 | i9 lo hi=>obtain⟨t,u,v,e⟩:=x;exact⟨t,u,v,k _ _ (.inl rfl) e⟩
 | wu ob u ih=>obtain⟨e,q⟩:=x;exact⟨k _ _ (.inl rfl) e,ih q⟩
 | qe ps=>
  have e:h.get? a=some { cls:=.none,data:=.fields ps }:=x;show h'.get? a=some { cls:=.none,data:=.fields ps };exact k a _ (.inl rfl) e
 | met f y=>
  have e:h.get? a=some (PySem.W.methodObj (.ref f) (.ref y)):=x;show h'.get? a=some (PySem.W.methodObj (.ref f) (.ref y));exact k a _ (.inl rfl) e
 | ext φ=>obtain⟨p,⟨o,e⟩,st⟩:=x;exact⟨st _ _ p λ o q=>k _ _ (.inl rfl) q,⟨o,k _ _ (.inl rfl) e⟩,st⟩
theorem yX.lt (x:yX P w H h) (e:H a=some o):a<h.objs.size:=(x a o e).lt
def yX.fresh (x:yX P w H h) (e:h.objs.size<=a):H a=none:=by
 cases q:H a with
 | none=>rfl
 | some u=>exact absurd (A8 (x.lt q) e) (BO _)
def yX.kept (x:yX P w H h) (k:∀ b u,h.get? b=some u->h'.get? b=some u):yX P w H h':=λ a o e=>
 (x a o e).tY (λ b u _ q=>k b u q) (λ _ q=>q) λ _ _ q=>q
def yX.laid (x:yX P w H h) (k:∀ b u,h.get? b=some u->h'.get? b=some u) (hp:h.objs.size<=a) (new:xg P w (upd H a o) h' a o):yX P w (upd H a o) h':=λ b u e=>by
 have hn:=x.fresh hp;by_cases hb:b=a
 .subst hb;rw[yL] at e;cases e;exact new
 .rw[yG hb] at e;exact (x b u e).tY (λ c v _ q=>k c v q) (λ c q=>by rw[yG (r9 q hn)];exact q) λ c xs q=>by rw[yG (r9 q hn)];exact q
end
def Rd (H:Hp) (a:Addr) (u:HO):Prop:=H a=some u\/∃ o,H a=some (.wu o u)
def Rd.ok {P:Program}{w:World}{H:Hp}{h:Heap}{a:Addr}{u:HO}(r:Rd H a u) (x:yX P w H h):xg P w H h a u:=by
 rcases r with r | ⟨o,r⟩
 .exact x a u r
 .obtain⟨_,q⟩:=x a _ r;exact q
noncomputable def lg:Option HO->Prop
 | some (.lst _)=>True
 | some (.dK _)=>True
 | some (.dT _)=>True
 | some (.set _ _)=>True
 | some (.ins _ _ _)=>True
 | some (.ext _)=>True
 | _=>False
section
variable {P:Program}{w:World}{H:Hp}{h h':Heap}{x e:Addr}{o':HO}
def yX.write (ok:yX P w H h) (mu:lg (H x)) (he:e=x\/H e=some (.own x)) (k:∀ b u,b≠e->h.get? b=some u->h'.get? b=some u) (CQ:∃ u,h'.get? e=some u)
  (new:xg P w (upd H x o') h' x o'):yX P w (upd H x o') h':=λ b u q=>by
 have nown:∀ c y,H c=some (.own y)->c≠x:=λ c y r z=>by subst z;rw[r] at mu;exact mu
 have ntup:∀ c xs,H c=some (.tup xs)->c≠x:=λ c xs r z=>by subst z;rw[r] at mu;exact mu
 by_cases hb:b=x
 .subst hb;rw[yL] at q;cases q;exact new
 .rw[yG hb] at q;by_cases BI:b=e
  .have q':H b=some (.own x):=by
    rcases he with z | z
    .exact absurd (BI.trans z) hb
    .rw[BI];exact z
   rw[q] at q';cases q';obtain⟨v,hv⟩:=CQ;exact⟨v,by rw[BI];exact hv⟩
  .refine (ok b u q).tY (λ c v hc r=>k c v ?_ r) (λ c r=>by rw[yG (nown c b r)];exact r) λ c xs r=>by rw[yG (ntup c xs r)];exact r
   rcases hc with rfl | hc
   .exact BI
   .rintro rfl;rcases he with z | z
    .exact nown c b hc z
    .rw[hc] at z;cases z;exact hb rfl
end
structure Un (fs ex:List Addr) (H H':Hp) (h h':Heap):Prop where
 keep:∀ b o,h.get? b=some o->H b=none->b∉fs->b∉ex->h'.get? b=some o
 slot:∀ b o,h.get? b=some o->H b=none->b∈fs->b∉ex->∃ sl,h'.get? b=some { o with slots:=sl }
 free:∀ b o,h.get? b=some o->H b=none->b∉ex->H' b=none
 there:∀ b o,h.get? b=some o->b∉ex->∃ o',h'.get? b=some o'
 u_:∀ b xs,H b=some (.tup xs)->H' b=some (.tup xs)
 sA:∀ b o u,H b=some (.wu o u)->H' b=some (.wu o u)
 sY:∀ b ps,H b=some (.qe ps)->∃ more,H' b=some (.qe (ps++more))
section
variable {fs fs' ex ex':List Addr}{H H1 H2:Hp}{h h1 h2 h':Heap}{a x e:Addr}{o:HO}
def Un.any (u:Un fs ex H H1 h h1) {b:Addr}{ob:Obj}(q:h.get? b=some ob) (n:H b=none) (hx:b∉ex):∃ sl,h1.get? b=some { ob with slots:=sl }:=by
 by_cases hb:b∈fs
 .exact u.slot b ob q n hb hx
 .exact⟨ob.slots,u.keep b ob q n hb hx⟩
def Un.kept (k:∀ b u,h.get? b=some u->h'.get? b=some u):Un fs ex H H h h':=
 ⟨λ b ob q _ _ _=>k b ob q,λ b ob q _ _ _=>⟨ob.slots,k b ob q⟩,λ _ _ _ n _=>n,λ b ob q _=>⟨ob,k b ob q⟩,λ _ _ q=>q,λ _ _ _ q=>q,λ _ ps q=>⟨#[],by rw[q];simp⟩⟩
def Un.refl:Un fs ex H H h h:=Un.kept λ _ _ q=>q
def Un.laid (k:∀ b u,h.get? b=some u->h'.get? b=some u) (hp:h.objs.size<=a) (hn:H a=none):Un fs ex H (upd H a o) h h' where
 keep:=λ b u q _ _ _=>k b u q
 slot:=λ b u q _ _ _=>⟨u.slots,k b u q⟩
 free:=λ b u q n _=>by rw[yG (Aw (A8 (Ap q) hp))];exact n
 there:=λ b u q _=>⟨u,k b u q⟩
 u_:=λ b xs q=>by rw[yG (r9 q hn)];exact q
 sA:=λ b u xs q=>by rw[yG (r9 q hn)];exact q
 sY:=λ b ps q=>⟨#[],by rw[yG (r9 q hn),q];simp⟩
def Un.write (mu:lg (H x)) (he:e=x\/H e=some (.own x)) (k:∀ b u,b≠e->h.get? b=some u->h'.get? b=some u) (CQ:∃ u,h'.get? e=some u):Un fs ex H (upd H x o) h h':=by
 have hx:∀ b,H b=none->b≠x:=λ b n z=>by subst z;rw[n] at mu;exact mu
 have hb:∀ b,H b=none->b≠e:=λ b n z=>by
  subst z;rcases he with r | r
  .exact hx b n r
  .rw[n] at r;cases r
 have hm:∀ b u,H b=some u->¬ lg (some u)->b≠x:=λ b u q nm z=>by subst z;rw[q] at mu;exact nm mu
 refine⟨λ b u q n _ _=>k b u (hb b n) q,λ b u q n _ _=>⟨u.slots,k b u (hb b n) q⟩,λ b u q n _=>by rw[yG (hx b n)];exact n,λ b u q _=>?_,
  λ b xs q=>by rw[yG (hm b _ q λ z=>z)];exact q,λ b u xs q=>by rw[yG (hm b _ q λ z=>z)];exact q,λ b ps q=>⟨#[],by rw[yG (hm b _ q λ z=>z),q];simp⟩⟩
 by_cases BI:b=e
 .subst BI;exact CQ
 .exact⟨u,k b u BI q⟩
end
noncomputable def lL (h:Heap) (H:Hp):List Addr:=(List.range h.objs.size).filter λ a=>(H a).isSome
noncomputable def sy (h:Heap) (H:Hp):Heap:=PySem.W.hideAll h (lL h H)
def Qm (h:Heap) (H:Hp):(sy h H).objs.size=h.objs.size:=PySem.W.hideAll_size _ _
def Qn {h:Heap}{H:Hp}{b:Addr}{o:Obj}(e:h.get? b=some o) (n:H b=none):(sy h H).get? b=some o:=
 PySem.W.hideAll_get _ e λ hm=>by
  have q:(H b).isSome=true:=(AU.mp hm).2;rw[n] at q;simp at q
def S8 {h:Heap}{H:Hp}{b:Addr}{o:Obj}(e:(sy h H).get? b=some o):h.get? b=some o/\H b=none:=by
 have e':h.get? b=some o:=PySem.W.of_hideAll (lL h H) e;refine⟨e',?_⟩;cases q:H b with
 | none=>rfl
 | some x=>
  have hm:b∈lL h H:=AU.mpr ⟨AH.mpr (Ap e'),by simp[q]⟩;have z:(sy h H).get? b=none:=PySem.W.hideAll_none (lL h H) hm;rw[z] at e;cases e
structure Mod (K:Ac) (mg:Str->Option Value) (base:Heap):Prop where
 gH:K.In base
 glob:base.Ns mainGlobals mg
 blt:∃ mb,base.Ns builtinsNs mb/\∀ x:Str,x≠"__name__"->mb x=bootBuiltins x
 nolimit:base.NoLimit
structure Cx where
 prog:Program
 w:World
 K:Ac
 mg:Str->Option Value
 base:Heap
 A:Around
 N:List Str
 s₀:Shared
 H₀:Hp
 env:Env
 outer:List Env
 stack:List Env
 ex:List Addr
 fn:Str->Bool
 calm:Bool
 pn:List (Addr×Obj)
 xe:Value->Shared->Prop
noncomputable def vS (l:List Env):List Addr:=l.filterMap (·.frame)
abbrev Cx.fs (X:Cx):List Addr:=vS X.outer
def ea (sc:Scope) (x:Str):Prop:=sc.names.lookup x=some .local\/sc.names.lookup x=some .cell\/sc.names.lookup x=some .free
def Loc (sc:Scope) (x:Str):Prop:=sc.names.lookup x=some .local\/sc.names.lookup x=some .cell
def Look (env:Env) (h:Heap) (m:Str->Option Value) (x:Str) (u:Value):Prop:=
 (env.kindOf x=some .local/\m x=some u)\/((env.kindOf x=some .cell\/env.kindOf x=some .free)/\∃ c,env.cells.lookup x=some c/\h.IsCell c (some u))
structure Cx.Ok (X:Cx):Prop where
 mod:Mod X.K X.mg X.base
 kind:X.env.scope.kind=.function
 glob:X.env.globals=mainGlobals
 blt:X.env.builtins=builtinsNs
 above:X.s₀.heap.objs.size<=X.env.locals
 inj:∀ x y c,X.env.cells.lookup x=some c->X.env.cells.lookup y=some c->x=y
 has:∀ x,(X.env.kindOf x=some .cell\/X.env.kindOf x=some .free)->∃ c,X.env.cells.lookup x=some c
 mG:∀ x c,X.fn x=true->X.env.cells.lookup x=some c->X.s₀.heap.objs.size<=c
 hd:X.calm=true->X.A.handled=none
 frames:X.A.frames=some X.stack
 lM:X.stack=X.outer\/(X.stack=X.env::X.outer/\X.env.frame=some X.env.locals)
 f7:∀ b∈X.ex,b≠X.env.locals/\∀ x c,X.env.cells.lookup x=some c->c≠b
 bs:∀ b o,X.base.get? b=some o->X.s₀.heap.get? b=some o/\X.H₀ b=none
 qF:X.base.objs.size<=X.s₀.heap.objs.size
 nH:∀ b o,X.base.get? b=some o->b∉X.ex
 mj:∀ b∈X.ex,b∉X.fs
 uO:X.s₀.heap.FunFrames X.base X.outer
 pY:∀ b∈X.fs,X.H₀ b=none
structure Inv (X:Cx) (pins:List (Addr×Obj)) (B:List (Option V)) (H:Hp) (s:Shared):Prop where
 ok:X.Ok
 os:s.os=X.s₀.os
 bare:AllBare s.gens
 base:Un X.fs X.ex X.H₀ H X.s₀.heap s.heap
 loc:∃ m,s.heap.Ns X.env.locals m/\∀ (i:Nat) (x:Str) (v:V),X.N[i]?=some x->B[i]?=some (some v)->ea X.env.scope x->∃ u,RelV v u/\Look X.env s.heap m x u
 cell:∀ x c,X.env.cells.lookup x=some c->∃ v,s.heap.IsCell c v
 free:H X.env.locals=none
 tH:∀ x c,X.env.cells.lookup x=some c->H c=none
 pin:∀ p∈X.pn++pins,s.heap.get? p.1=some p.2/\H p.1=none/\p.1≠X.env.locals/\p.1∉X.fs/\∀ v,p.2.data≠.cell v
 zx:yX X.prog X.w H s.heap
 len:B.length=X.N.length
section
variable {X:Cx}{pins:List (Addr×Obj)}{B:List (Option V)}{H H':Hp}{s:Shared}{h':Heap}
def Cx.Ok.SE (ok:X.Ok) {b:Addr}{o:Obj}(e:X.base.get? b=some o):b∉X.fs:=λ hb=>by
 have:=(ok.uO.mem hb).1;rw[e] at this;cases this
theorem Inv.bs (I:Inv X pins B H s):∀ b o,X.base.get? b=some o->s.heap.get? b=some o/\H b=none:=λ b o e=>
 ⟨I.base.keep b o (I.ok.bs b o e).1 (I.ok.bs b o e).2 (I.ok.SE e) (I.ok.nH b o e),I.base.free b o (I.ok.bs b o e).1 (I.ok.bs b o e).2 (I.ok.nH b o e)⟩
def Inv.bk (I:Inv X pins B H s):∀ b o,X.base.get? b=some o->s.heap.get? b=some o:=λ b o e=>(I.bs b o e).1
theorem Inv.mod (I:Inv X pins B H s):Mod X.K X.mg X.base:=I.ok.mod
def Inv.vQ (I:Inv X pins B H s):X.K.In s.heap:=I.ok.mod.gH.keeps I.bk
theorem Inv.lt (I:Inv X pins B H s):X.env.locals<s.heap.objs.size:=let ⟨_,hn,_⟩:=I.loc;hn.lt
def Inv.sz (I:Inv X pins B H s):X.s₀.heap.objs.size<=s.heap.objs.size:=Bl I.ok.above (BC I.lt)
def Inv.bX (I:Inv X pins B H s) {a:Addr}(h:s.heap.objs.size<=a):a∉X.fs:=λ hb=>by
 obtain⟨_,o,ho,_⟩:=I.ok.uO.mem hb;exact absurd (A8 (Ap ho) (Bl I.sz h)) (BO _)
def Inv.qE (I:Inv X pins B H s):∀ x c,X.env.cells.lookup x=some c->c≠X.env.locals:=λ x c e z=>by
 obtain⟨v,o,ho,hd⟩:=I.cell x c e;obtain⟨m,⟨o',es,ep,ho',hd',_⟩,_⟩:=I.loc;rw[z,ho'] at ho;cases ho;rw[hd'] at hd;cases hd
theorem Inv.uO (I:Inv X pins B H s):s.heap.FunFrames X.base X.outer:=by
 have all:∀ (l:List Env),(∀ b∈vS l,b∈X.fs)->X.s₀.heap.FunFrames X.base l->s.heap.FunFrames X.base l:=by
  intro l
  induction l with
  | nil=>intro _ _;trivial
  | cons env r ih=>
   intro hs hl;obtain⟨hk,⟨L,o,hf,hn,ho,hd⟩,hr⟩:=hl;have hL:L∈X.fs:=hs L (by unfold vS;rw[BM,hf];exact Am);obtain⟨sl,e⟩:=I.base.slot L o ho (I.ok.pY L hL) hL λ z=>I.ok.mj L z hL;exact⟨hk,⟨L,_,hf,hn,e,hd⟩,ih (λ b hb=>hs b (by unfold vS;rw[BM,hf];exact Ar _ hb)) hr⟩
 exact all X.outer (λ _ hb=>hb) I.ok.uO
theorem Inv.stack (I:Inv X pins B H s):s.heap.FunFrames X.base X.stack:=by
 rcases I.ok.lM with e | ⟨e,hf⟩
 .rw[e];exact I.uO
 .rw[e];obtain⟨m,hn,_⟩:=I.loc;refine .cons (by rw[I.ok.kind];decide) hf hn ?_ I.uO;exact Heap.get?_none_of_le (Bl I.ok.qF I.ok.above)
def Inv.jN (I:Inv X pins B H s):∀ b∈vS X.stack,b∈X.env.locals::X.fs:=λ b hb=>by
 rcases I.ok.lM with e | ⟨e,hf⟩
 .rw[e] at hb;exact Ar _ hb
 .rw[e] at hb;unfold vS at hb;rw[BM,hf] at hb;exact hb
def Inv.c6 (I:Inv X pins B H s):∀ b∈vS X.stack,H b=none:=λ b hb=>by
 rcases Ah.mp (I.jN b hb) with e | hb
 .rw[e];exact I.free
 .obtain⟨_,o,ho,_⟩:=I.ok.uO.mem hb;exact I.base.free b o ho (I.ok.pY b hb) λ z=>I.ok.mj b z hb
def Inv.step {g':Array GenState}{t':Nat}{d':Drawn}{ch:List Addr}(I:Inv X pins B H s)
  (BR:∀ b∈ch,(b∈X.ex\/X.s₀.heap.objs.size<=b)/\b≠X.env.locals/\(∀ x c,X.env.cells.lookup x=some c->c≠b)/\∀ p∈X.pn++pins,p.1≠b)
  (keep:∀ b o,b≠X.env.locals->b∉X.fs->b∉ch->s.heap.get? b=some o->H b=none->h'.get? b=some o)
  (slot:∀ b o,b≠X.env.locals->b∈X.fs->b∉ch->s.heap.get? b=some o->H b=none->∃ sl,h'.get? b=some { o with slots:=sl }) (free:∀ b o,b∉ch->s.heap.get? b=some o->H b=none->H' b=none)
  (there:∀ b o,b∉ch->s.heap.get? b=some o->∃ o',h'.get? b=some o')
  (u_:∀ b xs,H b=some (.tup xs)->H' b=some (.tup xs)) (sA:∀ b o u,H b=some (.wu o u)->H' b=some (.wu o u)) (sY:∀ b ps,H b=some (.qe ps)->∃ more,H' b=some (.qe (ps++more)))
  (ns:∀ m,s.heap.Ns X.env.locals m->h'.Ns X.env.locals m) (zx:yX X.prog X.w H' h') (hg:AllBare g'):
  Inv X pins B H' { s with heap:=h',gens:=g',drawn:=d',toks:=t' }:=by
 have neL:∀ b o,X.s₀.heap.get? b=some o->b≠X.env.locals:=λ b o e=>Aw (A8 (Ap e) I.ok.above);have neC:∀ b o,X.s₀.heap.get? b=some o->b∉X.ex->b∉ch:=λ b o e hx hb=>by
  rcases (BR b hb).1 with z | z
  .exact hx z
  .exact absurd (A8 (Ap e) z) (BO _)
 have cellK:∀ x c,X.env.cells.lookup x=some c->∀ v,s.heap.IsCell c v->h'.IsCell c v:=λ x c e v ⟨o,ho,hd⟩=>by
  have nch:c∉ch:=λ z=>(BR c z).2.2.1 x c e rfl;by_cases hc:c∈X.fs
  .obtain⟨sl,q⟩:=slot c o (I.qE x c e) hc nch ho (I.tH x c e);exact⟨_,q,hd⟩
  .exact⟨o,keep c o (I.qE x c e) hc nch ho (I.tH x c e),hd⟩
 refine⟨I.ok,I.os,hg,⟨λ b o e n hb hx=>?_,λ b o e n hb hx=>?_,λ b o e n hx=>?_,λ b o e hx=>?_,λ b xs e=>u_ b xs (I.base.u_ b xs e),λ b o xs e=>sA b o xs (I.base.sA b o xs e),λ b ps e=>?_⟩,?_,λ x c e=>?_,?_,λ x c e=>?_,λ p hp=>?_,zx,I.len⟩
 .exact keep b o (neL b o e) hb (neC b o e hx) (I.base.keep b o e n hb hx) (I.base.free b o e n hx)
 .obtain⟨sl,e1⟩:=I.base.slot b o e n hb hx;obtain⟨sl',e2⟩:=slot b _ (neL b o e) hb (neC b o e hx) e1 (I.base.free b o e n hx);exact⟨sl',e2⟩
 .obtain⟨o',e1⟩:=I.base.there b o e hx;exact free b o' (neC b o e hx) e1 (I.base.free b o e n hx)
 .obtain⟨o',e1⟩:=I.base.there b o e hx;exact there b o' (neC b o e hx) e1
 .obtain⟨m1,e1⟩:=I.base.sY b ps e;obtain⟨m2,e2⟩:=sY b _ e1;exact⟨m1++m2,by rw[e2,Array.append_assoc]⟩
 .obtain⟨m,hn,hl⟩:=I.loc;refine⟨m,ns m hn,λ i x v e1 e2 e3=>?_⟩;obtain⟨u,r,l⟩:=hl i x v e1 e2 e3;refine⟨u,r,?_⟩;rcases l with l | ⟨k,c,e,z⟩
  .exact .inl l
  .exact .inr ⟨k,c,e,cellK x c e _ z⟩
 .obtain⟨v,z⟩:=I.cell x c e;exact⟨v,cellK x c e v z⟩
 .obtain⟨m,⟨o,_,_,ho,_⟩,_⟩:=I.loc;exact free _ o (λ z=>(BR _ z).2.1 rfl) ho I.free
 .obtain⟨v,o,ho,hd⟩:=I.cell x c e;exact free c o (λ z=>(BR c z).2.2.1 x c e rfl) ho (I.tH x c e)
 .obtain⟨e,n,ne,nf,d⟩:=I.pin p hp;have nch:p.1∉ch:=λ z=>(BR p.1 z).2.2.2 p hp rfl;exact⟨keep p.1 p.2 ne nf nch e n,free p.1 p.2 nch e n,ne,nf,d⟩
def Inv.un {t':Nat}(I:Inv X pins B H s) (u:Un X.fs [] H H' s.heap h') (zx:yX X.prog X.w H' h'):Inv X pins B H' { s with heap:=h',toks:=t' }:=by
 obtain⟨m,⟨o,es,ep,ho,r⟩,_⟩:=id I.loc;obtain⟨sl,hL⟩:=u.any ho I.free (by simp);exact I.step (g':=s.gens) (d':=s.drawn) (ch:=[]) (λ _ z=>nomatch z) (λ b o _ hb _ e n=>u.keep b o e n hb (by simp)) (λ b o _ hb _ e n=>u.slot b o e n hb (by simp)) (λ b o _ e n=>u.free b o e n (by simp)) (λ b o _ e=>u.there b o e (by simp)) u.u_ u.sA u.sY (λ m' hm=>by
  obtain⟨o',es',ep',ho',r'⟩:=hm;rw[ho] at ho';cases ho';exact⟨_,es',ep',hL,r'⟩) zx I.bare
def Inv.call {g':Array GenState}{t':Nat}{d':Drawn}{ch:List Addr}(I:Inv X pins B H s) (u:Un (vS X.stack) ch H H' s.heap h') (zx:yX X.prog X.w H' h') (hg:AllBare g')
  (BR:∀ b∈ch,(b∈X.ex\/X.s₀.heap.objs.size<=b)/\b≠X.env.locals/\(∀ x c,X.env.cells.lookup x=some c->c≠b)/\∀ p∈X.pn++pins,p.1≠b):
  Inv X pins B H' { s with heap:=h',gens:=g',drawn:=d',toks:=t' }:=by
 obtain⟨m,⟨o,es,ep,ho,r⟩,_⟩:=id I.loc;obtain⟨sl,hL⟩:=u.any ho I.free λ z=>(BR _ z).2.1 rfl;exact I.step (ch:=ch) BR (λ b o hL hb hc e n=>u.keep b o e n (λ z=>(Ah.mp (I.jN b z)).elim hL hb) hc) (λ b o _ _ hc e n=>u.any e n hc) (λ b o hc e n=>u.free b o e n hc) (λ b o hc e=>u.there b o e hc) u.u_ u.sA u.sY (λ m' hm=>by
  obtain⟨o',es',ep',ho',r'⟩:=hm;rw[ho] at ho';cases ho';exact⟨_,es',ep',hL,r'⟩) zx hg
def Inv.turned {t':Nat}{it:Addr}(I:Inv X pins B H s) (k:∀ b o,b≠it->s.heap.get? b=some o->h'.get? b=some o) (hn:H it=none) (hL:it≠X.env.locals)
  (h1:it∈X.ex\/X.s₀.heap.objs.size<=it) (h2:∀ x c,X.env.cells.lookup x=some c->c≠it) (h3:∀ p∈X.pn++pins,p.1≠it):Inv X pins B H { s with heap:=h',toks:=t' }:=by
 have nit:∀ b u,H b=some u->b≠it:=λ b u e z=>by rw[z,hn] at e;cases e
 refine I.step (g':=s.gens) (d':=s.drawn) (ch:=[it]) (λ b hb=>?_) (λ b o _ _ hc e _=>k b o (λ z=>hc (by simp[z])) e) (λ b o _ _ hc e _=>⟨o.slots,k b o (λ z=>hc (by simp[z])) e⟩) (λ _ _ _ _ n=>n)
  (λ b o hc e=>⟨o,k b o (λ z=>hc (by simp[z])) e⟩) (λ _ _ e=>e) (λ _ _ _ e=>e) (λ b ps e=>⟨#[],by rw[e];simp⟩) (λ m hm=>?_) (λ b u e=>?_) I.bare
 .have e:b=it:=by simpa using hb
  subst e;exact⟨h1,hL,h2,h3⟩
 .obtain⟨o,es,ep,ho,r⟩:=hm;exact⟨o,es,ep,k _ o (Ne.symm hL) ho,r⟩
 .refine (I.zx b u e).tY (λ c v hc q=>k c v ?_ q) (λ _ q=>q) λ _ _ q=>q;rcases hc with z | z
  .rw[z];exact nit b u e
  .exact nit c _ z
def Inv.tok (I:Inv X pins B H s) (t:Nat):Inv X pins B H { s with toks:=t }:=I.un (h':=s.heap) (t':=t) Un.refl I.zx
theorem Inv.kept {t':Nat}(I:Inv X pins B H s) (k:∀ b u,s.heap.get? b=some u->h'.get? b=some u):Inv X pins B H { s with heap:=h',toks:=t' }:=I.un (Un.kept k) (I.zx.kept k)
theorem Inv.laid {a:Addr}{o:HO}{t':Nat}(I:Inv X pins B H s) (k:∀ b u,s.heap.get? b=some u->h'.get? b=some u) (hp:s.heap.objs.size<=a) (new:xg X.prog X.w (upd H a o) h' a o):
  Inv X pins B (upd H a o) { s with heap:=h',toks:=t' }:=I.un (Un.laid k hp (I.zx.fresh hp)) (I.zx.laid k hp new)
theorem Inv.write {x e:Addr}{o:HO}{t':Nat}(I:Inv X pins B H s) (mu:lg (H x)) (he:e=x\/H e=some (.own x)) (k:∀ b u,b≠e->s.heap.get? b=some u->h'.get? b=some u) (CQ:∃ u,h'.get? e=some u)
  (new:xg X.prog X.w (upd H x o) h' x o):Inv X pins B (upd H x o) { s with heap:=h',toks:=t' }:=I.un (Un.write mu he k CQ) (I.zx.write mu he k CQ new)
def Inv.iK {pins':List (Addr×Obj)}(I:Inv X pins B H s) (h:∀ p∈pins',s.heap.get? p.1=some p.2/\H p.1=none/\p.1≠X.env.locals/\p.1∉X.fs/\∀ v,p.2.data≠.cell v):Inv X pins' B H s:=
 ⟨I.ok,I.os,I.bare,I.base,I.loc,I.cell,I.free,I.tH,λ p hp=>(AZ.mp hp).elim (λ z=>I.pin p (Cb _ z)) (h p),I.zx,I.len⟩
def b_ {N:List Str}(hN:N.Nodup) {i j:Nat}{x:Str}(a:N[i]?=some x) (b:N[j]?=some x):i=j:=by
 obtain⟨h1,e1⟩:=AK.mp a;obtain⟨h2,e2⟩:=AK.mp b;exact (List.getElem_inj hN).mp (e1.trans e2.symm)
def We {M:Model}{A:Around}{E:Value->Shared->Prop}{i:Nat}{x:Str}{v:V}{u:Value}{Q:Unit->Shared->Prop}(I:Inv X pins B H s) (hN:X.N.Nodup) (hi:X.N[i]?=some x) (hx:Loc X.env.scope x) (r:RelV v u)
  (h:∀ s',Inv X pins (B.set i (some v)) H s'->(∃ a,Heap.SameBut a s.heap s'.heap/\(a=X.env.locals\/X.env.cells.lookup x=some a))->Q () s') (hf:X.fn x=true\/X.env.scope.names.lookup x=some .local:=by first | exact .inl rfl | exact .inr rfl | assumption):wpAny M A (storeName X.env x u) Q E s:=by
 obtain⟨m,hn,hl⟩:=id I.loc;have Ew:(X.env.scope.kind == .class||(X.env.scope.kind == .module&&X.env.locals != X.env.globals))=false:=by rw[I.ok.kind];rfl
 have hiσ:i < B.length:=by rw[I.len];exact (AK.mp hi).1
 have qE:=I.qE;have tracked:∀ {a:Addr}{h':Heap},(∃ o,s.heap.get? a=some o/\H a=none)->Heap.SameBut a s.heap h'->yX X.prog X.w H h':=λ{a h'} ha hs b ob e=>by
  obtain⟨_,_,hfree⟩:=ha;refine (I.zx b ob e).tY (λ c w' hc q=>(hs.2 c ?_).trans q) (λ _ q=>q) λ _ _ q=>q;rintro rfl;rcases hc with rfl | hc
  .rw[hfree] at e;cases e
  .rw[hfree] at hc;cases hc
 rcases hx with hk | hk
 .refine wpAny_storeName_local hk hn (λ h' hn' hs=>?_) Ew;obtain⟨oL,_,_,hoL,_⟩:=id hn;refine h _ ⟨I.ok,I.os,I.bare,⟨λ b o e n hb hx=>?_,λ b o e n hb hx=>?_,I.base.free,λ b o e hx=>?_,I.base.u_,I.base.sA,I.base.sY⟩,⟨_,hn',λ j y v' e1 e2 e3=>?_⟩,λ y c e=>?_,I.free,I.tH,λ p hp=>?_,tracked ⟨oL,hoL,I.free⟩ hs,by simpa using I.len⟩ ⟨_,hs,.inl rfl⟩
  .exact (hs.2 b (Aw (A8 (Ap e) I.ok.above))).trans (I.base.keep b o e n hb hx)
  .obtain⟨sl,e1⟩:=I.base.slot b o e n hb hx;exact⟨sl,(hs.2 b (Aw (A8 (Ap e) I.ok.above))).trans e1⟩
  .obtain⟨o',e1⟩:=I.base.there b o e hx;exact⟨o',(hs.2 b (Aw (A8 (Ap e) I.ok.above))).trans e1⟩
  .by_cases hj:j=i
   .subst hj;rw[hi] at e1;cases e1;rw[List.getElem?_set_self hiσ] at e2;cases e2;exact⟨u,r,.inl ⟨hk,by simp⟩⟩
   .rw[List.getElem?_set_ne (Ne.symm hj)] at e2;obtain⟨u',r',q⟩:=hl j y v' e1 e2 e3;refine⟨u',r',?_⟩;rcases q with ⟨k,e⟩ | ⟨k,c,e,z⟩
    .refine .inl ⟨k,?_⟩;have:y≠x:=λ e=>hj (b_ hN e1 (e▸hi));simp[this,e]
    .exact .inr ⟨k,c,e,z.sameBut hs (qE y c e)⟩
  .obtain⟨w',z⟩:=I.cell y c e;exact⟨w',z.sameBut hs (qE y c e)⟩
  .obtain⟨e,n,ne,nf,d⟩:=I.pin p hp;exact⟨(hs.2 p.1 ne).trans e,n,ne,nf,d⟩
 .have CF:X.fn x=true:=by
   rcases hf with z | z
   .exact z
   .rw[z] at hk;cases hk
  obtain⟨c,hc⟩:=I.ok.has x (.inl hk);obtain⟨w',z⟩:=I.cell x c hc;refine wpAny_storeName_cell I.ok.kind hk hc z (λ h' hc' hs=>?_);obtain⟨oc,hoc,Ed⟩:=id z;refine h { s with heap:=h' } ⟨I.ok,I.os,I.bare,⟨λ b o e n hb hx=>?_,λ b o e n hb hx=>?_,I.base.free,λ b o e hx=>?_,I.base.u_,I.base.sA,I.base.sY⟩,⟨m,hn.sameBut hs (Ne.symm (qE x c hc)),λ j y v' e1 e2 e3=>?_⟩,λ y c' e=>?_,I.free,I.tH,λ p hp=>?_,tracked ⟨oc,hoc,I.tH x c hc⟩ hs,by simpa using I.len⟩ ⟨c,hs,.inr hc⟩
  .exact (hs.2 b (Aw (A8 (Ap e) (I.ok.mG x c CF hc)))).trans (I.base.keep b o e n hb hx)
  .obtain⟨sl,e1⟩:=I.base.slot b o e n hb hx;exact⟨sl,(hs.2 b (Aw (A8 (Ap e) (I.ok.mG x c CF hc)))).trans e1⟩
  .obtain⟨o',e1⟩:=I.base.there b o e hx;exact⟨o',(hs.2 b (Aw (A8 (Ap e) (I.ok.mG x c CF hc)))).trans e1⟩
  .by_cases hj:j=i
   .subst hj;rw[hi] at e1;cases e1;rw[List.getElem?_set_self hiσ] at e2;cases e2;exact⟨u,r,.inr ⟨.inl hk,c,hc,hc'⟩⟩
   .rw[List.getElem?_set_ne (Ne.symm hj)] at e2;obtain⟨u',r',q⟩:=hl j y v' e1 e2 e3;refine⟨u',r',?_⟩;rcases q with q | ⟨k,c',e,z'⟩
    .exact .inl q
    .refine .inr ⟨k,c',e,z'.sameBut hs ?_⟩;rintro rfl;exact hj (b_ hN e1 (I.ok.inj _ _ _ e hc▸hi))
  .by_cases hcc:c'=c
   .subst hcc;exact⟨_,hc'⟩
   .obtain⟨w2,z2⟩:=I.cell y c' e;exact⟨w2,z2.sameBut hs hcc⟩
  .obtain⟨e,n,ne,nf,d⟩:=I.pin p hp;refine⟨(hs.2 p.1 ?_).trans e,n,ne,nf,d⟩;intro q;rw[q,hoc] at e;have q':oc=p.2:=A4 e;exact d w' (by rw[<- q'];exact Ed)
def jM {M:Model}{A:Around}{E:Value->Shared->Prop}{i:Nat}{x:Str}{v:V}{u:Value}{Q:Unit->Shared->Prop}(I:Inv X pins B H s) (hN:X.N.Nodup) (hi:X.N[i]?=some x) (hx:Loc X.env.scope x) (r:RelV v u)
  (h:∀ s',Inv X pins (B.set i (some v)) H s'->Q () s') (hf:X.fn x=true\/X.env.scope.names.lookup x=some .local:=by first | exact .inl rfl | exact .inr rfl | assumption):wpAny M A (storeName X.env x u) Q E s:=
 We I hN hi hx r (λ s' I' _=>h s' I') hf
def Inv.Od {s':Shared}{ch:List Addr}(I:Inv X pins B H s) (ho:s'.os=s.os) (u:Un (vS X.stack) ch H H' s.heap s'.heap) (zx:yX X.prog X.w H' s'.heap) (hg:AllBare s'.gens)
  (BR:∀ b∈ch,(b∈X.ex\/X.s₀.heap.objs.size<=b)/\b≠X.env.locals/\(∀ x c,X.env.cells.lookup x=some c->c≠b)/\∀ p∈X.pn++pins,p.1≠b):Inv X pins B H' s':=by
 obtain⟨h',g',d',t',o'⟩:=s';have e:o'=s.os:=ho;subst e;exact I.call (g':=g') (t':=t') (d':=d') u zx hg BR
end
abbrev XK:=Value->Option Addr->Hp->Prop
abbrev St:=List (Option V)
abbrev VK:=V->Hp->Prop
abbrev TE:=St->Hp->VK->Prop
abbrev TT:=St->Hp->(Bool->Hp->Prop)->Prop
abbrev TA:=St->Hp->(List V->Hp->Prop)->Prop
structure Ends where
 nx:St->Hp->Prop
 rt:VK
 bk:St->Hp->Prop:=λ _ _=>False
 ct:St->Hp->Prop:=λ _ _=>False
abbrev TS:=Ends->St->Hp->Prop
def EP (X:Cx) (pins:List (Addr×Obj)) (B:St) (Q:VK) (u:Value) (s':Shared):Prop:=∃ v H',Inv X pins B H' s'/\RelV v u/\Q v H'
def TP (X:Cx) (pins:List (Addr×Obj)) (B:St) (Q:Bool->Hp->Prop) (b:Bool) (s':Shared):Prop:=∃ H',Inv X pins B H' s'/\Q b H'
def AP (X:Cx) (pins:List (Addr×Obj)) (B:St) (Q:List V->Hp->Prop) (us:List Value) (s':Shared):Prop:=∃ vs H',Inv X pins B H' s'/\Vals vs us/\Q vs H'
def SP (X:Cx) (pins:List (Addr×Obj)) (D:Ends) (f:Flow) (s':Shared):Prop:=
 match f with
 | .next=>∃ B' H',Inv X pins B' H' s'/\D.nx B' H'
 | .brk=>∃ B' H',Inv X pins B' H' s'/\D.bk B' H'
 | .cont=>∃ B' H',Inv X pins B' H' s'/\D.ct B' H'
 | .ret u=>∃ v B' H',Inv X pins B' H' s'/\RelV v u/\D.rt v H'
def PE (X:Cx) (e:Expr) (t:TE):Prop:=
 ∀ (pins:List (Addr×Obj)) (s:Shared) (B:St) (H:Hp) (Q:VK),Inv X pins B H s->t B H Q->wpAny (model X.prog X.w) X.A (eval e X.env) (EP X pins B Q) X.xe s
def PT (X:Cx) (e:Expr) (t:TT):Prop:=
 ∀ (pins:List (Addr×Obj)) (s:Shared) (B:St) (H:Hp) (Q:Bool->Hp->Prop),Inv X pins B H s->t B H Q->wpAny (model X.prog X.w) X.A (isTrue e X.env (eval e X.env)) (TP X pins B Q) X.xe s
def PW (X:Cx) (e:Expr) (t:TT):Prop:=
 ∀ (whole:Sem Value) (pins:List (Addr×Obj)) (s:Shared) (B:St) (H:Hp) (Q:Bool->Hp->Prop),Inv X pins B H s->t B H Q->wpAny (model X.prog X.w) X.A (isTrue e X.env whole) (TP X pins B Q) X.xe s
def PW.pt {X:Cx}{e:Expr}{t:TT}(h:PW X e t):PT X e t:=h _
def PA (X:Cx) (es:List Expr) (t:TA):Prop:=
 ∀ (pos:Pos) (pins:List (Addr×Obj)) (s:Shared) (B:St) (H:Hp) (Q:List V->Hp->Prop),Inv X pins B H s->t B H Q->wpAny (model X.prog X.w) X.A (spliced (backTo pos (starEach es X.env))) (AP X pins B Q) X.xe s
def PS (X:Cx) (st:Stmt) (t:TS):Prop:=
 ∀ (pins:List (Addr×Obj)) (s:Shared) (B:St) (H:Hp) (D:Ends),Inv X pins B H s->t D B H->wpAny (model X.prog X.w) X.A (exec st X.env) (SP X pins D) X.xe s
def wg (X:Cx) (st:List Stmt) (t:TS):Prop:=
 ∀ (pins:List (Addr×Obj)) (s:Shared) (B:St) (H:Hp) (D:Ends),Inv X pins B H s->t D B H->wpAny (model X.prog X.w) X.A (execs st X.env) (SP X pins D) X.xe s
def zG {α:Type}{t:Sem α}{Q Q':α->Shared->Prop}{M:Model}{A:Around}{E:Value->Shared->Prop}{s:Shared}(h:wpAny M A t Q E s) (hQ:∀ a s,Q a s->Q' a s):wpAny M A t Q' E s:=wpAny_mono h hQ λ _ _ x=>x
section
variable {X:Cx}
def jH (i:Nat):TE:=fun B H Q=>∃ v,B[i]?=some (some v)/\Q v H
def tC (v:V):TE:=λ _ H Q=>Q v H
def VI {i:Nat}{x:Str}{pos:Pos}(hN:X.N[i]?=some x) (hv:ea X.env.scope x) (hd:(x == ("__debug__":Str))=false:=by decide) (BH:(x == ("__classdict__":Str))=false:=by decide):PE X (.Name x pos) (jH i):=by
 intro pins s B H Q I h;obtain⟨v,e,h⟩:=h;obtain⟨m,hn,hl⟩:=I.loc;obtain⟨u,r,l⟩:=hl i x v hN e hv;have fin:EP X pins B Q u s:=⟨v,H,I,r,h⟩
 rcases l with ⟨hk,hm⟩ | ⟨hk,c,hc,hcell⟩
 .exact wpAny_Name (wpAny_loadName_local I.ok.kind hk hn hm fin) hd
 .rcases hk with hk | hk
  .exact wpAny_Name (wpAny_loadName_cell I.ok.kind hk hc hcell fin) hd
  .exact wpAny_Name (wpAny_loadName_free I.ok.kind hk hc hcell fin BH) hd
def VV {i j pos}:PE X (.Constant (.int i) j pos) (tC (.int i)):=λ _ _ _ H _ I h=>wpAny_Constant_int ⟨.int i,H,I.tok _,⟨_,rfl⟩,h⟩
def Ue {b j pos}:PE X (.Constant (.bool b) j pos) (tC (.bl b)):=λ _ _ _ H _ I h=>Constant_bool ⟨.bl b,H,I,rfl,h⟩
def VQ {j pos}:PE X (.Constant .none j pos) (tC .zi):=λ _ _ _ H _ I h=>Constant_none ⟨.zi,H,I,rfl,h⟩
def VM {x j pos}:PE X (.Constant (.str x) j pos) (tC (.str x)):=λ _ _ _ H _ I h=>Calls.Constant_str ⟨.str x,H,I.tok _,⟨_,rfl⟩,h⟩
def Gl (X:Cx) (x:Str):Prop:=X.env.kindOf x=some .globalImplicit
def aK {E:Value->Shared->Prop}{pins:List (Addr×Obj)}{s:Shared}{B:St}{H:Hp}{x:Str}{u:Value}{pos:Pos}{Q:Value->Shared->Prop}(I:Inv X pins B H s) (hg:Gl X x) (hm:X.mg x=some u) (h:Q u s)
  (hd:(x == ("__debug__":Str))=false:=by decide):wpAny (model X.prog X.w) X.A (eval (.Name x pos) X.env) Q E s:=
 Calls.Name_function_global I.ok.kind hg (Calls.loadGlobal_global (by rw[I.ok.glob];exact I.mod.glob.keeps I.bk) hm h) hd
def rD {E:Value->Shared->Prop}{pins:List (Addr×Obj)}{s:Shared}{B:St}{H:Hp}{x:Str}{u:Value}{pos:Pos}{Q:Value->Shared->Prop}(I:Inv X pins B H s) (hg:Gl X x) (hm:X.mg x=none) (hv:bootBuiltins x=some u) (h:Q u s)
  (hn:x≠"__name__":=by decide) (hd:(x == ("__debug__":Str))=false:=by decide):wpAny (model X.prog X.w) X.A (eval (.Name x pos) X.env) Q E s:=by
 obtain⟨mb,h1,h2⟩:=I.mod.blt;exact Calls.Name_function_global I.ok.kind hg (Calls.loadGlobal_builtin (by rw[I.ok.glob];exact I.mod.glob.keeps I.bk) hm (by rw[I.ok.blt];exact h1.keeps I.bk) ((h2 x hn).trans hv) h) hd
def VX {x:Str}{v:V}{u:Value}{pos:Pos}(hg:Gl X x) (hm:X.mg x=some u) (r:RelV v u) (hd:(x == ("__debug__":Str))=false:=by decide):PE X (.Name x pos) (tC v):=
 λ _ _ _ H _ I h=>aK I hg hm ⟨v,H,I,r,h⟩ hd
def Ud {x:Str}{v:V}{u:Value}{pos:Pos}(hg:Gl X x) (hm:X.mg x=none) (hv:bootBuiltins x=some u) (r:RelV v u) (hn:x≠"__name__":=by decide) (hd:(x == ("__debug__":Str))=false:=by decide):PE X (.Name x pos) (tC v):=
 λ _ _ _ H _ I h=>rD I hg hm hv ⟨v,H,I,r,h⟩ hn hd
variable {a b:Expr}{ta tb:TE}{pos:Pos}
variable {tA tB':TT}{rest:List Expr}
def Wc (t u:TT):TT:=fun B H Q=>t B H λ c H1=>if c=true then u B H1 Q else Q false H1
def XO (t u:TT):TT:=fun B H Q=>t B H λ c H1=>if c=true then Q true H1 else u B H1 Q
def XR (t:TT):TT:=fun B H Q=>t B H λ c H1=>Q (!c) H1
def Vg (ha:PT X a tA):PW X (.BoolOp .And [a] pos) tA:=by
 intro wh pins s B H Q I h;refine isTrue_and (zG (ha pins s B H Q I h) λ c s1 e=>?_);cases c with
 | true=>exact isTrue_and_nil e
 | false=>exact e
def Ve (ha:PT X a tA):PW X (.BoolOp .Or [a] pos) tA:=by
 intro wh pins s B H Q I h;refine isTrue_or (zG (ha pins s B H Q I h) λ c s1 e=>?_);cases c with
 | false=>exact isTrue_or_nil e
 | true=>exact e
def Vh (ha:PT X a tA) (hb:PW X (.BoolOp .And (b::rest) pos) tB'):PW X (.BoolOp .And (a::b::rest) pos) (Wc tA tB'):=by
 intro wh pins s B H Q I h;refine isTrue_and (zG (ha pins s B H _ I h) λ c s1 ⟨H1,I1,q1⟩=>?_);cases c with
 | true=>exact hb wh pins s1 B H1 Q I1 q1
 | false=>exact⟨H1,I1,q1⟩
def Vf (ha:PT X a tA) (hb:PW X (.BoolOp .Or (b::rest) pos) tB'):PW X (.BoolOp .Or (a::b::rest) pos) (XO tA tB'):=by
 intro wh pins s B H Q I h;refine isTrue_or (zG (ha pins s B H _ I h) λ c s1 ⟨H1,I1,q1⟩=>?_);cases c with
 | true=>exact⟨H1,I1,q1⟩
 | false=>exact hb wh pins s1 B H1 Q I1 q1
def Vl (ha:PT X a tA):PT X (.UnaryOp .Not a pos) (XR tA):=by
 intro pins s B H Q I h;exact isTrue_not (ha pins s B H (λ c H1=>Q (!c) H1) I h)
def Wb (ta tb:TE):TE:=fun B H Q=>ta B H λ x H1=>∃ c,x=.bl c/\if c=true then tb B H1 Q else Q (.bl false) H1
def XQ (ta:TE):TE:=fun B H Q=>ta B H λ x H1=>∃ c,x=.bl c/\Q (.bl (!c)) H1
def VO {op} {t:TE}(h:PE X a t):PE X (.BoolOp op [a] pos) t:=λ pins s B H Q I hw=>BoolOp_one (h pins s B H Q I hw)
def Ug (ha:PE X a ta) (hb:PE X (.BoolOp .And (b::rest) pos) tb):PE X (.BoolOp .And (a::b::rest) pos) (Wb ta tb):=by
 intro pins s B H Q I h;refine BoolOp_and (zG (ha pins s B H _ I h) λ v s1 ⟨x,H1,I1,r1,q1⟩=>?_);obtain⟨c,rfl,q1⟩:=q1;cases r1;refine wpAny_truthy_bool ?_;cases c with
 | true=>exact hb pins s1 B H1 Q I1 q1
 | false=>exact⟨.bl false,H1,I1,rfl,q1⟩
def VP (ha:PE X a ta):PE X (.UnaryOp .Not a pos) (XQ ta):=by
 intro pins s B H Q I h;refine UnaryOp_ (zG (ha pins s B H _ I h) λ v s1 ⟨x,H1,I1,r1,q1⟩=>?_);obtain⟨c,rfl,q1⟩:=q1;cases r1;exact not_of (wpAny_truthy_bool ⟨.bl (!c),H1,I1,rfl,q1⟩)
def XW (t:TT) (ta tb:TE):TE:=fun B H Q=>t B H λ c H1=>if c=true then ta B H1 Q else tb B H1 Q
def VW {c:Expr}(hc:PT X c tA) (ha:PE X a ta) (hb:PE X b tb):PE X (.IfExp c a b pos) (XW tA ta tb):=by
 intro pins s B H Q I h;refine wpAny_IfExp (zG (hc pins s B H _ I h) λ d s1 ⟨H1,I1,q1⟩=>?_);cases d with
 | true=>exact ha pins s1 B H1 Q I1 q1
 | false=>exact hb pins s1 B H1 Q I1 q1
end
def zO (K:Ac) (H:Hp) (a:Addr) (xs:List V):Prop:=
 Rd H a (.lst xs)\/
  ∃ (o:Obj) (its:Array Value) (n:Nat),K.lookup a=some o/\o.cls=.type "list"/\o.dict=none/\o.data=.seq its n/\its.size<=sizeLine/\Vals xs its.toList
def z_ (K:Ac) (H:Hp) (a:Addr) (xs:List V):Prop:=
 Rd H a (.tup xs)\/
  ∃ (o:Obj) (its:Array Value) (n:Nat),K.lookup a=some o/\o.cls=.type "tuple"/\o.data=.seq its n/\its.size<=sizeLine/\Vals xs its.toList
noncomputable def O4:Value->Option V
 | .none=>some .zi
 | .bool b=>some (.bl b)
 | .int i _=>some (.int i)
 | .str x _=>some (.str x)
 | .bytes b _=>some (.oh b)
 | .float b _=>some (.kQ b)
 | .ref a=>some (.ref a)
 | .type n=>some (.ty n)
 | _=>none
def RelV.abs {x:V}{u:Value}(r:RelV x u):O4 u=some x:=by
 cases x with
 | zi=>cases r;rfl
 | bl _=>cases r;rfl
 | int _=>obtain⟨t,rfl⟩:=r;rfl
 | str _=>obtain⟨t,rfl⟩:=r;rfl
 | oh _=>obtain⟨t,rfl⟩:=r;rfl
 | kQ _=>obtain⟨t,rfl⟩:=r;rfl
 | ref _=>cases r;rfl
 | ty _=>cases r;rfl
theorem RelV.inj {x y:V}{u:Value}(r:RelV x u) (q:RelV y u):x=y:=A4 (r.abs.symm.trans q.abs)
theorem Vals.inj:∀ {xs ys:List V}{us:List Value},Vals xs us->Vals ys us->xs=ys
 | _,_,_,.nil,.nil=>rfl
 | _,_,_,.cons r t,.cons r' t'=>by rw[r.inj r',Vals.inj t t']
section
variable {X:Cx}{pins:List (Addr×Obj)}{B:St}{H:Hp}{s:Shared}{a:Addr}{xs ys:List V}
def zO.of {K:Ac}(h:H a=some (.lst xs)):zO K H a xs:=.inl (.inl h)
def z_.of {K:Ac}(h:H a=some (.tup xs)):z_ K H a xs:=.inl (.inl h)
def Inv.list (I:Inv X pins B H s) (h:zO X.K H a xs):∃ its:List Value,Vals xs its/\PlainL s.heap a its.toArray/\xs.length<=sizeLine:=by
 rcases h with h | ⟨o,its,n,hk,hc,hd,hs,hz,r⟩
 .obtain⟨z,its,n,r,e⟩:=h.ok I.zx;exact⟨its,r,⟨_,n,e,rfl,rfl,rfl⟩,z⟩
 .refine⟨its.toList,r,⟨o,n,I.vQ a o hk,hc,hd,by simpa using hs⟩,?_⟩;have e:=r.length;simp only[Bm] at e;lia
def Inv.tuple (I:Inv X pins B H s) (h:z_ X.K H a xs):∃ its:List Value,Vals xs its/\IsTup s.heap a its.toArray/\xs.length<=sizeLine:=by
 rcases h with h | ⟨o,its,n,hk,hc,hs,hz,r⟩
 .obtain⟨z,its,r,p⟩:=h.ok I.zx;exact⟨its,r,p,z⟩
 .refine⟨its.toList,r,⟨o,I.vQ a o hk,hc,n,by simpa using hs⟩,?_⟩;have e:=r.length;simp only[Bm] at e;lia
def Inv.gE (I:Inv X pins B H s) (h:zO X.K H a xs) (h':zO X.K H a ys):xs=ys:=by
 obtain⟨its,r,⟨o,n,e,_,_,d⟩,_⟩:=I.list h;obtain⟨Ae,r',⟨o',n',e',_,_,d'⟩,_⟩:=I.list h';rw[e] at e';cases e';rw[d] at d'
 injection d' with d1 _
 have:its=Ae:=by simpa using congrArg Array.toList d1
 subst this;exact r.inj r'
def Inv.jF (I:Inv X pins B H s) (h:z_ X.K H a xs) (h':z_ X.K H a ys):xs=ys:=by
 obtain⟨its,r,⟨o,e,_,n,d⟩,_⟩:=I.tuple h;obtain⟨Ae,r',⟨o',e',_,n',d'⟩,_⟩:=I.tuple h';rw[e] at e';cases e';rw[d] at d'
 injection d' with d1 _
 have:its=Ae:=by simpa using congrArg Array.toList d1
 subst this;exact r.inj r'
end
abbrev Cx.uY (X:Cx) (E:Value->Shared->Prop):Cx:={ X with xe:=E }
abbrev Cx.rp (X:Cx):Cx:=X.uY λ _ _=>False
theorem Cx.Ok.uY {X:Cx}(ok:X.Ok) (E:Value->Shared->Prop):(X.uY E).Ok:=
 ⟨ok.mod,ok.kind,ok.glob,ok.blt,ok.above,ok.inj,ok.has,ok.mG,ok.hd,ok.frames,ok.lM,ok.f7,ok.bs,ok.qF,ok.nH,ok.mj,ok.uO,ok.pY⟩
def Cx.Ok.sV {X:Cx}{E:Value->Shared->Prop}(ok:(X.uY E).Ok):X.Ok:=
 ⟨ok.mod,ok.kind,ok.glob,ok.blt,ok.above,ok.inj,ok.has,ok.mG,ok.hd,ok.frames,ok.lM,ok.f7,ok.bs,ok.qF,ok.nH,ok.mj,ok.uO,ok.pY⟩
section
variable {X:Cx}{pins:List (Addr×Obj)}{B:St}{H:Hp}{s:Shared}{E:Value->Shared->Prop}
theorem Inv.uY (I:Inv X pins B H s) (E:Value->Shared->Prop):Inv (X.uY E) pins B H s:=⟨I.ok.uY E,I.os,I.bare,I.base,I.loc,I.cell,I.free,I.tH,I.pin,I.zx,I.len⟩
theorem Inv.sV (I:Inv (X.uY E) pins B H s):Inv X pins B H s:=⟨I.ok.sV,I.os,I.bare,I.base,I.loc,I.cell,I.free,I.tH,I.pin,I.zx,I.len⟩
theorem SP.sV {D:Ends}{f:Flow}{s':Shared}(h:SP (X.uY E) pins D f s'):SP X pins D f s':=by
 cases f with
 | next=>obtain⟨B',H',I,q⟩:=h;exact⟨B',H',I.sV,q⟩
 | brk=>obtain⟨B',H',I,q⟩:=h;exact⟨B',H',I.sV,q⟩
 | cont=>obtain⟨B',H',I,q⟩:=h;exact⟨B',H',I.sV,q⟩
 | ret u=>obtain⟨v,B',H',I,r,q⟩:=h;exact⟨v,B',H',I.sV,r,q⟩
theorem wg.rp {st:List Stmt}{t:TS}(h:wg X.rp st t):wg X st t:=λ pins s B H D I hw=>
 wpAny_mono (h pins s B H D (I.uY _) hw) (λ _ _ q=>q.sV) λ _ _ z=>False.elim z
end
section
variable {X:Cx}{st:Stmt}{rest:List Stmt}{t u:TS}{e:Expr}{te:TE}{pos:Pos}
def XS:TS:=λ D B H=>D.nx B H
def XM (t u:TS):TS:=λ D B H=>t { D with nx:=u D } B H
def Vo:wg X [] XS:=λ _ _ B H _ I h=>wpAny_execs_nil ⟨B,H,I,h⟩
def Vp (h1:PS X st t) (h2:wg X rest u):wg X (st::rest) (XM t u):=by
 intro pins s B H D I h;refine wpAny_execs_cons (zG (h1 pins s B H { D with nx:=u D } I h) λ f s1 q=>?_);cases f with
 | next=>
  obtain⟨B',H',I',q⟩:=q;exact h2 pins s1 B' H' D I' q
 | ret v=>exact q
 | brk=>exact q
 | cont=>exact q
def Vn (h1:PS X st t):wg X [st] t:=by
 intro pins s B H D I h;refine wpAny_execs_cons (zG (h1 pins s B H D I h) λ f s1 q=>?_);cases f with
 | next=>exact wpAny_execs_nil q
 | ret v=>exact q
 | brk=>exact q
 | cont=>exact q
def Inv.quiet {pins:List (Addr×Obj)}{B:St}{H:Hp}{s:Shared}(I:Inv X pins B H s):interactive X.env=false:=by simp[interactive,I.ok.kind]
def XY (te:TE):TS:=λ D B H=>te B H λ _ H1=>D.nx B H1
def Vx (he:PE X e te) (hs:swapsWith e none pos.line X.env=pure false:=by rfl):PS X (.Expr e pos) (XY te):=by
 intro pins s B H D I h;exact wpAny_Expr_any (zG (he pins s B H _ I h) λ v s1 ⟨x,H1,I1,r1,q1⟩=>⟨B,H1,I1,q1⟩) I.quiet hs
def XN (te:TE):TS:=λ D B H=>te B H D.rt
def Vt (he:PE X e te):PS X (.Return (some e) pos) (XN te):=by
 intro pins s B H D I h;exact wpAny_Return_some (zG (he pins s B H _ I h) λ v s1 ⟨x,H1,I1,r1,q1⟩=>⟨x,B,H1,I1,r1,q1⟩)
def XU (c:TT) (t u:TS):TS:=λ D B H=>c B H λ b H1=>if b=true then t D B H1 else u D B H1
def Vu {c:Expr}{a b:List Stmt}{tc:TT}(hc:PT X c tc) (ha:wg X a t) (hb:wg X b u):PS X (.If c a b pos) (XU tc t u):=by
 intro pins s B H D I h;refine wpAny_If (zG (hc pins s B H _ I h) λ d s1 ⟨H1,I1,q1⟩=>?_);cases d with
 | true=>exact ha pins s1 B H1 D I1 q1
 | false=>exact hb pins s1 B H1 D I1 q1
end
abbrev TG:=V->St->Hp->(St->Hp->Prop)->Prop
abbrev sI:=List V->St->Hp->(St->Hp->Prop)->Prop
def PG (X:Cx) (target:Expr) (t:TG):Prop:=
 ∀ (pins:List (Addr×Obj)) (s:Shared) (B:St) (H:Hp) (v:V) (u:Value) (Q:St->Hp->Prop),Inv X pins B H s->RelV v u->t v B H Q->
  wpAny (model X.prog X.w) X.A (assign target X.env u) (λ _ s'=>∃ B' H',Inv X pins B' H' s'/\Q B' H') X.xe s
def tT (X:Cx) (ts:List Expr) (t:sI):Prop:=
 ∀ (pins:List (Addr×Obj)) (s:Shared) (B:St) (H:Hp) (vs:List V) (us:List Value) (Q:St->Hp->Prop),Inv X pins B H s->Vals vs us->t vs B H Q->
  wpAny (model X.prog X.w) X.A (assignInOrder ((assignEach ts X.env).map (·.2)) us) (λ _ s'=>∃ B' H',Inv X pins B' H' s'/\Q B' H') X.xe s
abbrev ej:=V->V->V->Hp->(Hp->Prop)->Prop
def Y5 (X:Cx) (t:ej):Prop:=
 ∀ (pins:List (Addr×Obj)) (s:Shared) (B:St) (H:Hp) (o i v:V) (ov iv u:Value) (Q:Hp->Prop),Inv X pins B H s->RelV o ov->RelV i iv->RelV v u->t o i v H Q->
  wpAny (model X.prog X.w) X.A (setItem ov iv u) (λ _ s'=>∃ H',Inv X pins B H' s'/\Q H') X.xe s
section
variable {X:Cx}{pos:Pos}
noncomputable def pX (i:Nat):TG:=λ v B H Q=>Q (B.set i (some v)) H
def VE {i:Nat}{x:Str}(hN:X.N.Nodup) (hi:X.N[i]?=some x) (hx:Loc X.env.scope x) (hf:X.fn x=true\/X.env.scope.names.lookup x=some .local:=by first | exact .inl rfl | exact .inr rfl | assumption):PG X (.Name x pos) (pX i):=by
 intro pins s B H v u Q I r h;exact wpAny_assign_Name (jM I hN hi hx r (λ s' I'=>⟨_,H,I',h⟩) hf)
noncomputable def Q1:sI:=λ vs B H Q=>vs=[]/\Q B H
noncomputable def Q2 (t:TG) (u:sI):sI:=λ vs B H Q=>∃ v r,vs=v::r/\t v B H fun B' H'=>u r B' H' Q
def VA:tT X [] Q1:=by
 intro pins s B H vs us Q I r h;obtain⟨e,h⟩:=h;subst e;cases r;exact assignInOrder_nil ⟨B,H,I,h⟩
def VB {e:Expr}{es:List Expr}{t:TG}{u:sI}(h1:PG X e t) (h2:tT X es u)
  (hs:(assignEach (e::es) X.env).map (·.2)=assign e X.env::(assignEach es X.env).map (·.2):=by rfl):tT X (e::es) (Q2 t u):=by
 intro pins s B H vs us Q I r h;obtain⟨v,vr,e1,h⟩:=h;subst e1;cases r with
 | cons r rr=>
  rw[hs];refine assignInOrder_cons (zG (h1 pins s B H _ _ _ I r h) λ _ s1 ⟨B1,H1,I1,q1⟩=>?_);exact h2 pins s1 B1 H1 _ _ Q I1 rr q1
noncomputable def Zw (K:Ac) (n:Nat) (t:sI):TG:=λ v B H Q=>∃ a xs,v=.ref a/\z_ K H a xs/\xs.length=n/\t xs B H Q
def VC {es:List Expr}{k:Nat}{t:sI}{n:Nat}(hc:X.calm=true) (h:tT X es t)
  (hn:(assignEach es X.env).length=n:=by rfl) (AO:(assignEach es X.env).findIdx? (·.1)=none:=by rfl):PG X (.Tuple es k pos) (Zw X.K n t):=by
 intro pins s B H v u Q I r hw;obtain⟨a,xs,e1,hq,hl,hw⟩:=hw;subst e1;cases r;obtain⟨its,rv,ht,hz⟩:=I.tuple hq;refine assign_Tuple_tuple (I.ok.hd hc) ht (by simp[hn,<- hl,rv.length]) AO λ h' hx=>?_;have I1:Inv X pins B H { s with heap:=h' }:=I.kept (t':=s.toks) λ b o e=>hx b o (Aw (Ap e)) e;exact h pins _ B H xs _ Q I1 (by simpa using rv) hw
noncomputable def Q0 (to ti:TE) (t:ej):TG:=λ v B H Q=>to B H λ o H1=>ti B H1 λ i H2=>t o i v H2 λ H3=>Q B H3
def VD {o i:Expr}{to ti:TE}{t:ej}(ho:PE X o to) (hi:PE X i ti) (hs:Y5 X t)
  (ha:∀ v,assign (.Subscript o i pos) X.env v=(do
   let ov <- holding [v] (eval o X.env)
   let iv <- holding [v,ov] (eval i X.env)
   standAt pos
   holding [v,ov,iv] (setItem ov iv v)
   release [v,ov,iv] []):=by intro _;rfl):PG X (.Subscript o i pos) (Q0 to ti t):=by
 intro pins s B H v u Q I r h;rw[ha];refine Ab (wpAny_holding (zG (ho pins s B H _ I h) λ ov s1 ⟨x,H1,I1,r1,q1⟩=>?_));refine Ab (wpAny_holding (zG (hi pins s1 B H1 _ I1 q1) λ iv s2 ⟨y,H2,I2,r2,q2⟩=>?_));refine Ab (wpAny_standAt (Ab (wpAny_holding (zG (hs pins s2 B H2 x y v ov iv u _ I2 r1 r2 r q2) λ _ s3 ⟨H3,I3,q3⟩=>?_))));exact wpAny_release ⟨B,H3,I3,q3⟩
def oS (te:TE) (g:TG):TS:=λ D B H=>te B H λ x H1=>g x B H1 D.nx
def bq {tg e:Expr}{te:TE}{g:TG}(he:PE X e te) (hg:PG X tg g) (hs:swapsWithSole [tg] e pos.line X.env=pure false:=by rfl) (hw:swappedStores [tg] e X.env=pure none:=by rfl)
  (h1:(assignEach [tg] X.env).map (·.2)=[assign tg X.env]:=by rfl):PS X (.Assign [tg] e pos) (oS te g):=by
 intro pins s B H D I h;refine wpAny_Assign_stores (zG (he pins s B H _ I h) λ v s1 ⟨x,H1,I1,r1,q1⟩=>?_) hs hw;rw[h1];exact zG (hg pins s1 B H1 x v _ I1 r1 q1) λ _ s2 q=>q
def Vs {i:Nat}{x:Str}{e:Expr}{te:TE}{pos':Pos}(hN:X.N.Nodup) (hi:X.N[i]?=some x) (hx:Loc X.env.scope x) (he:PE X e te) (hs:swapsWith e (some (.Name x pos')) pos.line X.env=pure false:=by rfl) (hf:X.fn x=true\/X.env.scope.names.lookup x=some .local:=by first | exact .inl rfl | exact .inr rfl | assumption):
  PS X (.Assign [.Name x pos'] e pos) (oS te (pX i)):=by
 intro pins s B H D I h;refine wpAny_Assign_Name (zG (he pins s B H _ I h) λ v s1 ⟨y,H1,I1,r1,q1⟩=>?_) hs;exact jM I1 hN hi hx r1 (λ s2 I2=>⟨_,H1,I2,q1⟩) hf
end
section
variable {X:Cx}{pos:Pos}
def XG (c:TT) (tb:TS):TS:=λ D B H=>∃ W:Nat->St->Hp->Prop,(∃ m,W m B H)/\∀ m B H,W m B H->
 c B H λ b H1=>if b=true then ∃ N:St->Hp->Prop,(∀ B' H',N B' H'->∃ m',m'<m/\W m' B' H')/\tb { D with nx:=N,ct:=N,bk:=D.nx } B H1 else D.nx B H1
def Vq {c:Expr}{body:List Stmt}{tc:TT}{tb:TS}(hp:PassesOwn (model X.prog X.w) X.A X.env X.xe) (hc:PT X c tc) (hb:wg X body tb):PS X (.While c body [] pos) (XG tc tb):=by
 intro pins s B H D I h;obtain⟨W,⟨m0,w0⟩,turn⟩:=h;refine wpAny_While (codeAny_whileLoop (λ n s'=>∃ B' H',Inv X pins B' H' s'/\W n B' H') ?_ m0 ⟨B,H,I,w0⟩);rintro n s1 ⟨B1,H1,I1,w1⟩;refine wpAny_passesOwn hp (zG (hc pins s1 B1 H1 _ I1 (turn n B1 H1 w1)) λ b s2 ⟨H2,I2,q2⟩=>?_);cases b with
 | true=>
  obtain⟨N,hN,q2⟩:=q2;rw[if_pos rfl];refine wpAny_passesOwn hp (zG (hb pins s2 B1 H2 _ I2 q2) λ f s3 q3=>?_);cases f with
  | next=>
   obtain⟨B3,H3,I3,n3⟩:=q3;obtain⟨m',hm,w3⟩:=hN B3 H3 n3;exact⟨m',hm,B3,H3,I3,w3⟩
  | cont=>
   obtain⟨B3,H3,I3,n3⟩:=q3;obtain⟨m',hm,w3⟩:=hN B3 H3 n3;exact⟨m',hm,B3,H3,I3,w3⟩
  | brk=>exact q3
  | ret v=>exact q3
 | false=>
  rw[if_neg BA];exact wpAny_execs_nil ⟨B1,H2,I2,q2⟩
end
structure It where
 go:Nat->Hp->Prop
 qV:Nat->Hp->V->Hp->Prop
 stop:Nat->Hp->Prop
def vX (X:Cx) (pins:List (Addr×Obj)) (H:Hp) (b:Addr):Prop:=
 H b=none/\b≠X.env.locals/\b∉X.fs/\(b∈X.ex\/X.s₀.heap.objs.size<=b)/\(∀ x c,X.env.cells.lookup x=some c->c≠b)/\∀ p∈X.pn++pins,p.1≠b
def Inv.me {X:Cx}{pins:List (Addr×Obj)}{B:St}{H H':Hp}{s:Shared}{b:Addr}(I:Inv X pins B H s) (hb:s.heap.objs.size<=b) (hn:H' b=none):vX X pins H' b:=by
 refine⟨hn,BL (A8 I.lt hb),I.bX hb,.inr (Bl I.sz hb),λ x c e z=>?_,λ p hp z=>?_⟩
 .obtain⟨v,q⟩:=I.cell x c e;exact absurd (A8 q.lt (by rw[z];exact hb)) (BO _)
 .exact absurd (A8 (Ap (I.pin p hp).1) (by rw[z];exact hb)) (BO _)
structure Turn (P:Program) (w:World) (K:Ac) (tg:Expr) (J:It) (fp:List Addr) (it:Addr) (tn:Nat->Heap->Prop):Prop where
 mem:it∈fp
 obj:∀ i h,tn i h->∀ b∈fp,∃ o,h.get? b=some o/\∀ v,o.data≠.cell v
 keep:∀ i h h',tn i h->(∀ b∈fp,∀ o,h.get? b=some o->h'.get? b=some o)->tn i h'
 item:∀ (X:Cx),X.prog=P->X.w=w->X.K=K->X.calm=true->∀ (i:Nat) (pins:List (Addr×Obj)) (s:Shared) (B:St) (H:Hp) (E:Value->Shared->Prop),Inv X pins B H s->(∀ b∈fp,vX X pins H b)->tn i s.heap->J.go i H->
  wpAny (model P w) X.A (pyNext (.ref it)) (λ r s1=>∃ u,r=some u/\
   wpAny (model P w) X.A (letOwnedTupleGo tg (.ref it) u) (λ _ s2=>∃ x H',Inv X pins B H' s2/\RelV x u/\J.qV i H x H'/\tn (i+1) s2.heap/\∀ b∈fp,H' b=none) E s1) E s
 done:∀ (X:Cx),X.prog=P->X.w=w->X.K=K->X.calm=true->∀ (i:Nat) (pins:List (Addr×Obj)) (s:Shared) (B:St) (H:Hp) (E:Value->Shared->Prop),Inv X pins B H s->(∀ b∈fp,vX X pins H b)->tn i s.heap->J.stop i H->
  wpAny (model P w) X.A (pyNext (.ref it)) (λ r s1=>r=none/\Inv X pins B H s1) E s
 self:∀ (A:Around) (i:Nat) (s:Shared) (Q:Value->Shared->Prop) (E:Value->Shared->Prop),tn i s.heap->Q (.ref it) s->wpAny (model P w) A (pyIter (.ref it)) Q E s
abbrev TI:=St->Hp->(It->Hp->Prop)->Prop
def el (X:Cx) (pins:List (Addr×Obj)) (B:St) (tg:Expr) (R:It->Hp->Prop) (itv:Value) (s2:Shared):Prop:=
 ∃ (it:Addr) (fp:List Addr) (tn:Nat->Heap->Prop) (J:It) (H':Hp),itv=.ref it/\Inv X pins B H' s2/\Turn X.prog X.w X.K tg J fp it tn/\tn 0 s2.heap/\(∀ b∈fp,vX X pins H' b)/\R J H'
def PI (X:Cx) (tg iter:Expr) (wi:TI):Prop:=
 ∀ (pins:List (Addr×Obj)) (s:Shared) (B:St) (H:Hp) (R:It->Hp->Prop),Inv X pins B H s->wi B H R->
  wpAny (model X.prog X.w) X.A (eval iter X.env) (λ v s1=>wpAny (model X.prog X.w) X.A (pyIter v) (el X pins B tg R) X.xe s1) X.xe s
def kN {M:Model}{A:Around}{E:Value->Shared->Prop}{s:Shared}{tg:Expr}{it:Addr}{u:Value}{o:Obj}{n:String}{vs:Array Value}{Q:Unit->Shared->Prop}(ho:s.heap.get? it=some o) (hc:o.cls=.type n) (hd:o.data=.fields vs)
  (hn:["enumerate","zip","dict_itemiterator","dict_reverseitemiterator","odict_iterator","itertools.zip_longest","itertools.pairwise"].contains n=false) (hQ:Q () s):wpAny M A (letOwnedTupleGo tg (.ref it) u) Q E s:=by
 unfold letOwnedTupleGo;cases tg <;> first
  | exact Ad hQ
  | (cases u <;> first
    | exact Ad hQ
    | (refine Ab (wpAny_load ho ?_)
       rw[hc,hd];show wpAny M A (if (["enumerate","zip","dict_itemiterator","dict_reverseitemiterator","odict_iterator","itertools.zip_longest","itertools.pairwise"].contains n&&vs[0]? == some (rawInt _))=true then _ else _) Q E s;rw[if_neg (by intro h;rw[hn,Bool.false_and] at h;cases h)];exact Ad hQ))
def YA (K:Ac) (a:Addr):It:=
 ⟨λ i H=>∃ xs x,zO K H a xs/\xs[i]?=some x,λ i H x H'=>H'=H/\∀ xs,zO K H a xs->xs[i]?=some x,λ i H=>∃ xs,zO K H a xs/\xs.length<=i⟩
def Y9 (K:Ac) (a:Addr):It:=
 ⟨λ i H=>∃ xs x,z_ K H a xs/\xs[i]?=some x,λ i H x H'=>H'=H/\∀ xs,z_ K H a xs->xs[i]?=some x,λ i H=>∃ xs,z_ K H a xs/\xs.length<=i⟩
def jq (lo:Int) (n:Nat):It:=⟨λ i _=>i<n,λ i H x H'=>H'=H/\x=.int (lo+i),λ i _=>n<=i⟩
def XA {P:Program}{w:World}{K:Ac}{tg:Expr}(a it:Addr):Turn P w K tg (YA K a) [it] it (λ i h=>h.IsListIter it a i) where
 mem:=by simp
 obj:=λ i h st b hb=>by
  have e:b=it:=by simpa using hb
  subst e;obtain⟨o,e,c,d⟩:=st;exact⟨o,e,λ v z=>by rw[d] at z;cases z⟩
 keep:=λ i h h' st k=>st.at λ o e=>k it (by simp) o e
 item:=by
  intro X hP hw hK hc i pins s B H E I hf st hg;subst hP hw hK;obtain⟨xs,x,hq,hx⟩:=hg;obtain⟨its,rv,p,hz⟩:=I.list hq;obtain⟨u,hu,ru⟩:=rv.get hx;obtain⟨f0,f1,f2,f3,f4,f5⟩:=hf it (by simp);refine wpAny_pyNext_list_item st p.isList (x:=u) (by simpa using hu) λ h' st' sb=>?_;have I1:Inv X pins B H { s with heap:=h' }:=I.turned (t':=s.toks) (λ b o hb e=>(sb.2 b hb).trans e) f0 f1 f3 f4 f5;obtain⟨o,e,c,d⟩:=id st';exact⟨u,rfl,kN (s:={ s with heap:=h' }) e c d (by decide) ⟨x,H,I1,ru,⟨rfl,λ ys hy=>by rw[I.gE hy hq];exact hx⟩,st',λ b hb=>(hf b hb).1⟩⟩
 done:=by
  intro X hP hw hK hc i pins s B H E I hf st hg;subst hP hw hK;obtain⟨xs,hq,hx⟩:=hg;obtain⟨its,rv,p,hz⟩:=I.list hq;obtain⟨f0,f1,f2,f3,f4,f5⟩:=hf it (by simp);have hl:=rv.length;exact wpAny_pyNext_list_end (I.ok.hd hc) st p.isList (by simp;lia) λ h' eb=>⟨rfl,I.turned (t':=s.toks) (λ b o hb e=>eb b o hb e) f0 f1 f3 f4 f5⟩
 self:=λ _ _ _ _ _ st h=>wpAny_pyIter_listiter st h
def X7 {P:Program}{w:World}{K:Ac}{tg:Expr}(a it:Addr):Turn P w K tg (Y9 K a) [it] it (λ i h=>h.IsTupleIter it a i) where
 mem:=by simp
 obj:=λ i h st b hb=>by
  have e:b=it:=by simpa using hb
  subst e;obtain⟨o,e,c,d⟩:=st;exact⟨o,e,λ v z=>by rw[d] at z;cases z⟩
 keep:=λ i h h' st k=>st.at λ o e=>k it (by simp) o e
 item:=by
  intro X hP hw hK hc i pins s B H E I hf st hg;subst hP hw hK;obtain⟨xs,x,hq,hx⟩:=hg;obtain⟨its,rv,p,hz⟩:=I.tuple hq;obtain⟨u,hu,ru⟩:=rv.get hx;obtain⟨f0,f1,f2,f3,f4,f5⟩:=hf it (by simp);refine wpAny_pyNext_tuple_item st (show s.heap.IsTuple a its.toArray from p) (x:=u) (by simpa using hu) λ h' st' sb=>?_;have I1:Inv X pins B H { s with heap:=h' }:=I.turned (t':=s.toks) (λ b o hb e=>(sb.2 b hb).trans e) f0 f1 f3 f4 f5;obtain⟨o,e,c,d⟩:=id st';exact⟨u,rfl,kN (s:={ s with heap:=h' }) e c d (by decide) ⟨x,H,I1,ru,⟨rfl,λ ys hy=>by rw[I.jF hy hq];exact hx⟩,st',λ b hb=>(hf b hb).1⟩⟩
 done:=by
  intro X hP hw hK hc i pins s B H E I hf st hg;subst hP hw hK;obtain⟨xs,hq,hx⟩:=hg;obtain⟨its,rv,p,hz⟩:=I.tuple hq;obtain⟨f0,f1,f2,f3,f4,f5⟩:=hf it (by simp);have hl:=rv.length;exact wpAny_pyNext_tuple_end (I.ok.hd hc) st (show s.heap.IsTuple a its.toArray from p) (by simp;lia) λ h' eb=>⟨rfl,I.turned (t':=s.toks) (λ b o hb e=>eb b o hb e) f0 f1 f3 f4 f5⟩
 self:=λ _ _ _ _ _ st h=>wpAny_pyIter_tupleiter st h
def X9 {P:Program}{w:World}{K:Ac}{tg:Expr}(it:Addr) (lo:Int) (n:Nat):Turn P w K tg (jq lo n) [it] it (λ i h=>IsRangeIter h it (lo+(i:Nat)*1) ((n:Int)-(i:Nat)) 1) where
 mem:=by simp
 obj:=λ i h st b hb=>by
  have e:b=it:=by simpa using hb
  subst e;exact⟨_,st,λ v z=>by
   have z':Data.fields _=Data.cell v:=z;cases z'⟩
 keep:=λ i h h' st k=>k it (by simp) _ st
 item:=by
  intro X hP hw hK hc i pins s B H E I hf st hg;subst hP hw hK;obtain⟨f0,f1,f2,f3,f4,f5⟩:=hf it (by simp);have W:=Walks.range (prog:=X.prog) (w:=X.w) (I.ok.hd hc) it lo 1 n;refine W.item i s _ _ hg st λ v h' tk hv st' kk=>?_;obtain⟨t,rfl⟩:=hv;have I1:Inv X pins B H { s with heap:=h',toks:=tk }:=I.turned (λ b o hb e=>kk b o (by simpa using hb) e) f0 f1 f3 f4 f5;refine⟨_,rfl,kN (s:={ s with heap:=h',toks:=tk }) (n:="range_iterator") st' rfl rfl (by decide) ⟨.int (lo+i),H,I1,⟨t,?_⟩,⟨rfl,rfl⟩,st',λ b hb=>(hf b hb).1⟩⟩;rw[Int.mul_one]
 done:=by
  intro X hP hw hK hc i pins s B H E I hf st hg;subst hP hw hK;obtain⟨f0,f1,f2,f3,f4,f5⟩:=hf it (by simp);exact wpAny_pyNext_range_end (I.ok.hd hc) st (by have:n<=i:=hg;lia) λ h' eb=>⟨rfl,I.turned (t':=s.toks) (λ b o hb e=>eb b o hb e) f0 f1 f3 f4 f5⟩
 self:=λ _ _ _ _ _ st h=>wpAny_pyIter_rangeiter st h
section
variable {X:Cx}{tg:Expr}
def WW {pins:List (Addr×Obj)}{B:St}{H:Hp}{s:Shared}{R:It->Hp->Prop}{E:Value->Shared->Prop}{lo hi:Int}{t u v:Tok}{tk:Nat}(I:Inv X pins B H s) (h1:-(2 ^ 62)<=lo) (h2:lo<2 ^ 62) (h3:-(2 ^ 62)<=hi) (h4:hi<2 ^ 62)
  (q:R (jq lo (hi-lo).toNat) H):wpAny (model X.prog X.w) X.A (pyIter (.ref s.heap.objs.size)) (el X pins B tg R) E { s with heap:=s.heap.push { cls:=.type "range",data:=.fields #[.int lo t,.int hi u,.int 1 v] },toks:=tk }:=by
 refine wpAny_pyIter_range (IsRange.new ..) (small_one h1 h2 h3 h4) ?_;have I1:Inv X pins B H { s with heap:=s.heap.push { cls:=.type "range",data:=.fields #[.int lo t,.int hi u,.int 1 v] },toks:=tk }:=I.kept λ b o e=>Ao _ e;refine⟨(s.heap.push { cls:=.type "range",data:=.fields #[.int lo t,.int hi u,.int 1 v] }).objs.size,[(s.heap.push { cls:=.type "range",data:=.fields #[.int lo t,.int hi u,.int 1 v] }).objs.size],_,_,H,rfl,
  I1.kept (t':=tk) λ b o e=>Ao _ e,X9 _ lo (hi-lo).toNat,?_,λ b hb=>?_,q⟩
 .have e1:lo+((0:Nat):Int)*1=lo:=by simp
  have e2:(((hi-lo).toNat:Nat):Int)-((0:Nat):Int)=Builtin.Range.rangeSize lo hi 1:=by rw[rangeSize_one];split <;> lia
  show IsRangeIter _ _ (lo+((0:Nat):Int)*1) ((((hi-lo).toNat:Nat):Int)-((0:Nat):Int)) 1;rw[e1,e2];exact AE _ rfl
 .have e:b=(s.heap.push { cls:=.type "range",data:=.fields #[.int lo t,.int hi u,.int 1 v] }).objs.size:=by simpa using hb
  subst e;exact I1.me (Ag _) (I1.zx.fresh (Ag _))
def Zo (ta:TA):TI:=fun B H R=>ta B H λ vs H1=>∃ j:Int,vs=[.int j]/\-(2 ^ 62)<=j/\j<2 ^ 62/\R (jq 0 j.toNat) H1
def V8 {a:Expr}{ta:TA}{p pos:Pos}(hg:Gl X "range") (hm:X.mg "range"=none) (ha:PA X [a] ta) (hs:starEach [a] X.env=[(false,eval a X.env)]:=by rfl):PI X tg (.Call (.Name "range" p) [a] [] pos) (Zo ta):=by
 intro pins s B H R I h;refine Call_ (rD I hg hm boot_range (PyProof.Rows.callWith_type1 (zG (ha pos pins s B H _ I h) λ us s1 ⟨vs,H1,I1,r1,q1⟩=>?_) hs rfl));obtain⟨j,e,q1,q2,q⟩:=q1;subst e;cases r1 with
 | cons r rr=>
  cases rr;obtain⟨t,rfl⟩:=r;exact call_range_1 (WW I1 (by lia) (by lia) q1 q2 (by simpa using q))
def XX (wi:TI) (g:TG) (tb:TS):TS:=λ D B H=>wi B H λ J H1=>∃ W:Nat->Nat->St->Hp->Prop,(∃ m,W 0 m B H1)/\∀ i m B H,W i m B H->
 (J.stop i H/\D.nx B H)\/(J.go i H/\∃ N:St->Hp->Prop,(∀ B' H',N B' H'->∃ m',m'<m/\W (i+1) m' B' H')/\∀ x H',J.qV i H x H'->g x B H' fun B2 H2=>tb { D with nx:=N,ct:=N,bk:=D.nx } B2 H2)
noncomputable def ni (fp:List Addr) (h:Heap):List (Addr×Obj):=fp.filterMap λ b=>(h.get? b).map λ o=>(b,o)
def k8 {fp:List Addr}{h:Heap}{b:Addr}{o:Obj}(hb:b∈fp) (e:h.get? b=some o):(b,o)∈ni fp h:=DU.mpr ⟨b,hb,by rw[e];rfl⟩
def S7 {fp:List Addr}{h:Heap}{p:Addr×Obj}(hp:p∈ni fp h):p.1∈fp/\h.get? p.1=some p.2:=by
 obtain⟨b,hb,e⟩:=DU.mp hp;cases q:h.get? b with
 | none=>rw[q] at e;cases e
 | some o=>
  rw[q] at e;have e':(b,o)=p:=A4 e;subst e';exact⟨hb,q⟩
def Inv.pinned {pins:List (Addr×Obj)}{B:St}{H:Hp}{s:Shared}{fp:List Addr}(I:Inv X pins B H s) (hf:∀ b∈fp,vX X pins H b) (ho:∀ b∈fp,∃ o,s.heap.get? b=some o/\∀ v,o.data≠.cell v):Inv X (pins++ni fp s.heap) B H s:=
 I.iK λ p hp=>(AZ.mp hp).elim (λ z=>I.pin p (AV _ z)) λ z=>by
  obtain⟨hb,e⟩:=S7 z;obtain⟨f0,f1,f2,_⟩:=hf p.1 hb;obtain⟨o,e',d⟩:=ho p.1 hb;rw[e] at e';cases e';exact⟨e,f0,f1,f2,d⟩
def Inv.oO {pins pl:List (Addr×Obj)}{B:St}{H:Hp}{s:Shared}(I:Inv X (pins++pl) B H s):Inv X pins B H s:=I.iK λ p hp=>I.pin p (AV _ (Cb _ hp))
def Vv {iter:Expr}{body:List Stmt}{wi:TI}{g:TG}{tb:TS}{pos:Pos}(hp:PassesOwn (model X.prog X.w) X.A X.env X.xe) (hc:X.calm=true) (hi:PI X tg iter wi) (hg:PG X tg g) (hb:wg X body tb)
  (hs:∀ x,foldedSetIterable iter X.env x=pure x:=by intro _;rfl):PS X (.For tg iter body [] pos) (XX wi g tb):=by
 intro pins s B H D I h;refine wpAny_For (zG (hi pins s B H _ I h) λ v s1 h1=>zG h1 λ itv s2 h2=>?_) hs;obtain⟨it,fp,tn,J,H2,e,I2,T,st2,f2,W,⟨m0,w0⟩,turn⟩:=h2;subst e;have stat:∀ {H':Hp},(∀ b∈fp,H' b=none)->∀ b∈fp,vX X pins H' b:=λ hn b hb=>⟨hn b hb,(f2 b hb).2⟩;refine codeAny_forLoop_any (λ n s'=>∃ i B' H',Inv X pins B' H' s'/\tn i s'.heap/\(∀ b∈fp,H' b=none)/\W i n B' H') ?_ m0 ⟨0,B,H2,I2,st2,λ b hb=>(f2 b hb).1,w0⟩;rintro n s3 ⟨i,B3,H3,I3,st3,fr3,w3⟩;rcases turn i n B3 H3 w3 with ⟨stop,qn⟩ | ⟨go,N,hN,step⟩
 .refine wpAny_passesOwn hp (zG (T.done X rfl rfl rfl hc i pins s3 B3 H3 X.xe I3 (stat fr3) st3 stop) λ r s4 ⟨hr,I4⟩=>?_);subst hr;exact wpAny_execs_nil ⟨B3,H3,I4,qn⟩
 .refine wpAny_passesOwn hp (zG (T.item X rfl rfl rfl hc i pins s3 B3 H3 X.xe I3 (stat fr3) st3 go) λ r s4 ⟨u,hr,h4⟩=>?_);subst hr;refine wpAny_passesOwn hp (zG h4 λ _ s5 ⟨x,H5,I5,r5,y5,st5,fr5⟩=>?_);have I5':=I5.pinned (stat fr5) (T.obj _ _ st5);refine wpAny_passesOwn hp (zG (hg _ s5 B3 H5 x u _ I5' r5 (step x H5 y5)) λ _ s6 ⟨B6,H6,I6,q6⟩=>?_);refine wpAny_passesOwn hp (zG (hb _ s6 B6 H6 _ I6 q6) λ f s7 q7=>?_);have again:∀ {B7:St}{H7:Hp},Inv X (pins++ni fp s5.heap) B7 H7 s7->N B7 H7->∃ m,m<n/\∃ i B' H',Inv X pins B' H' s7/\tn i s7.heap/\(∀ b∈fp,H' b=none)/\W i m B' H':=λ{B7 H7} I7 n7=>by
   obtain⟨m',hm,w7⟩:=hN B7 H7 n7;refine⟨m',hm,i+1,B7,H7,I7.oO,T.keep _ _ _ st5 λ b hb o e=>(I7.pin (b,o) (AV _ (AV _ (k8 hb e)))).1,λ b hb=>?_,w7⟩;obtain⟨o,e,d⟩:=T.obj _ _ st5 b hb;exact (I7.pin (b,o) (AV _ (AV _ (k8 hb e)))).2.1
  cases f with
  | next=>obtain⟨B7,H7,I7,n7⟩:=q7;exact again I7 n7
  | cont=>obtain⟨B7,H7,I7,n7⟩:=q7;exact again I7 n7
  | brk=>obtain⟨B7,H7,I7,q7⟩:=q7;exact⟨B7,H7,I7.oO,q7⟩
  | ret v=>obtain⟨x7,B7,H7,I7,r7,q7⟩:=q7;exact⟨x7,B7,H7,I7.oO,r7,q7⟩
end
abbrev R2:=V->V->Hp->VK->Prop
def yj (X:Cx) (f:Value->Value->Sem Value) (r:R2):Prop:=
 ∀ (pins:List (Addr×Obj)) (s:Shared) (B:St) (H:Hp) (x y:V) (v u:Value) (Q:VK),Inv X pins B H s->RelV x v->RelV y u->r x y H Q->
  wpAny (model X.prog X.w) X.A (f v u) (EP X pins B Q) X.xe s
def eh (X:Cx) (f:Value->Sem Value) (r:V->Hp->VK->Prop):Prop:=
 ∀ (pins:List (Addr×Obj)) (s:Shared) (B:St) (H:Hp) (x:V) (v:Value) (Q:VK),Inv X pins B H s->RelV x v->r x H Q->
  wpAny (model X.prog X.w) X.A (f v) (EP X pins B Q) X.xe s
def yK (X:Cx) (f:Value) (r:List V->Hp->VK->Prop):Prop:=
 ∀ (pins:List (Addr×Obj)) (s:Shared) (B:St) (H:Hp) (xs:List V) (us:List Value) (Q:VK),Inv X pins B H s->Vals xs us->r xs H Q->
  wpAny (model X.prog X.w) X.A (call f us) (EP X pins B Q) X.xe s
def O5 (X:Cx) (r:V->Hp->(Bool->Hp->Prop)->Prop):Prop:=
 ∀ (pins:List (Addr×Obj)) (s:Shared) (B:St) (H:Hp) (x:V) (v:Value) (Q:Bool->Hp->Prop),Inv X pins B H s->RelV x v->r x H Q->
  wpAny (model X.prog X.w) X.A (truthy v) (TP X pins B Q) X.xe s
def oP (r:R2) (ta tb:TE):TE:=fun B H Q=>ta B H λ x H1=>tb B H1 λ y H2=>r x y H2 Q
def XH (r:V->Hp->VK->Prop) (ta:TE):TE:=fun B H Q=>ta B H λ x H1=>r x H1 Q
def rI (C:Int->Int->Prop) (g:Int->Int->V):R2:=λ x y H Q=>∃ i j,x=.int i/\y=.int j/\C i j/\Q (g i j) H
def vM (g:Int->Int->V):R2:=λ x y H Q=>∃ i j,x=.int i/\y=.int j/\Q (g i j) H
def rU (g:Int->V):V->Hp->VK->Prop:=λ x H Q=>∃ i,x=.int i/\Q (g i) H
section
variable {X:Cx}{a b c:Expr}{ta tb tc:TE}{pos:Pos}
def fQ (ha:PE X a ta) (hb:PE X b tb) {pins:List (Addr×Obj)}{s:Shared}{B:St}{H:Hp}{R:V->V->Hp->Prop}(I:Inv X pins B H s)
  (h:ta B H λ x H1=>tb B H1 λ y H2=>R x y H2) {Q:Value->Shared->Prop}{f:Value->Value->Sem Value}
  (hf:∀ v u s2 x y H2,Inv X pins B H2 s2->RelV x v->RelV y u->R x y H2->wpAny (model X.prog X.w) X.A (f v u) Q X.xe s2):
  wpAny (model X.prog X.w) X.A (eval a X.env) (λ v s₁=>wpAny (model X.prog X.w) X.A (eval b X.env) (λ u s₂=>wpAny (model X.prog X.w) X.A (f v u) Q X.xe s₂) X.xe s₁) X.xe s:=by
 refine zG (ha pins s B H _ I h) λ v s1 ⟨x,H1,I1,r1,q1⟩=>?_;refine zG (hb pins s1 B H1 _ I1 q1) λ u s2 ⟨y,H2,I2,r2,q2⟩=>?_;exact hf v u s2 x y H2 I2 r1 r2 q2
def VN {op:Operator}{r:R2}(ho:yj X (binaryOp op) r) (ha:PE X a ta) (hb:PE X b tb):PE X (.BinOp a op b pos) (oP r ta tb):=by
 intro pins s B H Q I h;exact wpAny_BinOp (fQ ha hb I h λ v u s2 x y H2 I2 rx ry q=>ho pins s2 B H2 x y v u Q I2 rx ry q)
def VJ {op:UnaryOp}{r:V->Hp->VK->Prop}(ho:eh X (unaryOp op) r) (ha:PE X a ta):PE X (.UnaryOp op a pos) (XH r ta):=by
 intro pins s B H Q I h;exact UnaryOp_ (zG (ha pins s B H _ I h) λ v s1 ⟨x,H1,I1,r1,q1⟩=>ho pins s1 B H1 x v Q I1 r1 q1)
def pD {f:Value->Value->Sem Value}{C:Int->Int->Prop}{g:Int->Int->Int}
  (rule:∀ (i j:Int) (t u:Tok) (s:Shared) (Q:Value->Shared->Prop) (E:Value->Shared->Prop),C i j->Q (.int (g i j) s.toks) { s with toks:=s.toks+1 }->wpAny (model X.prog X.w) X.A (f (.int i t) (.int j u)) Q E s):
  yj X f (rI C λ i j=>.int (g i j)):=by
 intro pins s B H x y v u Q I rx ry h;obtain⟨i,j,rfl,rfl,hc,q⟩:=h;obtain⟨t,rfl⟩:=rx;obtain⟨t',rfl⟩:=ry;exact rule i j t t' s _ _ hc ⟨.int (g i j),H,I.tok _,⟨_,rfl⟩,q⟩
def bL {f:Value->Value->Sem Value}{g:Int->Int->Int}
  (rule:∀ (i j:Int) (t u:Tok) (s:Shared) (Q:Value->Shared->Prop) (E:Value->Shared->Prop),Q (.int (g i j) s.toks) { s with toks:=s.toks+1 }->wpAny (model X.prog X.w) X.A (f (.int i t) (.int j u)) Q E s):
  yj X f (vM λ i j=>.int (g i j)):=by
 intro pins s B H x y v u Q I rx ry h;obtain⟨i,j,rfl,rfl,q⟩:=h;obtain⟨t,rfl⟩:=rx;obtain⟨t',rfl⟩:=ry;exact rule i j t t' s _ _ ⟨.int (g i j),H,I.tok _,⟨_,rfl⟩,q⟩
def hJ {f:Value->Value->Sem Value}{g:Int->Int->Bool}
  (rule:∀ (i j:Int) (t u:Tok) (s:Shared) (Q:Value->Shared->Prop) (E:Value->Shared->Prop),Q (.bool (g i j)) s->wpAny (model X.prog X.w) X.A (f (.int i t) (.int j u)) Q E s):
  yj X f (vM λ i j=>.bl (g i j)):=by
 intro pins s B H x y v u Q I rx ry h;obtain⟨i,j,rfl,rfl,q⟩:=h;obtain⟨t,rfl⟩:=rx;obtain⟨t',rfl⟩:=ry;exact rule i j t t' s _ _ ⟨.bl (g i j),H,I,rfl,q⟩
def xE (i j:Int):Prop:=0<j/\j<1073741824
def qb (i j:Int):Prop:=0<=j/\j<=1000000/\i.natAbs<2 ^ 64
def vH (i j:Int):Prop:=(-(2 ^ 64)<i/\i<2 ^ 64)\/(-(2 ^ 64)<j/\j<2 ^ 64)
def vH.ok {i j:Int}(h:vH i j):IntMulOk i j:=by
 rcases h with ⟨h1,h2⟩ | ⟨h1,h2⟩
 .exact .of_left (intBits_le_64 h1 h2)
 .exact .of_right (intBits_le_64 h1 h2)
def Te:yj X (binaryOp .Add) (vM λ i j=>.int (i+j)):=bL λ _ _ _ _ _ _ _ q=>add_int q
def UG:yj X (binaryOp .Sub) (vM λ i j=>.int (i-j)):=bL λ _ _ _ _ _ _ _ q=>sub_int q
def UO:yj X (binaryOp .Mult) (rI vH λ i j=>.int (i*j)):=pD λ _ _ _ _ _ _ _ hc q=>mul_int q hc.ok
def UZ:yj X (binaryOp .FloorDiv) (rI xE λ i j=>.int (i/j)):=pD λ i j _ _ _ _ _ hc q=>by
 have h1:(0:Int)<j:=hc.1;have h2:j<1073741824:=hc.2;exact floordiv_int (by lia) (by rw[Int.fdiv_eq_ediv_of_nonneg i (by lia)];exact q) (.inl (PyProof.noPylong_small (by lia)))
def UP:yj X (binaryOp .Mod) (rI (λ _ j=>0<j) λ i j=>.int (i%j)):=pD λ i j _ _ _ _ _ hc q=>by
 have h1:(0:Int)<j:=hc;exact mod_int' (by lia) (by rw[Int.fmod_eq_emod_of_nonneg i (by lia)];exact q)
def UH:yj X (binaryOp .Pow) (rI qb λ i j=>.int (i ^ j.toNat)):=pD λ _ _ _ _ _ _ _ hc q=>pow_int_small hc.1 hc.2.1 hc.2.2 q
def X3 {f:Value->Sem Value}{g:Int->Int}
  (rule:∀ (i:Int) (t:Tok) (s:Shared) (Q:Value->Shared->Prop) (E:Value->Shared->Prop),Q (.int (g i) s.toks) { s with toks:=s.toks+1 }->wpAny (model X.prog X.w) X.A (f (.int i t)) Q E s):
  eh X f (rU λ i=>.int (g i)):=by
 intro pins s B H x v Q I rx h;obtain⟨i,rfl,q⟩:=h;obtain⟨t,rfl⟩:=rx;exact rule i t s _ _ ⟨.int (g i),H,I.tok _,⟨_,rfl⟩,q⟩
def X2:eh X (unaryOp .USub) (rU λ i=>.int (-i)):=X3 λ _ _ _ _ _ q=>neg_int q
end
section
variable {X:Cx}{a b c:Expr}{ta tb tc:TE}{pos:Pos}
def Z4 {pins:List (Addr×Obj)}{B:St}{H:Hp}{s:Shared}{Q:VK}{k k':Bool}(I:Inv X pins B H s) (q:Q (.bl k) H) (e:k=k'):EP X pins B Q (.bool k') s:=by
 subst e;exact⟨.bl k,H,I,rfl,q⟩
def US:yj X (compareOp .Lt) (vM λ i j=>.bl (decide (i<j))):=hJ λ _ _ _ _ _ _ _ q=>lt_int q
def hG:yj X (compareOp .LtE) (vM λ i j=>.bl (decide (i<=j))):=hJ λ _ _ _ _ _ _ _ q=>le_int q
def UX:yj X (compareOp .GtE) (vM λ i j=>.bl (decide (j<=i))):=hJ λ _ _ _ _ _ _ _ q=>ge_int q
def UT:yj X (compareOp .Is) (λ x y H Q=>y=.zi/\Q (.bl (decide (x=.zi))) H):=by
 intro pins s B H x y v u Q I rx ry h;obtain⟨rfl,q⟩:=h;cases ry;refine is_none_gen (Z4 I q ?_);cases x <;> first
  | (cases rx;rfl)
  | (obtain⟨t,rfl⟩:=rx;rfl)
def UI:yj X (compareOp .IsNot) (λ x y H Q=>y=.zi/\Q (.bl (!decide (x=.zi))) H):=by
 intro pins s B H x y v u Q I rx ry h;obtain⟨rfl,q⟩:=h;cases ry;refine isnot_none_gen (Z4 I q ?_);cases x <;> first
  | (cases rx;rfl)
  | (obtain⟨t,rfl⟩:=rx;rfl)
def yj.or {f:Value->Value->Sem Value}{r r':R2}(h:yj X f r) (h':yj X f r'):yj X f (λ x y H Q=>r x y H Q\/r' x y H Q):=by
 intro pins s B H x y v u Q I rx ry q;rcases q with q | q
 .exact h pins s B H x y v u Q I rx ry q
 .exact h' pins s B H x y v u Q I rx ry q
def qt (b:Expr) {op:CmpOp}(h:op≠.In:=by decide) (h2:op≠.NotIn:=by decide):behindInMarks op b=false:=by
 have e1:(op == CmpOp.In)=false:=by cases op <;> first | rfl | exact absurd rfl h
 have e2:(op == CmpOp.NotIn)=false:=by cases op <;> first | rfl | exact absurd rfl h2
 cases b <;> simp[behindInMarks,e1,e2]
def Ua {op:CmpOp}{r:R2}(ho:yj X (compareOp op) r) (ha:PE X a ta) (hb:PE X b tb) (hm:behindInMarks op b=false):PE X (.Compare a [op] [b] pos) (oP r ta tb):=by
 intro pins s B H Q I h;exact wpAny_Compare1 (fQ ha hb I h λ v u s2 x y H2 I2 rx ry q=>ho pins s2 B H2 x y v u Q I2 rx ry q) hm
def XJ (t:TE):TT:=fun B H Q=>t B H λ x H'=>∃ k,x=.bl k/\Q k H'
def Vm {op:CmpOp}{r:R2}(ho:yj X (compareOp op) r) (ha:PE X a ta) (hb:PE X b tb) (hm:behindInMarks op b=false):PT X (.Compare a [op] [b] pos) (XJ (oP r ta tb)):=by
 intro pins s B H Q I h;refine wpAny_isTrue_Compare1 (zG (ha pins s B H _ I h) λ v s1 ⟨x,H1,I1,r1,q1⟩=>zG (hb pins s1 B H1 _ I1 q1) λ u s2 ⟨y,H2,I2,r2,q2⟩=>
  zG (ho pins s2 B H2 x y v u _ I2 r1 r2 q2) λ c s3 ⟨z,H3,I3,r3,k,e,q3⟩=>?_) hm
 subst e;cases r3;exact wpAny_truthy_bool ⟨H3,I3,q3⟩
def cy (r r':R2) (ta tb tc:TE):TE:=fun B H Q=>ta B H λ x H1=>tb B H1 λ y H2=>r x y H2 λ z H3=>∃ k,z=.bl k/\
 (if k=true then tc B H3 λ w' H4=>r' y w' H4 Q else Q (.bl false) H3)
def Ub {op op':CmpOp}{r r':R2}(ho:yj X (compareOp op) r) (ho':yj X (compareOp op') r') (ha:PE X a ta) (hb:PE X b tb) (hc:PE X c tc)
  (hm:lastMarks [op,op'] [b,c]=false:=by with_unfolding_all rfl):PE X (.Compare a [op,op'] [b,c] pos) (cy r r' ta tb tc):=by
 intro pins s B H Q I h;refine Compare_chain (zG (ha pins s B H _ I h) λ v s1 ⟨x,H1,I1,r1,q1⟩=>chain_link (zG (hb pins s1 B H1 _ I1 q1) λ u s2 ⟨y,H2,I2,r2,q2⟩=>
  zG (ho pins s2 B H2 x y v u _ I2 r1 r2 q2) λ d s3 ⟨z,H3,I3,r3,k,e,q3⟩=>?_)) hm
 subst e;cases r3;refine wpAny_truthy_bool ?_;cases k with
 | false=>exact ite_ff ⟨.bl false,H3,I3,rfl,q3⟩
 | true=>exact ite_tt (chain_last (zG (hc pins s3 B H3 _ I3 q3) λ w' s4 ⟨z',H4,I4,r4,q4⟩=>ho' pins s4 B H4 y z' u w' Q I4 r2 r4 q4))
def ei (K:Ac) (x:V) (H:Hp) (k:Bool):Prop:=
 match x with
 | .zi=>k=false
 | .bl b=>k=b
 | .int i=>k=(i != 0)
 | .str y=>y.length<=sizeLine/\k=((y.length:Int) != 0)
 | .oh y=>y.size<=sizeLine/\k=((y.size:Int) != 0)
 | .ref p=>(∃ xs,zO K H p xs/\k=!xs.isEmpty)\/(∃ xs,z_ K H p xs/\k=!xs.isEmpty)\/∃ Aa,H p=some (.dK Aa)/\k=!Aa.isEmpty
 | _=>False
def RY {κ:Type}{Aa:List (κ × V)}{vs:List (κ × Value)}(r:KV Aa vs):(!vs.isEmpty)=!Aa.isEmpty:=by
 cases r <;> rfl
def Zc {xs:List V}{its:List Value}(r:Vals xs its):(!its.toArray.isEmpty)=!xs.isEmpty:=by
 cases r <;> simp
def qw:(sizeLine:Nat)<2 ^ 63:=by rw[sizeLine_eq];decide
def XE:O5 X (λ x H Q=>∃ k,ei X.K x H k/\Q k H):=by
 intro pins s B H x v Q I rx h;obtain⟨k,e,q⟩:=h;have hl:=qw;have hs:sizeLine=16777216:=sizeLine_eq;cases x with
 | zi=>
  cases rx;have e':k=false:=e;subst e';exact truthy_none ⟨H,I,q⟩
 | bl b=>
  cases rx;have e':k=b:=e;subst e';exact wpAny_truthy_bool ⟨H,I,q⟩
 | int i=>
  obtain⟨t,rfl⟩:=rx;have e':k=(i != 0):=e;subst e';exact PySem.P.truthy_int ⟨H,I,q⟩
 | str y=>
  obtain⟨t,rfl⟩:=rx;obtain⟨hy,e'⟩:y.length<=sizeLine/\k=((y.length:Int) != 0):=e;subst e';exact PySem.P.truthy_str (by lia) ⟨H,I.tok _,q⟩
 | oh y=>
  obtain⟨t,rfl⟩:=rx;obtain⟨hy,e'⟩:y.size<=sizeLine/\k=((y.size:Int) != 0):=e;subst e';exact PySem.W.truthy_bytes (by lia) ⟨H,I.tok _,q⟩
 | ref p=>
  cases rx;have e':(∃ xs,zO X.K H p xs/\k=!xs.isEmpty)\/(∃ xs,z_ X.K H p xs/\k=!xs.isEmpty)\/∃ Aa,H p=some (.dK Aa)/\k=!Aa.isEmpty:=e;rcases e' with ⟨xs,hx,e'⟩ | ⟨xs,hx,e'⟩ | ⟨Aa,hx,e'⟩
  .subst e';obtain⟨its,r,pl,hz⟩:=I.list hx;have hlen:=r.length;exact wpAny_truthy_list pl.isList (by simp only[Av];lia) ⟨H,I.tok _,by rw[Zc r];exact q⟩
  .subst e';obtain⟨its,r,pl,hz⟩:=I.tuple hx;have hlen:=r.length;exact truthy_tuple pl (by simp only[Av];lia) ⟨H,I.tok _,by rw[Zc r];exact q⟩
  .subst e';obtain⟨hz,hS,vs,r,m⟩:Aa.length<=sizeLine/\(p == sysModules)=false/\∃ vs,KV Aa vs/\s.heap.DictOf (wV X.prog X.w) p vs:=I.zx p _ hx;have hlen:Aa.length=vs.length:=Paired.length r;exact wpAny_truthy_dict hS m (by lia) ⟨H,I.tok _,by rw[RY r];exact q⟩
 | _=>exact (show False from e).elim
def Vk (ha:PE X a ta) (he:∀ whole,isTrue a X.env whole=(do let v <- whole;standAt a.pos;holding [v] (truthy v))):
  PT X a (fun B H Q=>ta B H λ x H'=>∃ k,ei X.K x H' k/\Q k H'):=by
 intro pins s B H Q I h;exact isTrue_plain (zG (ha pins s B H _ I h) λ v s1 ⟨x,H1,I1,r1,q1⟩=>XE pins s1 B H1 x v Q I1 r1 q1) (he _)
def Td:yj X (binaryOp .Add) (λ x y H Q=>∃ i j,x=.str i/\y=.str j/\i.length+j.length<=sizeLine/\Q (.str (i++j)) H):=by
 intro pins s B H x y v u Q I rx ry h;obtain⟨i,j,rfl,rfl,hz,q⟩:=h;obtain⟨t,rfl⟩:=rx;obtain⟨t',rfl⟩:=ry;exact add_str (λ t' tk=>⟨.str (i++j),H,I.tok _,⟨_,rfl⟩,q⟩) hz
def vals1 {x:V}{us:List Value}(r:Vals [x] us):∃ u,us=[u]/\RelV x u:=by
 cases r with
 | cons r1 r2=>cases r2;exact⟨_,rfl,r1⟩
def vals2 {x y:V}{us:List Value}(r:Vals [x,y] us):∃ u w',us=[u,w']/\RelV x u/\RelV y w':=by
 cases r with
 | cons r1 r2=>
  cases r2 with
  | cons r3 r4=>cases r4;exact⟨_,_,rfl,r1,r3⟩
def Oc:yK X (.builtin "abs") (λ xs H Q=>∃ i,xs=[.int i]/\Q (.int (if i<0 then -i else i)) H):=by
 intro pins s B H xs us Q I r h;obtain⟨i,rfl,q⟩:=h;obtain⟨u,rfl,t,rfl⟩:=vals1 r;exact call_abs_int λ u tk=>⟨.int (if i<0 then -i else i),H,I.tok _,⟨_,rfl⟩,q⟩
def PV (hc:X.calm=true):yK X (.builtin "max") (λ xs H Q=>∃ i j,xs=[.int i,.int j]/\Q (.int (if j>i then j else i)) H):=by
 intro pins s B H xs us Q I r h;obtain⟨i,j,rfl,q⟩:=h;obtain⟨u,w',rfl,⟨t,rfl⟩,⟨t',rfl⟩⟩:=vals2 r;refine max_two_ints (I.ok.hd hc) λ h' tk k=>⟨_,H,I.kept k,?_,q⟩;by_cases hj:j>i
 .rw[if_pos hj,if_pos hj];exact⟨_,rfl⟩
 .rw[if_neg hj,if_neg hj];exact⟨_,rfl⟩
def PR (hc:X.calm=true):yK X (.builtin "min") (λ xs H Q=>∃ i j,xs=[.int i,.int j]/\Q (.int (if j<i then j else i)) H):=by
 intro pins s B H xs us Q I r h;obtain⟨i,j,rfl,q⟩:=h;obtain⟨u,w',rfl,⟨t,rfl⟩,⟨t',rfl⟩⟩:=vals2 r;refine min_two_ints (I.ok.hd hc) λ h' tk k=>⟨_,H,I.kept k,?_,q⟩;by_cases hj:j<i
 .rw[if_pos hj,if_pos hj];exact⟨_,rfl⟩
 .rw[if_neg hj,if_neg hj];exact⟨_,rfl⟩
end
section
variable {prog:Program}{w:World}{A:Around}{E:Value->Shared->Prop}{s:Shared}{K:Ac}{x dx C f:Addr}{mA:Str->Option Value}{name:Str}{v:Value}
end
def u6.some_of {v:V}{o:Option Value}(r:u6 (some v) o):∃ u,o=some u/\RelV v u:=by
 cases o with
 | none=>exact (show False from r).elim
 | some u=>exact⟨u,rfl,r⟩
section
variable {P:Program}{w:World}{H H':Hp}{h h':Heap}{a C dx:Addr}{fs fs':List (Str×V)}
end
section
variable {X:Cx}{pins:List (Addr×Obj)}{B:St}{H:Hp}{s:Shared}{a C dx:Addr}{fs:List (Str×V)}{f:Str}{v:V}{A:Around}{E:Value->Shared->Prop}
end
section
variable {X:Cx}{o e value:Expr}{f:Str}{pos pos' tpos:Pos}{ta tv:TE}
end
section
variable {X:Cx}{pins:List (Addr×Obj)}{B:St}{H:Hp}{s:Shared}{A:Around}{E:Value->Shared->Prop}{Q:Value->Shared->Prop}{c:Value}{b:Bool}
end
structure yF (k:Nat) (A:Around):Prop where
 hd:A.handled=none
 dp:A.depth+3*k+5<recursionLimit
 un:A.units+16*k+200<cLine
def yF.mono {j k:Nat}{A:Around}(r:yF k A) (h:j<=k):yF j A:=⟨r.hd,by have:=r.dp;lia,by have:=r.un;lia⟩
theorem yF.deeper {k:Nat}{A:Around}(r:yF (k+1) A) (env:Env):yF k (A.deeper env):=
 ⟨r.hd,by have:=r.dp;show A.depth+1+3*k+5<_;lia,by have:=r.un;show A.units+3+16*k+200<_;lia⟩
theorem yF.depth {k:Nat}{A:Around}(r:yF k A):A.depth<recursionLimit:=by have:=r.dp;lia
theorem yF.units {k:Nat}{A:Around}(r:yF k A):A.units+64<cLine:=by have:=r.un;lia
def jI:TA:=λ _ H Q=>Q [] H
def jK (ta:TE) (tr:TA):TA:=fun B H Q=>ta B H λ x H1=>tr B H1 λ xs H2=>Q (x::xs) H2
section
variable {X:Cx}{e:Expr}{es:List Expr}{te:TE}{t:TA}{pos:Pos}
def pC:PA X [] jI:=λ _ _ _ _ H Q I h=>Calls.spliced_nil ⟨[],H,I,.nil,h⟩
def qp (ha:PE X e te) (hr:PA X es t) (hs:starEach (e::es) X.env=(false,eval e X.env)::starEach es X.env:=by rfl):PA X (e::es) (jK te t):=by
 intro pos pins s B H Q I h;rw[hs];show wpAny _ _ (spliced ((false,eval e X.env)::backTo pos (starEach es X.env))) _ _ s;refine Calls.spliced_cons (zG (ha pins s B H _ I h) λ u s1 ⟨x,H1,I1,r1,q1⟩=>?_);exact zG (hr pos pins s1 B H1 _ I1 q1) λ us s2 ⟨xs,H2,I2,r2,q2⟩=>⟨x::xs,H2,I2,.cons r1 r2,q2⟩
def XI (t:TA):TE:=fun B H Q=>t B H λ xs H1=>xs.length<=sizeLine/\∀ p,H1 p=none->Q (.ref p) (upd H1 p (.tup xs))
def XT (t:TA):TE:=fun B H Q=>t B H λ xs H1=>xs.length<=sizeLine/\∀ p,H1 p=none->Q (.ref p) (upd H1 p (.lst xs))
def VL {x1} (h:PA X es t):PE X (.Tuple es x1 pos) (XI t):=by
 intro pins s B H Q I hq;refine wpAny_Tuple_spliced (zG (h pos pins s B H _ I hq) λ us s1 ⟨xs,H1,I1,r,z,q⟩=>⟨by rw[<- r.length];exact z,?_⟩);have hf:H1 s1.heap.objs.size=none:=I1.zx.fresh (Ag _);refine⟨.ref s1.heap.objs.size,upd H1 s1.heap.objs.size (.tup xs),I1.laid (t':=s1.toks) (λ b u e=>Ao _ e) (Ag _) ?_,rfl,q _ hf⟩;exact⟨z,us,r,⟨_,AE _ rfl,rfl,_,rfl⟩⟩
def VS (h:PA X es t):PE X (.List es pos) (XT t):=by
 intro pins s B H Q I hq;refine wpAny_List_spliced (zG (h pos pins s B H _ I hq) λ us s1 ⟨xs,H1,I1,r,z,q⟩=>⟨by rw[<- r.length];exact z,?_⟩);have hf:H1 s1.heap.objs.size=none:=I1.zx.fresh (Ag _);refine⟨.ref s1.heap.objs.size,upd H1 s1.heap.objs.size (.lst xs),I1.laid (t':=s1.toks) (λ b u e=>Ao _ e) (Ag _) ?_,rfl,q _ hf⟩;exact⟨z,us,0,r,AE _ rfl⟩
end
abbrev Sp:=List V->Hp->VK->XK->Prop
abbrev uW:=List Env->Hp->Shared->XK->Value->Shared->Prop
structure jz (P:Program) (w:World) (K:Ac) (mg:Str->Option Value) (base:Heap) (A:Around) (outer:List Env) (s:Shared) (H:Hp):Prop where
 frames:A.frames=some outer
 mod:Mod K mg base
 bs:∀ b o,base.get? b=some o->s.heap.get? b=some o/\H b=none
 qF:base.objs.size<=s.heap.objs.size
 uO:s.heap.FunFrames base outer
 pY:∀ b∈vS outer,H b=none
 zx:yX P w H s.heap
 bare:AllBare s.gens
def CE (outer:List Env) (P:Program) (w:World) (H:Hp) (s:Shared) (Q:VK) (u:Value) (s':Shared):Prop:=
 ∃ v H',s'.os=s.os/\AllBare s'.gens/\Un (vS outer) [] H H' s.heap s'.heap/\yX P w H' s'.heap/\RelV v u/\Q v H'
def CR (CX:uW) (outer:List Env) (P:Program) (w:World) (H:Hp) (s:Shared) (Q:VK) (E:XK) (r:Result) (s':Shared):Prop:=
 match r with
 | .ok (.ret u)=>CE outer P w H s Q u s'
 | .ok _=>False
 | .error e=>CX outer H s E e s'
structure uB (P:Program) (w:World) (K:Ac) (mg:Str->Option Value) (base:Heap) (CX:uW) (k:Nat) (f:Addr) (fd:FuncData) (ps:List Str) (sp:Sp):Prop where
 len:∀ vs H Q E,sp vs H Q E->vs.length=ps.length
 run:∀ (A:Around) (outer:List Env) (s:Shared) (H:Hp) (args:Args) (us:List Value) (vs:List V) (Q:VK) (E:XK),yF k A->jz P w K mg base A outer s H->BindsTo s fd args (ps.zip us)->Vals vs us->sp vs H Q E->
  codeAny (model P w) A (.call (.ref f) args) (CR CX outer P w H s Q E) s
section
variable {X:Cx}{pins:List (Addr×Obj)}{B:St}{H:Hp}{s s':Shared}
def Inv.QN (I:Inv X pins B H s):jz X.prog X.w X.K X.mg X.base X.A X.stack s H:=
 ⟨I.ok.frames,I.ok.mod,I.bs,Bl I.ok.qF I.sz,I.stack,I.c6,I.zx,I.bare⟩
def Inv.after {Q:VK}{u:Value}(I:Inv X pins B H s) (h:CE X.stack X.prog X.w H s Q u s'):EP X pins B Q u s':=by
 obtain⟨v,H',os,bare,un,zx,r,q⟩:=h;obtain⟨hh,g,d,t,os'⟩:=s';obtain rfl:os'=s.os:=os;exact⟨v,H',I.call (h':=hh) (g':=g) (d':=d) (t':=t) (ch:=[]) un zx bare (λ b z=>absurd z (by simp)),r,q⟩
end
def cz (sp:Sp) (dvs:List V) (E:XK) (t:TA):TE:=fun B H Q=>t B H λ vs H1=>sp (vs++dvs) H1 Q E
def Binds (K:Ac) (fd:FuncData) (ps:List Str) (ds:List Value):Prop:=
 ∀ (s:Shared) (us:List Value),K.In s.heap->(us++ds).length=ps.length->BindsTo s fd ⟨us,[]⟩ (ps.zip (us++ds))
def Binds.all {K:Ac}{fd:FuncData}{ps:List Str}(h:∀ us:List Value,us.length=ps.length->bindArgs fd ⟨us,[]⟩=pure (ps.zip us)):Binds K fd ps []:=λ s us _ hl=>by
 rw[C0] at hl ⊢;exact .of_eq (h us hl)
def Passes (CX:uW) (X:Cx) (E:XK):Prop:=∀ (pins:List (Addr×Obj)) (B:St) (H:Hp) (s:Shared) (e:Value) (s':Shared),Inv X pins B H s->CX X.stack H s E e s'->X.xe e s'
section
variable {X:Cx}{CX:uW}{k:Nat}{f C:Addr}{fd:FuncData}{ps:List Str}{sp:Sp}{dvs:List V}{ds:List Value}{E:XK}{x m:Str}{p pos apos:Pos}{e o:Expr}{es:List Expr}{ta:TE}{t:TA}
def WI {pins:List (Addr×Obj)}{B:St}{H:Hp}{s:Shared}{Q:VK}{us:List Value}{vs:List V}(F:uB X.prog X.w X.K X.mg X.base CX k f fd ps sp) (hr:yF k X.A) (hb:Binds X.K fd ps ds) (hd:Vals dvs ds) (hx:Passes CX X E)
  (I:Inv X pins B H s) (r:Vals vs us) (h:sp (vs++dvs) H Q E):wpAny (model X.prog X.w) X.A (call (.ref f) us) (EP X pins B Q) X.xe s:=by
 have r2:Vals (vs++dvs) (us++ds):=r.append hd;have hl:(us++ds).length=ps.length:=by rw[<- r2.length];exact F.len _ _ _ _ h
 refine wpAny_call (codeAny_mono (F.run X.A X.stack s H ⟨us,[]⟩ (us++ds) (vs++dvs) Q E hr I.QN (hb s us I.vQ hl) r2 h) λ r s' hq=>?_);cases r with
 | error e=>exact hx pins B H s e s' I hq
 | ok fl=>
  cases fl with
  | ret u=>exact I.after hq
  | next=>exact False.elim hq
  | brk=>exact False.elim hq
  | cont=>exact False.elim hq
def Uc (F:uB X.prog X.w X.K X.mg X.base CX k f fd ps sp) (hr:yF k X.A) (hg:Gl X x) (hm:X.mg x=some (.ref f)) (hk:PySem.W.keepIn X.K (.ref f)=true) (hb:Binds X.K fd ps ds) (hd:Vals dvs ds) (hx:Passes CX X E)
  (ha:PA X (e::es) t) (CG:(x == ("__debug__":Str))=false:=by decide) (he:starEach (e::es) X.env=(false,eval e X.env)::starEach es X.env:=by rfl) (Aq:(backTo pos (starEach es X.env)).any (·.1)=false:=by rfl):
  PE X (.Call (.Name x p) (e::es) [] pos) (cz sp dvs E t):=by
 intro pins s B H Q I h;refine wpAny_Call_Name_kw (aK I hg hm ?_ CG);refine PySem.W.callWith_K (h₀:=X.base) I.ok.mod.gH hk (zG (ha pos pins s B H _ I h) λ us s1 ⟨vs,H1,I1,r,q⟩=>⟨I1.vQ,?_⟩) he Aq;exact WI F hr hb hd hx I1 r q
end
section
variable {X:Cx}{CX:uW}{k:Nat}{f C:Addr}{fd:FuncData}{ps ks:List Str}{sp:Sp}{E:XK}{x m:Str}{p pos apos kpos:Pos}{e o:Expr}{es:List Expr}{kws:List Keyword}{te ta:TE}{t tk:TA}{nm:Option Str}
variable {g:List Value->List Value->List Value}{gV:List V->List V->List V}
end
structure yq (N P:List Str) (sc:Scope):Prop where
 kind:sc.kind=.function
 co:sc.isCoroutine=false
 gen:sc.isGenerator=false
 nd:N.Nodup
 pre:N.take P.length=P
 par:∀ x∈P,sc.names.lookup x=some .local\/sc.names.lookup x=some .cell
 SD:∀ y∈sc.names,y.2≠.free
theorem Yn {kindOf:Str->Option NameKind}{x:Str}:∀ {binds:List (Str×Value)}{m:Str->Option Value},(∀ v,(x,v)∉binds)->bindL kindOf binds m x=m x
 | [],_,_=>rfl
 | (n,v)::r,m,h=>by
  unfold bindL;rw[Yn λ w hw=>h w (Ar _ hw)];split
  .have:x≠n:=by rintro rfl;exact h v Am
   simp[this]
  .rfl
theorem Yp {kindOf:Str->Option NameKind}{x:Str}:∀ {binds:List (Str×Value)}{m:Str->Option Value},(∀ v,(x,v)∉binds)->bindC kindOf binds m x=m x
 | [],_,_=>rfl
 | (n,v)::r,m,h=>by
  unfold bindC;rw[Yp λ w hw=>h w (Ar _ hw)];split
  .rfl
  .have:x≠n:=by rintro rfl;exact h v Am
   simp[this]
theorem Yo {kindOf:Str->Option NameKind}{x:Str}{v:Value}:∀ {P:List Str}{vs:List Value}{i:Nat}{m:Str->Option Value},P.Nodup->P[i]?=some x->vs[i]?=some v->kindOf x=some .local->
  bindL kindOf (P.zip vs) m x=some v
 | [],_,_,_,_,h,_,_=>by simp at h
 | _::_,[],_,_,_,_,h,_=>by simp at h
 | p::P,w::vs,0,m,nd,h1,h2,hk=>by
  simp at h1 h2;subst h1;subst h2;show bindL kindOf ((p,w)::P.zip vs) m p=_;unfold bindL;rw[Yn λ v hv=>(A_.mp nd).1 (DT hv).1,if_pos hk];simp
 | p::P,w::vs,i+1,m,nd,h1,h2,hk=>by
  show bindL kindOf ((p,w)::P.zip vs) m x=_;unfold bindL;exact Yo (i:=i) (A_.mp nd).2 (by simpa using h1) (by simpa using h2) hk
theorem Yq {kindOf:Str->Option NameKind}{x:Str}{v:Value}:∀ {P:List Str}{vs:List Value}{i:Nat}{m:Str->Option Value},P.Nodup->P[i]?=some x->vs[i]?=some v->kindOf x≠some .local->
  bindC kindOf (P.zip vs) m x=some v
 | [],_,_,_,_,h,_,_=>by simp at h
 | _::_,[],_,_,_,_,h,_=>by simp at h
 | p::P,w::vs,0,m,nd,h1,h2,hk=>by
  simp at h1 h2;subst h1;subst h2;show bindC kindOf ((p,w)::P.zip vs) m p=_;unfold bindC;rw[Yp λ v hv=>(A_.mp nd).1 (DT hv).1,if_neg hk];simp
 | p::P,w::vs,i+1,m,nd,h1,h2,hk=>by
  show bindC kindOf ((p,w)::P.zip vs) m x=_;unfold bindC;exact Yq (i:=i) (A_.mp nd).2 (by simpa using h1) (by simpa using h2) hk
noncomputable def start (N:List Str) (vs:List V):St:=vs.map some++List.replicate (N.length-vs.length) none
noncomputable def tP (CX:uW) (P:Program) (w:World) (K:Ac) (mg:Str->Option Value) (base:Heap) (N:List Str) (qual:Str) (scope:Scope) (f:Addr) (cd:Value) (A:Around) (outer:List Env) (s:Shared) (H:Hp) (E:XK):Cx where
 prog:=P
 w:=w
 K:=K
 mg:=mg
 base:=base
 A:=A.deeper (envOfC qual scope s.heap.objs.size f cd)
 N:=N
 s₀:=s
 H₀:=H
 env:=envOfC qual scope s.heap.objs.size f cd
 outer:=outer
 stack:=envOfC qual scope s.heap.objs.size f cd::outer
 ex:=[]
 calm:=true
 fn:=λ _=>true
 pn:=[]
 xe:=λ e s'=>wpAny (model P w) (A.deeper (envOfC qual scope s.heap.objs.size f cd)) (leaving (envOfC qual scope s.heap.objs.size f cd) e) (λ _ s''=>CX outer H s E e s'') (λ e' s''=>CX outer H s E e' s'') s'
def Yk {sc:Scope}{n:Nat}{x:Str}(h:sc.names.lookup x=some .cell):∃ c,(cellsFrom n sc.names []).lookup x=some c:=by
 have q:=PySem.W.cellsFrom_some sc.names n [] (.inl h);exact Dz.mp q
def Qa {CX:uW}{P:Program}{w:World}{K:Ac}{mg:Str->Option Value}{base:Heap}{N ps:List Str}{qual:Str}{scope:Scope}{f:Addr}{cd:Value}{A:Around}{outer:List Env}{s s1:Shared}{H:Hp}{E:XK}{us:List Value}{vs:List V}
  (S:yq N ps scope) (hd:A.handled=none) (e0:jz P w K mg base A outer s H) (hl:vs.length=ps.length) (r:Vals vs us)
  (x:InCallC s s.heap.objs.size (bindL (envOfC qual scope s.heap.objs.size f cd).kindOf (ps.zip us) λ _=>none) (cellsFrom (s.heap.objs.size+1) scope.names []) (bindC (envOfC qual scope s.heap.objs.size f cd).kindOf (ps.zip us) λ _=>none) s1):
  Inv (tP CX P w K mg base N qual scope f cd A outer s H E) [] (start N vs) H s1:=by
 have Aq:ps.length<=N.length:=by have:=congrArg List.length S.pre;rw[DS] at this;lia
 obtain⟨h1,tk,rfl,hk⟩:=x.done;have noA:∀ b:Addr,b∉(tP CX P w K mg base N qual scope f cd A outer s H E).ex:=λ b z=>absurd (show b∈([]:List Addr) from z) (by simp);refine⟨⟨e0.mod,S.kind,rfl,rfl,Ag _,λ y z c h1 h2=>?_,λ y hy=>?_,λ y c _ h=>?_,λ _=>hd,Around.frames_deeper e0.frames,.inr ⟨rfl,rfl⟩,λ b z=>absurd z (noA b),e0.bs,e0.qF,λ b _ _=>noA b,λ b z=>absurd z (noA b),e0.uO,e0.pY⟩,
  rfl,e0.bare,Un.kept hk,⟨_,x.toInCall.ns,λ i y v h1 h2 h3=>?_⟩,λ y c h=>⟨_,x.cell y c h⟩,e0.zx.fresh (Ag _),λ y c h=>?_,λ p hp=>absurd (show p∈([]:List (Addr×Obj)) from hp) (by simp),e0.zx.kept hk,?_⟩
 .exact name_of_addr x.apart (PySem.mem_of_lookup h1) (PySem.mem_of_lookup h2)
 .have hy:scope.names.lookup y=some .cell\/scope.names.lookup y=some .free:=hy;rcases hy with hy | hy
  .exact Yk hy
  .exact absurd rfl (S.SD _ (PySem.mem_of_lookup hy))
 .exact BC (x.above y c (PySem.mem_of_lookup h))
 .have hi:i<vs.length:=by
   unfold start at h2;by_cases hi:i<vs.length
   .exact hi
   .rw[Cu (by simpa using hi)] at h2;rw[CM] at h2;split at h2 <;> cases h2
  have ha:vs[i]?=some v:=by
   unfold start at h2;rw[Ct (by simpa using hi),Az] at h2;cases e:vs[i]? with
   | none=>rw[e] at h2;cases h2
   | some a=>rw[e] at h2;cases h2;rfl
  obtain⟨u,hu,rv⟩:=r.get ha;have hp:ps[i]?=some y:=by
   rw[<- S.pre,List.getElem?_take_of_lt (by lia)];exact h1
  have ndP:ps.Nodup:=by rw[<- S.pre];exact S.nd.sublist (List.take_sublist _ _)
  refine⟨u,rv,?_⟩;rcases S.par y (Bb hp) with k | k
  .exact .inl ⟨k,Yo ndP hp hu k⟩
  .obtain⟨c,e⟩:=Yk (n:=s.heap.objs.size+1) k;refine .inr ⟨.inl k,c,e,?_⟩;have q:=x.cell y c e;rw[Yq ndP hp hu (by show scope.names.lookup y≠_;rw[k];decide)] at q;exact q
 .exact e0.zx.fresh (BC (x.above y c (PySem.mem_of_lookup h)))
 .unfold start;show _=N.length;rw[Cc,Ay,List.length_replicate];lia
def Q9 {CX:uW}{P:Program}{w:World}{K:Ac}{mg:Str->Option Value}{base:Heap}{k:Nat}{f:Addr}{name qual:Str}{params:Arguments}{body:List Stmt}{scope:Scope}{dV kV doc pm Af ct oc:Value}{an od:Option Addr}
  {osl:Array (Option Value)}{N ps:List Str}{sp:Sp}(lk:K.lookup f=some ⟨oc,od,.func (PySem.W.fnOf name qual params body scope dV kV doc pm an Af ct),osl⟩) (BH:PySem.W.codeIn K Af qual=true) (S:yq N ps scope)
  (len:∀ vs H Q E,sp vs H Q E->vs.length=ps.length)
  (hbody:∀ (A:Around) (outer:List Env) (s:Shared) (H:Hp) (vs:List V) (Q:VK) (E:XK),yF k (A.deeper (envOfC qual scope s.heap.objs.size f Af))->sp vs H Q E->
   ∃ t,wg (tP CX P w K mg base N qual scope f Af A outer s H E) body t/\t { nx:=λ _ H'=>Q .zi H',rt:=Q } (start N vs) H):
  uB P w K mg base CX (k+1) f (PySem.W.fnOf name qual params body scope dV kV doc pm an Af ct) ps sp:=by
 refine⟨len,λ A outer s H args us vs Q E hr e0 hb r Cf=>?_⟩;have hl:=len _ _ _ _ Cf;have KX:K.In s.heap:=e0.mod.gH.keeps λ b o e=>(e0.bs b o e).1;have lim:s.heap.NoLimit:=e0.mod.nolimit.keeps λ b o e=>(e0.bs b o e).1;have hkind:∀ y∈ps.zip us,scope.names.lookup y.1=some .local\/(scope.names.lookup y.1=some .cell/\((cellsFrom (s.heap.objs.size+1) scope.names []).lookup y.1).isSome=true):=λ⟨n,v⟩ hy=>by
  rcases S.par n (DT hy).1 with q | q
  .exact .inl q
  .exact .inr ⟨q,PySem.W.cellsFrom_some _ _ _ (.inl q)⟩
 refine codeAny_call_function hr.depth (KX _ _ lk) rfl S.co S.gen rfl (PySem.W.codeRec_of KX BH) (hb _ _ _ _ ?_);refine wpAny_newFunctionEnv_cells S.kind hkind λ env he s1 x=>?_;subst he;refine⟨lim.keeps x.toInCall.keep,codeAny_func ?_⟩;obtain⟨t,ht,hq⟩:=hbody A outer s H vs Q E (hr.deeper _) Cf;have I:Inv (tP CX P w K mg base N qual scope f Af A outer s H E) [] (start N vs) H s1:=Qa S hr.hd e0 hl r x;refine wpAny_mono (ht [] s1 (start N vs) H _ I hq) (λ fl s' hs=>?_) λ e s' hs=>hs;have fin:∀ {B':St}{H':Hp}{v:V}{u:Value},Inv (tP CX P w K mg base N qual scope f Af A outer s H E) [] B' H' s'->RelV v u->Q v H'->CE outer P w H s Q u s':=
  λ{B' H' v u} J rv q=>⟨v,H',J.os,J.bare,J.base,J.zx,rv,q⟩
 cases fl with
 | ret u=>
  obtain⟨v,B',H',J,rv,q⟩:=hs;exact fin J rv q
 | next=>
  obtain⟨B',H',J,q⟩:=hs;exact fin (v:=V.zi) (u:=Value.none) J rfl q
 | brk=>
  obtain⟨_,_,_,q⟩:=hs;exact False.elim q
 | cont=>
  obtain⟨_,_,_,q⟩:=hs;exact False.elim q
section
variable {X:Cx}{x:Str}{p pos:Pos}{e:Expr}{es:List Expr}{t:TA}{id T:String}{r:List V->Hp->VK->Prop}
def oQ (r:List V->Hp->VK->Prop) (t:TA):TE:=fun B H Q=>t B H λ vs H1=>r vs H1 Q
def se (hc:yK X (.builtin id) r) (hg:Gl X x) (hm:X.mg x=none) (hv:bootBuiltins x=some (.builtin id)) (ha:PA X (e::es) t) (hn:x≠"__name__":=by decide) (CG:(x == ("__debug__":Str))=false:=by decide)
  (he:starEach (e::es) X.env=(false,eval e X.env)::starEach es X.env:=by rfl) (Aq:(backTo pos (starEach es X.env)).any (·.1)=false:=by rfl):PE X (.Call (.Name x p) (e::es) [] pos) (oQ r t):=by
 intro pins s B H Q I h;refine wpAny_Call_Name_kw (rD I hg hm hv ?_ hn CG);exact PyProof.Rows.callWith_builtin1 (zG (ha pos pins s B H _ I h) λ us s1 ⟨vs,H1,I1,r1,q1⟩=>hc pins s1 B H1 vs us Q I1 r1 q1) he Aq
def nk (hc:yK X (.type T) r) (hg:Gl X x) (hm:X.mg x=none) (hv:bootBuiltins x=some (.type T)) (ha:PA X (e::es) t) (hn:x≠"__name__":=by decide) (CG:(x == ("__debug__":Str))=false:=by decide)
  (he:starEach (e::es) X.env=(false,eval e X.env)::starEach es X.env:=by rfl) (Aq:(backTo pos (starEach es X.env)).any (·.1)=false:=by rfl):PE X (.Call (.Name x p) (e::es) [] pos) (oQ r t):=by
 intro pins s B H Q I h;refine wpAny_Call_Name_kw (rD I hg hm hv ?_ hn CG);exact PyProof.Rows.callWith_type1 (zG (ha pos pins s B H _ I h) λ us s1 ⟨vs,H1,I1,r1,q1⟩=>hc pins s1 B H1 vs us Q I1 r1 q1) he Aq
end
end L2
namespace HT
open PySem PyProof.Rows
noncomputable def lexLt:List Int->List Int->Bool
 | [],[]=>false
 | [],_::_=>true
 | _::_,[]=>false
 | x::xs,y::ys=>if x=y then lexLt xs ys else decide (x<y)
def rB (x y:Int) (xs ys:List Int):lexLt (x::xs) (y::ys)=if x=y then lexLt xs ys else decide (x<y):=rfl
def Rr:lexLt [] []=false:=rfl
def Rt (y:Int) (ys:List Int):lexLt [] (y::ys)=true:=rfl
def Ru (x:Int) (xs:List Int):lexLt (x::xs) []=false:=rfl
def QM (A:Around) (s:Shared) (a:Int) (t:Tok) (c:Int) (u:Tok):∃ e,SeqAt.EqAt A s (.int a t) (.int c u) e/\(e=true↔a=c):=
 ⟨(a == c),SeqAt.EqAt.int_int a t c u,by simp⟩
def WT (A:Around) (s:Shared) (a:Int) (t:Tok) (c:Int) (u:Tok) (prog:Program) (w:World) (E:Value->Shared->Prop) (Q:Value->Shared->Prop) (h:Q (.bool (decide (a<c))) s):
  wpAny (model prog w) A (richCompare .Lt (.int a t) (.int c u)) Q E s:=
 (PyProof.Rows.lt_int h:wpAny (model prog w) A (compareOp .Lt (.int a t) (.int c u)) Q E s)
section
open PySem.SeqAt
open PySem.AutoSeq1 (wpAny_loadPart')
open PySem.MeetsSeq PySem.MeetsSeq2 PySem.MeetsSeq3
def XC (l b:Addr) (items items2:Array Value) (n n2:Nat) (dd dd2:Option Addr) (sl sl2:Array (Option Value)) (ns ms:List Int) (hi:IntsAre items.toList ns) (hj:IntsAre items2.toList ms):
  Meets (Builtin.«tuple.__lt__» ⟨[.ref l,.ref b],[]⟩)
   (λ _ R s=>s.heap.get? l=some { cls:=.type "tuple",dict:=dd,data:=.seq items n,slots:=sl }/\s.heap.get? b=some { cls:=.type "tuple",dict:=dd2,data:=.seq items2 n2,slots:=sl2 }/\
    R (.ok (.ret (.bool (lexLt ns ms)))) s):=
 .of_wp λ prog w A R s h=>by
  obtain⟨hp,g,d,tk,os⟩:=s;obtain⟨hl,hb,h⟩:=h;have f2:=AutoSeq1.sub_tuple_tuple;have z1:items.size=ns.length:=by rw[<- hi.length];simp
  have z2:items2.size=ms.length:=by rw[<- hj.length];simp
  wp_walk using wpAny_loadPart' hl,wpAny_loadPart' hb,wpAny_forIn_list _ (λ rest b s'=>b.1=none/\s'=⟨hp,g,d,tk,os⟩/\∃ (vs ws:List Value) (ns' ms':List Int),rest=vs.zip ws/\
   IntsAre vs ns'/\IntsAre ws ms'/\ns'.length+items2.size=ms'.length+items.size/\R (.ok (.ret (.bool (lexLt ns' ms')))) ⟨hp,g,d,tk,os⟩) _
  case turn=>
   rintro⟨y,x⟩ rest b s' ⟨hb',rfl,vs,ws,ns',ms',hz,D1,Cd,hlen,hR⟩;cases D1 with
   | nil=>rw[List.zip_nil_left] at hz;cases hz
   | cons a t D0=>
    cases Cd with
    | nil=>rw[List.zip_nil_right] at hz;cases hz
    | cons c u DY=>
     rw[List.zip_cons_cons] at hz
     injection hz with hyx hrest
     injection hyx with hy hx
     subst hy hx;rw[rB] at hR;simp only[AR] at hlen;obtain⟨e,he,C9⟩:=QM A.in1 ⟨hp,g,d,tk,os⟩ a t c u;refine Ab (he prog w _ _ ?_);cases e with
     | true=>
      rw[if_pos (C9.mp rfl)] at hR
      wp_walk
      exact⟨rfl,rfl,_,_,_,_,hrest,D0,DY,by lia,hR⟩
     | false=>
      rw[if_neg (λ q=>absurd (C9.mpr q) BA)] at hR;have hri:=WT A.in1 ⟨hp,g,d,tk,os⟩ a t c u prog w
      wp_walk using hri
      exact⟨_,rfl,by simpa using hR⟩
  case fin=>
   rintro⟨b1,b2⟩ s' ⟨hb',rfl,vs,ws,ns',ms',hz,D1,Cd,hlen,hR⟩;simp only at hb';subst hb';have hv:lexLt ns' ms'=decide (items.size<items2.size):=by
    cases D1 with
    | nil=>
     cases Cd with
     | nil=>
      simp only[CL] at hlen;rw[Rr];exact (decide_eq_false (by lia)).symm
     | cons c u hw=>
      simp only[CL,AR] at hlen;rw[Rt];exact (decide_eq_true (by lia)).symm
    | cons a t hv=>
     cases Cd with
     | nil=>
      simp only[CL,AR] at hlen;rw[Ru];exact (decide_eq_false (by lia)).symm
     | cons c u hw=>
      rw[List.zip_cons_cons] at hz;cases hz
   rw[hv] at hR
   wp_walk
   exact⟨_,rfl,by simpa [Builtin.Tuple.tupleCompareSizes] using hR⟩
  case h=>
   exact⟨rfl,rfl,items.toList,items2.toList,ns,ms,rfl,hi,hj,by lia,h⟩
end
section
variable {prog:Program}{w:World}{A:Around}{E:Value->Shared->Prop}{s:Shared}
def Rj {l b:Addr}{items items2:Array Value}{ns ms:List Int}{Q:Value->Shared->Prop}(hl:IsTup s.heap l items) (hb:IsTup s.heap b items2) (hi:IntsAre items.toList ns) (hj:IntsAre items2.toList ms)
  (hu:A.units<cLine) (h:Q (.bool (lexLt ns ms)) s):wpAny (model prog w) A (compareOp .Lt (.ref l) (.ref b)) Q E s:=by
 obtain⟨⟨cls,dd,data,sl⟩,ho,hc,n,hd⟩:=id hl;obtain⟨⟨cls2,dd2,data2,sl2⟩,ho2,hc2,n2,hd2⟩:=id hb;simp only at hc hd hc2 hd2;subst hc hd hc2 hd2;exact richCompare_meets_room (op:=.Lt) ⟨_,ho,rfl⟩ ⟨_,ho2,rfl⟩ PySem.F.slot_tuple_lt PySem.F.entry_tuple_lt (PySem.F.args_tuple_lt_2 _ _) (XC l b items items2 n n2 dd dd2 sl sl2 ns ms hi hj)
  ⟨ho,ho2,show Value.bool (lexLt ns ms)≠Value.notImplemented/\Q (.bool (lexLt ns ms)) s from ⟨(λ x=>nomatch x),h⟩⟩ hu
def Pz {t b:Addr}{vs ws:List Value}{Q:Value->Shared->Prop}(ht:IsTup s.heap t vs.toArray) (hb:IsTup s.heap b ws.toArray) (hv:vs≠[])
  (h1:ws=[]->Q (.ref t) s) (h2:ws≠[]->Q (.ref s.heap.objs.size) { s with heap:=s.heap.push { cls:=.type "tuple",data:=.seq (vs++ws).toArray } })
  (hsz:vs.length+ws.length<=sizeLine):wpAny (model prog w) A (binaryOp .Add (.ref t) (.ref b)) Q E s:=by
 obtain⟨⟨cls,dd,data,sl⟩,ho,hc,n,hd⟩:=id ht;obtain⟨⟨cls2,dd2,data2,sl2⟩,ho2,hc2,n2,hd2⟩:=id hb;simp only at hc hd hc2 hd2;subst hc hd hc2 hd2;have e:vs.toArray++ws.toArray=(vs++ws).toArray:=by simp
 by_cases hw:ws=[]
 .exact concat_meets ⟨_,ho,rfl⟩ ⟨_,ho2,rfl⟩ noFill_tuple_add seq_tuple_add PySem.F.slot_tuple_add PySem.F.entry_tuple_add (PySem.F.args_tuple_add_2 _ _)
   (tuple_addW1 t b vs.toArray ws.toArray n n2 dd dd2 sl sl2 (by simpa using hv) (by simp[hw])) ⟨ho,ho2,h1 hw⟩
 .refine concat_meets ⟨_,ho,rfl⟩ ⟨_,ho2,rfl⟩ noFill_tuple_add seq_tuple_add PySem.F.slot_tuple_add PySem.F.entry_tuple_add (PySem.F.args_tuple_add_2 _ _)
   (tuple_addW2 t b vs.toArray ws.toArray n n2 dd dd2 sl sl2 (by simpa using hv) (by simpa using hw) (by rw[Av,Av];exact hsz)) ⟨ho,ho2,?_⟩
  rw[e];exact h2 hw
end
end HT
namespace L2
open PySem PySem.Spec PyProof.Rows
def intsAre_of {ns:List Int}:∀ {us:List Value},Vals (ns.map V.int) us->IntsAre us ns:=by
 induction ns with
 | nil=>intro us r;rw[Bj] at r;cases r;exact .nil
 | cons n ns ih=>
  intro us r;rw[Au] at r;cases r with
  | cons r1 r2=>
   obtain⟨t,e⟩:=r1;subst e;exact .cons n t (ih r2)
section
variable {X:Cx}{e:Expr}{te:TE}{lo hi:Option Expr}{tl th:TO}{pos p2:Pos}
def iH (K:Ac):R2:=λ x y H Q=>∃ a b ns ms,x=.ref a/\y=.ref b/\z_ K H a (ns.map V.int)/\z_ K H b (ms.map V.int)/\Q (.bl (HT.lexLt ns ms)) H
def UR (hu:X.A.units<cLine):yj X (compareOp .Lt) (iH X.K):=by
 intro pins s B H x y v u Q I rx ry h;obtain⟨a,b,ns,ms,rfl,rfl,ha,hb,q⟩:=h;cases rx;cases ry;obtain⟨its,r1,p1,_⟩:=I.tuple ha;obtain⟨its2,r2,p2,_⟩:=I.tuple hb;have i1:IntsAre its.toArray.toList ns:=intsAre_of r1;have i2:IntsAre its2.toArray.toList ms:=intsAre_of r2;exact HT.Rj p1 p2 i1 i2 hu ⟨.bl (HT.lexLt ns ms),H,I,rfl,q⟩
def bh (K:Ac):R2:=λ x y H Q=>∃ a b xs ys,x=.ref a/\y=.ref b/\z_ K H a xs/\z_ K H b ys/\xs≠[]/\xs.length+ys.length<=sizeLine/\
 (ys=[]->Q (.ref a) H)/\(ys≠[]->∀ p,H p=none->Q (.ref p) (upd H p (.tup (xs++ys))))
def Vals.nI {xs:List V}{us:List Value}(r:Vals xs us):us=[]↔xs=[]:=by
 cases r with
 | nil=>simp
 | cons _ _=>simp
def Tb:yj X (binaryOp .Add) (bh X.K):=by
 intro pins s B H x y v u Q I rx ry h;obtain⟨a,b,xs,ys,rfl,rfl,ha,hb,hx,hz,q1,q2⟩:=h;cases rx;cases ry;obtain⟨its,r1,p1,_⟩:=I.tuple ha;obtain⟨its2,r2,p2,_⟩:=I.tuple hb;refine HT.Pz p1 p2 (λ z=>hx (r1.nI.mp z)) (λ z=>⟨.ref a,H,I,rfl,q1 (r2.nI.mp z)⟩) (λ z=>?_) (by rw[<- r1.length,<- r2.length];exact hz);refine⟨.ref s.heap.objs.size,_,I.laid (t':=s.toks) (o:=.tup (xs++ys)) (λ b ob q=>Ao _ q) (Ag _) ?_,rfl,q2 (λ w=>z (r2.nI.mpr w)) _ (I.zx.fresh (Ag _))⟩;exact⟨by rw[Cc];exact hz,_,r1.append r2,IsTup.new _ _⟩
end
noncomputable def vh (n:Nat) (i:Int):Option Nat:=if 0<=i then (if i<n then some i.toNat else none) else if -(n:Int)<=i then some (i+n).toNat else none
noncomputable def zN {α:Type}(xs:List α) (i:Int):Option α:=(vh xs.length i).bind λ j=>xs[j]?
def aX {n:Nat}{i:Int}{j:Nat}(h:vh n i=some j):seqIndex? i n=some j/\j<n/\-(n:Int)<=i/\i<n:=by
 unfold vh at h;by_cases h0:0<=i
 .rw[if_pos h0] at h;by_cases h1:i<n
  .rw[if_pos h1] at h;have e:i.toNat=j:=A4 h;exact⟨by rw[seqIndex_of h0 h1,e],by lia,by lia,h1⟩
  .rw[if_neg h1] at h;cases h
 .rw[if_neg h0] at h;by_cases h1:-(n:Int)<=i
  .rw[if_pos h1] at h;have e:(i+n).toNat=j:=A4 h;exact⟨by rw[seqIndex_neg (by lia) h1,e],by lia,h1,by lia⟩
  .rw[if_neg h1] at h;cases h
def fU {α:Type}{xs:List α}{i:Int}{v:α}(h:zN xs i=some v):∃ j,seqIndex? i xs.length=some j/\xs[j]?=some v/\j<xs.length/\-(xs.length:Int)<=i/\i<xs.length:=by
 unfold zN at h;cases e:vh xs.length i with
 | none=>rw[e] at h;cases h
 | some j=>
  rw[e] at h;obtain⟨h1,h2,h3,h4⟩:=aX e;exact⟨j,h1,h,h2,h3,h4⟩
def fT {α:Type}(xs:List α) (v:α):zN (xs++[v]) (-1)=some v:=by
 have hl:(xs++[v]).length=xs.length+1:=by simp
 have e:vh (xs++[v]).length (-1)=some xs.length:=by
  unfold vh;rw[hl,if_neg (by decide),if_pos (by lia)];congr 1;lia
 unfold zN;rw[e];show (xs++[v])[xs.length]?=some v;simp
def Y4 (b:Expr):Prop:=∀ o i,subscripted b false o i=operate [o,i] (getItem o i)
def sO (X:Cx) (r:R2):Prop:=
 ∀ (value slice:Expr) (pins:List (Addr×Obj)) (s:Shared) (B:St) (H:Hp) (x y:V) (v u:Value) (Q:VK),Inv X pins B H s->RelV x v->RelV y u->r x y H Q->
  subscripted slice false v u=operate [v,u] (getItem v u)->wpAny (model X.prog X.w) X.A (subscriptTail value slice v u) (EP X pins B Q) X.xe s
def O8 (X:Cx) (id:String) (r:V->List V->Hp->VK->Prop):Prop:=
 ∀ (pins:List (Addr×Obj)) (s:Shared) (B:St) (H:Hp) (x:V) (xs:List V) (v:Value) (us:List Value) (Q:VK),Inv X pins B H s->RelV x v->Vals xs us->r x xs H Q->
  wpAny (model X.prog X.w) X.A (call (.builtin id) (v::us)) (EP X pins B Q) X.xe s
section
variable {X:Cx}{a b:Expr}{ta tb:TE}{pos:Pos}
def sO.or {r r':R2}(h:sO X r) (h':sO X r'):sO X (λ x y H Q=>r x y H Q\/r' x y H Q):=by
 intro value slice pins s B H x y v u Q I rx ry q hs;rcases q with q | q
 .exact h value slice pins s B H x y v u Q I rx ry q hs
 .exact h' value slice pins s B H x y v u Q I rx ry q hs
def VU {r:R2}(hr:sO X r) (ha:PE X a ta) (hb:PE X b tb) (hs:Y4 b):PE X (.Subscript a b pos) (oP r ta tb):=by
 intro pins s B H Q I h;exact Subscript_ (fQ ha hb I h λ v u s2 x y H2 I2 rx ry q=>hr a b pins s2 B H2 x y v u Q I2 rx ry q (hs _ _))
def c_ (K:Ac):R2:=λ x y H Q=>∃ p xs i v,x=.ref p/\y=.int i/\zO K H p xs/\zN xs i=some v/\Q v H
def cY (K:Ac):R2:=λ x y H Q=>∃ p xs i v,x=.ref p/\y=.int i/\z_ K H p xs/\zN xs i=some v/\Q v H
def cZ:R2:=λ x y H Q=>∃ z i c,x=.str z/\y=.int i/\z.length<=sizeLine/\zN z.cps.toList i=some c/\Q (.str ⟨#[c]⟩) H
def RQ:sO X (c_ X.K):=by
 intro value slice pins s B H x y v u Q I rx ry h hs;obtain⟨p,xs,i,z,rfl,rfl,hq,he,q⟩:=h;cases rx;obtain⟨t,rfl⟩:=ry;obtain⟨its,r,pl,hz⟩:=I.list hq;obtain⟨j,h1,h2,h3,h4,h5⟩:=fU he;obtain⟨w,ew,rw'⟩:=r.get h2;have hl:=r.length;have hn:=qw;have fin:EP X pins B Q w s:=⟨z,H,I,rw',q⟩
 by_cases h0:0<=i
 .have hj:i.toNat=j:=by
   rw[seqIndex_of h0 h5] at h1;exact A4 h1
  exact item_listR pl.isList h0 (by lia) (by rw[hj];simpa using ew) fin hs
 .have hj:(i+(its.toArray.size:Int)).toNat=j:=by
   rw[seqIndex_neg (by lia) h4] at h1;rw[Av,<- hl];exact A4 h1
  exact subscriptTail_builtinR (x:=w) pl.isList.typeIs slot_list_getitem.lookup
   (wpAny_getItem_list_neg (Q:=λ r s'=>r=w/\EP X pins B Q r s') pl.isList (by lia) (by rw[Av] <;> lia) (by lia) (by rw[hj];simpa using ew) ⟨rfl,fin⟩) hs
def RK:sO X (cY X.K):=by
 intro value slice pins s B H x y v u Q I rx ry h hs;obtain⟨p,xs,i,z,rfl,rfl,hq,he,q⟩:=h;cases rx;obtain⟨t,rfl⟩:=ry;obtain⟨its,r,pl,hz⟩:=I.tuple hq;obtain⟨j,h1,h2,h3,h4,h5⟩:=fU he;obtain⟨w,ew,rw'⟩:=r.get h2;have hl:=r.length;have hn:=qw;have fin:EP X pins B Q w s:=⟨z,H,I,rw',q⟩
 exact subscriptTail_builtinR (x:=w) pl.typeIs slot_tuple_getitem.lookup
  (getItem_tuple (j:=j) (Q:=λ r s'=>r=w/\EP X pins B Q r s') pl (by lia) (by lia) (by rw[Av,<- hl];exact h1) (by simpa using ew) ⟨rfl,fin⟩) hs
def RM:sO X cZ:=by
 intro value slice pins s B H x y v u Q I rx ry h hs;obtain⟨z,i,c,rfl,rfl,hz,he,q⟩:=h;obtain⟨t,rfl⟩:=rx;obtain⟨t',rfl⟩:=ry;obtain⟨j,h1,h2,h3,h4,h5⟩:=fU he;have hl:z.cps.toList.length=z.length:=by simp[Str.length]
 rw[hl] at h1 h4 h5;have hn:=qw;exact tail_any (typeIs_str s z t) slot_str_getitem.lookup (getItem_str (c:=c) (by
  have e1:decide (i < -(2 ^ 63:Int))=false:=decide_eq_false (by lia);have e2:decide (i≥2 ^ 63)=false:=decide_eq_false (by lia);rw[e1,e2,Bool.or_false]) (by rw[h1];simpa using h2) ⟨.str ⟨#[c]⟩,H,I.tok _,⟨_,rfl⟩,q⟩) hs
def ba (K:Ac):R2:=λ x y H Q=>c_ K x y H Q\/cY K x y H Q\/cZ x y H Q
def RO:sO X (ba X.K):=RQ.or (RK.or RM)
def Ri (its:List Value) (n j:Nat) (u:Value):Obj.mapSeq (·.setIfInBounds j u) { cls:=.type "list",data:=.seq its.toArray n }={ cls:=.type "list",data:=.seq (its.set j u).toArray n }:=by
 simp[Obj.mapSeq]
theorem Inv.lst {pins:List (Addr×Obj)}{B:St}{H:Hp}{s:Shared}{p:Addr}{xs:List V}(I:Inv X pins B H s) (h:H p=some (.lst xs)):
  ∃ (its:List Value) (n:Nat),Vals xs its/\s.heap.get? p=some { cls:=.type "list",data:=.seq its.toArray n }/\xs.length<=sizeLine:=by
 obtain⟨z,its,n,r,e⟩:=I.zx p _ h;exact⟨its,n,r,e,z⟩
def Inv.Rl {pins:List (Addr×Obj)}{B:St}{H:Hp}{s:Shared}{p:Addr}{xs ys:List V}{its Ae:List Value}{n n':Nat}{f:Obj->Obj}(I:Inv X pins B H s) (h:H p=some (.lst xs))
  (ho:s.heap.get? p=some { cls:=.type "list",data:=.seq its.toArray n }) (hf:f { cls:=.type "list",data:=.seq its.toArray n }={ cls:=.type "list",data:=.seq Ae.toArray n' }) (r:Vals ys Ae) (hz:ys.length<=sizeLine) (t:Nat):
  Inv X pins B (upd H p (.lst ys)) { s with heap:=s.heap.update p f,toks:=t }:=by
 have e:(s.heap.update p f).get? p=some { cls:=.type "list",data:=.seq Ae.toArray n' }:=by
  rw[Heap.get?_update_self f ho (by rw[hf] <;> rfl),hf]
 refine I.write (x:=p) (e:=p) (by rw[h];trivial) (.inl rfl) (λ b u hb q=>(Heap.get?_update_other _ _ (Ne.symm hb)).trans q) ⟨_,e⟩ ?_;exact⟨hz,Ae,n',r,e⟩
def Vb:V->V->V->Hp->(Hp->Prop)->Prop:=λ o i v H Q=>∃ p xs k j,o=.ref p/\i=.int k/\H p=some (.lst xs)/\vh xs.length k=some j/\Q (upd H p (.lst (xs.set j v)))
def set_list:Y5 X Vb:=by
 intro pins s B H o i v ov iv u Q I ro ri rv h;obtain⟨p,xs,k,j,rfl,rfl,hp,hj,q⟩:=h;cases ro;obtain⟨t,rfl⟩:=ri;obtain⟨its,n,r,ho,hz⟩:=I.lst hp;obtain⟨h1,h2,h3,h4⟩:=aX hj;have hl:=r.length;have hn:=qw;have I':Inv X pins B (upd H p (.lst (xs.set j v))) { s with heap:=s.heap.update p (Obj.mapSeq (·.setIfInBounds j u)) }:=
  I.Rl hp ho (Ri its n j u) (r.set rv j) (by rw[Dy];exact hz) s.toks
 by_cases h0:0<=k
 .have hk:k.toNat=j:=by
   rw[seqIndex_of h0 h4] at h1;exact A4 h1
  exact PySem.W.ki_setAt ho h0 (by lia) (by rw[Av,<- hl];exact h4) (by rw[hk];exact⟨_,I',q⟩)
 .have hk:(k+(its.toArray.size:Int)).toNat=j:=by
   rw[seqIndex_neg (by lia) h3] at h1;rw[Av,<- hl];exact A4 h1
  exact PySem.W.ki_setBack ho (by lia) (by rw[Av,<- hl];exact h3) (by lia) (by rw[hk];exact⟨_,I',q⟩)
def P_:yK X (.builtin "len") (λ xs H Q=>∃ p ys,xs=[.ref p]/\(zO X.K H p ys\/z_ X.K H p ys)/\Q (.int ys.length) H):=by
 intro pins s B H xs us Q I r h;obtain⟨p,ys,rfl,hq,q⟩:=h;obtain⟨u,rfl,rx⟩:=vals1 r;cases rx;have hn:=qw;rcases hq with hq | hq
 .obtain⟨its,r',pl,hz⟩:=I.list hq;have hlen:=r'.length;exact Calls.call_len_list pl.isList (by simp only[Av] <;> lia) ⟨.int ys.length,H,I.tok _,⟨s.toks+1,by rw[Av,hlen]⟩,q⟩
 .obtain⟨its,r',pl,hz⟩:=I.tuple hq;have hlen:=r'.length;exact len_tuple pl (by simp only[Av] <;> lia) ⟨.int ys.length,H,I.tok _,⟨s.toks+1,by rw[Av,hlen]⟩,q⟩
def PZ:yK X (.builtin "len") (λ xs H Q=>∃ z,xs=[.str z]/\z.length<=sizeLine/\Q (.int z.length) H):=by
 intro pins s B H xs us Q I r h;obtain⟨z,rfl,hz,q⟩:=h;obtain⟨u,rfl,t,rfl⟩:=vals1 r;have hn:=qw;exact len_str (by lia) ⟨.int z.length,H,I.tok _,⟨_,rfl⟩,q⟩
def yK.or {f:Value}{r r':List V->Hp->VK->Prop}(h:yK X f r) (h':yK X f r'):yK X f (λ xs H Q=>r xs H Q\/r' xs H Q):=by
 intro pins s B H xs us Q I rs q;rcases q with q | q
 .exact h pins s B H xs us Q I rs q
 .exact h' pins s B H xs us Q I rs q
def PX:yK X (.type "list") (λ xs H Q=>∃ p ys,xs=[.ref p]/\(zO X.K H p ys\/z_ X.K H p ys)/\∀ l,H l=none->Q (.ref l) (upd H l (.lst ys))):=by
 intro pins s B H xs us Q I r h;obtain⟨p,ys,rfl,hq,q⟩:=h;obtain⟨u,rfl,rx⟩:=vals1 r;cases rx;have fin:∀ (its:List Value),Vals ys its->ys.length<=sizeLine->∀ (h':Heap) (c':Nat),(∀ b o',s.heap.get? b=some o'->h'.get? b=some o')->
   h'.get? s.heap.objs.size=some { cls:=.type "list",dict:=none,data:=.seq its.toArray c',slots:=#[] }->EP X pins B Q (.ref s.heap.objs.size) { s with heap:=h' }:=λ its r' hz h' c' kp e=>
  ⟨.ref s.heap.objs.size,_,I.laid (t':=s.toks) kp (Ag _) (show xg X.prog X.w _ h' _ (.lst ys) from ⟨hz,its,c',r',e⟩),rfl,q _ (I.zx.fresh (Ag _))⟩
 rcases hq with hq | hq
 .obtain⟨its,r',pl,hz⟩:=I.list hq;have hlen:=r'.length;obtain⟨o,ho,hc,n,hd⟩:=pl.isList;exact call_list_seq p (.inl rfl) ho hc hd (λ h' c' kp e=>fin its r' hz h' c' kp e) (by simp only[Av] <;> lia)
 .obtain⟨its,r',pl,hz⟩:=I.tuple hq;have hlen:=r'.length;obtain⟨o,ho,hc,n,hd⟩:=pl;exact call_list_seq p (.inr rfl) ho hc hd (λ h' c' kp e=>fin its r' hz h' c' kp e) (by simp only[Av] <;> lia)
def P0:yK X (.type "tuple") (λ xs H Q=>∃ p ys,xs=[.ref p]/\((zO X.K H p ys/\∀ l,H l=none->Q (.ref l) (upd H l (.tup ys)))\/(z_ X.K H p ys/\Q (.ref p) H))):=by
 intro pins s B H xs us Q I r h;obtain⟨p,ys,rfl,h⟩:=h;obtain⟨u,rfl,rx⟩:=vals1 r;cases rx;rcases h with ⟨hq,q⟩ | ⟨hq,q⟩
 .obtain⟨its,r',pl,hz⟩:=I.list hq;have hlen:=r'.length;refine call_tuple_list pl.isList (λ h' kp=>?_) (by simp only[Av] <;> lia);have I1:Inv X pins B H { s with heap:=h' }:=I.kept (t':=s.toks) kp;have I2:Inv X pins B (upd H h'.objs.size (.tup ys)) { s with heap:=h'.push { cls:=.type "tuple",data:=.seq its.toArray } }:=
   I1.laid (t':=s.toks) (λ b o e=>Ao _ e) (Ag _) (show xg X.prog X.w _ _ _ (.tup ys) from ⟨hz,its,r',IsTup.new _ _⟩)
  exact⟨.ref h'.objs.size,_,I2,rfl,q _ (I1.zx.fresh (Ag _))⟩
 .obtain⟨its,r',pl,hz⟩:=I.tuple hq;exact call_tuple_same pl ⟨.ref p,H,I,rfl,q⟩
def cq (K:Ac) (T:String) (x:V) (H:Hp):Prop:=match x with
 | .str _=>T="str"
 | .int _=>T="int"
 | .ref p=>(T="list"/\∃ xs,zO K H p xs)\/(T="tuple"/\∃ o,K.lookup p=some o/\o.cls=.type "tuple"/\o.dict=none)\/
   (T="dict"/\((∃ Aa,H p=some (.dK Aa))\/∃ Aa,H p=some (.dT Aa)))\/(T="set"/\∃ S n,H p=some (.set S n))
 | _=>False
def X4 {pins:List (Addr×Obj)}{B:St}{H:Hp}{s:Shared}{T:String}{x:V}{v:Value}(I:Inv X pins B H s) (r:RelV x v) (ty:cq X.K T x H):
  s.TypeIs v T/\∀ a,v=.ref a->∃ ob,s.heap.get? a=some ob/\ob.dict=none:=by
 cases x with
 | str z=>
  obtain⟨t,rfl⟩:=r;cases (show T="str" from ty);exact⟨typeIs_str s z t,λ _ e=>nomatch e⟩
 | int i=>
  obtain⟨t,rfl⟩:=r;cases (show T="int" from ty);exact⟨typeIs_int s i t,λ _ e=>nomatch e⟩
 | ref p=>
  cases r;rcases ty with ⟨rfl,xs,hq⟩ | ⟨rfl,o,hk,hc,hd⟩ | ⟨rfl,hk⟩ | ⟨rfl,S,n,hk⟩
  .obtain⟨its,_,pl,_⟩:=I.list hq;refine⟨pl.isList.typeIs,λ a e=>?_⟩;cases e;obtain⟨o,n,e,c,hd,_⟩:=pl;exact⟨o,e,hd⟩
  .refine⟨⟨o,I.vQ p o hk,hc⟩,λ a e=>?_⟩;cases e;exact⟨o,I.vQ _ o hk,hd⟩
  .have z:∃ o,s.heap.get? p=some o/\o.ExactDict:=by
    rcases hk with ⟨Aa,hk⟩ | ⟨Aa,hk⟩
    .obtain⟨_,_,_,_,o,_,_,e,ex,_⟩:=I.zx p _ hk;exact⟨o,e,ex⟩
    .obtain⟨_,_,_,_,o,_,_,e,ex,_⟩:=I.zx p _ hk;exact⟨o,e,ex⟩
   obtain⟨o,e,ex⟩:=z;refine⟨⟨o,e,ex.1⟩,λ a e2=>?_⟩;cases e2;exact⟨o,e,ex.2.1⟩
  .obtain⟨o,_,_,_,e,ex,_⟩:=I.zx p _ hk;refine⟨⟨o,e,ex.1⟩,λ a e2=>?_⟩;cases e2;exact⟨o,e,ex.2.1⟩
 | _=>exact False.elim ty
def jL (K:Ac) (T:String) (r:V->List V->Hp->VK->Prop) (to:TE) (t:TA):TE:=fun B H Q=>to B H λ x H1=>cq K T x H1/\t B H1 λ xs H2=>r x xs H2 Q
variable {o e:Expr}{es:List Expr}{to:TE}{t:TA}{name:Str}{apos Aj:Pos}{T id:String}{r:V->List V->Hp->VK->Prop}
def b6 (pa:PlainAttrs T) (slot:Slot T name id) (hty:typeOf (.builtin id)=pure (.type "method_descriptor")) (hm:O8 X id r) (ho:PE X o to) (ha:PA X (e::es) t)
  (hbase:attributeBase o name X.env (eval o X.env)=eval o X.env:=by rfl)
  (AI:((backTo Aj (starEach (e::es) X.env)).all (λ x=>!x.1)&&(backToKw Aj (keywordEach [] X.env)).all (λ x=>x.1.isSome)
   && decide ((e::es).length+([]:List Keyword).length+(if ([]:List Keyword).isEmpty then 0 else 1)<30))=true:=by rfl)
  (hline:(apos.endLine == Aj.line)=true:=by rfl) (hs:starEach (e::es) X.env=(false,eval e X.env)::starEach es X.env:=by rfl) (hplain:(backTo Aj (starEach es X.env)).any (·.1)=false:=by rfl):
  PE X (.Call (.Attribute o name apos) (e::es) [] Aj) (jL X.K T r to t):=by
 intro pins s B H Q I h;refine wpAny_Call_method_late hbase AI hline rfl (zG (ho pins s B H _ I h) λ v s1 ⟨x,H1,I1,r1,ty,q1⟩=>?_);obtain⟨h1,h2⟩:=X4 I1 r1 ty;refine⟨T,id,pa,slot,hty,h1,h2,?_⟩;have hA:=ha Aj pins s1 B H1 _ I1 q1;rw[hs] at hA ⊢;refine Calls.callWith_builtin (by show (false||(backTo Aj (starEach es X.env)).any (·.1))=false;rw[hplain] <;> rfl) (Calls.evalArgs_plain ?_);exact zG hA λ us s2 ⟨vs,H2,I2,r2,q2⟩=>hm pins s2 B H2 x vs v us Q I2 r1 r2 q2
end
def Y6 (X:Cx) (id:String) (r:V->List V->Hp->VK->Prop):Prop:=
 ∀ (pins:List (Addr×Obj)) (s:Shared) (B:St) (H:Hp) (x:V) (xs:List V) (v:Value) (us:List Value) (Q:VK),Inv X pins B H s->RelV x v->Vals xs us->r x xs H Q->
  wpAny (model X.prog X.w) X.A (call (.builtin id) (v::us)) (EP X pins B Q) X.xe s
theorem Vals.one:∀ {x:V}{us:List Value},Vals [x] us->∃ u,us=[u]/\RelV x u
 | _,_,.cons r .nil=>⟨_,rfl,r⟩
theorem Vals.rep {xs:List V}{us:List Value}(h:Vals xs us):∀ k:Nat,Vals (List.replicate k xs).flatten (List.replicate k us).flatten
 | 0=>.nil
 | k+1=>by
  rw[BK,BK,Ca,Ca];exact Vals.append h (Vals.rep h k)
section
variable {X:Cx}{pins:List (Addr×Obj)}{B:St}{H:Hp}{s:Shared}{l b:Addr}{xs ys zs:List V}
def Inv.ay {its Ae:List Value}{n:Nat}{f:Array Value->Array Value}{t':Nat}(I:Inv X pins B H s) (hH:H l=some (.lst xs))
  (e:s.heap.get? l=some { cls:=.type "list",data:=.seq its.toArray n }) (hf:f its.toArray=Ae.toArray) (hv:Vals ys Ae) (hz:ys.length<=sizeLine):
  Inv X pins B (upd H l (.lst ys)) { s with heap:=s.heap.update l (Obj.mapSeq f),toks:=t' }:=by
 have q:=PySem.IsL.update e f;rw[hf] at q;refine I.write (x:=l) (e:=l) (by rw[hH];exact trivial) (.inl rfl) (λ b' u hb hu=>(Heap.get?_update_other s.heap (Obj.mapSeq f) (Ne.symm hb)).trans hu) ⟨_,q⟩ ?_;exact⟨hz,Ae,_,hv,q⟩
def Inv.Ro {its:List Value}{t':Nat}(I:Inv X pins B H s) (hv:Vals ys its) (hz:ys.length<=sizeLine):
  Inv X pins B (upd H s.heap.objs.size (.lst ys)) { s with heap:=s.heap.push { cls:=.type "list",data:=.seq its.toArray },toks:=t' }:=
 I.laid (λ _ _ q=>Ao _ q) (Ag _) ⟨hz,its,0,hv,AE _ rfl⟩
theorem Inv.fresh (I:Inv X pins B H s):H s.heap.objs.size=none:=I.zx.fresh (Ag _)
def Inv.gz (I:Inv X pins B H s) (hH:H l=some (.lst xs)):xs.length<=sizeLine/\∃ (its:List Value) (n:Nat),Vals xs its/\xs.length=its.length/\s.heap.get? l=some { cls:=.type "list",data:=.seq its.toArray n }:=by
 obtain⟨z,its,n,r,e⟩:=I.zx l _ hH;exact⟨z,its,n,r,r.length,e⟩
def S9 {n:Nat}(h:n<=sizeLine):Builtin.List.listTooLong n=false:=by
 unfold Builtin.List.listTooLong;exact decide_eq_false (by lia)
end
section
variable {X:Cx}
def bo:V->List V->Hp->VK->Prop:=λ x vs H Q=>∃ l xs y,x=.ref l/\vs=[y]/\H l=some (.lst xs)/\xs.length<sizeLine/\Q .zi (upd H l (.lst (xs++[y])))
def av:Y6 X "list.append" bo:=by
 intro pins s B H x vs v us Q I rx rv h;obtain⟨l,xs,y,rfl,rfl,hH,hz,q⟩:=h;cases rx;obtain⟨u,rfl,ru⟩:=rv.one;obtain⟨z,its,n,r,hl,e⟩:=I.gz hH;refine call_meets F.slot_list_append ⟨_,e,rfl⟩ F.entry_list_append (F.args_list_append_2 _ _) (PySem.list_append l its.toArray n u (by rw[Av];lia)) ⟨e,?_⟩;refine⟨.zi,_,I.ay (Ae:=its++[u]) hH e (by simp) (r.append (.cons ru .nil)) ?_,rfl,q⟩;rw[Cc,List.length_singleton];lia
def bf:V->List V->Hp->VK->Prop:=λ x vs H Q=>∃ l b xs zs,x=.ref l/\vs=[.ref b]/\H l=some (.lst xs)/\H b=some (.lst zs)/\xs.length+zs.length<=sizeLine/\Q .zi (upd H l (.lst (xs++zs)))
def S_:Y6 X "list.extend" bf:=by
 intro pins s B H x vs v us Q I rx rv h;obtain⟨l,b,xs,zs,rfl,rfl,hH,hB,hz,q⟩:=h;cases rx;obtain⟨u,rfl,ru⟩:=rv.one;cases ru;obtain⟨z,its,n,r,hl,e⟩:=I.gz hH;obtain⟨z2,its2,n2,r2,hl2,e2⟩:=I.gz hB;have hsz:its.toArray.size+its2.toArray.size<=sizeLine:=by rw[Av,Av];lia
 have hlong:¬ (!its.toArray.isEmpty&&Builtin.List.listTooLong (its.toArray.size+its2.toArray.size))=true:=by
  rw[S9 hsz,B_];exact BA
 refine call_meets F.slot_list_extend ⟨_,e,rfl⟩ F.entry_list_extend (F.args_list_extend_2 _ _)
  (AutoSeq1.list_extend_list_list_0 l its.toArray n b its2.toArray n2 hlong (by rw[Av];lia) (by lia)) ⟨e,e2,?_⟩
 refine⟨.zi,_,I.ay (Ae:=its++its2) hH e (by simp) (r.append r2) ?_,rfl,q⟩;rw[Cc];lia
end
section
variable {prog:Program}{w:World}{A:Around}{E:Value->Shared->Prop}{s:Shared}
end
section
variable {X:Cx}
end
end L2
namespace Xq
open PySem PySem.W PySem.Calls PyProof.Rows
def Qc {P:Params}{h:Heap}:∀ (ns:List Int) (vs:List Value),WellAll P h vs (ns.map WData.int)->IntsAre vs ns:=by
 intro ns
 induction ns with
 | nil=>
  intro vs w;rw[Bj] at w;cases w;exact .nil
 | cons n ns ih=>
  intro vs w;rw[Au] at w;cases w with
  | cons a b=>
   cases a;exact .cons _ _ (ih _ b)
def W0 {l:OpenLaw}{n:Nat}(hn:l.most=some n) {P:Params}{h:Heap}{args:List WData}{vals:List Value}
  (BU:l.row.toRowW.claim.pre args=true) (DX:WellAll P h vals args):
  ∃ a vs ns,vals=[Value.ref a]/\args=[WData.list (ns.map WData.int)]/\h.get? a=some { cls:=.type "list",data:=.seq vs.toArray }/\IntsAre vs ns/\ns.length<=n:=by
 have DB:WShape.hasAll [] args [.list .int]=true:=(pre_splitW BU).1;have hc:l.pre.holds [] { args:=args }=true:=(pre_splitW BU).2;obtain⟨d,r,rfl,h1,h2⟩:=hasAllW_cons DB;obtain rfl:=hasAllW_nil h2;obtain⟨xs,rfl,h3⟩:=hasW_list h1;obtain⟨ns,rfl⟩:=items_int h3;have hlen:ns.length<=n:=by
  unfold OpenLaw.pre at hc;have h4:(WTm.not (.lt (.lit (.int (n:Int))) (.len (.arg 0)))).holds [] { args:=[.list (ns.map .int)] }=true:=by
   have h4:=(holds_andW hc).1;rw[hn] at h4;exact h4
  have h5:=condW_of h4 (w_not (w_lt w_lit (w_len_list (w_arg rfl))));rw[Ay] at h5;refine Nat.le_of_not_lt λ q=>?_;have q':(n:Int)<((ns.length:Nat):Int):=by lia
  first
   | (rw[decide_eq_true q'] at h5;exact absurd h5 (by decide))
   | (simp at h5;lia)
 cases DX with
 | cons w1 w2=>
  cases w2;cases w1 with
  | list ho Ax=>exact⟨_,_,ns,rfl,rfl,ho,Qc ns _ Ax,hlen⟩
def V1 (l:OpenLaw) (args:List WData):l.row.toRowW.claim.post args (.bool true) args=true:=
 postW_of (r:=l.row.toRowW) (X:=(true == true))
  (show WShape.has [] (.bool true) .bool=true by first | rfl | decide | simp[WShape.has,WShape.arms,WShape.armsAll])
  (show (WTm.eq .res (.lit (.bool true))).value [] { args:=args,res:=some (.bool true),after:=args }=some (.bool (true == true)) from w_eq_bool (w_res rfl) w_lit) rfl
def Oq {l:OpenLaw}{n:Nat}{q:Program}{loose:List Str}{XP:(Str->Option Value)->Heap->Prop}{YP:World->Heap->Prop}{d:DefRec}
  (hn:l.most=some n) (Dd:d.params.defaults=[])
  (call:∀ (w:World) (s₀ s₁:Shared) (mg mb:Str->Option Value) (fa:Addr) (o:Obj) (pm cd doc:Value) (a:Addr) (vs:List Value) (ns:List Int),
   Ground q loose [] XP w s₀ mg mb s₁.heap->YP w s₁.heap->
   s₁.heap.get? fa=some o->o.data=.func (docDef d.name d.params d.body d.scope pm cd doc)->s₁.heap.CodeRec cd d.name->mg d.name=some (.ref fa)->
   s₁.heap.get? a=some { cls:=.type "list",data:=.seq vs.toArray }->IntsAre vs ns->ns.length<=n->s₁.gens=#[]->
   codeAny (model l.prog w) callerA (.call (.ref fa) ⟨[.ref a],[]⟩) (λ r s'=>r=.ok (.ret (.bool true))/\OldK s₁.heap s'.heap/\s'.os=s₁.os/\AllBare s'.gens) s₁):
  WalkO q loose XP YP l.row.toRowW d [] (λ f vs=>PySem.call f vs):=by
 intro w s₀ s₁ mg mb G Y fa o pm cd doc dV kV ho hd BH hD C5 hg args vals as BU C7 hrd DX C6;obtain rfl:dV=.none:=Dflts.none hD Dd;obtain rfl:kV=.none:=Dflts.noKw hD;obtain⟨a,vs,ns,rfl,rfl,CC,hints,hlen⟩:=W0 hn BU DX;refine enter_call (codeAny_mono (call w s₀ s₁ mg mb fa o pm cd doc a vs ns G Y ho (fd_plain hd) BH C5 CC hints hlen hg) λ r s' hq=>?_);obtain⟨rfl,h2,h3,h4⟩:=hq;exact⟨.inl ⟨.bool true,.bool true,[],rfl,λ _=>rfl,.bool true,V1 l _,λ _=>⟨List.Pairwise.nil,λ _ hm=>(nomatch hm)⟩⟩,h2,h3,h4⟩
section
variable {prog:Program}{w:World}{A:Around}{E:Value->Shared->Prop}{s:Shared}{K:Frag}
end
end Xq
namespace L2
open PySem PySem.Spec PyProof.Rows
theorem d_:∀ {vs:List Value}{ns:List Int},IntsAre vs ns->Vals (ns.map V.int) vs
 | _,_,.nil=>.nil
 | _,_,.cons n t h=>.cons ⟨t,rfl⟩ (d_ h)
def jk (H:Hp):Prop:=∀ b,H b=none\/∃ o xs,H b=some (.wu o (.lst xs))
def R6 {P:Program}{w:World}{K:Ac}{mg mb:Str->Option Value}{CX:uW}{k:Nat}{fa a:Addr}{fd:FuncData}{x:Str}{sp:Sp}{s₁:Shared}{vs:List Value}{ns:List Int}
  (KX:K.In s₁.heap) (CD:s₁.heap.Ns mainGlobals mg) (hb:s₁.heap.Ns builtinsNs mb) (DE:∀ x:Str,x≠"__name__"->mb x=bootBuiltins x) (Eh:s₁.heap.NoLimit) (hg:s₁.gens=#[])
  (ha:s₁.heap.get? a=some { cls:=.type "list",data:=.seq vs.toArray }) (hi:IntsAre vs ns) (hl:ns.length<=sizeLine) (hr:yF k callerA)
  (F:∀ base:Heap,K.In base->base.Ns mainGlobals mg->uB P w K mg base CX k fa fd [x] sp) (hbind:∀ (s:Shared) (u:Value),BindsTo s fd ⟨[u],[]⟩ [(x,u)])
  (Cf:∀ H:Hp,jk H->zO K H a (ns.map V.int)->sp [.ref a] H (λ v _=>v=.bl true) λ _ _ _=>False)
  (hCX:∀ H e s',CX [] H s₁ (λ _ _ _=>False) e s'->False):
  codeAny (model P w) callerA (.call (.ref fa) ⟨[.ref a],[]⟩) (λ r s'=>r=.ok (.ret (.bool true))/\OldK s₁.heap s'.heap/\s'.os=s₁.os/\AllBare s'.gens) s₁:=by
 have rv:=d_ hi;have lenV:=hi.length;have core:∀ H:Hp,jk H->zO K H a (ns.map V.int)->yX P w H s₁.heap->(∀ b,H b≠none->b=a)->(H a≠none->K.lookup a=none)->
   codeAny (model P w) callerA (.call (.ref fa) ⟨[.ref a],[]⟩) (λ r s'=>r=.ok (.ret (.bool true))/\OldK s₁.heap s'.heap/\s'.os=s₁.os/\AllBare s'.gens) s₁:=by
  intro H hO hS zx hA hK;have base_of:∀ {b:Addr}{o:Obj},s₁.heap.get? b=some o->H b=none->(sy s₁.heap H).get? b=some o:=λ e n=>Qn e n;have noA:∀ {b:Addr}{o:Obj}{es:Array DictEntry}{ep:Nat},s₁.heap.get? b=some o->o.data=.dict es ep->H b=none:=λ{b o es ep} e d=>by
   cases q:H b with
   | none=>rfl
   | some u=>
    have e':b=a:=hA b (by rw[q];simp);subst e';rw[ha] at e;cases e;have d':Data.seq vs.toArray _=Data.dict es ep:=d;cases d'
  have nsK:∀ {b:Addr}{m:Str->Option Value},s₁.heap.Ns b m->(sy s₁.heap H).Ns b m:=λ{b m} ⟨o,es,ep,e,d,r⟩=>⟨o,es,ep,base_of e (noA e d),d,r⟩;have hKb:K.In (sy s₁.heap H):=λ b o e=>base_of (KX b o e) (by
   cases q:H b with
   | none=>rfl
   | some u=>
    have e':b=a:=hA b (by rw[q];simp);subst e';rw[hK (by rw[q];simp)] at e;cases e)
  have hM:Mod K mg (sy s₁.heap H):=⟨hKb,nsK CD,⟨mb,nsK hb,DE⟩,let ⟨mc,h1,h2⟩:=Eh;⟨mc,nsK h1,h2⟩⟩
  have e0:jz P w K mg (sy s₁.heap H) callerA [] s₁ H:=⟨rfl,hM,λ b o e=>S8 e,Nat.le_of_eq (Qm _ _),trivial,λ b hb=>absurd (show b∈([]:List Addr) from hb) (by simp),zx,.of_eq hg⟩
  refine codeAny_mono ((F _ hKb (nsK CD)).run callerA [] s₁ H ⟨[.ref a],[]⟩ [.ref a] [.ref a] _ _ hr e0 (hbind s₁ (.ref a)) (.cons rfl .nil) (Cf H hO hS)) λ r s' h=>?_;cases r with
  | error e=>exact (hCX H e s' h).elim
  | ok fl=>
   cases fl with
   | next=>exact False.elim h
   | brk=>exact False.elim h
   | cont=>exact False.elim h
   | ret u=>
    obtain⟨v,H',os,bare,un,Eb,r',q⟩:=h;have q':v=.bl true:=q;subst q';obtain rfl:u=Value.bool true:=r';refine⟨rfl,OldK.of_keep λ b o e=>?_,os,bare⟩;cases q:H b with
    | none=>exact un.keep b o e q (by intro z;exact absurd (show b∈([]:List Addr) from z) (by simp)) (by simp)
    | some u=>
     rcases hO b with z | ⟨ob,xs,z⟩
     .rw[q] at z;cases z
     .have z2:=un.sA b ob _ z;obtain⟨e1,_⟩:=zx b _ z;obtain⟨e2,_⟩:=Eb b _ z2;rw[e] at e1;cases e1;exact e2
 cases hk:K.lookup a with
 | some o=>
  have e:=KX a o hk;rw[ha] at e;cases e;refine core (λ _=>none) (λ _=>.inl rfl) (.inr ⟨_,vs.toArray,_,hk,rfl,rfl,rfl,by rw[Av,lenV];exact hl,by simpa using rv⟩) (λ b u z=>by have z':(none:Option HO)=some u:=z;cases z') (λ b z=>absurd rfl z) λ z=>absurd rfl z
 | none=>
  refine core (λ b=>if b=a then some (.wu { cls:=.type "list",data:=.seq vs.toArray } (.lst (ns.map V.int))) else none) (λ b=>?_) (.inl (.inr ⟨{ cls:=.type "list",data:=.seq vs.toArray },if_pos rfl⟩)) (λ b u z=>?_) (λ b z=>?_) λ _=>hk
  .by_cases hb:b=a
   .exact .inr ⟨_,_,if_pos hb⟩
   .exact .inl (if_neg hb)
  .by_cases hb:b=a
   .have z':=(if_pos hb).symm.trans z;cases z';subst hb;exact⟨ha,by rw[Ay];exact hl,vs,_,rv,ha⟩
   .have z':=(if_neg hb).symm.trans z;cases z'
  .by_cases hb:b=a
   .exact hb
   .exact absurd (if_neg hb) z
def Xt {l:PySem.W.OpenLaw}{n k:Nat}{q:Program}{loose:List Str}{XP:(Str->Option Value)->Heap->Prop}{YP:World->Heap->Prop}{d:DefRec}{K:Params->Ac}{CX:World->uW}{sp:World->Sp}{x:Str}
  (hn:l.most=some n) (hn2:n<=sizeLine) (Dd:d.params.defaults=[]) (hr:yF k callerA)
  (hY:∀ (w:World) (h:Heap),YP w h->(K w.params).In h)
  (F:∀ (w:World) (mg:Str->Option Value) (fa:Addr) (h:Heap),(K w.params).In h->h.Ns mainGlobals mg->mg d.name=some (.ref fa)->
   ∃ fd:FuncData,(∀ (s:Shared) (u:Value),BindsTo s fd ⟨[u],[]⟩ [(x,u)])/\
    ∀ base:Heap,(K w.params).In base->base.Ns mainGlobals mg->uB l.prog w (K w.params) mg base (CX w) k fa fd [x] (sp w))
  (Cf:∀ (w:World) (H:Hp) (a:Addr) (ns:List Int),ns.length<=n->jk H->zO (K w.params) H a (ns.map V.int)->sp w [.ref a] H (λ v _=>v=.bl true) λ _ _ _=>False)
  (hCX:∀ (w:World) (H:Hp) (s:Shared) (e:Value) (s':Shared),CX w [] H s (λ _ _ _=>False) e s'->False):
  PySem.W.WalkO q loose XP YP l.row.toRowW d [] (λ f vs=>PySem.call f vs):=by
 refine Xq.Oq hn Dd λ w s₀ s₁ mg mb fa o pm cd doc a vs ns G Y ho hd BH C5 CC hints hlen hg=>?_;have KX:=hY w _ Y;obtain⟨fd,hb,hF⟩:=F w mg fa _ KX G.T.g C5;exact R6 KX G.T.g G.T.b G.T.builtins G.T.nolimit hg CC hints (Bl hlen hn2) hr hF hb (λ H hO hS=>Cf w H a ns hlen hO hS) λ H e s'=>hCX w H s₁ e s'
noncomputable def sD (s:Stmt):Arguments:=match s with
 | .FunctionDef _ a _ _ _ _ _ _ _ _=>a
 | _=>{ posonlyargs:=[],args:=[],vararg:=none,kwonlyargs:=[],kw_defaults:=[],kwarg:=none,defaults:=[] }
noncomputable def v5 (s:Stmt):List Stmt:=match s with
 | .FunctionDef _ _ b _ _ _ _ _ _ _=>b
 | _=>[]
noncomputable def zE (s:Stmt):Scope:=match s with
 | .FunctionDef _ _ _ _ _ _ sc _ _ _=>sc
 | _=>{ kind:=.function,names:=[],isGenerator:=false,isCoroutine:=false }
abbrev vG:uW:=λ _ _ _ _ _ _=>False
abbrev E0:XK:=λ _ _ _=>False
def UA {X:Cx}:Passes vG X E0:=λ _ _ _ _ _ _ _ h=>h.elim
structure uU (K:Ac) (x qual:Str) (st:Stmt) (f:Addr) (fd:FuncData):Prop where
 ex:∃ (oc:Value) (od:Option Addr) (kV doc pm:Value) (an:Option Addr) (Af ct:Value) (osl:Array (Option Value)),
  fd=PySem.W.fnOf x qual (sD st) (v5 st) (zE st) .none kV doc pm an Af ct/\K.lookup f=some ⟨oc,od,.func fd,osl⟩/\PySem.W.codeIn K Af qual=true
 kp:PySem.W.keepIn K (.ref f)=true
section
variable {P:Program}{w:World}{K:Ac}{mg:Str->Option Value}{base:Heap}
def uU.ok {x qual:Str}{st:Stmt}{f:Addr}{fd:FuncData}{N ps:List Str}{k:Nat}{sp:Sp}(F:uU K x qual st f fd) (S:yq N ps (zE st)) (len:∀ vs H Q E,sp vs H Q E->vs.length=ps.length)
  (hbody:∀ (Af:Value) (A:Around) (outer:List Env) (s:Shared) (H:Hp) (vs:List V) (Q:VK) (E:XK),yF k (A.deeper (envOfC qual (zE st) s.heap.objs.size f Af))->sp vs H Q E->
   ∃ t,wg (tP vG P w K mg base N qual (zE st) f Af A outer s H E).rp (v5 st) t/\t { nx:=λ _ H'=>Q .zi H',rt:=Q } (start N vs) H):uB P w K mg base vG (k+1) f fd ps sp:=by
 obtain⟨oc,od,kV,doc,pm,an,Af,ct,osl,rfl,lk,BH⟩:=F.ex;refine Q9 lk BH S len λ A outer s H vs Q E hr Cf=>?_;obtain⟨t,h,q⟩:=hbody Af A outer s H vs Q E hr Cf;exact⟨t,h.rp,q⟩
def uU.binds {x qual:Str}{st:Stmt}{f:Addr}{fd:FuncData}{ps:List Str}(F:uU K x qual st f fd)
  (h:∀ (kV doc pm:Value) (an:Option Addr) (Af ct:Value) (us:List Value),us.length=ps.length->bindArgs (PySem.W.fnOf x qual (sD st) (v5 st) (zE st) .none kV doc pm an Af ct) ⟨us,[]⟩=pure (ps.zip us)):Binds K fd ps []:=by
 obtain⟨oc,od,kV,doc,pm,an,Af,ct,osl,rfl,lk,BH⟩:=F.ex;exact .all (h kV doc pm an Af ct)
def Zx {x qual:Str}{st:Stmt}{f:Addr}{oc:Value}{od an:Option Addr}{osl:Array (Option Value)}{kV doc pm Af ct:Value}(l:K.lookup f=some ⟨oc,od,.func (PySem.W.fnOf x qual (sD st) (v5 st) (zE st) .none kV doc pm an Af ct),osl⟩)
  (c:PySem.W.codeIn K Af qual=true) (k:PySem.W.keepIn K (.ref f)=true):uU K x qual st f (PySem.W.fnOf x qual (sD st) (v5 st) (zE st) .none kV doc pm an Af ct):=⟨⟨oc,od,kV,doc,pm,an,Af,ct,osl,rfl,l,c⟩,k⟩
end
def gN {A:Around}{k:Nat}(hr:yF k A):A.units+1<cLine:=Nat.lt_of_le_of_lt (Nat.add_le_add_left (by decide:1<=64) _) hr.units
section
variable {X:Cx}
def pv (i:Nat) {x:Str}{pos:Pos}(hN:X.N[i]?=some x:=by rfl) (hv:ea X.env.scope x:=by first | exact Or.inl rfl | exact Or.inr (Or.inl rfl) | exact Or.inr (Or.inr rfl)) (hd:(x == ("__debug__":Str))=false:=by decide)
  (BH:(x == ("__classdict__":Str))=false:=by decide):PE X (.Name x pos) (jH i):=VI hN hv hd BH
end
end L2
namespace PySem
theorem fL {env:Env}:∀ (l:List (Str×NameKind)) (acc:List (Str×Addr)),(∀ y∈l,y.2=.free->∃ c,env.cells.lookup y.1=some c)->
  ∃ cl,(forIn l acc (λ(x:Str×NameKind) r=>if (x.2 == NameKind.free)=true then do let a <- cellOf env x.1;pure (ForInStep.yield ((x.1,a)::r)) else pure (ForInStep.yield r)):Sem (List (Str×Addr)))=pure cl/\
   (∀ x c,cl.lookup x=some c->acc.lookup x=some c\/((x,NameKind.free)∈l/\env.cells.lookup x=some c))/\(∀ x,(x,NameKind.free)∈l\/(acc.lookup x).isSome->(cl.lookup x).isSome)
 | [],acc,_=>⟨acc,rfl,λ x c h=>.inl h,λ x h=>by simpa using h⟩
 | (n,k)::l,acc,h=>by
  by_cases hk:k=.free
  .subst hk;obtain⟨c,hc⟩:=h (n,.free) Am rfl;obtain⟨cl,e1,e2,e3⟩:=fL l ((n,c)::acc) λ y hy=>h y (Ar _ hy);refine⟨cl,?_,λ x d hx=>?_,λ x hx=>?_⟩
   .rw[Dx];simp only[beq_self_eq_true,if_true,cellOf,hc];exact e1
   .rcases e2 x d hx with q | ⟨q1,q2⟩
    .rw[Bv] at q;cases C1:x == n with
     | true=>
      rw[C1] at q;have:x=n:=by simpa using C1
      subst this;refine .inr ⟨Am,?_⟩;rw[hc];exact q
     | false=>rw[C1] at q;exact .inl q
    .exact .inr ⟨Ar _ q1,q2⟩
   .refine e3 x ?_;rcases hx with hx | hx
    .rcases Ah.mp hx with q | q
     .have:x=n:=congrArg Prod.fst q;subst this;exact .inr (by simp[Bv])
     .exact .inl q
    .refine .inr ?_;rw[Bv];cases x == n <;> simp[hx]
  .have hb:(k == NameKind.free)=false:=by simpa using hk
   obtain⟨cl,e1,e2,e3⟩:=fL l acc λ y hy=>h y (Ar _ hy);refine⟨cl,?_,λ x d hx=>?_,λ x hx=>?_⟩
   .rw[Dx];simp only[hb,A5,if_false];exact e1
   .rcases e2 x d hx with q | ⟨q1,q2⟩
    .exact .inl q
    .exact .inr ⟨Ar _ q1,q2⟩
   .refine e3 x ?_;rcases hx with hx | hx
    .rcases Ah.mp hx with q | q
     .exact absurd (congrArg Prod.snd q).symm hk
     .exact .inl q
    .exact .inr hx
def Yf {scope:Scope}{env:Env}(h:∀ y∈scope.names,y.2=.free->∃ c,env.cells.lookup y.1=some c):
  ∃ cl,closureFor scope env=pure cl/\(∀ x c,cl.lookup x=some c->(x,NameKind.free)∈scope.names/\env.cells.lookup x=some c)/\∀ x,(x,NameKind.free)∈scope.names->(cl.lookup x).isSome:=by
 obtain⟨cl,e1,e2,e3⟩:=fL (env:=env) scope.names [] h;refine⟨cl,?_,λ x c hx=>?_,λ x hx=>e3 x (.inl hx)⟩
 .simp only[closureFor];rw[e1];rfl
 .rcases e2 x c hx with q | q
  .simp at q
  .exact q
theorem aB {env:Env}:∀ {names:List (Str×NameKind)}{x:Str},names.lookup x=some .free->
  (names.map λ(n,k)=>if (k == NameKind.free&&env.scope.kind == .function&&env.kindOf n == some .cell) then (n,NameKind.cell) else (n,k)).lookup x=some .cell\/
  (names.map λ(n,k)=>if (k == NameKind.free&&env.scope.kind == .function&&env.kindOf n == some .cell) then (n,NameKind.cell) else (n,k)).lookup x=some .free
 | [],_,h=>by simp at h
 | (n,k)::r,x,h=>by
  have ih:=@aB env r x;show List.lookup x ((if (k == NameKind.free&&env.scope.kind == .function&&env.kindOf n == some .cell)=true then (n,NameKind.cell) else (n,k))::_)=_\/List.lookup x ((if (k == NameKind.free&&env.scope.kind == .function&&env.kindOf n == some .cell)=true then (n,NameKind.cell) else (n,k))::_)=_;cases hx:x == n with
  | true=>
   simp only[Bv,hx] at h;cases h;by_cases hc:(NameKind.free == NameKind.free&&env.scope.kind == .function&&env.kindOf n == some .cell)=true
   .rw[if_pos hc];simp[Bv,hx]
   .rw[if_neg hc];simp[Bv,hx]
  | false=>
   simp only[Bv,hx] at h;by_cases hc:(k == NameKind.free&&env.scope.kind == .function&&env.kindOf n == some .cell)=true
   .rw[if_pos hc];simp only[Bv,hx];exact ih h
   .rw[if_neg hc];simp only[Bv,hx];exact ih h
theorem cU {env:Env}:∀ {names:List (Str×NameKind)}{x:Str},(∀ y∈names,y.2≠.cell)->
  ((names.map λ(n,k)=>if (k == NameKind.free&&env.scope.kind == .function&&env.kindOf n == some .cell) then (n,NameKind.cell) else (n,k)).lookup x=some .cell\/
  (names.map λ(n,k)=>if (k == NameKind.free&&env.scope.kind == .function&&env.kindOf n == some .cell) then (n,NameKind.cell) else (n,k)).lookup x=some .free)->(x,NameKind.free)∈names
 | [],_,_,h=>by simp at h
 | (n,k)::r,x,hn,h=>by
  have ih:=@cU env r x λ y hy=>hn y (Ar _ hy);have h':List.lookup x ((if (k == NameKind.free&&env.scope.kind == .function&&env.kindOf n == some .cell)=true then (n,NameKind.cell) else (n,k))::_)=some .cell\/List.lookup x ((if (k == NameKind.free&&env.scope.kind == .function&&env.kindOf n == some .cell)=true then (n,NameKind.cell) else (n,k))::_)=some .free:=h;have hf:∀ k',((if (k == NameKind.free&&env.scope.kind == .function&&env.kindOf n == some .cell)=true then (n,NameKind.cell) else (n,k)):Str×NameKind)=(n,k')->(k'=.cell\/k'=.free)->k=.free:=by
   intro k' e hk';by_cases hc:(k == NameKind.free&&env.scope.kind == .function&&env.kindOf n == some .cell)=true
   .simp only[BN] at hc;simpa using hc.1.1
   .rw[if_neg hc] at e;have:k=k':=congrArg Prod.snd e;subst this;rcases hk' with q | q
    .exact absurd q (hn (n,k) Am)
    .exact q
  cases hx:x == n with
  | true=>
   have C1:x=n:=by simpa using hx
   subst C1;by_cases hc:(k == NameKind.free&&env.scope.kind == .function&&env.kindOf x == some .cell)=true
   .simp only[BN] at hc;have:k=.free:=by simpa using hc.1.1
    subst this;exact Am
   .rw[if_neg hc] at h';simp only[Bv,beq_self_eq_true] at h';rcases h' with q | q
    .exact absurd (A4 q) (hn (x,k) Am)
    .have:=A4 q;subst this;exact Am
  | false=>
   refine Ar _ (ih ?_);by_cases hc:(k == NameKind.free&&env.scope.kind == .function&&env.kindOf n == some .cell)=true
   .rw[if_pos hc] at h';simp only[Bv,hx] at h';exact h'
   .rw[if_neg hc] at h';simp only[Bv,hx] at h';exact h'
end PySem
namespace L2
open PySem PySem.Spec PyProof.Rows
noncomputable def ud (pick:List (Option Nat)) (B:St):St:=pick.map λ o=>o.bind λ i=>(B[i]?).join
noncomputable def yU (X:Cx) (N':List Str) (scope:Scope) (cl:List (Str×Addr)) (C:Addr) (s:Shared) (H:Hp) (ex:List Addr):Cx:=
 { X with N:=N',s₀:=s,H₀:=H,env:=compEnvC scope cl C X.env,outer:=X.stack,stack:=X.stack,ex:=ex,fn:=λ _=>false,pn:=[],xe:=λ _ _=>False }
noncomputable def px (N N':List Str) (pick:List (Option Nat)) (scope:Scope):Bool:=(N'.zip pick).all λ p=>match p.2 with
 | none=>true
 | some j=>decide (N[j]?=some p.1)&&decide (scope.names.lookup p.1=some .free)
structure qU (X:Cx) (N':List Str) (pick:List (Option Nat)) (scope:Scope):Prop where
 kind:scope.kind=.function
 ab:∀ y∈scope.names,y.2≠.cell
 names:∀ y∈scope.names,y.2=.local->scope.names.lookup y.1=some .local
 free:∀ y∈scope.names,y.2=.free->X.env.scope.names.lookup y.1=some .cell\/X.env.scope.names.lookup y.1=some .free
 len:pick.length=N'.length
 ok:px X.N N' pick scope=true
def px.get {N N':List Str}{pick:List (Option Nat)}{scope:Scope}(h:px N N' pick scope=true) {i j:Nat}{x:Str}(h1:N'[i]?=some x) (h2:pick[i]?=some (some j)):N[j]?=some x/\scope.names.lookup x=some .free:=by
 unfold px at h;have hm:(x,some j)∈N'.zip pick:=by
  refine Bb (i:=i) ?_;rw[List.getElem?_zip_eq_some];exact⟨h1,h2⟩
 have q:=Cv.mp h _ hm;simp only[BN,decide_eq_true_eq] at q;exact q
def ud.get {pick:List (Option Nat)}{B:St}{i:Nat}{v:V}(h:(ud pick B)[i]?=some (some v)):∃ j,pick[i]?=some (some j)/\B[j]?=some (some v):=by
 unfold ud at h;rw[Az] at h;cases e:pick[i]? with
 | none=>rw[e] at h;cases h
 | some o=>
  rw[e] at h;cases o with
  | none=>simp at h
  | some j=>
   refine⟨j,rfl,?_⟩;simp only[Option.map_some,Option.some.injEq,Bn] at h;cases q:B[j]? with
   | none=>rw[q] at h;simp at h
   | some w=>rw[q] at h;simp at h;rw[h]
def PF (X:Cx) (ifs:List Expr) (t:TT):Prop:=∀ (pins:List (Addr×Obj)) (s:Shared) (B:St) (H:Hp) (Q:Bool->Hp->Prop),Inv X pins B H s->t B H Q->
 wpAny (model X.prog X.w) X.A (forIn ifs true λ c r=>if r=true then do let ok <- isTrue c X.env (eval c X.env);pure (ForInStep.yield ok) else pure (ForInStep.yield r)) (TP X pins B Q) X.xe s
def VG {X:Cx}:PF X [] (λ _ H Q=>Q true H):=λ _ _ _ H _ I h=>wpAny_tests_nil ⟨H,I,h⟩
def VF {X:Cx}{c:Expr}{t:TT}(h:PT X c t):PF X [c] t:=λ pins s B H Q I q=>wpAny_tests_one (h pins s B H Q I q)
def jJ (pick:List (Option Nat)) (wi:TI) (g:TG) (tc:TT) (te:TE):TE:=fun B H Q=>wi B H λ J H1=>∀ D,H1 D=none->∃ W:Nat->Nat->St->Hp->Prop,(∃ m,W 0 m (ud pick B) (upd H1 D (.lst [])))/\
 ∀ i m B H,W i m B H->(J.stop i H/\Q (.ref D) H)\/(J.go i H/\∀ x H',J.qV i H x H'->g x B H' fun B2 H2=>tc B2 H2 λ b H3=>
  if b=true then te B2 H3 λ y H4=>∃ ys m',H4 D=some (.lst ys)/\ys.length<sizeLine/\m'<m/\W (i+1) m' B2 (upd H4 D (.lst (ys++[y]))) else ∃ m',m'<m/\W (i+1) m' B2 H3)
section
variable {X:Cx}{pins:List (Addr×Obj)}{B:St}{H:Hp}{s:Shared}{N':List Str}{pick:List (Option Nat)}{scope:Scope}{cl:List (Str×Addr)}{C:Addr}{fp:List Addr}
def Qb (S:qU X N' pick scope) (I:Inv X pins B H s) (A7:∀ b∈fp,vX X pins H b) (An:∀ b∈fp,b<s.heap.objs.size)
  (c1:∀ x c,cl.lookup x=some c->(x,NameKind.free)∈scope.names/\X.env.cells.lookup x=some c) (c2:∀ x,(x,NameKind.free)∈scope.names->(cl.lookup x).isSome)
  {h1:Heap}{m1:Str->Option Value}{t':Nat}(hC:s.heap.objs.size<C) (old:∀ b o,s.heap.get? b=some o->h1.get? b=some o) (CD:h1.Ns C m1)
  (hD:h1.get? s.heap.objs.size=some { cls:=.type "list",data:=.seq #[] 0 }):
  Inv (yU X N' scope cl C s H fp) [] (ud pick B) (upd H s.heap.objs.size (.lst [])) { s with heap:=h1,toks:=t' }:=by
 have hDn:H s.heap.objs.size=none:=I.zx.fresh (Ag _);have hCn:H C=none:=I.zx.fresh (BC hC);have clt:∀ x c,cl.lookup x=some c->c<s.heap.objs.size:=λ x c e=>by
  obtain⟨v,q⟩:=I.cell x c (c1 x c e).2;exact q.lt
 refine⟨⟨I.ok.mod,S.kind,I.ok.glob,I.ok.blt,BC hC,λ x y c e1 e2=>I.ok.inj x y c (c1 x c e1).2 (c1 y c e2).2,λ x hx=>?_,λ x c hf _=>absurd (show false=true from hf) BA,I.ok.hd,I.ok.frames,.inl rfl,
  λ b hb=>⟨Aw (CZ (An b hb) hC),λ x c e=>(A7 b hb).2.2.2.2.1 x c (c1 x c e).2⟩,I.bs,Bl I.ok.qF I.sz,λ b o e hb=>?_,λ b hb z=>?_,I.stack,I.c6⟩,
  rfl,I.bare,Un.laid old (Ag _) hDn,⟨m1,CD,λ i x v e1 e2 e3=>?_⟩,λ x c e=>?_,?_,λ x c e=>?_,λ p hp=>absurd (show p∈([]:List (Addr×Obj)) from hp) (by simp),I.zx.laid old (Ag _) ?_,?_⟩
 .exact Dz.mp (c2 x (cU S.ab hx))
 .rcases (A7 b hb).2.2.2.1 with z | z
  .exact I.ok.nH b o e z
  .exact absurd (A8 (Ap (I.ok.bs b o e).1) z) (BO _)
 .rcases Ah.mp (I.jN b z) with q | q
  .exact (A7 b hb).2.1 q
  .exact (A7 b hb).2.2.1 q
 .obtain⟨j,p1,p2⟩:=ud.get e2;obtain⟨q1,q2⟩:=px.get S.ok e1 p1;obtain⟨m0,n0,l0⟩:=I.loc;have hm:(x,NameKind.free)∈scope.names:=PySem.mem_of_lookup q2;have hk:X.env.scope.names.lookup x=some .cell\/X.env.scope.names.lookup x=some .free:=S.free _ hm rfl;obtain⟨u,r,l⟩:=l0 j x v q1 p2 (.inr hk);refine⟨u,r,.inr ⟨aB q2,?_⟩⟩;rcases l with ⟨k,_⟩ | ⟨_,c,e,z⟩
  .have k':X.env.scope.names.lookup x=some .local:=k;rcases hk with hk | hk <;> (rw[k'] at hk;cases hk)
  .obtain⟨c',e'⟩:=Dz.mp (c2 x hm);have e'':=(c1 x c' e').2;rw[e] at e'';cases e'';obtain⟨o,z1,z2⟩:=z;exact⟨c,e',o,old _ _ z1,z2⟩
 .obtain⟨v,o,z1,z2⟩:=I.cell x c (c1 x c e).2;exact⟨v,o,old _ _ z1,z2⟩
 .show upd H s.heap.objs.size (.lst []) C=none;rw[yG (BL hC)];exact hCn
 .show upd H s.heap.objs.size (.lst []) c=none;rw[yG (Aw (clt x c e))];exact I.tH x c (c1 x c e).2
 .exact⟨AN _,[],0,.nil,hD⟩
 .show (ud pick B).length=N'.length;unfold ud;rw[Ay];exact S.len
def R_ {B':St}{H':Hp}{s':Shared}{oC:Obj}(I:Inv X pins B H s) (A7:∀ b∈fp,vX X pins H b) (hC:s.heap.objs.size<C)
  (I':Inv (yU X N' scope cl C s H fp) [] B' H' s') (hoC:s'.heap.get? C=some oC):Inv X (pins++[(C,oC)]) B H' s':=by
 have J:Inv X pins B H' s':=I.Od (ch:=fp) I'.os I'.base I'.zx I'.bare λ b hb=>⟨(A7 b hb).2.2.2.1,(A7 b hb).2.1,(A7 b hb).2.2.2.2.1,(A7 b hb).2.2.2.2.2⟩;refine J.iK λ p hp=>(AZ.mp hp).elim (λ z=>J.pin p (AV _ z)) λ z=>?_;obtain rfl:p=(C,oC):=AJ.mp z;refine⟨hoC,I'.free,BL (CZ I.lt hC),I.bX (BC hC),λ v hv=>?_⟩;obtain⟨m,⟨o,es,ep,ho,hd,_⟩,_⟩:=I'.loc;have ho':s'.heap.get? C=some o:=ho;rw[hoC] at ho';cases ho';rw[hd] at hv;cases hv
def Zh {B':St}{H':Hp}{s':Shared}{oC:Obj}{h':Heap}(I:Inv X pins B H s) (hC:s.heap.objs.size<C) (J:Inv X (pins++[(C,oC)]) B' H' s') (hs:Heap.SameBut C s'.heap h'):Inv X pins B' H' { s' with heap:=h' }:=by
 have J':=J.oO;have hp:=J.pin (C,oC) (AV _ (AV _ (AJ.mpr rfl)));have lt:∀ c,c<s.heap.objs.size->c≠C:=λ c h=>Aw (CZ h hC);refine J'.turned (t':=s'.toks) (it:=C) (λ b o hb e=>hs.extBut b o hb e) hp.2.1 hp.2.2.1 (.inr (Bl I.sz (BC hC))) (λ x c e z=>?_) (λ p hq z=>?_)
 .obtain⟨v,q⟩:=I.cell x c e;exact lt c q.lt z
 .exact lt p.1 (Ap (I.pin p hq).1) z
end
section
variable {X:Cx}{N':List Str}{pick:List (Option Nat)}{scope:Scope}{elt iter tg:Expr}{ifs:List Expr}{pos:Pos}{wi:TI}{g:TG}{tc:TT}{te:TE}
def Rz {pins:List (Addr×Obj)}{B:St}{H:Hp}{s:Shared}{it C:Addr}{fp:List Addr}{tn:Nat->Heap->Prop}{J:It}{cl:List (Str×Addr)}{W:Nat->Nat->St->Hp->Prop}{Q:V->Hp->Prop}{R:Result->Shared->Prop}{D:Addr}
  (hc:X.calm=true) (hg:PG (yU X N' scope cl C s H fp) tg g) (hf:PF (yU X N' scope cl C s H fp) ifs tc) (he:PE (yU X N' scope cl C s H fp) elt te)
  (T:Turn X.prog X.w X.K tg J fp it tn) (A7:∀ b∈fp,vX X pins H b) (hstat:∀ b∈fp,b≠C/\b∉vS X.stack/\∀ x c,cl.lookup x=some c->c≠b)
  (turn:∀ i m B H,W i m B H->(J.stop i H/\Q (.ref D) H)\/(J.go i H/\∀ x H',J.qV i H x H'->g x B H' fun B2 H2=>tc B2 H2 λ b H3=>
   if b=true then te B2 H3 λ y H4=>∃ ys m',H4 D=some (.lst ys)/\ys.length<sizeLine/\m'<m/\W (i+1) m' B2 (upd H4 D (.lst (ys++[y]))) else ∃ m',m'<m/\W (i+1) m' B2 H3))
  (fin:∀ B' H' s',Inv (yU X N' scope cl C s H fp) [] B' H' s'->Q (.ref D) H'->R (.ok .next) s')
  {m0:Nat}{B0:St}{H0:Hp}{s0:Shared}(I0:Inv (yU X N' scope cl C s H fp) [] B0 H0 s0) (t0:tn 0 s0.heap) (f0:∀ b∈fp,H0 b=none) (w0:W 0 m0 B0 H0):
  codeAny (model X.prog X.w) X.A (.compLoop (.ListComp elt [⟨tg,iter,ifs,0⟩] scope pos) 0 (.ref it) (.ref D) (compEnvC scope cl C X.env)) R s0:=by
 have stat:∀ {H':Hp},(∀ b∈fp,H' b=none)->∀ b∈fp,vX (yU X N' scope cl C s H fp) [] H' b:=λ hn b hb=>⟨hn b hb,(hstat b hb).1,(hstat b hb).2.1,.inl hb,(hstat b hb).2.2,λ p hp=>absurd (show p∈([]:List (Addr×Obj)) from hp) (by simp)⟩;refine codeAny_loop rfl (λ n s'=>∃ i B' H',Inv (yU X N' scope cl C s H fp) [] B' H' s'/\tn i s'.heap/\(∀ b∈fp,H' b=none)/\W i n B' H') (λ n s3 hI=>?_) m0 ⟨0,B0,H0,I0,t0,f0,w0⟩;obtain⟨i,B3,H3,I3,st3,fr3,w3⟩:=hI;show wpAny _ X.A ((compTurn (.ListComp elt [⟨tg,iter,ifs,0⟩] scope pos) 0 (.ref it) (.ref D) (compEnvC scope cl C X.env)).onRaise (λ x=>do noteFrame x (compEnvC scope cl C X.env);theTreesLotGoes x)) _ _ s3;refine wpAny_noted ?_;rw[compTurn_list];refine Ab (wpAny_standAt (Ab ?_));rcases turn i n B3 H3 w3 with ⟨stop,qn⟩ | ⟨go,step⟩
 .refine zG (T.done (yU X N' scope cl C s H fp) rfl rfl rfl hc i [] s3 B3 H3 _ I3 (stat fr3) st3 stop) λ r s4 ⟨hr,I4⟩=>?_;subst hr;exact Ad (fin B3 H3 s4 I4 qn)
 .refine zG (T.item (yU X N' scope cl C s H fp) rfl rfl rfl hc i [] s3 B3 H3 _ I3 (stat fr3) st3 go) λ r s4 ⟨u,hr,h4⟩=>?_;subst hr;refine Ab (zG h4 λ _ s5 ⟨x,H5,I5,r5,y5,st5,fr5⟩=>?_);have I5':=I5.pinned (stat fr5) (T.obj _ _ st5);refine Ab (wpAny_mono (hg _ s5 B3 H5 x u _ I5' r5 (step x H5 y5)) (λ _ s6 ⟨B6,H6,I6,q6⟩=>?_) λ _ _ z=>False.elim z);refine Ab (wpAny_mono (hf _ s6 B6 H6 _ I6 q6) (λ ok s7 ⟨H7,I7,q7⟩=>?_) λ _ _ z=>False.elim z);have back:∀ {H8:Hp}{s8:Shared},Inv (yU X N' scope cl C s H fp) ([]++ni fp s5.heap) B6 H8 s8->(∃ m',m'<n/\W (i+1) m' B6 H8)->∃ m,m<n/\∃ i B' H',Inv (yU X N' scope cl C s H fp) [] B' H' s8/\tn i s8.heap/\(∀ b∈fp,H' b=none)/\W i m B' H':=λ{H8 s8} I8 ⟨m',hm,w8⟩=>by
   refine⟨m',hm,i+1,B6,H8,I8.oO,T.keep _ _ _ st5 λ b hb o e=>(I8.pin (b,o) (AV _ (AV _ (k8 hb e)))).1,λ b hb=>?_,w8⟩;obtain⟨o,e,d⟩:=T.obj _ _ st5 b hb;exact (I8.pin (b,o) (AV _ (AV _ (k8 hb e)))).2.1
  cases ok with
  | false=>
   rw[if_neg BA] at q7;exact Ad ⟨rfl,back I7 q7⟩
  | true=>
   rw[if_pos rfl] at q7;refine Ab (Ab (wpAny_mono (he _ s7 B6 H7 _ I7 q7) (λ uy s8 ⟨y,H8,I8,r8,ys,m',e8,z8,hm,w8⟩=>?_) λ _ _ z=>False.elim z));refine Ab (wpAny_mono (av (X:=yU X N' scope cl C s H fp) _ s8 B6 H8 (.ref D) [y] (.ref D) [uy] (λ _ H9=>W (i+1) m' B6 H9) I8 rfl (.cons r8 .nil) ⟨D,ys,y,rfl,rfl,e8,z8,w8⟩) (λ _ s9 ⟨_,H9,I9,_,q9⟩=>?_) λ _ _ z=>False.elim z);exact Ad (Ad ⟨rfl,back I9 ⟨m',hm,q9⟩⟩)
def aL {pins:List (Addr×Obj)}{B:St}{H:Hp}{s:Shared}{it:Addr}{fp:List Addr}{tn:Nat->Heap->Prop}{J:It}{cl:List (Str×Addr)}{Q:V->Hp->Prop}{E:Value->Shared->Prop}{RR:Value->Addr->Result->Shared->Prop}
  (S:qU X N' pick scope) (hc:X.calm=true) (hg:∀ cl C s H fp,PG (yU X N' scope cl C s H fp) tg g) (hf:∀ cl C s H fp,PF (yU X N' scope cl C s H fp) ifs tc) (he:∀ cl C s H fp,PE (yU X N' scope cl C s H fp) elt te)
  (c1:∀ x c,cl.lookup x=some c->(x,NameKind.free)∈scope.names/\X.env.cells.lookup x=some c) (c2:∀ x,(x,NameKind.free)∈scope.names->(cl.lookup x).isSome)
  (I:Inv X pins B H s) (T:Turn X.prog X.w X.K tg J fp it tn) (t0:tn 0 s.heap) (A7:∀ b∈fp,vX X pins H b)
  (rd:∀ D,H D=none->∃ W:Nat->Nat->St->Hp->Prop,(∃ m,W 0 m (ud pick B) (upd H D (.lst [])))/\
   ∀ i m B H,W i m B H->(J.stop i H/\Q (.ref D) H)\/(J.go i H/\∀ x H',J.qV i H x H'->g x B H' fun B2 H2=>tc B2 H2 λ b H3=>
    if b=true then te B2 H3 λ y H4=>∃ ys m',H4 D=some (.lst ys)/\ys.length<sizeLine/\m'<m/\W (i+1) m' B2 (upd H4 D (.lst (ys++[y]))) else ∃ m',m'<m/\W (i+1) m' B2 H3))
  (fin:∀ C D oC H' s',s.heap.objs.size<C->Inv X (pins++[(C,oC)]) B H' s'->s'.heap.get? C=some oC->(∃ m,s'.heap.Ns C m)->Q (.ref D) H'->RR (.ref D) C (.ok .next) s'):
  wpAny (model X.prog X.w) X.A (newList []) (λ acc s₃=>wpAny (model X.prog X.w) X.A (newFunctionEnv scope X.env.globals cl [] X.env.qual none .none (some X.env)) (λ cenv s₄=>
   codeAny (model X.prog X.w) X.A (.compStart (.ListComp elt [⟨tg,iter,ifs,0⟩] scope pos) 0 (.ref it) acc { cenv with scope:=relabel scope X.env }) (RR acc cenv.locals) s₄) E s₃) E s:=by
 refine wpAny_newObj_type (wpAny_newFunctionEnv S.ab (by intro y hy;simp at hy) (λ h₁ hns₁ hsb₁=>?_) S.kind);dsimp only at hns₁ hsb₁ ⊢;generalize hH2:s.heap.push { cls:=.type "list",dict:=none,data:=.seq ([]:List Value).toArray }=H2 at hns₁ hsb₁ ⊢;have hC:H2.objs.size=s.heap.objs.size+1:=by rw[<- hH2,Heap.size_push]
 have An:s.heap.objs.size<H2.objs.size:=by rw[hC];exact Cw _
 have old:∀ b o,s.heap.get? b=some o->h₁.get? b=some o:=λ b o e=>hsb₁.extBut b o (Aw (CZ (Ap e) An)) (Ao _ (hH2▸Ao _ e));have AQ:h₁.get? s.heap.objs.size=some { cls:=.type "list",data:=.seq #[] 0 }:=hsb₁.extBut _ _ (Aw An) (Ao _ (hH2▸AE _ rfl));have Dc:∀ b∈fp,b<s.heap.objs.size:=λ b hb=>by
  obtain⟨o,e,_⟩:=T.obj _ _ t0 b hb;exact Ap e
 have hDn:H s.heap.objs.size=none:=I.zx.fresh (Ag _);obtain⟨W,⟨m0,w0⟩,turn⟩:=rd s.heap.objs.size hDn;have I0:=Qb (t':=s.toks+([]:List (Str×Value)).length) S I A7 Dc c1 c2 An old hns₁ AQ;have t1:tn 0 h₁:=T.keep _ _ _ t0 λ b _ o e=>old b o e;have AO:∀ b∈fp,b≠H2.objs.size/\b∉vS X.stack/\∀ x c,cl.lookup x=some c->c≠b:=λ b hb=>I0.ok.f7 b hb |> λ q=>⟨q.1,I0.ok.mj b hb,q.2⟩
 have loop:codeAny (model X.prog X.w) X.A (.compLoop (.ListComp elt [⟨tg,iter,ifs,0⟩] scope pos) 0 (.ref it) (.ref s.heap.objs.size) (compEnvC scope cl H2.objs.size X.env)) (RR (.ref s.heap.objs.size) H2.objs.size) { s with heap:=h₁,toks:=s.toks+([]:List (Str×Value)).length }:=by
  refine Rz (B:=B) hc (hg _ _ _ _ _) (hf _ _ _ _ _) (he _ _ _ _ _) T A7 AO turn (fun B' H' s' I' q=>?_) I0 t1 (λ b hb=>?_) w0
  .obtain⟨m,hn,_⟩:=I'.loc;have hn':s'.heap.Ns H2.objs.size m:=hn;obtain⟨oC,es,ep,ho,hr⟩:=id hn';exact fin _ _ oC H' s' An (R_ I A7 An I' ho) ho ⟨m,hn'⟩ q
  .show upd H s.heap.objs.size (.lst []) b=none;rw[yG (Aw (Dc b hb))];exact (A7 b hb).1
 exact codeAny_compStart_list loop (T.self _ 0 _ _ _ t1 loop)
def VT (S:qU X N' pick scope) (hc:X.calm=true) (hi:PI X tg iter wi) (hg:∀ cl C s H fp,PG (yU X N' scope cl C s H fp) tg g) (hf:∀ cl C s H fp,PF (yU X N' scope cl C s H fp) ifs tc) (he:∀ cl C s H fp,PE (yU X N' scope cl C s H fp) elt te)
  (hs:∀ x,foldedSetIterable iter X.env x=pure x:=by intro _;rfl):PE X (.ListComp elt [⟨tg,iter,ifs,0⟩] scope pos) (jJ pick wi g tc te):=by
 intro pins s B H Q I h;obtain⟨cl,hclos,c1,c2⟩:=Yf (scope:=scope) (env:=X.env) λ y hy hk=>I.ok.has y.1 (S.free y hy hk);rw[eval_ListComp];refine wpAny_comprehension_free (use:=none) rfl hs hclos S.kind S.names (zG (hi pins s B H _ I h) λ v s1 h1=>zG h1 λ itv s2 h2=>?_);obtain⟨it,fp,tn,J,H2,e,I2,T,st2,f2,rd⟩:=h2;subst e;refine aL (RR:=λ acc C=>compPost (model X.prog X.w) X.A X.xe none (EP X pins B Q) acc C) S hc hg hf he c1 c2 I2 T st2 f2 rd λ C D oC H' s' hC J' ho hn q=>?_;obtain⟨m,hn⟩:=hn;exact⟨m,hn,λ h' hs'=>⟨.ref D,H',Zh I2 hC J' hs',rfl,q⟩⟩
def Vr {i:Nat}{y:Str}{py BE:Pos}(S:qU X N' pick scope) (hc:X.calm=true) (hi:PI X tg iter wi) (hg:∀ cl C s H fp,PG (yU X N' scope cl C s H fp) tg g) (hf:∀ cl C s H fp,PF (yU X N' scope cl C s H fp) ifs tc) (he:∀ cl C s H fp,PE (yU X N' scope cl C s H fp) elt te)
  (hN:X.N.Nodup) (hy:X.N[i]?=some y) (hx:Loc X.env.scope y)
  (Cy:swapsWith (.ListComp elt [⟨tg,iter,ifs,0⟩] scope pos) (some (.Name y py)) BE.line X.env=pure true:=by rfl)
  (CF:X.fn y=true\/X.env.scope.names.lookup y=some .local:=by first | exact .inl rfl | exact .inr rfl | assumption)
  (hs:∀ x,foldedSetIterable iter X.env x=pure x:=by intro _;rfl):PS X (.Assign [.Name y py] (.ListComp elt [⟨tg,iter,ifs,0⟩] scope pos) BE) (oS (jJ pick wi g tc te) (pX i)):=by
 intro pins s B H Q I h;obtain⟨cl,hclos,c1,c2⟩:=Yf (scope:=scope) (env:=X.env) λ y hy hk=>I.ok.has y.1 (S.free y hy hk);rw[exec_Assign_Name_used _ _ _ _ Cy];refine Ab (wpAny_standAt (Ab ?_));show wpAny _ X.A (do let _ <- comprehension (.ListComp elt [⟨tg,iter,ifs,0⟩] scope pos) scope X.env _ (newList []) false (eval iter X.env) (some (assign (.Name y py) X.env))) _ _ s;refine Ab (wpAny_mono (wpAny_comprehension_free (use:=some (assign (.Name y py) X.env)) (Q:=λ _ s'=>SP X pins Q .next s') rfl hs hclos S.kind S.names
  (zG (hi pins s B H _ I h) λ v s1 h1=>zG h1 λ itv s2 h2=>?_)) (λ _ s' hq=>Ad (Ad hq)) λ _ _ e=>e)
 obtain⟨it,fp,tn,J,H2,e,I2,T,st2,f2,rd⟩:=h2;subst e;refine aL (Q:=λ x H1=>pX i x B H1 Q.nx) (RR:=λ acc C=>compPost (model X.prog X.w) X.A X.xe (some (assign (.Name y py) X.env)) (λ _ s'=>SP X pins Q .next s') acc C) S hc hg hf he c1 c2 I2 T st2 f2 rd λ C D oC H' s' hC J' ho hn q=>?_;show wpAny _ X.A (assign (.Name y py) X.env (.ref D)) _ _ _;refine wpAny_assign_Name (jM J' hN hy hx (v:=.ref D) rfl (λ s3 J3=>?_) CF);have hp:=(J3.pin (C,oC) (AV _ (AV _ (AJ.mpr rfl)))).1;obtain⟨m,o,es,ep,ho',hr⟩:=hn;have:o=oC:=A4 (ho'.symm.trans ho);subst this;exact⟨m,⟨o,es,ep,hp,hr⟩,λ h' hs'=>⟨_,H',Zh I2 hC J3 hs',q⟩⟩
end
end L2
namespace L3
open PySem PySem.Spec L2
open PyProof.Rows hiding St
inductive D where
 | zi | bl (b:Bool) | int (i:Int) | str (x:Str) | tup (ds:List D) | yH (ds:List D) | ref (a:Addr)
def ou (K:Ac) (H:Hp) (a:Addr) (xs:List V):Prop:=
 (∃ o,H a=some (.wu o (.lst xs)))\/
  ∃ (o:Obj) (its:Array Value) (n:Nat),K.lookup a=some o/\o.cls=.type "list"/\o.dict=none/\o.data=.seq its n/\its.size<=sizeLine/\Vals xs its.toList
def ou.sq {K:Ac}{H:Hp}{a:Addr}{xs:List V}(h:ou K H a xs):zO K H a xs:=by
 rcases h with h | h
 .exact .inl (.inr h)
 .exact .inr h
mutual
noncomputable def zg (K:Ac) (H:Hp):D->V->Prop
 | .zi,v=>v=.zi
 | .bl b,v=>v=.bl b
 | .int i,v=>v=.int i
 | .str x,v=>v=.str x
 | .tup ds,v=>∃ a xs,v=.ref a/\z_ K H a xs/\zm K H ds xs
 | .yH ds,v=>∃ a xs,v=.ref a/\ou K H a xs/\zm K H ds xs
 | .ref a,v=>v=.ref a
noncomputable def zm (K:Ac) (H:Hp):List D->List V->Prop
 | [],xs=>xs=[]
 | d::ds,xs=>∃ x r,xs=x::r/\zg K H d x/\zm K H ds r
end
structure Ext (H H':Hp):Prop where
 tup:∀ b xs,H b=some (.tup xs)->H' b=some (.tup xs)
 wu:∀ b o u,H b=some (.wu o u)->H' b=some (.wu o u)
def Ext.refl (H:Hp):Ext H H:=⟨λ _ _ h=>h,λ _ _ _ h=>h⟩
def Ext.trans {H H1 H2:Hp}(a:Ext H H1) (b:Ext H1 H2):Ext H H2:=⟨λ c xs h=>b.tup c xs (a.tup c xs h),λ c o u h=>b.wu c o u (a.wu c o u h)⟩
def Ext.new {H:Hp}{p:Addr}(h:H p=none) (o:HO):Ext H (upd H p o):=
 ⟨λ b xs q=>by rw[yG (r9 q h)];exact q,λ b ob u q=>by rw[yG (r9 q h)];exact q⟩
theorem Ext.lst {H:Hp}{p:Addr}{xs:List V}(h:H p=some (.lst xs)) (o:HO):Ext H (upd H p o):=
 ⟨λ b ys q=>by rw[yG (nJ q h (by intro z;cases z))];exact q,λ b ob u q=>by rw[yG (nJ q h (by intro z;cases z))];exact q⟩
def Ext.lO {K:Ac}{H H':Hp}{a:Addr}{xs:List V}(e:Ext H H') (h:z_ K H a xs):z_ K H' a xs:=by
 rcases h with (h | ⟨o,h⟩) | h
 .exact .inl (.inl (e.tup _ _ h))
 .exact .inl (.inr ⟨o,e.wu _ _ _ h⟩)
 .exact .inr h
def Ext.lP {K:Ac}{H H':Hp}{a:Addr}{xs:List V}(e:Ext H H') (h:ou K H a xs):ou K H' a xs:=by
 rcases h with ⟨o,h⟩ | h
 .exact .inl ⟨o,e.wu _ _ _ h⟩
 .exact .inr h
section
variable {K:Ac}{H H':Hp}
mutual
theorem zg.ext (e:Ext H H'):∀ (d:D) {v:V},zg K H d v->zg K H' d v
 | .zi,v,h=>by simpa only [zg] using h
 | .bl b,v,h=>by simpa only [zg] using h
 | .int i,v,h=>by simpa only [zg] using h
 | .str x,v,h=>by simpa only [zg] using h
 | .ref a,v,h=>by simpa only [zg] using h
 | .tup ds,v,h=>by
  simp only[zg] at h ⊢;obtain⟨a,xs,h1,h2,h3⟩:=h;exact⟨a,xs,h1,e.lO h2,zm.ext e ds h3⟩
 | .yH ds,v,h=>by
  simp only[zg] at h ⊢;obtain⟨a,xs,h1,h2,h3⟩:=h;exact⟨a,xs,h1,e.lP h2,zm.ext e ds h3⟩
theorem zm.ext (e:Ext H H'):∀ (ds:List D) {xs:List V},zm K H ds xs->zm K H' ds xs
 | [],xs,h=>by simpa only [zm] using h
 | d::ds,xs,h=>by
  simp only[zm] at h ⊢;obtain⟨x,r,h1,h2,h3⟩:=h;exact⟨x,r,h1,zg.ext e d h2,zm.ext e ds h3⟩
end
theorem zm.length:∀ {ds:List D}{xs:List V},zm K H ds xs->ds.length=xs.length
 | [],xs,h=>by simp only[zm] at h;subst h;rfl
 | d::ds,xs,h=>by
  simp only[zm] at h;obtain⟨x,r,h1,_,h3⟩:=h;subst h1;simp[zm.length h3]
theorem zm.get:∀ {ds:List D}{xs:List V}{i:Nat}{d:D},zm K H ds xs->ds[i]?=some d->∃ x,xs[i]?=some x/\zg K H d x
 | [],_,i,d,_,e=>by simp at e
 | c::ds,xs,i,d,h,e=>by
  simp only[zm] at h;obtain⟨x,r,h1,h2,h3⟩:=h;subst h1;cases i with
  | zero=>simp at e;subst e;exact⟨x,rfl,h2⟩
  | succ i=>
   obtain⟨y,e1,e2⟩:=zm.get (i:=i) h3 (by simpa using e);exact⟨y,by simpa using e1,e2⟩
theorem zm.append:∀ {ds es:List D}{xs ys:List V},zm K H ds xs->zm K H es ys->zm K H (ds++es) (xs++ys)
 | [],es,xs,ys,h,h'=>by simp only[zm] at h;subst h;simpa using h'
 | d::ds,es,xs,ys,h,h'=>by
  simp only[zm] at h;obtain⟨x,r,h1,h2,h3⟩:=h;subst h1;show zm K H (d::(ds++es)) (x::(r++ys));simp only[zm];exact⟨x,r++ys,rfl,h2,zm.append h3 h'⟩
def zm.nil:zm K H [] []:=by simp only[zm]
def zm.cons {d:D}{ds:List D}{x:V}{xs:List V}(h:zg K H d x) (h':zm K H ds xs):zm K H (d::ds) (x::xs):=by
 simp only[zm];exact⟨x,xs,rfl,h,h'⟩
def zm.snoc {d:D}{ds:List D}{x:V}{xs:List V}(h':zm K H ds xs) (h:zg K H d x):zm K H (ds++[d]) (xs++[x]):=h'.append (.cons h .nil)
theorem zm.ints:∀ {ns:List Int}{xs:List V},zm K H (ns.map D.int) xs->xs=ns.map V.int
 | [],xs,h=>by simpa only [Bj,zm] using h
 | n::ns,xs,h=>by
  rw[Au] at h;simp only[zm,zg] at h;obtain⟨x,r,h1,h2,h3⟩:=h;subst h1 h2;rw[Au,zm.ints h3]
theorem zm.gi:∀ (ns:List Int),zm K H (ns.map D.int) (ns.map V.int)
 | []=>.nil
 | n::ns=>.cons (by simp only[zg]) (zm.gi ns)
end
inductive O where
 | lst (ds:List D)
 | yg (Aa:List (Key×D))
abbrev SS:=Addr->Option O
def xa (K:Ac) (H:Hp):List (Key×D)->List (Key×V)->Prop:=Paired λ p q=>p.1=q.1/\zg K H p.2 q.2
noncomputable def qM (K:Ac) (H:Hp) (a:Addr):O->Prop
 | .lst ds=>∃ xs,H a=some (.lst xs)/\zm K H ds xs
 | .yg Aa=>∃ vs,H a=some (.dK vs)/\xa K H Aa vs
def zJ (K:Ac) (H:Hp) (S:SS):Prop:=∀ a o,S a=some o->qM K H a o
noncomputable def ups (S:SS) (a:Addr) (o:O):SS:=λ b=>if b=a then some o else S b
def sU {S:SS}{a:Addr}{o:O}:ups S a o a=some o:=by unfold ups;rw[if_pos rfl]
def tW {S:SS}{a b:Addr}{o:O}(h:b≠a):ups S a o b=S b:=by unfold ups;rw[if_neg h]
def Sx (S S':SS):Prop:=∀ b o,S b=some o->S' b=some o
def Sx.refl (S:SS):Sx S S:=λ _ _ h=>h
def Sx.trans {S S1 S2:SS}(a:Sx S S1) (b:Sx S1 S2):Sx S S2:=λ c o h=>b c o (a c o h)
def Sx.new {S:SS}{p:Addr}(h:S p=none) (o:O):Sx S (ups S p o):=λ b u q=>by
 rw[tW (by intro z;subst z;rw[h] at q;cases q)];exact q
theorem Sx.none {S S':SS}(e:Sx S S') {p:Addr}(h:S' p=Option.none):S p=Option.none:=by
 cases q:S p with
 | none=>rfl
 | some o=>rw[e p o q] at h;cases h
section
variable {K:Ac}{H H':Hp}{S:SS}
def qM.has {a:Addr}{o:O}(h:qM K H a o):H a≠none:=by
 cases o with
 | lst ds=>obtain⟨xs,h,_⟩:=h;rw[h];simp
 | yg Aa=>obtain⟨xs,h,_⟩:=h;rw[h];simp
theorem zJ.none (r:zJ K H S) {p:Addr}(h:H p=Option.none):S p=Option.none:=by
 cases q:S p with
 | none=>rfl
 | some o=>exact absurd h (r p o q).has
theorem xa.ext (e:Ext H H') {Aa:List (Key×D)}{vs:List (Key×V)}(h:xa K H Aa vs):xa K H' Aa vs:=
 Paired.kA h λ p q z=>⟨z.1,zg.ext e p.2 z.2⟩
def qM.keep {a:Addr}{o:O}(e:Ext H H') (k:∀ u,H a=some u->H' a=some u) (h:qM K H a o):qM K H' a o:=by
 cases o with
 | lst ds=>obtain⟨xs,h1,h2⟩:=h;exact⟨xs,k _ h1,zm.ext e ds h2⟩
 | yg Aa=>obtain⟨xs,h1,h2⟩:=h;exact⟨xs,k _ h1,h2.ext e⟩
theorem zJ.keep (e:Ext H H') (k:∀ a u o,S a=some o->H a=some u->H' a=some u) (r:zJ K H S):zJ K H' S:=λ a o h=>(r a o h).keep e λ u q=>k a u o h q
theorem zJ.new {p:Addr}{u:HO}(hp:H p=Option.none) (r:zJ K H S):zJ K (upd H p u) S:=
 r.keep (Ext.new hp u) λ a v o _ q=>by rw[yG (r9 q hp)];exact q
theorem zJ.ups {p:Addr}{u:HO}{o:O}(e:Ext H (upd H p u)) (hn:qM K (upd H p u) p o) (r:zJ K H S):zJ K (upd H p u) (ups S p o):=λ a o' h=>by
 by_cases ha:a=p
 .subst ha;rw[sU] at h;cases h;exact hn
 .rw[tW ha] at h;exact (r a o' h).keep e λ v q=>by rw[yG ha];exact q
end
abbrev ym:=List (Option D)
def yV (K:Ac) (H:Hp) (Y:ym) (B:St):Prop:=Y.length=B.length/\∀ (i:Nat) (d:D),Y[i]?=some (some d)->∃ v,B[i]?=some (some v)/\zg K H d v
theorem yV.ext {K:Ac}{H H':Hp}{Y:ym}{B:St}(e:Ext H H') (r:yV K H Y B):yV K H' Y B:=⟨r.1,λ i d h=>by
 obtain⟨v,h1,h2⟩:=r.2 i d h;exact⟨v,h1,zg.ext e d h2⟩⟩
theorem yV.set {K:Ac}{H:Hp}{Y:ym}{B:St}(i:Nat) {d:D}{v:V}(r:yV K H Y B) (h:zg K H d v):yV K H (Y.set i (some d)) (B.set i (some v)):=by
 refine⟨by rw[Dy,Dy];exact r.1,λ j c hc=>?_⟩;rw[Dw] at hc ⊢;by_cases hj:i=j
 .subst hj;rw[if_pos rfl] at hc ⊢;by_cases hl:i < Y.length
  .rw[if_pos hl] at hc;rw[if_pos (by rw[<- r.1];exact hl)];cases hc;exact⟨v,rfl,h⟩
  .rw[if_neg hl] at hc;cases hc
 .rw[if_neg hj] at hc ⊢;exact r.2 j c hc
abbrev DK:=D->SS->Prop
abbrev zq:=ym->SS->DK->Prop
abbrev yE:=ym->SS->(Bool->SS->Prop)->Prop
abbrev yp:=ym->SS->(List D->SS->Prop)->Prop
def yn (t:zq):Prop:=∀ Y S (Q Q':DK),(∀ d S',Q d S'->Q' d S')->t Y S Q->t Y S Q'
def va (t:yE):Prop:=∀ Y S (Q Q':Bool->SS->Prop),(∀ d S',Q d S'->Q' d S')->t Y S Q->t Y S Q'
def sN (t:yp):Prop:=∀ Y S (Q Q':List D->SS->Prop),(∀ d S',Q d S'->Q' d S')->t Y S Q->t Y S Q'
noncomputable def wY (K:Ac) (H:Hp) (Q:VK):DK:=λ d S'=>∀ v H',zg K H' d v->Ext H H'->zJ K H' S'->Q v H'
def m5 (K:Ac) (H:Hp) (Q:Bool->Hp->Prop):Bool->SS->Prop:=λ b S'=>∀ H',Ext H H'->zJ K H' S'->Q b H'
def QY (K:Ac) (H:Hp) (Q:List V->Hp->Prop):List D->SS->Prop:=λ ds S'=>∀ vs H',zm K H' ds vs->Ext H H'->zJ K H' S'->Q vs H'
def vn (K:Ac) (H:Hp) (Q:St->Hp->Prop):ym->SS->Prop:=fun Y S'=>∀ B H',yV K H' Y B->Ext H H'->zJ K H' S'->Q B H'
def wY.ext {K:Ac}{H H':Hp}{Q:VK}(e:Ext H H') {d:D}{S:SS}(h:wY K H Q d S):wY K H' Q d S:=λ v H2 r x q=>h v H2 r (e.trans x) q
def m5.ext {K:Ac}{H H':Hp}{Q:Bool->Hp->Prop}(e:Ext H H') {d:Bool}{S:SS}(h:m5 K H Q d S):m5 K H' Q d S:=λ H2 x q=>h H2 (e.trans x) q
def vn.ext {K:Ac}{H H':Hp}{Q:St->Hp->Prop}(e:Ext H H') {d:ym}{S:SS}(h:vn K H Q d S):vn K H' Q d S:=λ v H2 r x q=>h v H2 r (e.trans x) q
def zP (K:Ac) (t:zq):TE:=fun B H Q=>∃ Y S,yV K H Y B/\zJ K H S/\t Y S (wY K H Q)
def wB (K:Ac) (t:yE):TT:=fun B H Q=>∃ Y S,yV K H Y B/\zJ K H S/\t Y S (m5 K H Q)
def wC (K:Ac) (t:yp):TA:=fun B H Q=>∃ Y S,yV K H Y B/\zJ K H S/\t Y S (QY K H Q)
structure PD (X:Cx) (e:Expr) (t:zq):Prop where
 mo:yn t
 pe:PE X e (zP X.K t)
structure xV (X:Cx) (e:Expr) (t:yE):Prop where
 mo:va t
 pt:PT X e (wB X.K t)
structure xA (X:Cx) (es:List Expr) (t:yp):Prop where
 mo:sN t
 pa:PA X es (wC X.K t)
def PE.imp {X:Cx}{e:Expr}{t t':TE}(h:PE X e t) (hi:∀ B H Q,t' B H Q->t B H Q):PE X e t':=λ pins s B H Q I q=>h pins s B H Q I (hi B H Q q)
def PT.imp {X:Cx}{e:Expr}{t t':TT}(h:PT X e t) (hi:∀ B H Q,t' B H Q->t B H Q):PT X e t':=λ pins s B H Q I q=>h pins s B H Q I (hi B H Q q)
def PA.imp {X:Cx}{e:List Expr}{t t':TA}(h:PA X e t) (hi:∀ B H Q,t' B H Q->t B H Q):PA X e t':=λ pos pins s B H Q I q=>h pos pins s B H Q I (hi B H Q q)
def PS.imp {X:Cx}{e:Stmt}{t t':TS}(h:PS X e t) (hi:∀ D B H,t' D B H->t D B H):PS X e t':=λ pins s B H Q I q=>h pins s B H Q I (hi Q B H q)
def wg.imp {X:Cx}{e:List Stmt}{t t':TS}(h:wg X e t) (hi:∀ D B H,t' D B H->t D B H):wg X e t':=λ pins s B H Q I q=>h pins s B H Q I (hi Q B H q)
section
variable {X:Cx}{K:Ac}
def zP.go {t:zq}{B:St}{H:Hp}{Q:VK}{Y:ym}{S:SS}{R:DK}(mo:yn t) (r1:yV K H Y B) (r2:zJ K H S) (h:t Y S R) (k:∀ d S' v H',R d S'->zg K H' d v->Ext H H'->zJ K H' S'->Q v H'):zP K t B H Q:=
 ⟨Y,S,r1,r2,mo Y S _ _ (λ d S' q v H' a b c=>k d S' v H' q a b c) h⟩
def wB.go {t:yE}{B:St}{H:Hp}{Q:Bool->Hp->Prop}{Y:ym}{S:SS}{R:Bool->SS->Prop}(mo:va t) (r1:yV K H Y B) (r2:zJ K H S) (h:t Y S R) (k:∀ d S' H',R d S'->Ext H H'->zJ K H' S'->Q d H'):wB K t B H Q:=
 ⟨Y,S,r1,r2,mo Y S _ _ (λ d S' q H' b c=>k d S' H' q b c) h⟩
def wC.go {t:yp}{B:St}{H:Hp}{Q:List V->Hp->Prop}{Y:ym}{S:SS}{R:List D->SS->Prop}(mo:sN t) (r1:yV K H Y B) (r2:zJ K H S) (h:t Y S R) (k:∀ d S' v H',R d S'->zm K H' d v->Ext H H'->zJ K H' S'->Q v H'):wC K t B H Q:=
 ⟨Y,S,r1,r2,mo Y S _ _ (λ d S' q v H' a b c=>k d S' v H' q a b c) h⟩
def yD (i:Nat):zq:=fun Y S Q=>match Y[i]? with
 | some (some d)=>Q d S
 | _=>False
def dC (d:D):zq:=λ _ S Q=>Q d S
def za (i:Nat) {x:Str}{pos:Pos}(h:PE X (.Name x pos) (jH i)):PD X (.Name x pos) (yD i):=by
 refine⟨fun Y S Q Q' hq h=>?_,PE.imp h fun B H Q hu=>?_⟩
 .unfold yD at h ⊢;split at h
  .exact hq _ _ h
  .exact h
 .obtain⟨Y,S,r1,r2,h⟩:=hu;unfold yD at h;split at h
  .rename_i d e;obtain⟨v,h1,h2⟩:=r1.2 i d e;exact⟨v,h1,h v H h2 (Ext.refl H) r2⟩
  .exact h.elim
def dC.mo (d:D):yn (dC d):=λ _ _ _ _ hq h=>hq _ _ h
def ny {e:Expr}{d:D}{v:V}(h:PE X e (tC v)) (r:∀ H,zg X.K H d v):PD X e (dC d):=
 ⟨dC.mo d,PE.imp h λ _ H _ ⟨_,_,_,r2,h⟩=>h v H (r H) (Ext.refl H) r2⟩
def zh {i j pos}:PD X (.Constant (.int i) j pos) (dC (.int i)):=ny VV λ _=>by simp only[zg]
def qo {i j pos}:PD X (.Constant (.bool i) j pos) (dC (.bl i)):=ny Ue λ _=>by simp only[zg]
def uG {j pos}:PD X (.Constant .none j pos) (dC .zi):=ny VQ λ _=>by simp only[zg]
def p9 {x j pos}:PD X (.Constant (.str x) j pos) (dC (.str x)):=ny VM λ _=>by simp only[zg]
abbrev yW:=D->D->SS->DK->Prop
def xN (f:yW):Prop:=∀ x y S (Q Q':DK),(∀ d S',Q d S'->Q' d S')->f x y S Q->f x y S Q'
def xD (K:Ac) (f:yW) (r:R2):Prop:=∀ x y d e H S Q,zg K H d x->zg K H e y->zJ K H S->f d e S (wY K H Q)->r x y H Q
def yy (f:yW) (ta tb:zq):zq:=fun Y S Q=>ta Y S λ x S1=>tb Y S1 λ y S2=>f x y S2 Q
def yy.mo {f:yW}{ta tb:zq}(hf:xN f) (ha:yn ta) (hb:yn tb):yn (yy f ta tb):=fun Y S Q Q' hq h=>
 ha Y S _ _ (λ x S1 h=>hb Y S1 _ _ (λ y S2 h=>hf x y S2 _ _ hq h) h) h
def lH {f:yW}{r:R2}{ta tb:zq}(hr:xD K f r) (hf:xN f) (ha:yn ta) (hb:yn tb) {B:St}{H:Hp}{Q:VK}(h:zP K (yy f ta tb) B H Q):oP r (zP K ta) (zP K tb) B H Q:=by
 obtain⟨Y,S,r1,r2,h⟩:=h;refine zP.go ha r1 r2 h λ x S1 v H1 h1 q1 e1 p1=>?_;refine zP.go hb (r1.ext e1) p1 h1 λ y S2 w H2 h2 q2 e2 p2=>?_;exact hr v w x y H2 S2 Q (zg.ext e2 x q1) q2 p2 (hf x y S2 _ _ (λ d S' z=>z.ext (e1.trans e2)) h2)
def rg {a b:Expr}{op:Operator}{pos:Pos}{f:yW}{r:R2}{ta tb:zq}(ho:yj X (binaryOp op) r) (hr:xD X.K f r) (hf:xN f) (ha:PD X a ta) (hb:PD X b tb):PD X (.BinOp a op b pos) (yy f ta tb):=
 ⟨yy.mo hf ha.mo hb.mo,PE.imp (VN ho ha.pe hb.pe) λ _ _ _ h=>lH hr hf ha.mo hb.mo h⟩
def U5 {a b:Expr}{op:CmpOp}{pos:Pos}{f:yW}{r:R2}{ta tb:zq}(ho:yj X (compareOp op) r) (hr:xD X.K f r) (hf:xN f) (ha:PD X a ta) (hb:PD X b tb) (hm:behindInMarks op b=false):PD X (.Compare a [op] [b] pos) (yy f ta tb):=
 ⟨yy.mo hf ha.mo hb.mo,PE.imp (Ua ho ha.pe hb.pe hm) λ _ _ _ h=>lH hr hf ha.mo hb.mo h⟩
def uv (t:zq):yE:=fun Y S Q=>t Y S λ x S1=>match x with
 | .bl b=>Q b S1
 | _=>False
def uv.mo {t:zq}(h:yn t):va (uv t):=fun Y S Q Q' hq q=>h Y S _ _ (λ d S' z=>by
 cases d <;> first
  | exact hq _ _ z
  | exact z) q
def qk {a b:Expr}{op:CmpOp}{pos:Pos}{f:yW}{r:R2}{ta tb:zq}(ho:yj X (compareOp op) r) (hr:xD X.K f r) (hf:xN f) (ha:PD X a ta) (hb:PD X b tb) (hm:behindInMarks op b=false):xV X (.Compare a [op] [b] pos) (uv (yy f ta tb)):=by
 refine⟨uv.mo (yy.mo hf ha.mo hb.mo),PT.imp (Vm ho ha.pe hb.pe hm) fun B H Q h=>?_⟩;obtain⟨Y,S,r1,r2,h⟩:=h;refine lH hr hf ha.mo hb.mo ⟨Y,S,r1,r2,yy.mo hf ha.mo hb.mo Y S _ _ (λ d S' z v H' a b c=>?_) h⟩;cases d with
 | bl k=>simp only[zg] at a;exact⟨k,a,z H' b c⟩
 | zi=>exact z.elim
 | int _=>exact z.elim
 | str _=>exact z.elim
 | tup _=>exact z.elim
 | yH _=>exact z.elim
 | ref _=>exact z.elim
def fI (C:Int->Int->Prop) (g:Int->Int->D):yW:=λ x y S Q=>match x,y with
 | .int i,.int j=>C i j/\Q (g i j) S
 | _,_=>False
def fI.mo {C:Int->Int->Prop}{g:Int->Int->D}:xN (fI C g):=λ x y S Q Q' hq h=>by
 unfold fI at h ⊢;split at h
 .exact⟨h.1,hq _ _ h.2⟩
 .exact h.elim
def wb (g:Int->Int->D):yW:=λ x y S Q=>match x,y with
 | .int i,.int j=>Q (g i j) S
 | _,_=>False
def wb.mo {g:Int->Int->D}:xN (wb g):=λ x y S Q Q' hq h=>by
 unfold wb at h ⊢;split at h
 .exact hq _ _ h
 .exact h.elim
def fI.fits {C:Int->Int->Prop}{g:Int->Int->D}{g':Int->Int->V}(hg:∀ i j H,zg K H (g i j) (g' i j)):xD K (fI C g) (rI C g'):=λ x y d e H S Q h1 h2 h3 h=>by
 unfold fI at h;split at h
 .simp only[zg] at h1 h2;exact⟨_,_,h1,h2,h.1,h.2 _ H (hg _ _ H) (Ext.refl H) h3⟩
 .exact h.elim
def wb.fits {g:Int->Int->D}{g':Int->Int->V}(hg:∀ i j H,zg K H (g i j) (g' i j)):xD K (wb g) (vM g'):=λ x y d e H S Q h1 h2 h3 h=>by
 unfold wb at h;split at h
 .simp only[zg] at h1 h2;exact⟨_,_,h1,h2,h _ H (hg _ _ H) (Ext.refl H) h3⟩
 .exact h.elim
variable {a b c:Expr}{ta tb tc:zq}{pos:Pos}
def wo (ha:PD X a ta) (hb:PD X b tb):PD X (.BinOp a .Sub b pos) (yy (wb λ i j=>.int (i-j)) ta tb):=rg UG (wb.fits λ _ _ _=>by simp only[zg]) wb.mo ha hb
def yx (ha:PD X a ta) (hb:PD X b tb):PD X (.BinOp a .Mod b pos) (yy (fI (λ _ j=>0<j) λ i j=>.int (i%j)) ta tb):=rg UP (fI.fits λ _ _ _=>by simp only[zg]) fI.mo ha hb
def wO (ha:PD X a ta) (hb:PD X b tb):PD X (.BinOp a .FloorDiv b pos) (yy (fI xE λ i j=>.int (i/j)) ta tb):=rg UZ (fI.fits λ _ _ _=>by simp only[zg]) fI.mo ha hb
def qm (ha:PD X a ta) (hb:PD X b tb):PD X (.BinOp a .Pow b pos) (yy (fI qb λ i j=>.int (i ^ j.toNat)) ta tb):=rg UH (fI.fits λ _ _ _=>by simp only[zg]) fI.mo ha hb
abbrev kT:yW:=wb λ i j=>.bl (decide (i<=j))
abbrev fy:yW:=wb λ i j=>.bl (decide (j<=i))
def fit_le:xD K kT (vM λ i j=>.bl (decide (i<=j))):=wb.fits λ _ _ _=>by simp only[zg]
def QC:xD K fy (vM λ i j=>.bl (decide (j<=i))):=wb.fits λ _ _ _=>by simp only[zg]
def bG (ha:PD X a ta) (hb:PD X b tb):PD X (.Compare a [.GtE] [b] pos) (yy fy ta tb):=U5 UX QC wb.mo ha hb (qt _)
def b9 (ha:PD X a ta) (hb:PD X b tb):xV X (.Compare a [.LtE] [b] pos) (uv (yy kT ta tb)):=qk hG fit_le wb.mo ha hb (qt _)
end
section
variable {X:Cx}{K:Ac}{a b c:Expr}{ta tb tc:zq}{pos:Pos}
def mE (ta tb:zq):zq:=fun Y S Q=>ta Y S λ x S1=>match x with
 | .bl k=>if k=true then tb Y S1 Q else Q (.bl false) S1
 | _=>False
def m9 (ta:zq):zq:=fun Y S Q=>ta Y S λ x S1=>match x with
 | .bl k=>Q (.bl (!k)) S1
 | _=>False
def vi {c:Prop} [Decidable c] {A B A' B':Prop}(h1:A->A') (h2:B->B') (h:if c then A else B):if c then A' else B':=by
 by_cases q:c
 .rw[if_pos q] at h ⊢;exact h1 h
 .rw[if_neg q] at h ⊢;exact h2 h
def mE.mo (ha:yn ta) (hb:yn tb):yn (mE ta tb):=fun Y S Q Q' hq h=>ha Y S _ _ (λ x S1 z=>by
 cases x <;> first
  | exact vi (hb Y S1 _ _ hq) (hq _ _) z
  | exact z) h
def m9.mo (ha:yn ta):yn (m9 ta):=fun Y S Q Q' hq h=>ha Y S _ _ (λ x S1 z=>by
 cases x <;> first
  | exact hq _ _ z
  | exact z) h
def iT {op} {t:zq}(h:PD X a t):PD X (.BoolOp op [a] pos) t:=⟨h.mo,VO h.pe⟩
variable {rest:List Expr}
def iY (ha:PD X a ta) (hb:PD X (.BoolOp .And (b::rest) pos) tb):PD X (.BoolOp .And (a::b::rest) pos) (mE ta tb):=by
 refine⟨mE.mo ha.mo hb.mo,PE.imp (Ug ha.pe hb.pe) fun B H Q hu=>?_⟩;obtain⟨Y,S,r1,r2,h⟩:=hu;refine zP.go ha.mo r1 r2 h λ x S1 v H1 h1 q1 e1 p1=>?_;cases x with
 | bl k=>
  simp only[zg] at q1;refine⟨k,q1,vi (λ z=>?_) (λ z=>?_) h1⟩
  .exact zP.go hb.mo (r1.ext e1) p1 z λ y S2 w H2 h2 q2 e2 p2=>h2 w H2 q2 (e1.trans e2) p2
  .exact z _ H1 (by simp only[zg]) e1 p1
 | zi=>exact h1.elim
 | int _=>exact h1.elim
 | str _=>exact h1.elim
 | tup _=>exact h1.elim
 | yH _=>exact h1.elim
 | ref _=>exact h1.elim
def Ut (ha:PD X a ta):PD X (.UnaryOp .Not a pos) (m9 ta):=by
 refine⟨m9.mo ha.mo,PE.imp (VP ha.pe) fun B H Q hu=>?_⟩;obtain⟨Y,S,r1,r2,h⟩:=hu;refine zP.go ha.mo r1 r2 h λ x S1 v H1 h1 q1 e1 p1=>?_;cases x with
 | bl k=>
  simp only[zg] at q1;exact⟨k,q1,h1 _ H1 (by simp only[zg]) e1 p1⟩
 | zi=>exact h1.elim
 | int _=>exact h1.elim
 | str _=>exact h1.elim
 | tup _=>exact h1.elim
 | yH _=>exact h1.elim
 | ref _=>exact h1.elim
def my (t u:yE):yE:=fun Y S Q=>t Y S λ k S1=>if k=true then u Y S1 Q else Q false S1
def mr (t u:yE):yE:=fun Y S Q=>t Y S λ k S1=>if k=true then Q true S1 else u Y S1 Q
def mv (t:yE):yE:=fun Y S Q=>t Y S λ k S1=>Q (!k) S1
variable {t u:yE}
def my.mo (h:va t) (h':va u):va (my t u):=fun Y S _ _ hq z=>h Y S _ _ (λ k S1 z=>vi (h' Y S1 _ _ hq) (hq _ _) z) z
def mr.mo (h:va t) (h':va u):va (mr t u):=fun Y S _ _ hq z=>h Y S _ _ (λ k S1 z=>vi (hq _ _) (h' Y S1 _ _ hq) z) z
def mv.mo (h:va t):va (mv t):=fun Y S _ _ hq z=>h Y S _ _ (λ k S1 z=>hq _ _ z) z
structure vq (X:Cx) (e:Expr) (t:yE):Prop where
 mo:va t
 pw:PW X e (wB X.K t)
def PW.imp {e:Expr}{t t':TT}(h:PW X e t) (hi:∀ B H Q,t' B H Q->t B H Q):PW X e t':=λ whole pins s B H Q I q=>h whole pins s B H Q I (hi B H Q q)
theorem vq.pt {e:Expr}{t:yE}(h:vq X e t):xV X e t:=⟨h.mo,PW.pt h.pw⟩
def b7 (h:xV X a t):vq X (.BoolOp .And [a] pos) t:=⟨h.mo,Vg h.pt⟩
def nq (h:xV X a t):vq X (.BoolOp .Or [a] pos) t:=⟨h.mo,Ve h.pt⟩
def b8 (ha:xV X a t) (hb:vq X (.BoolOp .And (b::rest) pos) u):vq X (.BoolOp .And (a::b::rest) pos) (my t u):=by
 refine⟨my.mo ha.mo hb.mo,PW.imp (Vh ha.pt hb.pw) fun B H Q hu=>?_⟩;obtain⟨Y,S,r1,r2,h⟩:=hu;refine wB.go ha.mo r1 r2 h λ k S1 H1 h1 e1 p1=>vi (λ z=>?_) (λ z=>z H1 e1 p1) h1;exact wB.go hb.mo (r1.ext e1) p1 z λ y S2 H2 h2 e2 p2=>h2 H2 (e1.trans e2) p2
def pz (ha:xV X a t) (hb:vq X (.BoolOp .Or (b::rest) pos) u):vq X (.BoolOp .Or (a::b::rest) pos) (mr t u):=by
 refine⟨mr.mo ha.mo hb.mo,PW.imp (Vf ha.pt hb.pw) fun B H Q hu=>?_⟩;obtain⟨Y,S,r1,r2,h⟩:=hu;refine wB.go ha.mo r1 r2 h λ k S1 H1 h1 e1 p1=>vi (λ z=>z H1 e1 p1) (λ z=>?_) h1;exact wB.go hb.mo (r1.ext e1) p1 z λ y S2 H2 h2 e2 p2=>h2 H2 (e1.trans e2) p2
def p0 (ha:xV X a t):xV X (.UnaryOp .Not a pos) (mv t):=by
 refine⟨mv.mo ha.mo,PT.imp (Vl ha.pt) fun B H Q hu=>?_⟩;obtain⟨Y,S,r1,r2,h⟩:=hu;exact wB.go ha.mo r1 r2 h λ k S1 H1 h1 e1 p1=>h1 H1 e1 p1
def mC (t:yE) (ta tb:zq):zq:=fun Y S Q=>t Y S λ k S1=>if k=true then ta Y S1 Q else tb Y S1 Q
def mC.mo (h:va t) (ha:yn ta) (hb:yn tb):yn (mC t ta tb):=fun Y S _ _ hq z=>h Y S _ _ (λ k S1 z=>vi (ha Y S1 _ _ hq) (hb Y S1 _ _ hq) z) z
def bF (hc:xV X c t) (ha:PD X a ta) (hb:PD X b tb):PD X (.IfExp c a b pos) (mC t ta tb):=by
 refine⟨mC.mo hc.mo ha.mo hb.mo,PE.imp (VW hc.pt ha.pe hb.pe) fun B H Q hu=>?_⟩;obtain⟨Y,S,r1,r2,h⟩:=hu;refine wB.go hc.mo r1 r2 h λ k S1 H1 h1 e1 p1=>vi (λ z=>?_) (λ z=>?_) h1
 .exact zP.go ha.mo (r1.ext e1) p1 z λ y S2 w H2 h2 q2 e2 p2=>h2 w H2 q2 (e1.trans e2) p2
 .exact zP.go hb.mo (r1.ext e1) p1 z λ y S2 w H2 h2 q2 e2 p2=>h2 w H2 q2 (e1.trans e2) p2
def vJ (d:D) (S:SS) (Q:Bool->SS->Prop):Prop:=match d with
 | .zi=>Q false S
 | .bl k=>Q k S
 | .int i=>Q (i != 0) S
 | .str x=>x.length<=sizeLine/\Q ((x.length:Int) != 0) S
 | .tup ds=>Q (!ds.isEmpty) S
 | .yH ds=>Q (!ds.isEmpty) S
 | .ref p=>match S p with
  | some (.lst ds)=>Q (!ds.isEmpty) S
  | some (.yg Aa)=>Q (!Aa.isEmpty) S
  | none=>False
def ZJ (ta:zq):yE:=fun Y S Q=>ta Y S λ x S1=>vJ x S1 Q
def vJ.mo {d:D}{S:SS}{Q Q':Bool->SS->Prop}(hq:∀ k S',Q k S'->Q' k S') (h:vJ d S Q):vJ d S Q':=by
 cases d with
 | str x=>exact⟨h.1,hq _ _ h.2⟩
 | ref p=>
  unfold vJ at h ⊢;dsimp only at h ⊢;split at h
  .exact hq _ _ h
  .exact hq _ _ h
  .exact h
 | _=>exact hq _ _ h
theorem zm.isEmpty {H:Hp}{ds:List D}{xs:List V}(h:zm K H ds xs):ds.isEmpty=xs.isEmpty:=by
 have:=h.length;cases ds <;> cases xs <;> simp_all
def O7 {α β:Type}{F:α->β->Prop}{xs:List α}{ys:List β}(h:Paired F xs ys):xs.isEmpty=ys.isEmpty:=by cases h <;> rfl
def vJ.fits {H:Hp}{d:D}{v:V}{S:SS}{Q:Bool->Hp->Prop}(r:zg K H d v) (p:zJ K H S) (h:vJ d S (m5 K H Q)):∃ k,ei K v H k/\Q k H:=by
 cases d with
 | zi=>simp only[zg] at r;subst r;exact⟨false,rfl,h H (.refl H) p⟩
 | bl k=>simp only[zg] at r;subst r;exact⟨k,rfl,h H (.refl H) p⟩
 | int i=>simp only[zg] at r;subst r;exact⟨_,rfl,h H (.refl H) p⟩
 | str x=>simp only[zg] at r;subst r;exact⟨_,⟨h.1,rfl⟩,h.2 H (.refl H) p⟩
 | tup ds=>
  simp only[zg] at r;obtain⟨a,xs,rfl,r1,r2⟩:=r;exact⟨_,.inr (.inl ⟨xs,r1,by rw[r2.isEmpty]⟩),h H (.refl H) p⟩
 | yH ds=>
  simp only[zg] at r;obtain⟨a,xs,rfl,r1,r2⟩:=r;exact⟨_,.inl ⟨xs,r1.sq,by rw[r2.isEmpty]⟩,h H (.refl H) p⟩
 | ref a=>
  simp only[zg] at r;subst r;unfold vJ at h;dsimp only at h;split at h
  .rename_i ds e;obtain⟨xs,e1,r2⟩:=p a _ e;exact⟨_,.inl ⟨xs,zO.of e1,by rw[r2.isEmpty]⟩,h H (.refl H) p⟩
  .rename_i Aa e;obtain⟨xs,e1,r2⟩:=p a _ e;exact⟨_,.inr (.inr ⟨xs,e1,by rw[O7 r2]⟩),h H (.refl H) p⟩
  .exact h.elim
def uf (ha:PD X a ta) (he:∀ whole,isTrue a X.env whole=(do let v <- whole;standAt a.pos;holding [v] (truthy v)):=by intro _;rfl):xV X a (ZJ ta):=by
 refine⟨fun Y S Q Q' hq h=>ha.mo Y S _ _ (λ x S1 z=>vJ.mo hq z) h,PT.imp (Vk ha.pe he) fun B H Q hu=>?_⟩;obtain⟨Y,S,r1,r2,h⟩:=hu;refine zP.go ha.mo r1 r2 h λ x S1 v H1 h1 q1 e1 p1=>?_;exact vJ.fits q1 p1 (vJ.mo (λ k S' z=>z.ext e1) h1)
def kY:yp:=λ _ S Q=>Q [] S
def qC (te:zq) (tr:yp):yp:=fun Y S Q=>te Y S λ x S1=>tr Y S1 λ xs S2=>Q (x::xs) S2
variable {e:Expr}{es:List Expr}{te:zq}{tA:yp}
def qC.mo (h:yn te) (h':sN tA):sN (qC te tA):=fun Y S _ _ hq z=>h Y S _ _ (λ x S1 z=>h' Y S1 _ _ (λ xs S2 z=>hq _ _ z) z) z
def zk:xA X [] kY:=⟨λ _ _ _ _ hq h=>hq _ _ h,PA.imp pC fun B H Q ⟨_,_,_,r2,h⟩=>h [] H .nil (.refl H) r2⟩
def ze (ha:PD X e te) (hr:xA X es tA) (hs:starEach (e::es) X.env=(false,eval e X.env)::starEach es X.env:=by rfl):xA X (e::es) (qC te tA):=by
 refine⟨qC.mo ha.mo hr.mo,PA.imp (qp ha.pe hr.pa hs) fun B H Q hu=>?_⟩;obtain⟨Y,S,r1,r2,h⟩:=hu;refine zP.go ha.mo r1 r2 h λ x S1 v H1 h1 q1 e1 p1=>?_;refine wC.go hr.mo (r1.ext e1) p1 h1 λ xs S2 w H2 h2 q2 e2 p2=>?_;exact h2 (v::w) H2 (.cons (zg.ext e2 x q1) q2) (e1.trans e2) p2
def ZT (t:yp):zq:=fun Y S Q=>t Y S λ ds S1=>ds.length<=sizeLine/\Q (.tup ds) S1
def ZX (t:yp):zq:=fun Y S Q=>t Y S λ ds S1=>ds.length<=sizeLine/\∀ p,S1 p=none->Q (.ref p) (ups S1 p (.lst ds))
def yu {k} (h:xA X es tA):PD X (.Tuple es k pos) (ZT tA):=by
 refine⟨fun Y S _ _ hq z=>h.mo Y S _ _ (λ ds S1 z=>⟨z.1,hq _ _ z.2⟩) z,PE.imp (VL h.pa) fun B H Q hu=>?_⟩;obtain⟨Y,S,r1,r2,h'⟩:=hu;refine wC.go h.mo r1 r2 h' λ ds S1 xs H1 h1 q1 e1 p1=>⟨by rw[<- q1.length];exact h1.1,λ p hp=>?_⟩;refine h1.2 _ _ ?_ (e1.trans (.new hp _)) (p1.new hp);simp only[zg];exact⟨p,xs,rfl,z_.of yL,zm.ext (.new hp _) ds q1⟩
def wa (h:xA X es tA):PD X (.List es pos) (ZX tA):=by
 refine⟨fun Y S _ _ hq z=>h.mo Y S _ _ (λ ds S1 z=>⟨z.1,λ p hp=>hq _ _ (z.2 p hp)⟩) z,PE.imp (VS h.pa) fun B H Q hu=>?_⟩;obtain⟨Y,S,r1,r2,h'⟩:=hu;refine wC.go h.mo r1 r2 h' λ ds S1 xs H1 h1 q1 e1 p1=>⟨by rw[<- q1.length];exact h1.1,λ p hp=>?_⟩;refine h1.2 p (p1.none hp) _ _ (by simp only[zg]) (e1.trans (.new hp _)) ?_;exact p1.ups (.new hp _) ⟨xs,yL,zm.ext (.new hp _) ds q1⟩
def wF:yW:=λ x y S Q=>match x,y with
 | .tup ds,.int i=>match zN ds i with
  | some d=>Q d S
  | none=>False
 | .yH ds,.int i=>match zN ds i with
  | some d=>Q d S
  | none=>False
 | .ref p,.int i=>match S p with
  | some (.lst ds)=>match zN ds i with
   | some d=>Q d S
   | none=>False
  | _=>False
 | _,_=>False
def wF.mo:xN wF:=λ x y S Q Q' hq h=>by
 unfold wF at h ⊢;split at h
 .skip
  split at h
  .exact hq _ _ h
  .exact h
 .skip
  split at h
  .exact hq _ _ h
  .exact h
 .skip
  split at h
  .skip
   split at h
   .exact hq _ _ h
   .exact h
  .exact h.elim
 .exact h.elim
theorem zm.zN {H:Hp}{ds:List D}{xs:List V}{i:Int}{d:D}(h:zm K H ds xs) (e:L2.zN ds i=some d):∃ x,L2.zN xs i=some x/\zg K H d x:=by
 unfold L2.zN at e ⊢;rw[h.length] at e;cases q:vh xs.length i with
 | none=>rw[q] at e;cases e
 | some j=>
  rw[q] at e;exact h.get e
def wF.fits:xD K wF (ba K):=λ x y d e H S Q h1 h2 h3 h=>by
 unfold wF at h;split at h
 .split at h
  .rename_i q;simp only[zg] at h1 h2;obtain⟨a,xs,rfl,r1,r2⟩:=h1;obtain⟨x',e1,e2⟩:=r2.zN q;exact .inr (.inl ⟨a,xs,_,x',rfl,h2,r1,e1,h x' H e2 (.refl H) h3⟩)
  .exact h.elim
 .split at h
  .rename_i q;simp only[zg] at h1 h2;obtain⟨a,xs,rfl,r1,r2⟩:=h1;obtain⟨x',e1,e2⟩:=r2.zN q;exact .inl ⟨a,xs,_,x',rfl,h2,r1.sq,e1,h x' H e2 (.refl H) h3⟩
  .exact h.elim
 .split at h
  .rename_i q0;split at h
   .rename_i q;simp only[zg] at h1 h2;subst h1;obtain⟨xs,r1,r2⟩:=h3 _ _ q0;obtain⟨x',e1,e2⟩:=r2.zN q;exact .inl ⟨_,xs,_,x',rfl,h2,zO.of r1,e1,h x' H e2 (.refl H) h3⟩
   .exact h.elim
  .exact h.elim
 .exact h.elim
def zy (ha:PD X a ta) (hb:PD X b tb) (hs:Y4 b:=by exact λ _ _=>rfl):PD X (.Subscript a b pos) (yy wF ta tb):=
 ⟨yy.mo wF.mo ha.mo hb.mo,PE.imp (VU RO ha.pe hb.pe hs) λ _ _ _ h=>lH wF.fits wF.mo ha.mo hb.mo h⟩
abbrev x9:=List D->SS->DK->Prop
def vD (f:x9):Prop:=∀ ds S (Q Q':DK),(∀ d S',Q d S'->Q' d S')->f ds S Q->f ds S Q'
def uC (K:Ac) (f:x9) (r:List V->Hp->VK->Prop):Prop:=∀ xs ds H S Q,zm K H ds xs->zJ K H S->f ds S (wY K H Q)->r xs H Q
def xK (f:x9) (t:yp):zq:=fun Y S Q=>t Y S λ ds S1=>f ds S1 Q
def xK.mo {f:x9}(hf:vD f) (h:sN tA):yn (xK f tA):=fun Y S _ _ hq z=>h Y S _ _ (λ ds S1 z=>hf ds S1 _ _ hq z) z
def cp {f:x9}{r:List V->Hp->VK->Prop}(hf:vD f) (hr:uC K f r) (h:sN tA) {B:St}{H:Hp}{Q:VK}(hu:zP K (xK f tA) B H Q):oQ r (wC K tA) B H Q:=by
 obtain⟨Y,S,r1,r2,h'⟩:=hu;refine wC.go h r1 r2 h' λ ds S1 xs H1 h1 q1 e1 p1=>?_;exact hr xs ds H1 S1 Q q1 p1 (hf ds S1 _ _ (λ d S' z=>z.ext e1) h1)
def tw {f:x9}{r:List V->Hp->VK->Prop}{e:Expr}(h:PE X e (oQ r (wC X.K tA))) (hf:vD f) (hr:uC X.K f r) (ha:sN tA):PD X e (xK f tA):=
 ⟨xK.mo hf ha,PE.imp h λ _ _ _ hu=>cp hf hr ha hu⟩
noncomputable def zL (d:D) (S:SS):Option (List D):=match d with
 | .tup ds=>some ds
 | .yH ds=>some ds
 | .ref p=>match S p with
  | some (.lst ds)=>some ds
  | _=>none
 | _=>none
theorem zL.sq {H:Hp}{S:SS}{d:D}{v:V}{ds:List D}(r:zg K H d v) (p:zJ K H S) (e:zL d S=some ds):∃ a xs,v=.ref a/\(zO K H a xs\/z_ K H a xs)/\zm K H ds xs:=by
 unfold zL at e;split at e
 .cases e;simp only[zg] at r;obtain⟨a,xs,h1,h2,h3⟩:=r;exact⟨a,xs,h1,.inr h2,h3⟩
 .cases e;simp only[zg] at r;obtain⟨a,xs,h1,h2,h3⟩:=r;exact⟨a,xs,h1,.inl h2.sq,h3⟩
 .split at e
  .rename_i q;cases e;simp only[zg] at r;subst r;obtain⟨xs,h1,h2⟩:=p _ _ q;exact⟨_,xs,rfl,.inl (zO.of h1),h2⟩
  .cases e
 .cases e
def zm.one {H:Hp}{d:D}{xs:List V}(h:zm K H [d] xs):∃ x,xs=[x]/\zg K H d x:=by
 simp only[zm] at h;obtain⟨x,r,rfl,h2,rfl⟩:=h;exact⟨x,rfl,h2⟩
def zm.two {H:Hp}{d d':D}{xs:List V}(h:zm K H [d,d'] xs):∃ x y,xs=[x,y]/\zg K H d x/\zg K H d' y:=by
 simp only[zm] at h;obtain⟨x,r,rfl,h2,y,r',rfl,h3,rfl⟩:=h;exact⟨x,y,rfl,h2,h3⟩
def uq:x9:=λ ds S Q=>match ds with
 | [d]=>match zL d S with
  | some ds=>Q (.int ds.length) S
  | none=>match d with
   | .str z=>z.length<=sizeLine/\Q (.int z.length) S
   | _=>False
 | _=>False
def uq.mo:vD uq:=λ ds S Q Q' hq h=>by
 unfold uq at h ⊢;split at h
 .skip
  split at h
  .exact hq _ _ h
  .split at h
   .exact⟨h.1,hq _ _ h.2⟩
   .exact h.elim
 .exact h.elim
abbrev Vd (K:Ac):List V->Hp->VK->Prop:=λ xs H Q=>(∃ p ys,xs=[.ref p]/\(zO K H p ys\/z_ K H p ys)/\Q (.int ys.length) H)\/(∃ z,xs=[.str z]/\z.length<=sizeLine/\Q (.int z.length) H)
def uq.fits:uC K uq (Vd K):=λ xs ds H S Q h0 h2 h=>by
 unfold uq at h;split at h
 .obtain⟨x,hx,h1⟩:=h0.one;subst hx;split at h
  .rename_i e;obtain⟨a,ys,rfl,q,r⟩:=zL.sq h1 h2 e;refine .inl ⟨a,ys,rfl,q,?_⟩;rw[<- r.length];exact h _ H (by simp only[zg]) (.refl H) h2
  .split at h
   .simp only[zg] at h1;subst h1;exact .inr ⟨_,rfl,h.1,h.2 _ H (by simp only[zg]) (.refl H) h2⟩
   .exact h.elim
 .exact h.elim
def uo:x9:=λ ds S Q=>match ds with
 | [d]=>match zL d S with
  | some ds=>∀ p,S p=none->Q (.ref p) (ups S p (.lst ds))
  | none=>False
 | _=>False
def uo.mo:vD uo:=λ ds S Q Q' hq h=>by
 unfold uo at h ⊢;split at h
 .skip
  split at h
  .exact λ p hp=>hq _ _ (h p hp)
  .exact h.elim
 .exact h.elim
def uo.fits:uC K uo (λ xs H Q=>∃ p ys,xs=[.ref p]/\(zO K H p ys\/z_ K H p ys)/\∀ l,H l=none->Q (.ref l) (upd H l (.lst ys))):=λ xs ds H S Q h0 h2 h=>by
 unfold uo at h;split at h
 .obtain⟨x,hx,h1⟩:=h0.one;subst hx;split at h
  .rename_i e;obtain⟨a,ys,rfl,q,r⟩:=zL.sq h1 h2 e;refine⟨a,ys,rfl,q,λ l hl=>?_⟩;exact h l (h2.none hl) _ _ (by simp only[zg]) (.new hl _) (h2.ups (.new hl _) ⟨ys,yL,zm.ext (.new hl _) _ r⟩)
  .exact h.elim
 .exact h.elim
def um:x9:=λ ds S Q=>match ds with
 | [.tup ds]=>Q (.tup ds) S
 | [.yH ds]=>Q (.tup ds) S
 | [.ref p]=>match S p with
  | some (.lst ds)=>Q (.tup ds) S
  | _=>False
 | _=>False
def um.mo:vD um:=λ ds S Q Q' hq h=>by
 unfold um at h ⊢;split at h
 .exact hq _ _ h
 .exact hq _ _ h
 .skip
  split at h
  .exact hq _ _ h
  .exact h.elim
 .exact h.elim
def um.fits:uC K um (λ xs H Q=>∃ p ys,xs=[.ref p]/\((zO K H p ys/\∀ l,H l=none->Q (.ref l) (upd H l (.tup ys)))\/(z_ K H p ys/\Q (.ref p) H))):=λ xs ds H S Q h0 h2 h=>by
 unfold um at h;split at h
 .obtain⟨x,hx,h1⟩:=h0.one;subst hx;have h1':=h1;simp only[zg] at h1;obtain⟨a,xs,rfl,r1,r2⟩:=h1;exact⟨a,xs,rfl,.inr ⟨r1,h _ H h1' (.refl H) h2⟩⟩
 .obtain⟨x,hx,h1⟩:=h0.one;subst hx;simp only[zg] at h1;obtain⟨a,xs,rfl,r1,r2⟩:=h1;refine⟨a,xs,rfl,.inl ⟨r1.sq,λ l hl=>h _ _ ?_ (.new hl _) (h2.new hl)⟩⟩;simp only[zg];exact⟨l,xs,rfl,z_.of yL,zm.ext (.new hl _) _ r2⟩
 .obtain⟨x,hx,h1⟩:=h0.one;subst hx;split at h
  .rename_i e;simp only[zg] at h1;subst h1;obtain⟨xs,r1,r2⟩:=h2 _ _ e;refine⟨_,xs,rfl,.inl ⟨zO.of r1,λ l hl=>h _ _ ?_ (.new hl _) (h2.new hl)⟩⟩;simp only[zg];exact⟨l,xs,rfl,z_.of yL,zm.ext (.new hl _) _ r2⟩
  .exact h.elim
 .exact h.elim
def vT (g:Int->Int->D):x9:=λ ds S Q=>match ds with
 | [.int i,.int j]=>Q (g i j) S
 | _=>False
def vT.mo {g:Int->Int->D}:vD (vT g):=λ ds S Q Q' hq h=>by
 unfold vT at h ⊢;split at h
 .exact hq _ _ h
 .exact h.elim
def vT.fits {g:Int->Int->D}{g':Int->Int->V}(hg:∀ i j H,zg K H (g i j) (g' i j)):uC K (vT g) (λ xs H Q=>∃ i j,xs=[.int i,.int j]/\Q (g' i j) H):=λ xs ds H S Q h0 h2 h=>by
 unfold vT at h;split at h
 .obtain⟨x,y,hx,h1,h3⟩:=h0.two;subst hx;simp only[zg] at h1 h3;subst h1 h3;exact⟨_,_,rfl,h _ H (hg _ _ H) (.refl H) h2⟩
 .exact h.elim
def zad:yW:=λ x y S Q=>match x,y with
 | .ref p,.ref q=>match S p,S q with
  | some (.lst ds),some (.lst es)=>ds.length+es.length<=sizeLine/\∀ r,S r=none->Q (.ref r) (ups S r (.lst (ds++es)))
  | _,_=>False
 | _,_=>False
def rR (to te:zq):zq:=fun Y S Q=>to Y S λ x S1=>match x with
 | .ref p=>(∃ ds,S1 p=some (.lst ds))/\te Y S1 λ y S2=>match S2 p with
  | some (.lst ds)=>ds.length<sizeLine/\Q .zi (ups S2 p (.lst (ds++[y])))
  | _=>False
 | _=>False
def rR.mo {to te:zq}(h:yn to) (h':yn te):yn (rR to te):=fun Y S Q Q' hq z=>h Y S _ _ (λ x S1 z=>by
 cases x with
 | ref p=>
  refine⟨z.1,h' Y S1 _ _ (λ y S2 w=>?_) z.2⟩;split at w
  .exact⟨w.1,hq _ _ w.2⟩
  .exact w.elim
 | _=>exact z) z
def U8 {o e:Expr}{to te:zq}{e0:Expr}(D8:PE X e0 (jL X.K "list" bo (zP X.K to) (jK (zP X.K te) jI))) (h:yn to) (h':yn te):PD X e0 (rR to te):=by
 refine⟨rR.mo h h',PE.imp D8 fun B H Q hu=>?_⟩;obtain⟨Y,S,r1,r2,z⟩:=hu;refine zP.go h r1 r2 z λ x S1 v H1 h1 q1 e1 p1=>?_;cases x with
 | ref p=>
  obtain⟨⟨ds,hd⟩,h1⟩:=h1;simp only[zg] at q1;subst q1;obtain⟨xs,g1,g2⟩:=p1 _ _ hd;refine⟨.inl ⟨rfl,xs,zO.of g1⟩,?_⟩;refine zP.go h' (r1.ext e1) p1 h1 λ y S2 w H2 h2 q2 e2 p2=>?_;split at h2
  .rename_i ds' e3;obtain⟨xs',g3,g4⟩:=p2 _ _ e3;refine⟨p,xs',w,rfl,rfl,g3,by rw[<- g4.length];exact h2.1,?_⟩;have e4:Ext H2 (upd H2 p (.lst (xs'++[w]))):=.lst g3 _;exact h2.2 _ _ (by simp only[zg]) ((e1.trans e2).trans e4) (p2.ups e4 ⟨_,yL,zm.ext e4 _ (g4.snoc q2)⟩)
  .exact h2.elim
 | zi=>exact h1.elim
 | bl _=>exact h1.elim
 | int _=>exact h1.elim
 | str _=>exact h1.elim
 | tup _=>exact h1.elim
 | yH _=>exact h1.elim
end
structure r_ where
 nx:ym->SS->Prop
 rt:DK
 bk:ym->SS->Prop:=λ _ _=>False
 ct:ym->SS->Prop:=λ _ _=>False
abbrev yO:=r_->ym->SS->Prop
structure r_.Le (E E':r_):Prop where
 nx:∀ Y S,E.nx Y S->E'.nx Y S
 rt:∀ d S,E.rt d S->E'.rt d S
 bk:∀ Y S,E.bk Y S->E'.bk Y S
 ct:∀ Y S,E.ct Y S->E'.ct Y S
def tU (t:yO):Prop:=∀ E E' Y S,r_.Le E E'->t E Y S->t E' Y S
noncomputable def tN (K:Ac) (H:Hp) (D:Ends):r_:=⟨vn K H D.nx,wY K H D.rt,vn K H D.bk,vn K H D.ct⟩
theorem tN.ext {K:Ac}{H H':Hp}{D:Ends}(e:Ext H H'):(tN K H D).Le (tN K H' D):=⟨λ _ _ h=>vn.ext e h,λ _ _ h=>wY.ext e h,λ _ _ h=>vn.ext e h,λ _ _ h=>vn.ext e h⟩
def jC (K:Ac) (t:yO):TS:=λ D B H=>∃ Y S,yV K H Y B/\zJ K H S/\t (tN K H D) Y S
structure vA (X:Cx) (st:Stmt) (t:yO):Prop where
 mo:tU t
 ps:PS X st (jC X.K t)
structure u9 (X:Cx) (st:List Stmt) (t:yO):Prop where
 mo:tU t
 ps:wg X st (jC X.K t)
section
variable {X:Cx}{K:Ac}{st:Stmt}{rest:List Stmt}{t u:yO}{pos:Pos}{e:Expr}{te:zq}
def ZU:yO:=λ E Y S=>E.nx Y S
def m7 (t u:yO):yO:=λ E Y S=>t { E with nx:=u E } Y S
def m7.mo (h:tU t) (h':tU u):tU (m7 t u):=λ E E' Y S hE z=>h { E with nx:=u E } { E' with nx:=u E' } Y S ⟨fun Y S q=>h' E E' Y S hE q,hE.rt,hE.bk,hE.ct⟩ z
def xr:u9 X [] ZU:=⟨λ _ _ _ _ hE h=>hE.nx _ _ h,wg.imp Vo λ D B H ⟨Y,S,r1,r2,h⟩=>h B H r1 (.refl H) r2⟩
def zC (h:vA X st t):u9 X [st] t:=⟨h.mo,Vn h.ps⟩
def zw (h:vA X st t) (h':u9 X rest u):u9 X (st::rest) (m7 t u):=by
 refine⟨m7.mo h.mo h'.mo,wg.imp (Vp h.ps h'.ps) λ D B H hu=>?_⟩;obtain⟨Y,S,r1,r2,z⟩:=hu;refine⟨Y,S,r1,r2,h.mo { tN X.K H D with nx:=u (tN X.K H D) } _ Y S ⟨fun Y' S' q B' H' q1 q2 q3=>?_,λ _ _ q=>q,λ _ _ q=>q,λ _ _ q=>q⟩ z⟩;exact⟨Y',S',q1,q3,h'.mo _ _ Y' S' (tN.ext q2) q⟩
def kZ (te:zq):yO:=λ E Y S=>te Y S λ _ S1=>E.nx Y S1
def vx (he:PD X e te) (hs:swapsWith e none pos.line X.env=pure false:=by rfl):vA X (.Expr e pos) (kZ te):=by
 refine⟨λ E E' Y S hE z=>he.mo Y S _ _ (λ _ _ q=>hE.nx _ _ q) z,PS.imp (Vx he.pe hs) λ D B H hu=>?_⟩;obtain⟨Y,S,r1,r2,z⟩:=hu;exact zP.go he.mo r1 r2 z λ x S1 v H1 h1 q1 e1 p1=>h1 B H1 (r1.ext e1) e1 p1
def fG (te:zq):yO:=λ E Y S=>te Y S E.rt
def yb (he:PD X e te):vA X (.Return (some e) pos) (fG te):=by
 refine⟨λ E E' Y S hE z=>he.mo Y S _ _ (λ _ _ q=>hE.rt _ _ q) z,PS.imp (Vt he.pe) λ D B H hu=>?_⟩;obtain⟨Y,S,r1,r2,z⟩:=hu;exact zP.go he.mo r1 r2 z λ x S1 v H1 h1 q1 e1 p1=>h1 v H1 q1 e1 p1
def ZZ (c:yE) (t u:yO):yO:=λ E Y S=>c Y S λ k S1=>if k=true then t E Y S1 else u E Y S1
def xn {c:Expr}{p q:List Stmt}{tc:yE}(hc:xV X c tc) (h:u9 X p t) (h':u9 X q u):vA X (.If c p q pos) (ZZ tc t u):=by
 refine⟨λ E E' Y S hE z=>hc.mo Y S _ _ (λ k S1 z=>vi (h.mo _ _ Y S1 hE) (h'.mo _ _ Y S1 hE) z) z,PS.imp (Vu hc.pt h.ps h'.ps) λ D B H hu=>?_⟩;obtain⟨Y,S,r1,r2,z⟩:=hu;refine wB.go hc.mo r1 r2 z λ k S1 H1 h1 e1 p1=>vi (λ z=>?_) (λ z=>?_) h1
 .exact⟨Y,S1,r1.ext e1,p1,h.mo _ _ Y S1 (tN.ext e1) z⟩
 .exact⟨Y,S1,r1.ext e1,p1,h'.mo _ _ Y S1 (tN.ext e1) z⟩
abbrev xo:=D->ym->SS->(ym->SS->Prop)->Prop
abbrev wZ:=List D->ym->SS->(ym->SS->Prop)->Prop
def lh (t:xo):Prop:=∀ d Y S (Q Q':ym->SS->Prop),(∀ Y S,Q Y S->Q' Y S)->t d Y S Q->t d Y S Q'
def Y7 (t:wZ):Prop:=∀ d Y S (Q Q':ym->SS->Prop),(∀ Y S,Q Y S->Q' Y S)->t d Y S Q->t d Y S Q'
noncomputable def oK (K:Ac) (t:xo):TG:=λ v B H Q=>∃ d Y S,zg K H d v/\yV K H Y B/\zJ K H S/\t d Y S (vn K H Q)
noncomputable def cn (K:Ac) (t:wZ):sI:=λ v B H Q=>∃ d Y S,zm K H d v/\yV K H Y B/\zJ K H S/\t d Y S (vn K H Q)
structure sM (X:Cx) (e:Expr) (t:xo):Prop where
 mo:lh t
 pg:PG X e (oK X.K t)
structure ji (X:Cx) (es:List Expr) (t:wZ):Prop where
 mo:Y7 t
 pg:tT X es (cn X.K t)
def PG.imp {e:Expr}{t t':TG}(h:PG X e t) (hi:∀ v B H Q,t' v B H Q->t v B H Q):PG X e t':=λ pins s B H v w Q I r q=>h pins s B H v w Q I r (hi v B H Q q)
def tT.imp {e:List Expr}{t t':sI}(h:tT X e t) (hi:∀ v B H Q,t' v B H Q->t v B H Q):tT X e t':=λ pins s B H v w Q I r q=>h pins s B H v w Q I r (hi v B H Q q)
def hName (i:Nat):xo:=λ d Y S Q=>Q (Y.set i (some d)) S
def Us {e:Expr}{i:Nat}(h:PG X e (pX i)):sM X e (hName i):=
 ⟨λ _ _ _ _ _ hq z=>hq _ _ z,PG.imp h λ v B H Q ⟨d,Y,S,r1,r2,r3,z⟩=>z _ H (r2.set i r1) (.refl H) r3⟩
def gP:wZ:=λ ds Y S Q=>ds=[]/\Q Y S
def gQ (t:xo) (u:wZ):wZ:=λ ds Y S Q=>match ds with
 | d::r=>t d Y S fun Y' S'=>u r Y' S' Q
 | []=>False
def p7:ji X [] gP:=by
 refine⟨λ _ _ _ _ _ hq z=>⟨z.1,hq _ _ z.2⟩,tT.imp VA λ v B H Q hu=>?_⟩;obtain⟨d,Y,S,r1,r2,r3,z1,z2⟩:=hu;subst z1;simp only[zm] at r1;exact⟨r1,z2 B H r2 (.refl H) r3⟩
def vc {e:Expr}{es:List Expr}{t:xo}{u:wZ}(h:sM X e t) (h':ji X es u) (hs:(assignEach (e::es) X.env).map (·.2)=assign e X.env::(assignEach es X.env).map (·.2):=by rfl):ji X (e::es) (gQ t u):=by
 refine⟨λ ds Y S Q Q' hq z=>?_,tT.imp (VB h.pg h'.pg hs) λ v B H Q hu=>?_⟩
 .cases ds with
  | nil=>exact z
  | cons d r=>exact h.mo d Y S _ _ (fun Y' S' z=>h'.mo r Y' S' _ _ hq z) z
 .obtain⟨ds,Y,S,r1,r2,r3,z⟩:=hu;cases ds with
  | nil=>exact z.elim
  | cons d r=>
   simp only[zm] at r1;obtain⟨x,xs,rfl,q1,q2⟩:=r1;refine⟨x,xs,rfl,d,Y,S,q1,r2,r3,h.mo d Y S _ _ (fun Y' S' z B' H' g1 g2 g3=>?_) z⟩;exact⟨r,Y',S',zm.ext g2 r q2,g1,g3,h'.mo r Y' S' _ _ (fun Y2 S2 z2=>vn.ext g2 z2) z⟩
def kJ (n:Nat) (t:wZ):xo:=λ d Y S Q=>match d with
 | .tup ds=>ds.length=n/\t ds Y S Q
 | _=>False
def Ur {e:Expr}{n:Nat}{t:wZ}(h:PG X e (Zw X.K n (cn X.K t))) (hm:Y7 t):sM X e (kJ n t):=by
 refine⟨λ d Y S Q Q' hq z=>?_,PG.imp h λ v B H Q hu=>?_⟩
 .cases d with
  | tup ds=>exact⟨z.1,hm ds Y S _ _ hq z.2⟩
  | _=>exact z
 .obtain⟨d,Y,S,r1,r2,r3,z⟩:=hu;cases d with
  | tup ds=>
   simp only[zg] at r1;obtain⟨a,xs,rfl,q1,q2⟩:=r1;exact⟨a,xs,rfl,q1,by rw[<- q2.length];exact z.1,ds,Y,S,q2,r2,r3,z.2⟩
  | zi=>exact z.elim
  | bl _=>exact z.elim
  | int _=>exact z.elim
  | str _=>exact z.elim
  | yH _=>exact z.elim
  | ref _=>exact z.elim
def v7 (te:zq) (g:xo):yO:=λ E Y S=>te Y S λ x S1=>g x Y S1 E.nx
def v7.mo {g:xo}(h:yn te) (h':lh g):tU (v7 te g):=λ E E' Y S hE z=>h Y S _ _ (λ x S1 q=>h' x Y S1 _ _ (fun Y S q=>hE.nx _ _ q) q) z
def Xz {g:xo}(h:yn te) (h':lh g) {D:Ends}{B:St}{H:Hp}(hu:jC K (v7 te g) D B H):oS (zP K te) (oK K g) D B H:=by
 obtain⟨Y,S,r1,r2,z⟩:=hu;refine zP.go h r1 r2 z λ x S1 v H1 h1 q1 e1 p1=>?_;exact⟨x,Y,S1,q1,r1.ext e1,p1,h' x Y S1 _ _ (fun Y S q=>vn.ext e1 q) h1⟩
def Ul {tg e:Expr}{g:xo}(he:PD X e te) (hg:sM X tg g) (hs:swapsWithSole [tg] e pos.line X.env=pure false:=by rfl) (hw:swappedStores [tg] e X.env=pure none:=by rfl)
  (h1:(assignEach [tg] X.env).map (·.2)=[assign tg X.env]:=by rfl):vA X (.Assign [tg] e pos) (v7 te g):=
 ⟨v7.mo he.mo hg.mo,PS.imp (bq he.pe hg.pg hs hw h1) λ _ _ _ hu=>Xz he.mo hg.mo hu⟩
def Ui {e0:Stmt}{i:Nat}(h:PS X e0 (oS (zP X.K te) (pX i))) (hm:yn te):vA X e0 (v7 te (hName i)):=by
 refine⟨v7.mo hm λ _ _ _ _ _ hq z=>hq _ _ z,PS.imp h λ D B H hu=>?_⟩;obtain⟨Y,S,r1,r2,z⟩:=hu;refine zP.go hm r1 r2 z λ x S1 v H1 h1 q1 e1 p1=>?_;exact h1 _ H1 ((r1.ext e1).set i q1) e1 p1
end
structure oI where
 items:List D
 keep:SS->Prop
abbrev wJ:=ym->SS->(oI->SS->Prop)->Prop
def jo (t:wJ):Prop:=∀ Y S (Q Q':oI->SS->Prop),(∀ I S',Q I S'->Q' I S')->t Y S Q->t Y S Q'
def lj (K:Ac) (H1:Hp) (J:It) (I:oI):Prop:=∀ (i:Nat) (H:Hp) (S:SS),Ext H1 H->zJ K H S->I.keep S->
 (∀ d,I.items[i]?=some d->J.go i H/\∀ x H',J.qV i H x H'->Ext H H'/\zJ K H' S/\zg K H' d x)/\(I.items.length<=i->J.stop i H)
def QZ (K:Ac) (H:Hp) (R:It->Hp->Prop):oI->SS->Prop:=λ I S1=>∀ J H1,Ext H H1->zJ K H1 S1->lj K H1 J I->R J H1
def wK (K:Ac) (t:wJ):TI:=fun B H R=>∃ Y S,yV K H Y B/\zJ K H S/\t Y S (QZ K H R)
structure sL (X:Cx) (tg iter:Expr) (t:wJ):Prop where
 mo:jo t
 pi:PI X tg iter (wK X.K t)
def PI.imp {X:Cx}{tg e:Expr}{t t':TI}(h:PI X tg e t) (hi:∀ B H Q,t' B H Q->t B H Q):PI X tg e t':=λ pins s B H Q I q=>h pins s B H Q I (hi B H Q q)
section
variable {X:Cx}{K:Ac}{tg e:Expr}{te:zq}{pos:Pos}
theorem zm.at {H:Hp}{ds:List D}{xs:List V}{i:Nat}{d:D}{x:V}(r:zm K H ds xs) (h1:ds[i]?=some d) (h2:xs[i]?=some x):zg K H d x:=by
 obtain⟨y,e1,e2⟩:=r.get h1;rw[h2] at e1;cases e1;exact e2
noncomputable def vL (lo:Int) (n:Nat):List D:=(List.range n).map λ(k:Nat)=>D.int (lo+(k:Int))
def WZ {lo:Int}{n i:Nat}{d:D}(h:(vL lo n)[i]?=some d):i<n/\d=.int (lo+(i:Int)):=by
 unfold vL at h;rw[Az] at h;cases q:(List.range n)[i]? with
 | none=>rw[q] at h;cases h
 | some j=>
  rw[q] at h;obtain⟨h1,h2⟩:=AK.mp q;rw[BP] at h1;rw[Dv] at h2;subst h2;cases h;exact⟨h1,rfl⟩
def WY (lo:Int) (n:Nat):(vL lo n).length=n:=by unfold vL;rw[Ay,BP]
def lj.range {H1:Hp}{lo:Int}{n:Nat}:lj K H1 (jq lo n) ⟨vL lo n,λ _=>True⟩:=λ i H S _ x2 _=>by
 refine⟨λ d hd=>?_,λ hl=>by rw[show (oI.mk (vL lo n) λ _=>True).items=vL lo n from rfl,WY] at hl;exact hl⟩;obtain⟨h1,rfl⟩:=WZ hd;refine⟨h1,λ x H' q=>?_⟩;obtain⟨rfl,rfl⟩:=q;exact⟨.refl _,x2,by simp only[zg]⟩
def gJ (t:yp):wJ:=fun Y S R=>t Y S λ ds S1=>match ds with
 | [.int j]=>(-(2 ^ 62)<=j/\j<2 ^ 62)/\R ⟨vL 0 j.toNat,λ _=>True⟩ S1
 | _=>False
variable {tA:yp}
def Uq (h:PI X tg e (Zo (wC X.K tA))) (hm:sN tA):sL X tg e (gJ tA):=by
 refine⟨fun Y S Q Q' hq z=>hm Y S _ _ (λ ds S1 z=>?_) z,PI.imp h fun B H R hu=>?_⟩
 .split at z
  .exact⟨z.1,hq _ _ z.2⟩
  .exact z.elim
 .obtain⟨Y,S,r1,r2,z⟩:=hu;refine wC.go hm r1 r2 z λ ds S1 xs H1 h1 q1 e1 p1=>?_;split at h1
  .obtain⟨x,rfl,q⟩:=q1.one;simp only[zg] at q;subst q;exact⟨_,rfl,h1.1.1,h1.1.2,h1.2 _ H1 e1 p1 .range⟩
  .exact h1.elim
def mD (ti:wJ) (g:xo) (tb:yO):yO:=λ E Y S=>ti Y S λ I S1=>∃ W:Nat->ym->SS->Prop,W 0 Y S1/\(∀ i Y S,W i Y S->I.keep S)/\
 (∀ i d Y S,I.items[i]?=some d->W i Y S->g d Y S fun Y2 S2=>tb { E with nx:=W (i+1),ct:=W (i+1),bk:=E.nx } Y2 S2)/\∀ Y S,W I.items.length Y S->E.nx Y S
def mD.mo {ti:wJ}{g:xo}{tb:yO}(hi:jo ti) (hg:lh g) (hb:tU tb):tU (mD ti g tb):=λ E E' Y S hE z=>hi Y S _ _ (λ I S1 ⟨W,w0,wk,ws,wd⟩=>by
 refine⟨W,w0,wk,λ i d Y S hd hw=>hg d Y S _ _ (fun Y2 S2 z=>hb { E with nx:=W (i+1),ct:=W (i+1),bk:=E.nx } { E' with nx:=W (i+1),ct:=W (i+1),bk:=E'.nx } Y2 S2 ⟨λ _ _ q=>q,hE.rt,hE.nx,λ _ _ q=>q⟩ z) (ws i d Y S hd hw),fun Y S q=>hE.nx _ _ (wd Y S q)⟩) z
def wN {iter:Expr}{body:List Stmt}{ti:wJ}{g:xo}{tb:yO}(hp:PassesOwn (model X.prog X.w) X.A X.env X.xe) (hc:X.calm=true) (hi:sL X tg iter ti) (hg:sM X tg g) (hb:u9 X body tb)
  (hs:∀ x,foldedSetIterable iter X.env x=pure x:=by intro _;rfl):vA X (.For tg iter body [] pos) (mD ti g tb):=by
 refine⟨mD.mo hi.mo hg.mo hb.mo,PS.imp (Vv hp hc hi.pi hg.pg hb.ps hs) λ D B H hu=>?_⟩;obtain⟨Y,S,r1,r2,z⟩:=hu;refine⟨Y,S,r1,r2,hi.mo Y S _ _ (λ I S1 hW J H1 e1 p1 rep=>?_) z⟩;obtain⟨W,w0,wk,ws,wd⟩:=hW;refine⟨λ i m B H2=>m=I.items.length-i/\i<=I.items.length/\Ext H1 H2/\∃ Y S,yV X.K H2 Y B/\zJ X.K H2 S/\W i Y S,⟨_,rfl,AN _,.refl _,Y,S1,r1.ext e1,p1,w0⟩,?_⟩;rintro i m B2 H2 ⟨rfl,hi',x2,Y2,S2,q1,q2,w2⟩;obtain⟨g1,g2⟩:=rep i H2 S2 x2 q2 (wk i Y2 S2 w2);by_cases hl:i<I.items.length
 .have hd:I.items[i]?=some I.items[i]:=by simp[hl]
  obtain⟨go,yl⟩:=g1 _ hd;refine .inr ⟨go,fun B' H'=>Ext H1 H'/\∃ Y S,yV X.K H' Y B'/\zJ X.K H' S/\W (i+1) Y S,fun B' H' q=>⟨_,by lia,rfl,hl,q⟩,λ x H3 hy=>?_⟩;obtain⟨x3,p3,d3⟩:=yl x H3 hy;refine⟨_,Y2,S2,d3,q1.ext x3,p3,hg.mo _ Y2 S2 _ _ (fun Y4 S4 z4 B4 H4 a1 a2 a3=>?_) (ws i _ Y2 S2 hd w2)⟩;refine⟨Y4,S4,a1,a3,hb.mo _ _ Y4 S4 ⟨fun Y5 S5 w5 B5 H5 b1 b2 b3=>⟨((x2.trans x3).trans a2).trans b2,Y5,S5,b1,b3,w5⟩,λ _ _ q=>wY.ext (((e1.trans x2).trans x3).trans a2) q,λ _ _ q=>vn.ext (((e1.trans x2).trans x3).trans a2) q,fun Y5 S5 w5 B5 H5 b1 b2 b3=>⟨((x2.trans x3).trans a2).trans b2,Y5,S5,b1,b3,w5⟩⟩ z4⟩
 .have e:i=I.items.length:=by lia
  subst e;exact .inl ⟨g2 (Ag _),wd Y2 S2 w2 B2 H2 q1 (e1.trans x2) q2⟩
abbrev rW:=List D->SS->DK->Prop
def e9 (sp:rW):Prop:=∀ ds S (Q Q':DK),(∀ d S',Q d S'->Q' d S')->sp ds S Q->sp ds S Q'
noncomputable def tX (K:Ac) (sp:rW):Sp:=λ vs H Q _=>∃ ds S,zm K H ds vs/\zJ K H S/\sp ds S (wY K H Q)
def fH (sp:rW) (t:yp):zq:=fun Y S Q=>t Y S λ ds S1=>sp ds S1 Q
def U7 {sp:rW}{E:XK}{e:Expr}(h:PE X e (cz (tX X.K sp) [] E (wC X.K tA))) (hs:e9 sp) (hm:sN tA):PD X e (fH sp tA):=by
 refine⟨fun Y S Q Q' hq z=>hm Y S _ _ (λ ds S1 z=>hs ds S1 _ _ hq z) z,PE.imp h fun B H Q hu=>?_⟩;obtain⟨Y,S,r1,r2,z⟩:=hu;refine wC.go hm r1 r2 z λ ds S1 xs H1 h1 q1 e1 p1=>?_;rw[C0];exact⟨ds,S1,q1,p1,hs ds S1 _ _ (λ d S' q=>wY.ext e1 q) h1⟩
noncomputable def tZ (N:List Str) (ds:List D):ym:=ds.map some++List.replicate (N.length-ds.length) none
def yV.init {H:Hp}{N:List Str}{ds:List D}{vs:List V}(r:zm K H ds vs):yV K H (tZ N ds) (start N vs):=by
 have hl:=r.length;refine⟨by unfold tZ L2.start;simp[hl],λ i d h=>?_⟩;unfold tZ at h;have hi:i<ds.length:=by
  rcases Bi i ds.length with q | q
  .exact q
  .rw[Cu (by simpa using q),CM] at h;split at h <;> cases h
 rw[Ct (by simpa using hi),Az] at h;cases q:ds[i]? with
 | none=>rw[q] at h;cases h
 | some d'=>
  rw[q] at h;cases h;obtain⟨x,e1,e2⟩:=r.get q;refine⟨x,?_,e2⟩;unfold L2.start;rw[Ct (by simpa using by lia),Az,e1];rfl
def Q3 {P:Program}{w:World}{K:Ac}{mg:Str->Option Value}{base:Heap}{x qual:Str}{st:Stmt}{f:Addr}{fd:FuncData}{N ps:List Str}{k:Nat}{sp:rW}(F:uU K x qual st f fd) (Sc:yq N ps (zE st))
  (len:∀ ds S Q,sp ds S Q->ds.length=ps.length)
  (hbody:∀ (Af:Value) (A:Around) (outer:List Env) (s:Shared) (H:Hp) (E:XK),yF k (A.deeper (envOfC qual (zE st) s.heap.objs.size f Af))->
   ∃ t,u9 (tP vG P w K mg base N qual (zE st) f Af A outer s H E).rp (v5 st) t/\∀ ds S Q,sp ds S Q->t { nx:=λ _ S'=>Q .zi S',rt:=Q } (tZ N ds) S):uB P w K mg base vG (k+1) f fd ps (tX K sp):=by
 refine F.ok Sc (λ vs H Q E h=>?_) λ Af A outer s H vs Q E hr h=>?_
 .obtain⟨ds,S,r1,_,z⟩:=h;rw[<- r1.length];exact len _ _ _ z
 .obtain⟨ds,S,r1,r2,z⟩:=h;obtain⟨t,ht,hq⟩:=hbody Af A outer s H E hr;refine⟨_,ht.ps,tZ N ds,S,.init r1,r2,ht.mo { nx:=λ _ S'=>wY K H Q .zi S',rt:=wY K H Q } _ _ _ ⟨fun Y S' q B' H' _ b c=>q .zi H' (by simp only[zg]) b c,λ _ _ q=>q,λ _ _ q=>False.elim q,λ _ _ q=>False.elim q⟩ (hq ds S _ z)⟩
noncomputable def ue (pick:List (Option Nat)) (Y:ym):ym:=pick.map λ o=>o.bind λ i=>(Y[i]?).join
theorem yV.pick {H:Hp}{Y:ym}{B:St}(r:yV K H Y B) (pick:List (Option Nat)):yV K H (ue pick Y) (ud pick B):=by
 refine⟨by unfold ue ud;simp,λ i d h=>?_⟩;unfold ue at h;rw[Az] at h;cases q:pick[i]? with
 | none=>rw[q] at h;cases h
 | some o=>
  rw[q] at h;cases o with
  | none=>simp at h
  | some j=>
   simp only[Option.map_some,Bn,Option.some.injEq] at h;have hj:Y[j]?=some (some d):=by
    cases q2:Y[j]? with
    | none=>rw[q2] at h;cases h
    | some o2=>rw[q2] at h;simp only[Option.join_some] at h;rw[h]
   obtain⟨v,e1,e2⟩:=r.2 j d hj;refine⟨v,?_,e2⟩;unfold ud;rw[Az,q];simp[e1]
def qL (Y Y':ym):Prop:=Y.length=Y'.length/\∀ (i:Nat) d,Y[i]?=some (some d)->Y'[i]?=some (some d)
def qL.rep {H:Hp}{Y Y':ym}{B:St}(h:qL Y Y') (r:yV K H Y' B):yV K H Y B:=⟨h.1.trans r.1,λ i d q=>r.2 i d (h.2 i d q)⟩
structure jj (X:Cx) (ifs:List Expr) (t:yE):Prop where
 mo:va t
 pf:PF X ifs (wB X.K t)
def PF.imp {ifs:List Expr}{t t':TT}(h:PF X ifs t) (hi:∀ B H Q,t' B H Q->t B H Q):PF X ifs t':=λ pins s B H Q I q=>h pins s B H Q I (hi B H Q q)
def ZI:yE:=λ _ S Q=>Q true S
def tu:jj X [] ZI:=⟨λ _ _ _ _ hq z=>hq _ _ z,PF.imp VG λ _ H _ ⟨_,_,_,r2,z⟩=>z H (.refl H) r2⟩
def nr {c:Expr}{t:yE}(h:xV X c t):jj X [c] t:=⟨h.mo,VF h.pt⟩
section
variable {N':List Str}{pick:List (Option Nat)}{scope:Scope}{elt iter:Expr}{ifs:List Expr}{ti:wJ}{g:xo}{tc:yE}
end
end
end L3
namespace L2
open PySem PySem.Spec PyProof.Rows
def Qi (K:Ac) (tl:TE):TI:=fun B H R=>tl B H λ x H1=>∃ a,x=.ref a/\(((∃ xs,zO K H1 a xs)/\R (YA K a) H1)\/((∃ xs,z_ K H1 a xs)/\R (Y9 K a) H1))
def V6 {X:Cx}{tg l:Expr}{tl:TE}(hl:PE X l tl):PI X tg l (Qi X.K tl):=by
 intro pins s B H R I h;refine zG (hl pins s B H _ I h) λ v s1 ⟨x,H1,I1,r1,a,hx,q1⟩=>?_;subst hx;cases r1;have new:∀ b∈[s1.heap.objs.size],vX X pins H1 b:=λ b hb=>by
  obtain rfl:b=s1.heap.objs.size:=AJ.mp hb;exact I1.me (Ag _) (I1.zx.fresh (Ag _))
 rcases q1 with ⟨⟨xs,hq⟩,q⟩ | ⟨⟨xs,hq⟩,q⟩
 .obtain⟨its,_,pl,_⟩:=I1.list hq;exact wpAny_pyIter_list pl.isList ⟨_,_,_,_,H1,rfl,I1.kept (t':=s1.toks) λ b o eo=>Ao _ eo,XA a _,⟨_,AE _ rfl,rfl,rfl⟩,new,q⟩
 .obtain⟨its,_,pt,_⟩:=I1.tuple hq;exact wpAny_pyIter_tuple (show s1.heap.IsTuple a its.toArray from pt) ⟨_,_,_,_,H1,rfl,I1.kept (t':=s1.toks) λ b o eo=>Ao _ eo,X7 a _,⟨_,AE _ rfl,rfl,rfl⟩,new,q⟩
section
variable {X:Cx}
end
end L2
namespace L3
open PySem PySem.Spec L2
open PyProof.Rows hiding St
structure Bt (mg:Str->Option Value):Prop where
 len:mg "len"=none
 range:mg "range"=none
 any:mg "any"=none
 all:mg "all"=none
 sorted:mg "sorted"=none
 isinstance:mg "isinstance"=none
 bool:mg "bool"=none
 int:mg "int"=none
 str:mg "str"=none
 list:mg "list"=none
 tuple:mg "tuple"=none
 max:mg "max"=none
 min:mg "min"=none
section
variable {X:Cx}{K:Ac}{a b c e:Expr}{es:List Expr}{ta tb tc te:zq}{tA:yp}{pos p:Pos}
def vo {N':List Str}{pick:List (Option Nat)}{scope esc:Scope}{N:List Str}(hE:X.env.scope=esc:=by rfl) (hN:X.N=N:=by rfl) (h1:scope.kind=.function:=by rfl) (h2:scope.names.all (λ y=>decide (y.2≠.cell))=true:=by decide +kernel)
  (h3:scope.names.all (λ y=>!decide (y.2=.local)||decide (scope.names.lookup y.1=some .local))=true:=by decide +kernel)
  (h4:scope.names.all (λ y=>!decide (y.2=.free)||(decide (esc.names.lookup y.1=some .cell)||decide (esc.names.lookup y.1=some .free)))=true:=by decide +kernel)
  (h5:pick.length=N'.length:=by rfl) (h6:px N N' pick scope=true:=by decide +kernel):qU X N' pick scope:=by
 refine⟨h1,λ y hy=>?_,λ y hy hl=>?_,λ y hy hf=>?_,h5,by rw[hN];exact h6⟩
 .exact of_decide_eq_true (Cv.mp h2 y hy)
 .have:=Cv.mp h3 y hy;rw[decide_eq_true hl] at this;simpa using this
 .have:=Cv.mp h4 y hy;rw[decide_eq_true hf] at this;rw[hE];simpa using this
def yk (i:Nat) {x:Str}(hN:X.N.Nodup) (hi:X.N[i]?=some x:=by rfl) (hx:Loc X.env.scope x:=by first | exact Or.inl rfl | exact Or.inr rfl) (hf:X.fn x=true\/X.env.scope.names.lookup x=some .local:=by first | exact .inl rfl | exact .inr rfl):sM X (.Name x pos) (hName i):=
 Us (VE hN hi hx hf)
def p8 {k:Nat}{t:wZ}{n:Nat}(h:ji X es t) (hc:X.calm=true:=by rfl) (hn:(assignEach es X.env).length=n:=by rfl) (AO:(assignEach es X.env).findIdx? (·.1)=none:=by rfl):sM X (.Tuple es k pos) (kJ n t):=
 Ur (VC hc h.pg hn AO) h.mo
def zW (i:Nat) {x:Str}{pos':Pos}(hN:X.N.Nodup) (he:PD X e te) (hi:X.N[i]?=some x:=by rfl) (hx:Loc X.env.scope x:=by first | exact Or.inl rfl | exact Or.inr rfl) (hs:swapsWith e (some (.Name x pos')) pos.line X.env=pure false:=by rfl)
  (hf:X.fn x=true\/X.env.scope.names.lookup x=some .local:=by first | exact .inl rfl | exact .inr rfl):vA X (.Assign [.Name x pos'] e pos) (v7 te (hName i)):=
 Ui (Vs hN hi hx he.pe hs hf) he.mo
def gI (te:zq):wJ:=fun Y S R=>te Y S λ x S1=>match x with
 | .tup ds=>R ⟨ds,λ _=>True⟩ S1
 | .yH ds=>R ⟨ds,λ _=>True⟩ S1
 | .ref p=>match S1 p with
  | some (.lst ds)=>R ⟨ds,λ S=>S p=some (.lst ds)⟩ S1
  | _=>False
 | _=>False
def x_ {tg:Expr}(h:PD X e te):sL X tg e (gI te):=by
 refine⟨fun Y S Q Q' hq z=>h.mo Y S _ _ (λ x S1 z=>?_) z,?_⟩
 .cases x with
  | ref p=>
   dsimp only at z ⊢;split at z
   .exact hq _ _ z
   .exact z.elim
  | yH ds=>exact hq _ _ z
  | tup ds=>exact hq _ _ z
  | _=>exact z
 .refine PI.imp (V6 h.pe) fun B H R hu=>?_
  obtain⟨Y,S,r1,r2,z⟩:=hu;refine zP.go h.mo r1 r2 z λ x S1 v H1 h1 q1 e1 p1=>?_;cases x with
  | tup ds=>
   simp only[zg] at q1;obtain⟨a,xs,rfl,g1,g2⟩:=q1;refine⟨a,rfl,.inr ⟨⟨xs,g1⟩,h1 _ H1 e1 p1 λ i H2 S2 x1 x2 _=>⟨λ d hd=>?_,λ hl=>⟨xs,x1.lO g1,by rw[<- g2.length];exact hl⟩⟩⟩⟩;obtain⟨y,hy,_⟩:=g2.get hd;refine⟨⟨xs,y,x1.lO g1,hy⟩,λ x H' q=>?_⟩;obtain⟨rfl,q⟩:=q;exact⟨.refl _,x2,(zm.ext x1 ds g2).at hd (q xs (x1.lO g1))⟩
  | ref p=>
   dsimp only at h1;split at h1
   .rename_i ds e2;simp only[zg] at q1;subst q1;obtain⟨xs0,g1,_⟩:=p1 _ _ e2;refine⟨p,rfl,.inl ⟨⟨xs0,zO.of g1⟩,h1 _ H1 e1 p1 λ i H2 S2 x1 x2 hk=>?_⟩⟩;obtain⟨xs,g3,g4⟩:=x2 _ _ hk;refine⟨λ d hd=>?_,λ hl=>⟨xs,zO.of g3,by rw[<- g4.length];exact hl⟩⟩;obtain⟨y,hy,_⟩:=g4.get hd;refine⟨⟨xs,y,zO.of g3,hy⟩,λ x H' q=>?_⟩;obtain⟨rfl,q⟩:=q;exact⟨.refl _,x2,g4.at hd (q xs (zO.of g3))⟩
   .exact h1.elim
  | yH ds=>
   simp only[zg] at q1;obtain⟨a,xs,rfl,g1,g2⟩:=q1;refine⟨a,rfl,.inl ⟨⟨xs,g1.sq⟩,h1 _ H1 e1 p1 λ i H2 S2 x1 x2 _=>⟨λ d hd=>?_,λ hl=>⟨xs,(x1.lP g1).sq,by rw[<- g2.length];exact hl⟩⟩⟩⟩;obtain⟨y,hy,_⟩:=g2.get hd;refine⟨⟨xs,y,(x1.lP g1).sq,hy⟩,λ x H' q=>?_⟩;obtain⟨rfl,q⟩:=q;exact⟨.refl _,x2,(zm.ext x1 ds g2).at hd (q xs (x1.lP g1).sq)⟩
  | zi=>exact h1.elim
  | bl _=>exact h1.elim
  | int _=>exact h1.elim
  | str _=>exact h1.elim
end
end L3
namespace L4
open PySem PySem.W PyProof.Rows
noncomputable def y7 {α:Type}(n:Nat) (lt:Nat->Nat->Bool):KasT α->(α->Prop)->Prop
 | .ret a,Q=>Q a
 | .ask i j k,Q=>i<n/\j<n/\y7 n lt (k (lt i j)) Q
theorem y7.mono {α:Type}{n:Nat}{lt:Nat->Nat->Bool}{Q Q':α->Prop}(hq:∀ a,Q a->Q' a):∀ {t:KasT α},y7 n lt t Q->y7 n lt t Q'
 | .ret _,h=>hq _ h
 | .ask _ _ _,h=>⟨h.1,h.2.1,y7.mono hq h.2.2⟩
theorem y7.bind {α β:Type}{n:Nat}{lt:Nat->Nat->Bool}{f:α->KasT β}{Q:β->Prop}:∀ {t:KasT α},y7 n lt t (λ a=>y7 n lt (f a) Q)->y7 n lt (t.bind f) Q
 | .ret _,h=>h
 | .ask _ _ _,h=>⟨h.1,h.2.1,y7.bind h.2.2⟩
section
variable {n:Nat}{lt:Nat->Nat->Bool}
def Le (lt:Nat->Nat->Bool) (a b:Nat):Prop:=lt b a=false
structure Ord (lt:Nat->Nat->Bool):Prop where
 tr:∀ a b c,Le lt a b->Le lt b c->Le lt a c
 as:∀ a b,lt a b=true->Le lt a b
def Ord.refl (o:Ord lt) (a:Nat):Le lt a a:=by
 cases h:lt a a with
 | false=>exact h
 | true=>exact o.as a a h
def xw (n:Nat) (p:Array Nat):Prop:=p.Perm (List.range n).toArray
theorem xw.size {p:Array Nat}(h:xw n p):p.size=n:=by rw[Array.Perm.size_eq h];simp
def xw.below {p:Array Nat}(h:xw n p) {i:Nat}(hi:i<n):p.getD i 0<n:=by
 have hs:=h.size;have hm:p.getD i 0∈p:=by
  rw[Du,Ba (by lia)];exact Array.getElem_mem (by lia)
 have:p.getD i 0∈(List.range n).toArray:=(Array.Perm.mem_iff h).mp hm;simpa using this
def n_ {p q:Array Nat}{i j:Nat}(h:p[i]?=q[j]?):p.getD i 0=q.getD j 0:=by rw[Du,Du,h]
def v9 (lt:Nat->Nat->Bool) (p:Array Nat) (k:Nat):Prop:=∀ i j,i<=j->j<k->Le lt (p.getD i 0) (p.getD j 0)
def tV (lt:Nat->Nat->Bool) (p:Array Nat) (k:Nat):Prop:=∀ i j,i<=j->j<k->Le lt (p.getD j 0) (p.getD i 0)
def v9.next (o:Ord lt) {p:Array Nat}{k:Nat}(h:v9 lt p k) (hk:1<=k) (hl:Le lt (p.getD (k-1) 0) (p.getD k 0)):v9 lt p (k+1):=λ i j A3 hj=>by
 by_cases En:j<k
 .exact h i j A3 En
 .have e:j=k:=by lia
  subst e;by_cases hi:i=j
  .subst hi;exact o.refl _
  .exact o.tr _ _ _ (h i (j-1) (by lia) (by lia)) hl
def tV.next (o:Ord lt) {p:Array Nat}{k:Nat}(h:tV lt p k) (hk:1<=k) (hl:Le lt (p.getD k 0) (p.getD (k-1) 0)):tV lt p (k+1):=λ i j A3 hj=>by
 by_cases En:j<k
 .exact h i j A3 En
 .have e:j=k:=by lia
  subst e;by_cases hi:i=j
  .subst hi;exact o.refl _
  .exact o.tr _ _ _ hl (h i (j-1) (by lia) (by lia))
theorem fX (o:Ord lt) {p:Array Nat}(hp:xw n p):∀ (f a:Nat),1<=a->a+f<=n->v9 lt p a->
  y7 n lt (kas_asc p f a) λ m=>a<=m/\m<=a+f/\v9 lt p m/\(m=a+f\/lt (p.getD m 0) (p.getD (m-1) 0)=true)
 | 0,a,_,_,hs=>⟨Ag _,Ag _,hs,.inl rfl⟩
 | f+1,a,h1,h2,hs=>by
  refine⟨hp.below (by lia),hp.below (by lia),?_⟩;cases c:lt (p.getD a 0) (p.getD (a-1) 0) with
  | true=>exact⟨Ag _,by lia,hs,.inr c⟩
  | false=>
   refine y7.mono ?_ (fX o hp f (a+1) (by lia) (by lia) (hs.next o h1 c));rintro m ⟨g1,g2,g3,g4⟩;exact⟨by lia,by lia,g3,g4.imp (λ e=>by lia) id⟩
def o_ {p:Array Nat}(hp:xw n p) (i j:Nat):xw n (kas_rev p i j):=Array.Perm.trans (mirror_perm _ _ _ _) hp
def nc {p:Array Nat}(hp:xw n p) {i j:Nat}(hj:j<=n) (k:Nat):(kas_rev p i j).getD k 0=if i<=k/\k<j then p.getD (i+j-1-k) 0 else p.getD k 0:=by
 have e:=getElem?_mirror_all (xs:=p) (i:=i) (j:=j) (by rw[hp.size];exact hj) k;split
 .rename_i h;rw[if_pos h] at e;exact n_ e
 .rename_i h;rw[if_neg h] at e;exact n_ e
def rev_eq (o:Ord lt) {p:Array Nat}(hp:xw n p) {i j:Nat}(hj:j<=n) (he:∀ a b,i<=a->a<j->i<=b->b<j->Le lt (p.getD a 0) (p.getD b 0)) (k:Nat):
  Le lt ((kas_rev p i j).getD k 0) (p.getD k 0)/\Le lt (p.getD k 0) ((kas_rev p i j).getD k 0):=by
 rw[nc hp hj];split
 .rename_i h;exact⟨he _ _ (by lia) (by lia) h.1 h.2,he _ _ h.1 h.2 (by lia) (by lia)⟩
 .exact⟨o.refl _,o.refl _⟩
def tV.of_eq (o:Ord lt) {p q:Array Nat}{k:Nat}(h:tV lt p k) (e:∀ k,Le lt (q.getD k 0) (p.getD k 0)/\Le lt (p.getD k 0) (q.getD k 0)):tV lt q k:=λ i j A3 hj=>
 o.tr _ _ _ (e j).1 (o.tr _ _ _ (h i j A3 hj) (e i).2)
def dh (lt:Nat->Nat->Bool) (p:Array Nat) (m q:Nat):Prop:=∀ a b,m-(q+1)<=a->a<m->m-(q+1)<=b->b<m->Le lt (p.getD a 0) (p.getD b 0)
theorem kW (o:Ord lt):∀ (f:Nat) (p:Array Nat) (m q:Nat),xw n p->1<=m->m+f<=n->tV lt p m->q+1<=m->dh lt p m q->
  y7 n lt (kas_desc f p m q) λ r=>xw n r.1/\m<=r.2.1/\r.2.1<=m+f/\tV lt r.1 r.2.1/\r.2.2+1<=r.2.1/\dh lt r.1 r.2.1 r.2.2
 | 0,p,m,q,hp,_,_,hd,hq,hb=>⟨hp,Ag _,Ag _,hd,hq,hb⟩
 | f+1,p,m,q,hp,h1,h2,hd,hq,hb=>by
  have one:∀ p':Array Nat,dh lt p' (m+1) 0:=λ p' a b a1 a2 b1 b2=>by
   have:a=b:=by lia
   subst this;exact o.refl _
  refine⟨hp.below (by lia),hp.below (by lia),?_⟩;cases c:lt (p.getD m 0) (p.getD (m-1) 0) with
  | true=>
   dsimp only;rw[if_pos rfl];have hl:=o.as _ _ c;by_cases h0:q>0
   .rw[if_pos h0];have e:=rev_eq o hp (i:=m-(q+1)) (j:=m) (by lia) hb;have hp':=o_ hp (m-(q+1)) m;refine y7.mono ?_ (kW o f _ (m+1) 0 hp' (by lia) (by lia) ((hd.of_eq o e).next o h1 (o.tr _ _ _ (e m).1 (o.tr _ _ _ hl (e (m-1)).2))) (by lia) (one _));rintro r ⟨a1,a2,a3,a4⟩;exact⟨a1,by lia,by lia,a4⟩
   .rw[if_neg h0];refine y7.mono ?_ (kW o f _ (m+1) 0 hp (by lia) (by lia) (hd.next o h1 hl) (by lia) (one _));rintro r ⟨a1,a2,a3,a4⟩;exact⟨a1,by lia,by lia,a4⟩
  | false=>
   dsimp only;rw[if_neg BA];refine⟨hp.below (by lia),hp.below (by lia),?_⟩;cases d:lt (p.getD (m-1) 0) (p.getD m 0) with
   | true=>exact⟨hp,Ag _,(by show m<=m+(f+1);lia),hd,hq,hb⟩
   | false=>
    dsimp only;rw[if_neg BA];refine y7.mono ?_ (kW o f _ (m+1) (q+1) hp (by lia) (by lia) (hd.next o h1 d) (by lia) λ a b a1 a2 b1 b2=>?_)
    .rintro r ⟨a1,a2,a3,a4⟩;exact⟨a1,by lia,by lia,a4⟩
    .by_cases ha:a=m
     .by_cases hb':b=m
      .subst ha;subst hb';exact o.refl _
      .subst ha;exact o.tr _ _ _ d (hb (a-1) b (by lia) (by lia) (by lia) (by lia))
     .by_cases hb':b=m
      .subst hb';exact o.tr _ _ _ (hb a (b-1) (by lia) (by lia) (by lia) (by lia)) c
      .exact hb a b (by lia) (by lia) (by lia) (by lia)
def cx (o:Ord lt) {p:Array Nat}{m:Nat}(hp:xw n p) (h1:1<=m) (h2:m<=n) (hd:tV lt p m):y7 n lt (kas_tail3 m n p) λ r=>xw n r.2/\r.1<=n/\v9 lt r.2 r.1:=by
 refine y7.bind (y7.mono ?_ (fX o (o_ hp 0 m) (n-m) m h1 (by lia) λ i j A3 hj=>?_))
 .rintro k ⟨a1,a2,a3,_⟩;exact⟨o_ hp 0 m,by lia,a3⟩
 .rw[nc hp h2,nc hp h2,if_pos ⟨AN _,by lia⟩,if_pos ⟨AN _,hj⟩];exact hd _ _ (by lia) (by lia)
def ZO (o:Ord lt) {p:Array Nat}{m:Nat}(hp:xw n p) (h1:1<=m) (h2:m<n) (hd:tV lt p m) (hl:lt (p.getD m 0) (p.getD (m-1) 0)=true):y7 n lt (kas_descPart m n p) λ r=>xw n r.2/\r.1<=n/\v9 lt r.2 r.1:=by
 refine y7.bind (y7.mono ?_ (kW o (n-(m+1)) p (m+1) 0 hp (by lia) (by lia) (hd.next o h1 (o.as _ _ hl)) (by lia) λ a b a1 a2 b1 b2=>?_))
 .rintro⟨p',m',q'⟩ ⟨a1,a2,a3,a4,a5,a6⟩;dsimp only at a1 a2 a3 a4 a5 a6 ⊢;by_cases h0:q'>0
  .rw[if_pos h0];exact cx o (o_ a1 _ _) (by lia) (by lia) (a4.of_eq o (rev_eq o a1 (i:=m'-(q' + 1)) (j:=m') (by lia) a6))
  .rw[if_neg h0];exact cx o a1 (by lia) (by lia) a4
 .have:a=b:=by lia
  subst this;exact o.refl _
def Po (o:Ord lt) {p:Array Nat}(hp:xw n p) (h1:1<=n):y7 n lt (kas_count n p) λ r=>xw n r.2/\r.1<=n/\v9 lt r.2 r.1:=by
 refine y7.bind (y7.mono ?_ (fX o hp (n-1) 1 (Ag _) (by lia) λ i j A3 hj=>?_))
 .rintro m ⟨a1,a2,a3,a4⟩;by_cases hm:m=n
  .rw[if_pos (by simp[hm])];exact⟨hp,by lia,a3⟩
  .rw[if_neg (by simp[hm])];have hl:lt (p.getD m 0) (p.getD (m-1) 0)=true:=a4.resolve_left (by lia);by_cases h2:m>1
   .rw[if_pos h2];refine⟨hp.below (by lia),hp.below (by lia),?_⟩;cases c:lt (p.getD 0 0) (p.getD (m-1) 0) with
    | true=>exact⟨hp,by lia,a3⟩
    | false=>
     dsimp only;rw[if_neg BA];have all:∀ a b,0<=a->a<m->0<=b->b<m->Le lt (p.getD a 0) (p.getD b 0):=λ a b _ ha _ hb=>
      o.tr _ _ _ (a3 a (m-1) (by lia) (by lia)) (o.tr _ _ _ c (a3 0 b (by lia) hb))
     have e:=rev_eq o hp (i:=0) (j:=m) (by lia) all;refine ZO o (o_ hp 0 m) (by lia) (by lia) (λ i j A3 hj=>o.tr _ _ _ (e j).1 (o.tr _ _ _ (all _ _ (AN _) hj (AN _) (by lia)) (e i).2)) ?_;rw[nc hp (by lia),nc hp (by lia),if_neg (by lia),if_pos (by lia)];cases q:lt (p.getD m 0) (p.getD (0+m-1-(m-1)) 0) with
     | true=>rfl
     | false=>
      have:=o.tr _ _ _ (all (m-1) (0+m-1-(m-1)) (AN _) (by lia) (AN _) (by lia)) q;unfold Le at this;rw[this] at hl;cases hl
   .rw[if_neg h2];have e:m=1:=by lia
    subst e;refine ZO o hp (Ag _) (by lia) (λ i j A3 hj=>?_) hl;have:i=j:=by lia
    subst this;exact o.refl _
 .have:i=j:=by lia
  subst this;exact o.refl _
theorem iJ {p:Array Nat}{k:Nat}(hp:xw n p) (hk:k<n) (hs:v9 lt p k) (o:Ord lt):∀ (f l r:Nat),r-l<=f->l<=r->r<=k->(∀ i,i<l->Le lt (p.getD i 0) (p.getD k 0))->(∀ i,r<=i->i<k->lt (p.getD k 0) (p.getD i 0)=true)->
  y7 n lt (kas_place p k f l r) λ m=>m<=k/\(∀ i,i<m->Le lt (p.getD i 0) (p.getD k 0))/\(∀ i,m<=i->i<k->lt (p.getD k 0) (p.getD i 0)=true)
 | 0,l,r,h0,h1,h2,ha,hb=>by
  have:l=r:=by lia
  subst this;exact⟨h2,ha,hb⟩
 | f+1,l,r,h0,h1,h2,ha,hb=>by
  unfold kas_place;by_cases BQ:l≥r
  .rw[if_pos BQ];have:l=r:=by lia
   subst this;exact⟨h2,ha,hb⟩
  .rw[if_neg BQ];refine⟨hp.below hk,hp.below (by lia),?_⟩;cases c:lt (p.getD k 0) (p.getD ((l+r)/2) 0) with
   | true=>
    dsimp only;rw[if_pos rfl];refine iJ hp hk hs o f l ((l+r)/2) (by lia) (by lia) (by lia) ha λ i hi DC=>?_;cases q:lt (p.getD k 0) (p.getD i 0) with
    | true=>rfl
    | false=>
     have:=o.tr _ _ _ (hs ((l+r)/2) i hi DC) q;unfold Le at this;rw[this] at c;cases c
   | false=>
    dsimp only;rw[if_neg BA];refine iJ hp hk hs o f ((l+r)/2+1) r (by lia) (by lia) h2 (λ i hi=>?_) hb;exact o.tr _ _ _ (hs i ((l+r)/2) (by lia) (by lia)) c
theorem Yr (o:Ord lt):∀ (f:Nat) (p:Array Nat) (k:Nat),xw n p->k+f=n->v9 lt p k->y7 n lt (kas_bin f p k) λ r=>xw n r/\v9 lt r n
 | 0,p,k,hp,h1,hs=>by
  have:k=n:=by lia
  subst this;exact⟨hp,hs⟩
 | f+1,p,k,hp,h1,hs=>by
  refine y7.bind (y7.mono ?_ (iJ hp (by lia) hs o k 0 k (by lia) (AN _) (Ag _) (λ i hi=>absurd hi (Nat.not_lt_zero _)) λ i hi DC=>absurd DC (by lia)));rintro l ⟨a1,a2,a3⟩;refine Yr o f _ (k+1) (Array.Perm.trans (bubble_perm _ _ _) hp) (by lia) λ i j A3 hj=>?_;have ev:∀ x,(bubble p k (k-l)).getD x 0=if x=l then p.getD k 0 else if l<x/\x<=k then p.getD (x-1) 0 else p.getD x 0:=λ x=>by
   have e:=getElem?_bubble (xs:=p) (src:=k) (by rw[hp.size];lia) (k-l) (by lia) x;rw[show k-(k-l)=l by lia] at e;split
   .rename_i h;rw[if_pos h] at e;exact n_ e
   .rename_i h;rw[if_neg h] at e;split
    .rename_i h';rw[if_pos h'] at e;exact n_ e
    .rename_i h';rw[if_neg h'] at e;exact n_ e
  rw[ev i,ev j];by_cases hi:i=l
  .rw[if_pos hi];by_cases hj':j=l
   .rw[if_pos hj'];exact o.refl _
   .rw[if_neg hj',if_pos ⟨by lia,by lia⟩];exact o.as _ _ (a3 (j-1) (by lia) (by lia))
  .rw[if_neg hi];by_cases hj':j=l
   .rw[if_pos hj',if_neg (by lia)];exact a2 i (by lia)
   .rw[if_neg hj'];by_cases hi2:l<i/\i<=k
    .rw[if_pos hi2,if_pos ⟨by lia,by lia⟩];exact hs _ _ (by lia) (by lia)
    .rw[if_neg hi2];by_cases hj2:l<j/\j<=k
     .rw[if_pos hj2];exact hs _ _ (by lia) (by lia)
     .rw[if_neg hj2];exact hs _ _ A3 (by lia)
def Wo (o:Ord lt) (h1:1<=n):y7 n lt (kas_sort n) λ r=>xw n r/\v9 lt r n:=by
 have hp:xw n (List.range n).toArray:=Array.Perm.refl _;refine y7.bind (y7.mono ?_ (Po o hp h1));rintro⟨m,p⟩ ⟨a1,a2,a3⟩;dsimp only at a1 a2 a3 ⊢;by_cases hm:m<n
 .rw[if_pos hm];refine Yr o _ p (max m 1) a1 (by lia) ?_;by_cases h0:m=0
  .subst h0;intro i j A3 hj;have:i=j:=by lia
   subst this;exact o.refl _
  .rw[show max m 1=m by lia];exact a3
 .rw[if_neg hm];have:m=n:=by lia
  subst this;exact⟨a1,a3⟩
end
end L4
namespace L4
open PySem PySem.W PySem.Calls PyProof.Rows
section
variable {prog:Program}{w:World}{A:Around}{E:Value->Shared->Prop}{s:Shared}
def Core (prog:Program) (w:World) (A:Around) (E:Value->Shared->Prop) (vs:List Value) (Out:Array Value->Prop) (s6:Shared):Prop:=
 wpAny (model prog w) A (keyKind' vs.toArray) (fun κ s'=>s'=s6/\wpAny (model prog w) A ((sortRuns').run (SortSt.mk' κ (vs.toArray.zip vs.toArray) #[] 7 none))
  (λ r s''=>s''=s6/\failedOf r.2=none/\Out ((arrOf r.2).map (·.2))/\(arrOf r.2).size=vs.length) E s') E s6
def gD {a:Addr}{vs:List Value}{n:Nat}{P:PySem.Fin->Shared->Prop}{Out:Array Value->Prop}(ho:s.heap.get? a=some (seqObj "list" vs.toArray n)) (hz:vs.length<=sizeLine)
  (core:2<=vs.length->∀ s6:Shared,(∀ b o,b≠a->s.heap.get? b=some o->s6.heap.get? b=some o)->Core prog w A E vs Out s6) (short:vs.length<2->Out vs.toArray)
  (fin:∀ out:Array Value,Out out->out.size=vs.length->P (.done (.ret .none)) { s with heap:=sortedHeap s.heap a vs out }):
  wpAny (model prog w) A (Builtin.«list.sort» ⟨[.ref a],[]⟩) P E s:=by
 have ha:a<s.heap.objs.size:=Ap ho;obtain⟨e1,g1⟩:∃ e1,(s.heap.update a (Obj.mapSeq λ _=>#[])).get? a=some (seqObj "list" #[] e1):=⟨_,get?_update_seq ho (λ _=>#[])⟩
 have hz':vs.toArray.size<=sizeLine:=by rw[Av];exact hz
 have g6:(((s.heap.update a (Obj.mapSeq λ _=>#[])).push (seqObj "tuple" vs.toArray 0)).push (seqObj "list" #[] 0)).get? a=some (seqObj "list" #[] e1):=Ao _ (Ao _ g1);have keep:∀ b o,b≠a->s.heap.get? b=some o->(((s.heap.update a (Obj.mapSeq λ _=>#[])).push (seqObj "tuple" vs.toArray 0)).push (seqObj "list" #[] 0)).get? b=some o:=
  λ b o hb e=>Ao _ (Ao _ (by rw[Heap.get?_update_ne _ _ _ _ hb];exact e))
 rw[list_sort_plain];refine Ab (listItems_at ho rfl (Ab (listUpdate_at ho rfl (Ab (seqEpoch_at g1 rfl (Ab (wpAny_newTuple (Ab (wpAny_newList (wpAny_holding ?_))) (by simpa using hz))))) hz' (AN _))));by_cases h2:vs.toArray.size<2
 .rw[if_pos h2,if_pos h2];have e2:(arrOf (SortSt.mk' general' (vs.toArray.zip vs.toArray) #[] 7 none)).map (·.2)=vs.toArray:=by
   show (vs.toArray.zip vs.toArray).map (·.2)=vs.toArray;apply Array.ext (by simp);intro i h1 h2;simp
  refine Ab (Ad ?_);dsimp only;rw[StateT.run_pure];refine Ab (Ad ?_);dsimp only;refine Ab (seqEpoch_at g6 rfl (Ab (listUpdate_at g6 rfl ?_ (AN _) ?_)))
  .simp only[bne_self_eq_false,A5,if_false];have q:=fin _ (e2▸short (by simpa using h2)) (by rw[e2];simp);exact Ad q
  .show (((arrOf (SortSt.mk' general' (vs.toArray.zip vs.toArray) #[] 7 none)).map (·.2))).size<=sizeLine+1;rw[e2];lia
 .rw[if_neg h2,if_neg h2];have h2':2<=vs.length:=by simpa using h2
  refine Ab (wpAny_mono (core h2' _ keep) (fun κ s7 ⟨hs,h7⟩=>?_) λ _ _ z=>z);subst hs;refine Ab (wpAny_mono h7 (λ r s8 ⟨hs,hf,D9,hsz⟩=>?_) λ _ _ z=>z);subst hs;obtain⟨⟨⟩,st⟩:=r;refine Ab (seqEpoch_at g6 rfl (Ab (listUpdate_at g6 rfl ?_ (AN _) ?_)))
  .have hf':failedOf st=none:=hf;rw[hf'];simp only[bne_self_eq_false,A5,if_false];exact Ad (fin _ D9 (by rw[CY];exact hsz))
  .show ((arrOf st).map (·.2)).size<=sizeLine+1;rw[CY];have:(arrOf st).size=vs.length:=hsz;lia
def Wn {l:Addr}{vs:List Value}{Q:Value->Shared->Prop}{Out:Array Value->Prop}(hl:s.heap.IsList l vs.toArray) (hz:vs.length<=sizeLine)
  (core:2<=vs.length->∀ s6:Shared,(∀ b o,s.heap.get? b=some o->s6.heap.get? b=some o)->Core prog w A.in1.in1 E vs Out s6) (short:vs.length<2->Out vs.toArray)
  (fin:∀ out:Array Value,Out out->out.size=vs.length->Q (.ref (s.heap.objs.size+1)) { s with heap:=sortedAll s.heap vs out }):
  wpAny (model prog w) A (call (.builtin "sorted") [.ref l]) Q E s:=by
 have hsz:((s.heap.push (seqObj "list" #[] 0)).update s.heap.objs.size (Obj.mapSeq (·++vs.toArray))).objs.size=s.heap.objs.size+1:=by
  rw[Heap.size_update,size_push']
 have hoL:(((s.heap.push (seqObj "list" #[] 0)).update s.heap.objs.size (Obj.mapSeq (·++vs.toArray))).push (seqObj "list" vs.toArray 0)).get? (s.heap.objs.size+1)=some (seqObj "list" vs.toArray 0):=hsz▸AE _ rfl;have keep:∀ b o,s.heap.get? b=some o->(((s.heap.push (seqObj "list" #[] 0)).update s.heap.objs.size (Obj.mapSeq (·++vs.toArray))).push (seqObj "list" vs.toArray 0)).get? b=some o:=λ b o q=>
  Ao _ (by rw[Heap.get?_update_ne _ _ _ _ (Aw (Ap q))];exact Ao _ q)
 refine Calls.call_function_entry kind_sorted plain_sorted entry_sorted (args_sorted1 _) ?_;unfold Builtin.«sorted»;refine Ab (m:=checkCount "sorted" 1 1 _) (Ad (Ab (collect_list hl (Ab (wpAny_newList ?_ hz)) hz)));show wpAny _ _ _ _ _ { s with heap:=((s.heap.push (seqObj "list" #[] 0)).update s.heap.objs.size (Obj.mapSeq (·++vs.toArray))).push (seqObj "list" vs.toArray 0) };rw[hsz];refine Ab (wpAny_holding (wpAny_call_entry slot_list_sort ⟨_,hoL,rfl⟩ entry_list_sort (gD hoL hz (λ h2 s6 k=>core h2 s6 λ b o q=>k b o ?_ (keep b o q)) short λ out h1 h2=>⟨_,rfl,?_⟩) (args_list_sort _)))
 .exact Aw (Bu (Ap q))
 .exact Ad ⟨_,rfl,fin out h1 h2⟩
end
end L4
namespace L4
open PySem PySem.W PySem.Calls PyProof.Rows L2
theorem gG:∀ a b:List Int,HT.lexLt a b=true->HT.lexLt b a=false
 | [],[],h=>by cases h
 | [],_::_,_=>rfl
 | _::_,[],h=>by cases h
 | x::a,y::b,h=>by
  rw[HT.rB] at h ⊢;by_cases e:x=y
  .subst e;rw[if_pos rfl] at h ⊢;exact gG a b h
  .rw[if_neg e] at h;rw[if_neg (Ne.symm e)];have:=of_decide_eq_true h;exact decide_eq_false (by lia)
theorem aE:∀ a b:List Int,HT.lexLt a b=false->HT.lexLt b a=false->a=b
 | [],[],_,_=>rfl
 | [],_::_,h,_=>by cases h
 | _::_,[],_,h=>by cases h
 | x::a,y::b,h,h'=>by
  rw[HT.rB] at h h';by_cases e:x=y
  .subst e;rw[if_pos rfl] at h h';rw[aE a b h h']
  .rw[if_neg e] at h;rw[if_neg (Ne.symm e)] at h';have h1:=of_decide_eq_false h;have h2:=of_decide_eq_false h';lia
theorem gF:∀ a b c:List Int,HT.lexLt b a=false->HT.lexLt c b=false->HT.lexLt c a=false
 | [],[],[],_,_=>rfl
 | [],[],_::_,_,h=>h
 | [],_::_,[],_,h=>by cases h
 | [],_::_,_::_,_,_=>rfl
 | _::_,[],_,h,_=>by cases h
 | _::_,_::_,[],_,h=>by cases h
 | x::a,y::b,z::c,h,h'=>by
  rw[HT.rB] at h h' ⊢;by_cases e1:y=x
  .subst e1;rw[if_pos rfl] at h;by_cases e2:z=y
   .subst e2;rw[if_pos rfl] at h' ⊢;exact gF a b c h h'
   .rw[if_neg e2] at h' ⊢;exact h'
  .rw[if_neg e1] at h;have h1:=of_decide_eq_false h;by_cases e2:z=y
   .subst e2;rw[if_neg e1];exact h
   .rw[if_neg e2] at h';have h2:=of_decide_eq_false h';rw[if_neg (by lia)];exact decide_eq_false (by lia)
theorem iM {α:Type}{r:α->α->Prop}(an:∀ a b,r a b->r b a->a=b):∀ {l₁ l₂:List α},l₁.Perm l₂->l₁.Pairwise r->l₂.Pairwise r->l₁=l₂
 | [],l₂,h,_,_=>(List.nil_perm.mp h).symm
 | a::l₁,[],h,_,_=>absurd (List.perm_nil.mp h) (by simp)
 | a::l₁,b::l₂,h,h1,h2=>by
  have CS:a=b:=by
   have ha:a∈b::l₂:=h.mem_iff.mp Am;have hb:b∈a::l₁:=h.mem_iff.mpr Am;rcases Ah.mp ha with e | ha
   .exact e
   .rcases Ah.mp hb with e | hb
    .exact e.symm
    .exact an _ _ (List.rel_of_pairwise_cons h1 hb) (List.rel_of_pairwise_cons h2 ha)
  subst CS;rw[iM an (List.Perm.cons_inv h) (Bh.mp h1).2 (Bh.mp h2).2]
noncomputable def xO (rows:List (List Int)):List (List Int):=rows.mergeSort λ a b=>!HT.lexLt b a
def t_ (rows:List (List Int)):(xO rows).Perm rows:=List.mergeSort_perm _ _
def jP (rows:List (List Int)):(xO rows).Pairwise λ a b=>HT.lexLt b a=false:=by
 have:=List.pairwise_mergeSort (le:=λ a b:List Int=>!HT.lexLt b a) (λ a b c h1 h2=>by simp at h1 h2 ⊢;exact gF a b c h1 h2)
  (λ a b=>by
   cases h:HT.lexLt b a with
   | false=>simp
   | true=>simp[gG b a h]) rows
 exact this.imp λ h=>by simpa using h
def c8 {rows out:List (List Int)}(hp:out.Perm rows) (hs:out.Pairwise λ a b=>HT.lexLt b a=false):out=xO rows:=
 iM (λ a b h1 h2=>aE a b h2 h1) (hp.trans (t_ rows).symm) hs (jP rows)
noncomputable def oY (rows:List (List Int)) (i j:Nat):Bool:=HT.lexLt (rows.getD i []) (rows.getD j [])
def WM (rows:List (List Int)):Ord (oY rows):=⟨λ _ _ _ h1 h2=>gF _ _ _ h1 h2,λ _ _ h=>gG _ _ h⟩
section
variable {prog:Program}{w:World}{A:Around}{E:Value->Shared->Prop}{s:Shared}{Q:Bool->Shared->Prop}
theorem aQ {b:Bool}:∀ (ns ms:List Int) (us ws:List Value) (i:Nat),IntsAre us ns->IntsAre ws ms->Q (HT.lexLt ns ms) s->KatLex prog w A b (decide (ns.length<ms.length)) Q (us.zip ws) i s
 | [],[],_,_,_,.nil,.nil,h=>kat_nil (by simpa [HT.lexLt] using h)
 | [],_::_,_,_,_,.nil,.cons _ _ _,h=>kat_nil (by simpa [HT.lexLt] using h)
 | _::_,[],_,_,_,.cons _ _ _,.nil,h=>kat_nil (by simpa [HT.lexLt] using h)
 | n::ns,m::ms,_,_,i,.cons _ t hu,.cons _ u hw,h=>by
  rw[HT.rB] at h;refine kat_cons (SeqAt.EqAt.int_int n t m u prog w _ _ (kat_go (λ e=>kat_yes ?_) λ e=>kat_no ?_))
  .have e':n=m:=by simpa using e
   rw[if_pos e'] at h;rw[show decide ((n::ns).length<(m::ms).length)=decide (ns.length<ms.length) by simp];exact aQ ns ms _ _ (i+1) hu hw h
  .have e':¬ n=m:=by simpa using e
   rw[if_neg e'] at h;cases b&&i == 0 with
   | true=>exact kat_lt_int h
   | false=>exact kat_one _ _ (lt_int h)
def sJ (h:Heap):List Value->List (List Int)->Prop:=Paired λ v r=>r≠[]/\∃ b o its n,v=.ref b/\h.get? b=some o/\o.cls=.type "tuple"/\o.data=.seq its n/\IntsAre its.toList r
theorem sJ.Z2 {h:Heap}:∀ {vs:List Value}{rows:List (List Int)},sJ h vs rows->∃ fs,KatTups h vs fs/\fs.length=vs.length/\∀ v∈fs,∃ n t,v=Value.int n t
 | _,_,.nil=>⟨[],KatTups.nil,rfl,λ _ hv=>absurd hv (by simp)⟩
 | _,_,.cons ⟨Ai,b,o,its,n,hv,ho,hc,hd,hi⟩ r=>by
  obtain⟨fs,h1,h2,h3⟩:=sJ.Z2 r;subst hv;obtain⟨its⟩:=its;cases hi with
  | nil=>exact absurd rfl Ai
  | cons k t _=>exact⟨.int k t::fs,KatTups.cons ho hc hd rfl h1,by simp[h2],λ v hv=>(Ah.mp hv).elim (λ e=>⟨k,t,e⟩) (h3 v)⟩
theorem Paired.at' {α β:Type}{F:α->β->Prop}:∀ {l₁:List α}{l₂:List β}{i:Nat},Paired F l₁ l₂->i<l₁.length->∀ (d:α) (e:β),F (l₁.getD i d) (l₂.getD i e)
 | _,_,_,.nil,h,_,_=>absurd h (by simp)
 | _,_,0,.cons r _,_,_,_=>r
 | _,_,i+1,.cons _ t,h,d,e=>by simpa using Paired.at' (i:=i) t (by simpa using h) d e
def sJ.ask {vs:List Value}{rows:List (List Int)}{b:Bool}(r:sJ s.heap vs rows) {i j:Nat}(hi:i<vs.length) (hj:j<vs.length) {C:Bool->Shared->Prop}(h:C (oY rows i j) s):kas_ask prog w A (tuples' b) vs i j C s:=by
 obtain⟨_,b1,o1,its1,n1,e1,g1,_,d1,q1⟩:=Paired.at' r hi Value.none [];obtain⟨_,b2,o2,its2,n2,e2,g2,_,d2,q2⟩:=Paired.at' r hj Value.none [];unfold kas_ask;rw[e1,e2];refine kat_lt g1 d1 g2 d2 ?_;have l1:=q1.length;have l2:=q2.length;rw[Bm] at l1 l2;rw[l1,l2];exact aQ _ _ _ _ 0 q1 q2 h
theorem dX {α:Type}{n:Nat}{lt:Nat->Nat->Bool}{cmp:Nat->Nat->(Bool->Shared->Prop)->Shared->Prop}{Q:α->Shared->Prop}(hc:∀ i j C,i<n->j<n->C (lt i j) s->cmp i j C s):∀ {t:KasT α},y7 n lt t (λ a=>Q a s)->t.kasWp cmp Q s
 | .ret _,h=>h
 | .ask i j _,h=>hc i j _ h.1 h.2.1 (dX hc h.2.2)
def m_ (vs:List Value) (rows:List (List Int)) (out:Array Value):Prop:=
 ∃ idx:List Nat,idx.Perm (List.range vs.length)/\out.toList=idx.map (λ i=>vs.getD i Value.none)/\(idx.map λ i=>rows.getD i []).Pairwise λ a b=>HT.lexLt b a=false
def Wj {rows:List (List Int)}{p:Array Nat}{n:Nat}(hn:p.size=n) (h:v9 (oY rows) p n):(p.toList.map λ i=>rows.getD i []).Pairwise λ a b=>HT.lexLt b a=false:=by
 rw[B9,Cs];intro i j hi hj A3;have:=h i j (BC A3) (by rw[<- hn];simpa using hj);simp only[Bm] at hi hj;unfold Le oY at this;simpa [Du,hi,hj] using this
def fJ {vs:List Value}{rows:List (List Int)}(r:sJ s.heap vs rows) (h2:2<=vs.length) (h64:vs.length<64):Core prog w A E vs (m_ vs rows) s:=by
 obtain⟨fs,t,hl,hf⟩:=r.Z2;unfold Core;refine kat_kind (T:=.type "int") t (by lia) (λ v hv=>?_) rfl ⟨rfl,?_⟩
 .obtain⟨n,t,rfl⟩:=hf v hv;exact Looks.of_pure rfl
 .refine kat_run (ks:=vs) (Q:=λ st s''=>s''=s/\failedOf st=none/\m_ vs rows ((arrOf st).map (·.2))/\(arrOf st).size=vs.length) (G:=λ p s''=>s''=s/\xw vs.length p/\v9 (oY rows) p vs.length) rfl h2 h64 (λ p st s' hs ha Cj hg=>?_) ?_
  .obtain⟨h1,h3,h4⟩:=hg;refine⟨h1,Cj,⟨p.toList,?_,?_,Wj hs h4⟩,by rw[ha,CY];exact hs⟩
   .have:=Array.Perm.toList h3;simpa using this
   .rw[kat_snds rfl ha]
  .exact dX (λ i j C hi hj hC=>r.ask hi hj hC) (y7.mono (λ p hp=>⟨rfl,hp⟩) (Wo (WM rows) (by lia)))
end
section
variable {X:Cx}
def PK:yK X (.builtin "sorted") (λ xs H Q=>∃ p ys,∃ rows:List (List Int),xs=[.ref p]/\zO X.K H p ys/\Paired (λ v r=>r≠[]/\∃ b,v=V.ref b/\z_ X.K H b (r.map V.int)) ys rows/\rows.length<64/\
  ∀ (l:Addr) (idx:List Nat),H l=none->idx.Perm (List.range ys.length)->(idx.map λ i=>rows.getD i []).Pairwise (λ a b=>HT.lexLt b a=false)->Q (.ref l) (upd H l (.lst (idx.map λ i=>ys.getD i .zi)))):=by
 intro pins s B H xs us Q I r h;obtain⟨p,ys,rows,rfl,hq,hr,h64,q⟩:=h;obtain⟨u,rfl,ru⟩:=vals1 r;cases ru;obtain⟨its,rv,pl,hz⟩:=I.list hq;have hl:=rv.length;have BQ:ys.length=rows.length:=Paired.length hr;have rows_at:∀ h6:Heap,(∀ b o,s.heap.get? b=some o->h6.get? b=some o)->sJ h6 its rows:=λ h6 k=>by
  clear q hz hl BQ h64 hq pl r
  induction hr generalizing its with
  | nil=>cases rv;exact .nil
  | cons g t ih=>
   cases rv with
   | cons r1 r2=>
    refine .cons ?_ (ih _ r2);obtain⟨Ai,b,rfl,hb⟩:=g;cases r1;obtain⟨its2,rv2,⟨o,e,hc,n,hd⟩,_⟩:=I.tuple hb;exact⟨Ai,b,o,_,n,rfl,k _ _ e,hc,hd,by simpa using intsAre_of rv2⟩
 refine Wn (Out:=m_ its rows) pl.isList (by rw[<- hl];exact hz) (λ h2 s6 k=>fJ (rows_at _ k) h2 (by lia)) (λ h1=>?_) λ out ho hs=>?_
 .refine⟨List.range its.length,.refl _,?_,?_⟩
  .refine Bs (by simp) λ i h1 h2=>?_;simp at h1;simp[h1]
  .rw[B9,Cs];intro i j hi hj A3;simp at hi hj;lia
 .obtain⟨idx,g1,g2,g3⟩:=ho;obtain⟨e,ho⟩:=sortedAll_at s.heap its out;have Bg:H (s.heap.objs.size+1)=none:=I.zx.fresh (CW _);have g1':idx.Perm (List.range ys.length):=by rw[hl];exact g1
  refine⟨.ref (s.heap.objs.size+1),_,I.laid (t':=s.toks) (o:=.lst (idx.map λ i=>ys.getD i .zi)) (λ b o q=>sortedAll_old q) (CW _) ?_,rfl,q _ idx Bg g1' g3⟩;refine⟨by rw[Ay,g1'.length_eq,BP];exact hz,out.toList,e,?_,by simpa using ho⟩;rw[g2];have An:∀ i∈idx,i<ys.length:=λ i hi=>by simpa using g1'.mem_iff.mp hi
  clear g1 g1' g2 g3 q
  induction idx with
  | nil=>exact .nil
  | cons i idx ih=>
   refine .cons ?_ (ih λ j hj=>An j (Ar _ hj));have hi:=An i Am;obtain⟨u,e1,e2⟩:=rv.get (i:=i) (x:=ys[i]) (by simp[hi]);have e3:its.getD i Value.none=u:=by simp[e1]
   have e4:ys.getD i .zi=ys[i]:=by simp[hi]
   show RelV (ys.getD i .zi) (its.getD i Value.none);rw[e3,e4];exact e2
end
end L4
namespace L2
open PySem PySem.Spec PyProof.Rows
noncomputable def ui (ty T:String):Bool:=ty == T||(ty == "bool"&&T == "int")
noncomputable def lJ (ty T:String):Bool:=PySem.W.kitMeta T&&decide ((fastBuiltinMro ty).map (λ l=>l.contains (Value.type T))=some (ui ty T))
def X5:(["NoneType","bool","int","str","tuple","list","dict"].all λ ty=>["int","bool","tuple","list","str"].all λ T=>lJ ty T)=true:=by decide +kernel
def RC {K:Ac}{ty T:String}(h:lJ ty T=true):PySem.W.kitOne K (.type ty) (.type T)=some (ui ty T):=by
 unfold lJ at h;rw[BN] at h;unfold PySem.W.kitOne;split
 .rename_i e;have e':ty=T:=by have:=eq_of_beq e;injection this
  subst e';simp[ui]
 .show (if PySem.W.kitMeta T=true then PySem.W.subIn K (.type ty) (.type T) else none)=_;rw[if_pos h.1];exact of_decide_eq_true h.2
noncomputable def Y2 (K:Ac) (H:Hp):V->String->Prop
 | .zi,t=>t="NoneType"
 | .bl _,t=>t="bool"
 | .int _,t=>t="int"
 | .str _,t=>t="str"
 | .ref a,t=>(t="tuple"/\∃ xs,z_ K H a xs)\/(t="list"/\∃ xs,zO K H a xs)\/(t="dict"/\∃ Aa,H a=some (.dK Aa))
 | _,_=>False
def Ob {X:Cx}:yK X (.builtin "isinstance") (λ xs H Q=>∃ x T ty,xs=[x,.ty T]/\Y2 X.K H x ty/\lJ ty T=true/\Q (.bl (ui ty T)) H):=by
 intro pins s B H xs us Q I r h;obtain⟨x,T,ty,rfl,hx,hT,q⟩:=h;obtain⟨u,c,rfl,ru,rc⟩:=vals2 r;cases (show c=Value.type T from rc);have e:PySem.W.kitOne X.K (.type ty) (.type T)=some (ui ty T):=RC hT;have fin:∀ tk,EP X pins B Q (.bool (ui ty T)) { s with toks:=tk }:=λ tk=>⟨.bl _,H,I.tok tk,rfl,q⟩;cases x with
 | zi=>cases (show u=Value.none from ru);cases (show ty=_ from hx);exact PySem.W.kia_one PySem.W.kitx_none I.vQ True.intro e (λ z=>nomatch z) fin
 | bl y=>cases (show u=Value.bool y from ru);cases (show ty=_ from hx);exact PySem.W.kia_one PySem.W.kitx_bool I.vQ True.intro e (λ z=>nomatch z) fin
 | int i=>obtain⟨t,rfl⟩:=(show ∃ t,u=Value.int i t from ru);cases (show ty=_ from hx);exact PySem.W.kia_one PySem.W.kitx_int I.vQ True.intro e (λ z=>nomatch z) fin
 | str y=>obtain⟨t,rfl⟩:=(show ∃ t,u=Value.str y t from ru);cases (show ty=_ from hx);exact PySem.W.kia_one PySem.W.kitx_str I.vQ True.intro e (λ z=>nomatch z) fin
 | ref a=>
  cases (show u=Value.ref a from ru);rcases hx with ⟨rfl,ys,hq⟩ | ⟨rfl,ys,hq⟩ | ⟨rfl,Aa,hq⟩
  .obtain⟨its,_,⟨o,h1,h2,_⟩,_⟩:=I.tuple hq;exact PySem.W.kia_one PySem.W.kitx_tuple I.vQ ⟨o,h1,h2⟩ e (λ z=>nomatch z) fin
  .obtain⟨its,_,⟨o,n,h1,h2,_⟩,_⟩:=I.list hq;exact PySem.W.kia_one PySem.W.kitx_list I.vQ ⟨o,h1,h2⟩ e (λ z=>nomatch z) fin
  .obtain⟨_,_,vs,_,p⟩:=(show xg X.prog X.w H s.heap a (.dK Aa) from I.zx a _ hq)
   obtain⟨o,es,ep,h1,h2,_⟩:=p;exact PySem.W.kia_one PySem.W.kitx_dict I.vQ ⟨o,h1,h2.1⟩ e (λ z=>nomatch z) fin
 | oh _=>exact hx.elim
 | kQ _=>exact hx.elim
 | ty _=>exact hx.elim
end L2
namespace L3
open PySem PySem.Spec L2
open PyProof.Rows hiding St
section
variable {X:Cx}{K:Ac}{a b c e:Expr}{es:List Expr}{ta tb tc te:zq}{tA:yp}{pos p q:Pos}
def t7 (hm:X.mg "len"=none) (ha:xA X (e::es) tA) (hg:Gl X "len":=by rfl) (he:starEach (e::es) X.env=(false,eval e X.env)::starEach es X.env:=by rfl) (Aq:(backTo pos (starEach es X.env)).any (·.1)=false:=by rfl):PD X (.Call (.Name "len" p) (e::es) [] pos) (xK uq tA):=
 tw (se (P_.or PZ) hg hm PySem.boot_len ha.pa (by decide) (by decide) he Aq) uq.mo uq.fits ha.mo
def iW (hm:X.mg "list"=none) (ha:xA X (e::es) tA) (hg:Gl X "list":=by rfl) (he:starEach (e::es) X.env=(false,eval e X.env)::starEach es X.env:=by rfl) (Aq:(backTo pos (starEach es X.env)).any (·.1)=false:=by rfl):PD X (.Call (.Name "list" p) (e::es) [] pos) (xK uo tA):=
 tw (nk PX hg hm PyProof.Rows.boot_list ha.pa (by decide) (by decide) he Aq) uo.mo uo.fits ha.mo
def rf (hm:X.mg "tuple"=none) (ha:xA X (e::es) tA) (hg:Gl X "tuple":=by rfl) (he:starEach (e::es) X.env=(false,eval e X.env)::starEach es X.env:=by rfl) (Aq:(backTo pos (starEach es X.env)).any (·.1)=false:=by rfl):PD X (.Call (.Name "tuple" p) (e::es) [] pos) (xK um tA):=
 tw (nk P0 hg hm PyProof.Rows.boot_tuple ha.pa (by decide) (by decide) he Aq) um.mo um.fits ha.mo
abbrev Z6:x9:=vT λ i j=>.int (if j>i then j else i)
abbrev Z5:x9:=vT λ i j=>.int (if j<i then j else i)
def pB (hm:X.mg "max"=none) (ha:xA X (e::es) tA) (hc:X.calm=true:=by rfl) (hg:Gl X "max":=by rfl) (he:starEach (e::es) X.env=(false,eval e X.env)::starEach es X.env:=by rfl) (Aq:(backTo pos (starEach es X.env)).any (·.1)=false:=by rfl):PD X (.Call (.Name "max" p) (e::es) [] pos) (xK Z6 tA):=
 tw (se (PV hc) hg hm boot_max ha.pa (by decide) (by decide) he Aq) vT.mo (vT.fits λ _ _ _=>by simp only[zg]) ha.mo
def km (hm:X.mg "min"=none) (ha:xA X (e::es) tA) (hc:X.calm=true:=by rfl) (hg:Gl X "min":=by rfl) (he:starEach (e::es) X.env=(false,eval e X.env)::starEach es X.env:=by rfl) (Aq:(backTo pos (starEach es X.env)).any (·.1)=false:=by rfl):PD X (.Call (.Name "min" p) (e::es) [] pos) (xK Z5 tA):=
 tw (se (PR hc) hg hm boot_min ha.pa (by decide) (by decide) he Aq) vT.mo (vT.fits λ _ _ _=>by simp only[zg]) ha.mo
noncomputable def wj (r:List Int):D:=.tup (r.map D.int)
theorem oX {H:Hp}:∀ {rows:List (List Int)}{ys:List V},zm K H (rows.map wj) ys->(∀ r∈rows,r≠[])->Paired (λ v r=>r≠[]/\∃ b,v=V.ref b/\z_ K H b (r.map V.int)) ys rows
 | [],ys,h,_=>by simp only[Bj,zm] at h;subst h;exact .nil
 | r::rows,ys,h,hn=>by
  rw[Au] at h;simp only[zm,wj,zg] at h;obtain⟨x,ys',rfl,⟨a,xs,rfl,g1,g2⟩,h3⟩:=h;rw[g2.ints] at g1;exact .cons ⟨hn r Am,a,rfl,g1⟩ (oX h3 λ r' hr=>hn r' (Ar _ hr))
def ax {α:Type}{rows:List α}{d:α}{idx:List Nat}(h:idx.Perm (List.range rows.length)):(idx.map λ i=>rows.getD i d).Perm rows:=by
 refine (h.map _).trans ?_;have:(List.range rows.length).map (λ i=>rows.getD i d)=rows:=by
  refine Bs (by simp) λ i h1 h2=>?_;simp[h2]
 rw[this]
theorem zm.perm {H:Hp}{rows:List (List Int)}{ys:List V}(h:zm K H (rows.map wj) ys):∀ {idx:List Nat},(∀ i∈idx,i<rows.length)->zm K H ((idx.map λ i=>rows.getD i []).map wj) (idx.map λ i=>ys.getD i .zi)
 | [],_=>.nil
 | i::idx,hi=>by
  have h1:=hi i Am;obtain⟨x,e1,e2⟩:=h.get (i:=i) (d:=wj rows[i]) (by simp[h1]);refine .cons ?_ (zm.perm h λ j hj=>hi j (Ar _ hj));have e3:ys.getD i .zi=x:=by simp[e1]
  have e4:rows.getD i []=rows[i]:=by simp[h1]
  show zg K H (wj (rows.getD i [])) (ys.getD i .zi);rw[e3,e4];exact e2
def rb {tg:Expr}(hm:X.mg "range"=none) (ha:xA X [a] tA) (hg:Gl X "range":=by rfl) (hs:starEach [a] X.env=[(false,eval a X.env)]:=by rfl):sL X tg (.Call (.Name "range" p) [a] [] pos) (gJ tA):=Uq (V8 hg hm ha.pa hs) ha.mo
noncomputable def sW (d:D) (S:SS):Option String:=match d with
 | .zi=>some "NoneType"
 | .bl _=>some "bool"
 | .int _=>some "int"
 | .str _=>some "str"
 | .tup _=>some "tuple"
 | .yH _=>some "list"
 | .ref p=>match S p with
  | some (.lst _)=>some "list"
  | some (.yg _)=>some "dict"
  | none=>none
def mB (T:String) (te:zq):zq:=fun Y S Q=>te Y S λ x S1=>match sW x S1 with
 | some ty=>Q (.bl (ui ty T)) S1
 | none=>False
def sW.ok {H:Hp}{d:D}{v:V}{S:SS}{ty:String}(r:zg K H d v) (p:zJ K H S) (h:sW d S=some ty):Y2 K H v ty/\ty∈["NoneType","bool","int","str","tuple","list","dict"]:=by
 cases d with
 | zi=>simp only[zg] at r;subst r;cases h;exact⟨rfl,by simp⟩
 | bl _=>simp only[zg] at r;subst r;cases h;exact⟨rfl,by simp⟩
 | int _=>simp only[zg] at r;subst r;cases h;exact⟨rfl,by simp⟩
 | str _=>simp only[zg] at r;subst r;cases h;exact⟨rfl,by simp⟩
 | tup ds=>
  simp only[zg] at r;obtain⟨a,xs,rfl,g1,_⟩:=r;cases h;exact⟨.inl ⟨rfl,xs,g1⟩,by simp⟩
 | yH ds=>
  simp only[zg] at r;obtain⟨a,xs,rfl,g1,_⟩:=r;cases h;exact⟨.inr (.inl ⟨rfl,xs,g1.sq⟩),by simp⟩
 | ref a=>
  simp only[zg] at r;subst r;unfold sW at h;dsimp only at h;split at h
  .rename_i e;cases h;obtain⟨xs,g1,_⟩:=p _ _ e;exact⟨.inr (.inl ⟨rfl,xs,zO.of g1⟩),by simp⟩
  .rename_i e;cases h;obtain⟨xs,g1,_⟩:=p _ _ e;exact⟨.inr (.inr ⟨rfl,xs,g1⟩),by simp⟩
  .cases h
def iX {T:String}{x:Str}(hT:T∈["int","bool","tuple","list","str"]) (hm:X.mg "isinstance"=none) (hm2:X.mg x=none) (hv:bootBuiltins x=some (.type T)) (hg2:Gl X x) (hn:x≠"__name__") (hd:(x == ("__debug__":Str))=false) (he:PD X e te) (hg:Gl X "isinstance":=by rfl)
  (h1:starEach (e::[.Name x q]) X.env=(false,eval e X.env)::starEach [.Name x q] X.env:=by rfl) (h2:(backTo pos (starEach [.Name x q] X.env)).any (·.1)=false:=by rfl) (h3:starEach [.Name x q] X.env=(false,eval (.Name x q) X.env)::starEach [] X.env:=by rfl):
  PD X (.Call (.Name "isinstance" p) [e,.Name x q] [] pos) (mB T te):=by
 refine⟨fun Y S Q Q' hq z=>he.mo Y S _ _ (λ y S1 z=>?_) z,PE.imp (se Ob hg hm boot_isinstance (qp he.pe (qp (Ud (v:=.ty T) hg2 hm2 hv rfl hn hd) pC h3) h1) (by decide) (by decide) h1 h2) fun B H Q hu=>?_⟩
 .split at z
  .exact hq _ _ z
  .exact z
 .obtain⟨Y,S,r1,r2,z⟩:=hu;refine zP.go he.mo r1 r2 z λ y S1 v H1 z1 q1 e1 p1=>?_;split at z1
  .rename_i ty ht;obtain⟨g1,g2⟩:=sW.ok q1 p1 ht;refine⟨v,T,ty,rfl,g1,?_,z1 _ H1 (by simp only[zg]) e1 p1⟩;exact Cv.mp (Cv.mp X5 ty g2) T hT
  .exact z1.elim
def bE (T:Bt X.mg) (he:PD X e te) (hg:Gl X "isinstance":=by rfl) (hg2:Gl X "bool":=by rfl) (h1:starEach (e::[.Name "bool" q]) X.env=(false,eval e X.env)::starEach [.Name "bool" q] X.env:=by rfl) (h2:(backTo pos (starEach [.Name "bool" q] X.env)).any (·.1)=false:=by rfl) (h3:starEach [.Name "bool" q] X.env=(false,eval (.Name "bool" q) X.env)::starEach [] X.env:=by rfl):
  PD X (.Call (.Name "isinstance" p) [e,.Name "bool" q] [] pos) (mB "bool" te):=iX (by simp) T.isinstance T.bool PyProof.Rows.boot_bool hg2 (by decide) (by decide) he hg h1 h2 h3
def bD (T:Bt X.mg) (he:PD X e te) (hg:Gl X "isinstance":=by rfl) (hg2:Gl X "int":=by rfl) (h1:starEach (e::[.Name "int" q]) X.env=(false,eval e X.env)::starEach [.Name "int" q] X.env:=by rfl) (h2:(backTo pos (starEach [.Name "int" q] X.env)).any (·.1)=false:=by rfl) (h3:starEach [.Name "int" q] X.env=(false,eval (.Name "int" q) X.env)::starEach [] X.env:=by rfl):
  PD X (.Call (.Name "isinstance" p) [e,.Name "int" q] [] pos) (mB "int" te):=iX (by simp) T.isinstance T.int PyProof.Rows.boot_int hg2 (by decide) (by decide) he hg h1 h2 h3
def Uy (T:Bt X.mg) (he:PD X e te) (hg:Gl X "isinstance":=by rfl) (hg2:Gl X "tuple":=by rfl) (h1:starEach (e::[.Name "tuple" q]) X.env=(false,eval e X.env)::starEach [.Name "tuple" q] X.env:=by rfl) (h2:(backTo pos (starEach [.Name "tuple" q] X.env)).any (·.1)=false:=by rfl) (h3:starEach [.Name "tuple" q] X.env=(false,eval (.Name "tuple" q) X.env)::starEach [] X.env:=by rfl):
  PD X (.Call (.Name "isinstance" p) [e,.Name "tuple" q] [] pos) (mB "tuple" te):=iX (by simp) T.isinstance T.tuple PyProof.Rows.boot_tuple hg2 (by decide) (by decide) he hg h1 h2 h3
def uH {o:Expr}{to:zq}{apos Aj:Pos}(ho:PD X o to) (he:PD X e te)
  (hbase:attributeBase o "append" X.env (eval o X.env)=eval o X.env:=by rfl)
  (AI:((backTo Aj (starEach [e] X.env)).all (λ x=>!x.1)&&(backToKw Aj (keywordEach [] X.env)).all (λ x=>x.1.isSome)
   && decide ([e].length+([]:List Keyword).length+(if ([]:List Keyword).isEmpty then 0 else 1)<30))=true:=by rfl)
  (hline:(apos.endLine == Aj.line)=true:=by rfl) (hs:starEach [e] X.env=(false,eval e X.env)::starEach [] X.env:=by rfl) (hplain:(backTo Aj (starEach [] X.env)).any (·.1)=false:=by rfl):
  PD X (.Call (.Attribute o "append" apos) [e] [] Aj) (rR to te):=
 U8 (o:=o) (e:=e) (b6 PySem.F.plainAttrs_list PySem.F.slot_list_append PySem.F.type_list_append av ho.pe (qp he.pe pC hs) hbase AI hline hs hplain) ho.mo he.mo
structure FD (P:Program) (w:World) (K:Ac) (mg:Str->Option Value) (base:Heap) (x:Str) (k:Nat) (ps:List Str) (sp:rW):Prop where
 ex:∃ (f:Addr) (fd:FuncData),uB P w K mg base vG k f fd ps (tX K sp)/\mg x=some (.ref f)/\PySem.W.keepIn K (.ref f)=true/\Binds K fd ps []
 mo:e9 sp
def yc {x:Str}{k:Nat}{ps:List Str}{sp:rW}(F:FD X.prog X.w X.K X.mg X.base x k ps sp) (hr:yF k X.A) (ha:xA X (e::es) tA) (hg:Gl X x:=by rfl) (CG:(x == ("__debug__":Str))=false:=by decide)
  (he:starEach (e::es) X.env=(false,eval e X.env)::starEach es X.env:=by rfl) (Aq:(backTo pos (starEach es X.env)).any (·.1)=false:=by rfl):PD X (.Call (.Name x p) (e::es) [] pos) (fH sp tA):=by
 obtain⟨⟨f,fd,h1,h2,h3,h4⟩,hm⟩:=F;exact U7 (E:=E0) (Uc h1 hr hg h2 h3 h4 .nil UA ha.pa CG he Aq) hm ha.mo
end
section
variable {P:Program}{w:World}{K:Ac}{mg:Str->Option Value}{base:Heap}{f:Addr}{fd:FuncData}
end
def QF {S:SS}{p:Addr}{ds:List D}{Q:DK}(e:S p=some (.lst ds)) (h:Q (.tup ds) S):um [.ref p] S Q:=by
 unfold um;dsimp only;rw[e];exact h
def QG {S:SS}{d:D}{ds:List D}{Q:DK}(e:zL d S=some ds) (h:∀ p,S p=none->Q (.ref p) (ups S p (.lst ds))):uo [d] S Q:=by
 unfold uo;dsimp only;rw[e];exact h
def QH {S:SS}{d:D}{ds:List D}{Q:DK}(e:zL d S=some ds) (h:Q (.int ds.length) S):uq [d] S Q:=by
 unfold uq;dsimp only;rw[e];exact h
def XD {S:SS}{p:Addr}{ds:List D}{Q:Bool->SS->Prop}(e:S p=some (.lst ds)) (h:Q (!ds.isEmpty) S):vJ (.ref p) S Q:=by
 unfold vJ;dsimp only;rw[e];exact h
def QK {S:SS}{p:Addr}{ds:List D}{i:Int}{d:D}{Q:DK}(e:S p=some (.lst ds)) (e2:L2.zN ds i=some d) (h:Q d S):wF (.ref p) (.int i) S Q:=by
 unfold wF;dsimp only;rw[e];dsimp only;rw[e2];exact h
def QI {S:SS}{ds:List D}{i:Int}{d:D}{Q:DK}(e2:L2.zN ds i=some d) (h:Q d S):wF (.tup ds) (.int i) S Q:=by
 unfold wF;dsimp only;rw[e2];exact h
def QJ {S:SS}{ds:List D}{i:Int}{d:D}{Q:DK}(e2:L2.zN ds i=some d) (h:Q d S):wF (.yH ds) (.int i) S Q:=by
 unfold wF;dsimp only;rw[e2];exact h
inductive T where
 | zi | bl (b:Bool) | int (i:Int) | str (x:Str) | tup (ts:List T) | lst (ts:List T) | zT
mutual
noncomputable def eqT:T->T->Bool
 | .zi,.zi=>true
 | .bl a,.bl b=>a == b
 | .bl a,.int b=>(if a then 1 else 0) == b
 | .int a,.bl b=>a == (if b then 1 else 0)
 | .int a,.int b=>a == b
 | .str a,.str b=>a == b
 | .tup a,.tup b=>xv a b
 | .lst a,.lst b=>xv a b
 | .zT,.zT=>true
 | _,_=>false
noncomputable def xv:List T->List T->Bool
 | [],[]=>true
 | a::as,b::bs=>eqT a b&&xv as bs
 | _,_=>false
end
mutual
noncomputable def dep:T->Nat
 | .tup ts=>1+yC ts
 | .lst ts=>1+yC ts
 | .zT=>cLine
 | _=>0
noncomputable def yC:List T->Nat
 | []=>0
 | t::ts=>max (dep t) (yC ts)
end
noncomputable def hV:List T->Bool
 | []=>true
 | .int _::ts=>hV ts
 | _=>false
def Tf (ns:List Int):hV (ns.map T.int)=true:=by
 induction ns with
 | nil=>rfl
 | cons n ns ih=>exact ih
mutual
noncomputable def Sn (S:SS):T->D->Prop
 | .zi,d=>d=.zi
 | .bl b,d=>d=.bl b
 | .int i,d=>d=.int i
 | .str x,d=>d=.str x
 | .tup ts,d=>∃ ds,d=.tup ds/\zl S ts ds
 | .lst ts,d=>∃ ds,((d=.yH ds/\hV ts=true)\/∃ a,d=.ref a/\S a=some (.lst ds))/\zl S ts ds
 | .zT,d=>∃ a Aa,d=.ref a/\S a=some (.yg Aa)
noncomputable def zl (S:SS):List T->List D->Prop
 | [],ds=>ds=[]
 | t::ts,ds=>∃ c cs,ds=c::cs/\Sn S t c/\zl S ts cs
end
mutual
theorem fA:∀ t:T,eqT t t=true
 | .zi=>by simp[eqT]
 | .bl b=>by simp[eqT]
 | .int i=>by simp[eqT]
 | .str x=>by simp[eqT]
 | .tup ts=>by simp only[eqT];exact f9 ts
 | .lst ts=>by simp only[eqT];exact f9 ts
 | .zT=>by simp[eqT]
theorem f9:∀ ts:List T,xv ts ts=true
 | []=>by simp[xv]
 | t::ts=>by simp only[xv,fA t,f9 ts,Dt]
end
theorem tL:∀ ts us:List T,xv ts us=((List.range (min ts.length us.length)).all (λ j=>eqT (ts.getD j .zi) (us.getD j .zi))&&ts.length == us.length)
 | [],[]=>by simp[xv]
 | [],_::_=>by simp[xv]
 | _::_,[]=>by simp[xv]
 | t::ts,u::us=>by
  simp only[xv,tL ts us,AR];rw[show min (ts.length+1) (us.length+1)=min ts.length us.length+1 by lia,CV,List.all_cons,List.all_map];have:(ts.length+1 == us.length+1)=(ts.length == us.length):=by rw[BD];simp
  rw[this,Bool.and_assoc];rfl
theorem zl.length {S:SS}:∀ {ts:List T}{ds:List D},zl S ts ds->ts.length=ds.length
 | [],ds,h=>by simp only[zl] at h;subst h;rfl
 | t::ts,ds,h=>by
  simp only[zl] at h;obtain⟨c,cs,rfl,_,h2⟩:=h;simp[zl.length h2]
section
variable {X:Cx}{pins:List (Addr×Obj)}{B:St}{H:Hp}{s:Shared}{S:SS}
def Zf (I:Inv X pins B H s) {a:Addr}{xs ys:List V}(h1:z_ X.K H a xs) (h2:zO X.K H a ys):False:=by
 obtain⟨_,_,⟨o,e,c,_⟩,_⟩:=I.tuple h1;obtain⟨_,_,⟨o',n,e',c',_⟩,_⟩:=I.list h2;rw[e] at e';cases e';rw[c] at c'
 injection c' with q
 exact absurd q (by decide)
def Sn.yT (p:zJ X.K H S) {ts:List T}{d:D}{x:V}(h:Sn S (.lst ts) d) (r:zg X.K H d x):∃ a xs ds,x=.ref a/\zO X.K H a xs/\zm X.K H ds xs/\zl S ts ds:=by
 simp only[Sn] at h;obtain⟨ds,⟨h,_⟩ | ⟨a,h,e⟩,h2⟩:=h
 .subst h;simp only[zg] at r;obtain⟨a,xs,rfl,g1,g2⟩:=r;exact⟨a,xs,ds,rfl,g1.sq,g2,h2⟩
 .subst h;simp only[zg] at r;obtain⟨xs,g1,g2⟩:=p _ _ e;exact⟨a,xs,ds,r,zO.of g1,g2,h2⟩
def Sn.yQ {ts:List T}{d:D}{x:V}(h:Sn S (.tup ts) d) (r:zg X.K H d x):∃ a xs ds,x=.ref a/\z_ X.K H a xs/\zm X.K H ds xs/\zl S ts ds:=by
 simp only[Sn] at h;obtain⟨ds,rfl,h2⟩:=h;simp only[zg] at r;obtain⟨a,xs,rfl,g1,g2⟩:=r;exact⟨a,xs,ds,rfl,g1,g2,h2⟩
def Sn.qB (p:zJ X.K H S) {d:D}{x:V}(h:Sn S .zT d) (r:zg X.K H d x):∃ a vs,x=.ref a/\H a=some (.dK vs):=by
 simp only[Sn] at h;obtain⟨a,Aa,rfl,e⟩:=h;simp only[zg] at r;obtain⟨xs,g1,g2⟩:=p _ _ e;exact⟨a,xs,r,g1⟩
def Zj (I:Inv X pins B H s) {a:Addr}{vs:List (Key×V)}(h:H a=some (.dK vs)):∃ o,s.heap.get? a=some o/\o.cls=.type "dict":=by
 obtain⟨_,_,_,_,o,_,_,e,c⟩:=(show xg X.prog X.w H s.heap a (.dK vs) from I.zx a _ h)
 exact⟨o,e,c.1.1⟩
def Zg (I:Inv X pins B H s) {a:Addr}{xs:List V}{vs:List (Key×V)}(h1:z_ X.K H a xs) (h2:H a=some (.dK vs)):False:=by
 obtain⟨_,_,⟨o,e,c,_⟩,_⟩:=I.tuple h1;obtain⟨o',e',c'⟩:=Zj I h2;rw[e] at e';cases e';rw[c] at c'
 injection c' with q
 exact absurd q (by decide)
def Zi (I:Inv X pins B H s) {a:Addr}{xs:List V}{vs:List (Key×V)}(h1:zO X.K H a xs) (h2:H a=some (.dK vs)):False:=by
 obtain⟨_,_,⟨o,n,e,c,_⟩,_⟩:=I.list h1;obtain⟨o',e',c'⟩:=Zj I h2;rw[e] at e';cases e';rw[c] at c'
 injection c' with q
 exact absurd q (by decide)
theorem Sn.flat {t:T}{d:D}{x:V}(h:Sn S t d) (r:zg X.K H d x):match t with
  | .zi=>x=.zi
  | .bl b=>x=.bl b
  | .int i=>x=.int i
  | .str y=>x=.str y
  | _=>True:=by
 cases t <;> first
  | trivial
  | (simp only[Sn] at h;subst h;simpa only [zg] using r)
mutual
theorem lI (I:Inv X pins B H s) (p:zJ X.K H S):∀ (t u:T) {d e:D}{x:V},Sn S t d->Sn S u e->zg X.K H d x->zg X.K H e x->t=u
 | .tup ts,u,d,e,x,h1,h2,r1,r2=>by
  obtain⟨a,xs,ds,rfl,g1,g2,g3⟩:=h1.yQ r1;cases u with
  | zT=>obtain⟨_,_,q,g⟩:=h2.qB p r2;cases q;exact (Zg I g1 g).elim
  | tup us=>
   obtain⟨a',xs',ds',q,k1,k2,k3⟩:=h2.yQ r2;cases q;have:=I.jF g1 k1;subst this;rw[jD I p ts us g3 k3 g2 k2]
  | lst us=>
   obtain⟨a',xs',ds',q,k1,k2,k3⟩:=h2.yT p r2;cases q;exact (Zf I g1 k1).elim
  | zi=>exact nomatch h2.flat r2
  | bl _=>exact nomatch h2.flat r2
  | int _=>exact nomatch h2.flat r2
  | str _=>exact nomatch h2.flat r2
 | .lst ts,u,d,e,x,h1,h2,r1,r2=>by
  obtain⟨a,xs,ds,rfl,g1,g2,g3⟩:=h1.yT p r1;cases u with
  | zT=>obtain⟨_,_,q,g⟩:=h2.qB p r2;cases q;exact (Zi I g1 g).elim
  | lst us=>
   obtain⟨a',xs',ds',q,k1,k2,k3⟩:=h2.yT p r2;cases q;have:=I.gE g1 k1;subst this;rw[jD I p ts us g3 k3 g2 k2]
  | tup us=>
   obtain⟨a',xs',ds',q,k1,k2,k3⟩:=h2.yQ r2;cases q;exact (Zf I k1 g1).elim
  | zi=>exact nomatch h2.flat r2
  | bl _=>exact nomatch h2.flat r2
  | int _=>exact nomatch h2.flat r2
  | str _=>exact nomatch h2.flat r2
 | .zi,u,d,e,x,h1,h2,r1,r2=>by
  have q:=h1.flat r1;subst q;cases u with
  | zT=>obtain⟨_,_,q,g⟩:=h2.qB p r2;cases q
  | zi=>rfl
  | tup us=>obtain⟨_,_,_,q,_⟩:=h2.yQ r2;cases q
  | lst us=>obtain⟨_,_,_,q,_⟩:=h2.yT p r2;cases q
  | bl _=>exact nomatch h2.flat r2
  | int _=>exact nomatch h2.flat r2
  | str _=>exact nomatch h2.flat r2
 | .bl b,u,d,e,x,h1,h2,r1,r2=>by
  have q:=h1.flat r1;subst q;cases u with
  | zT=>obtain⟨_,_,q,g⟩:=h2.qB p r2;cases q
  | bl _=>have q:=h2.flat r2;cases q;rfl
  | tup us=>obtain⟨_,_,_,q,_⟩:=h2.yQ r2;cases q
  | lst us=>obtain⟨_,_,_,q,_⟩:=h2.yT p r2;cases q
  | zi=>exact nomatch h2.flat r2
  | int _=>exact nomatch h2.flat r2
  | str _=>exact nomatch h2.flat r2
 | .int b,u,d,e,x,h1,h2,r1,r2=>by
  have q:=h1.flat r1;subst q;cases u with
  | zT=>obtain⟨_,_,q,g⟩:=h2.qB p r2;cases q
  | int _=>have q:=h2.flat r2;cases q;rfl
  | tup us=>obtain⟨_,_,_,q,_⟩:=h2.yQ r2;cases q
  | lst us=>obtain⟨_,_,_,q,_⟩:=h2.yT p r2;cases q
  | zi=>exact nomatch h2.flat r2
  | bl _=>exact nomatch h2.flat r2
  | str _=>exact nomatch h2.flat r2
 | .str b,u,d,e,x,h1,h2,r1,r2=>by
  have q:=h1.flat r1;subst q;cases u with
  | zT=>obtain⟨_,_,q,g⟩:=h2.qB p r2;cases q
  | str _=>have q:=h2.flat r2;cases q;rfl
  | tup us=>obtain⟨_,_,_,q,_⟩:=h2.yQ r2;cases q
  | lst us=>obtain⟨_,_,_,q,_⟩:=h2.yT p r2;cases q
  | zi=>exact nomatch h2.flat r2
  | bl _=>exact nomatch h2.flat r2
  | int _=>exact nomatch h2.flat r2
 | .zT,u,d,e,x,h1,h2,r1,r2=>by
  obtain⟨a,vs,rfl,g⟩:=h1.qB p r1;cases u with
  | zT=>rfl
  | tup us=>obtain⟨_,_,_,q,g1,_⟩:=h2.yQ r2;cases q;exact (Zg I g1 g).elim
  | lst us=>obtain⟨_,_,_,q,g1,_⟩:=h2.yT p r2;cases q;exact (Zi I g1 g).elim
  | zi=>exact nomatch h2.flat r2
  | bl _=>exact nomatch h2.flat r2
  | int _=>exact nomatch h2.flat r2
  | str _=>exact nomatch h2.flat r2
theorem jD (I:Inv X pins B H s) (p:zJ X.K H S):∀ (ts us:List T) {ds es:List D}{xs:List V},zl S ts ds->zl S us es->zm X.K H ds xs->zm X.K H es xs->ts=us
 | [],us,ds,es,xs,h1,h2,r1,r2=>by
  have e:=h1.length.trans (r1.length.trans (r2.length.symm.trans h2.length.symm));cases us with
  | nil=>rfl
  | cons _ _=>simp at e
 | t::ts,[],ds,es,xs,h1,h2,r1,r2=>by
  have e:=h1.length.trans (r1.length.trans (r2.length.symm.trans h2.length.symm));simp at e
 | t::ts,u::us,ds,es,xs,h1,h2,r1,r2=>by
  simp only[zl] at h1 h2;obtain⟨c,cs,rfl,a1,a2⟩:=h1;obtain⟨c',cs',rfl,b1,b2⟩:=h2;simp only[zm] at r1 r2;obtain⟨y,ys,rfl,g1,g2⟩:=r1;obtain⟨y',ys',q,k1,k2⟩:=r2;cases q;rw[lI I p t u a1 b1 g1 k1,jD I p ts us a2 b2 g2 k2]
end
def zl.get {ts:List T}{ds:List D}(h:zl S ts ds):∀ {j:Nat},j<ts.length->∃ c,ds[j]?=some c/\Sn S (ts.getD j .zi) c:=by
 induction ts generalizing ds with
 | nil=>intro j hj;simp at hj
 | cons t ts ih=>
  intro j hj;simp only[zl] at h;obtain⟨c,cs,rfl,h1,h2⟩:=h;cases j with
  | zero=>exact⟨c,rfl,h1⟩
  | succ j=>
   obtain⟨c',e,h3⟩:=ih h2 (j:=j) (by simpa using hj);exact⟨c',by simpa using e,by simpa using h3⟩
theorem ZQ:∀ {ts:List T}{j:Nat},j<ts.length->dep (ts.getD j .zi)<=yC ts
 | [],j,h=>by simp at h
 | t::ts,0,_=>by simp only[yC,List.getD_cons_zero];lia
 | t::ts,j+1,h=>by
  have:=ZQ (ts:=ts) (j:=j) (by simpa using h);simp only[yC,List.getD_cons_succ];lia
mutual
theorem ZC (I:Inv X pins B H s) (p:zJ X.K H S):∀ (t u:T) {A:Around}{d e:D}{x y:V}{a b:Value},A.units+dep t<cLine->A.units+dep u<cLine->Sn S t d->Sn S u e->zg X.K H d x->zg X.K H e y->RelV x a->RelV y b->SeqAt.EqAt A s a b (eqT t u)
 | .zi,u,A,d,e,x,y,a,b,hu,hu',h1,h2,r1,r2,v1,v2=>by
  have q:=h1.flat r1;subst q;cases v1;cases u with
  | zT=>simp only[dep] at hu';lia
  | zi=>have q:=h2.flat r2;subst q;cases v2;simp only[eqT];exact SeqAt.EqAt.same _
  | bl b=>have q:=h2.flat r2;subst q;cases v2;simp only[eqT];exact SeqAt.EqAt.none_bool _
  | int i=>have q:=h2.flat r2;subst q;obtain⟨t,rfl⟩:=v2;simp only[eqT];exact SeqAt.EqAt.none_int _ _
  | str i=>have q:=h2.flat r2;subst q;obtain⟨t,rfl⟩:=v2;simp only[eqT];exact SeqAt.EqAt.none_str _ _
  | tup us=>obtain⟨a',xs',ds',rfl,k1,k2,k3⟩:=h2.yQ r2;cases v2;obtain⟨_,_,pt,_⟩:=I.tuple k1;simp only[eqT];exact SeqAt.EqAt.none_tuple pt (by lia)
  | lst us=>obtain⟨a',xs',ds',rfl,k1,k2,k3⟩:=h2.yT p r2;cases v2;obtain⟨_,_,pl,_⟩:=I.list k1;simp only[eqT];exact SeqAt.EqAt.none_list pl.isList (by lia)
 | .bl c,u,A,d,e,x,y,a,b,hu,hu',h1,h2,r1,r2,v1,v2=>by
  have q:=h1.flat r1;subst q;cases v1;cases u with
  | zT=>simp only[dep] at hu';lia
  | zi=>have q:=h2.flat r2;subst q;cases v2;simp only[eqT];exact SeqAt.EqAt.bool_none _
  | bl b=>have q:=h2.flat r2;subst q;cases v2;simp only[eqT];exact SeqAt.EqAt.bool_bool _ _
  | int i=>have q:=h2.flat r2;subst q;obtain⟨t,rfl⟩:=v2;simp only[eqT];exact SeqAt.EqAt.bool_int _ _ _
  | str i=>have q:=h2.flat r2;subst q;obtain⟨t,rfl⟩:=v2;simp only[eqT];exact SeqAt.EqAt.bool_str _ _ _
  | tup us=>obtain⟨a',xs',ds',rfl,k1,k2,k3⟩:=h2.yQ r2;cases v2;obtain⟨_,_,pt,_⟩:=I.tuple k1;simp only[eqT];exact SeqAt.EqAt.bool_tuple _ pt (by lia)
  | lst us=>obtain⟨a',xs',ds',rfl,k1,k2,k3⟩:=h2.yT p r2;cases v2;obtain⟨_,_,pl,_⟩:=I.list k1;simp only[eqT];exact SeqAt.EqAt.bool_list _ pl.isList (by lia)
 | .int c,u,A,d,e,x,y,a,b,hu,hu',h1,h2,r1,r2,v1,v2=>by
  have q:=h1.flat r1;subst q;obtain⟨tk,rfl⟩:=v1;cases u with
  | zT=>simp only[dep] at hu';lia
  | zi=>have q:=h2.flat r2;subst q;cases v2;simp only[eqT];exact SeqAt.EqAt.int_none _ _
  | bl b=>have q:=h2.flat r2;subst q;cases v2;simp only[eqT];exact SeqAt.EqAt.int_bool _ _ _
  | int i=>have q:=h2.flat r2;subst q;obtain⟨t,rfl⟩:=v2;simp only[eqT];exact SeqAt.EqAt.int_int _ _ _ _
  | str i=>have q:=h2.flat r2;subst q;obtain⟨t,rfl⟩:=v2;simp only[eqT];exact SeqAt.EqAt.int_str _ _ _ _
  | tup us=>obtain⟨a',xs',ds',rfl,k1,k2,k3⟩:=h2.yQ r2;cases v2;obtain⟨_,_,pt,_⟩:=I.tuple k1;simp only[eqT];exact SeqAt.EqAt.int_tuple _ _ pt (by lia)
  | lst us=>obtain⟨a',xs',ds',rfl,k1,k2,k3⟩:=h2.yT p r2;cases v2;obtain⟨_,_,pl,_⟩:=I.list k1;simp only[eqT];exact SeqAt.EqAt.int_list _ _ pl.isList (by lia)
 | .str c,u,A,d,e,x,y,a,b,hu,hu',h1,h2,r1,r2,v1,v2=>by
  have q:=h1.flat r1;subst q;obtain⟨tk,rfl⟩:=v1;cases u with
  | zT=>simp only[dep] at hu';lia
  | zi=>have q:=h2.flat r2;subst q;cases v2;simp only[eqT];exact SeqAt.EqAt.str_none _ _
  | bl b=>have q:=h2.flat r2;subst q;cases v2;simp only[eqT];exact SeqAt.EqAt.str_bool _ _ _
  | int i=>have q:=h2.flat r2;subst q;obtain⟨t,rfl⟩:=v2;simp only[eqT];exact SeqAt.EqAt.str_int _ _ _ _
  | str i=>have q:=h2.flat r2;subst q;obtain⟨t,rfl⟩:=v2;simp only[eqT];exact SeqAt.EqAt.str_str _ _ _ _
  | tup us=>obtain⟨a',xs',ds',rfl,k1,k2,k3⟩:=h2.yQ r2;cases v2;obtain⟨_,_,pt,_⟩:=I.tuple k1;simp only[eqT];exact SeqAt.EqAt.str_tuple _ _ pt (by lia)
  | lst us=>obtain⟨a',xs',ds',rfl,k1,k2,k3⟩:=h2.yT p r2;cases v2;obtain⟨_,_,pl,_⟩:=I.list k1;simp only[eqT];exact SeqAt.EqAt.str_list _ _ pl.isList (by lia)
 | .tup ts,u,A,d,e,x,y,a,b,hu,hu',h1,h2,r1,r2,v1,v2=>by
  have hd1:=h1;have hr1:=r1;obtain⟨l,xs,ds,rfl,g1,g2,g3⟩:=h1.yQ r1;cases v1;obtain⟨its,w1,pt,_⟩:=I.tuple g1;simp only[dep] at hu;cases u with
  | zT=>simp only[dep] at hu';lia
  | zi=>have q:=h2.flat r2;subst q;cases v2;simp only[eqT];exact SeqAt.EqAt.tuple_none pt (by lia)
  | bl b=>have q:=h2.flat r2;subst q;cases v2;simp only[eqT];exact SeqAt.EqAt.tuple_bool _ pt (by lia)
  | int i=>have q:=h2.flat r2;subst q;obtain⟨t,rfl⟩:=v2;simp only[eqT];exact SeqAt.EqAt.tuple_int _ _ pt (by lia)
  | str i=>have q:=h2.flat r2;subst q;obtain⟨t,rfl⟩:=v2;simp only[eqT];exact SeqAt.EqAt.tuple_str _ _ pt (by lia)
  | tup us=>
   by_cases Ci:(Value.ref l)=b
   .subst Ci;have hy:y=.ref l:=RelV.inj v2 rfl;subst hy;have:=lI I p (.tup ts) (.tup us) hd1 h2 hr1 r2;rw[<- this,fA];exact SeqAt.EqAt.same _
   .obtain⟨l',xs',ds',rfl,k1,k2,k3⟩:=h2.yQ r2;cases v2;obtain⟨Ae,w2,pt',_⟩:=I.tuple k1;simp only[dep] at hu';have e1:its.toArray.size=ts.length:=by rw[Av,<- w1.length,<- g2.length,<- g3.length]
    have e2:Ae.toArray.size=us.length:=by rw[Av,<- w2.length,<- k2.length,<- k3.length]
    have q:=SeqAt.RcAt.tuples (A:=A) (e:=λ j=>eqT (ts.getD j .zi) (us.getD j .zi)) pt pt' (by lia) λ j h1 h2=>by
     have:=q8 I p ts us (A:=A.in1) (by show A.units+1+yC ts<cLine;lia) (by show A.units+1+yC us<cLine;lia) g3 k3 g2 k2 w1 w2 j (by simpa using h1) (by simpa using h2);simpa using this
    rw[e1,e2] at q;have q':=SeqAt.EqAt.of_refs (λ z=>Ci (by rw[z])) q;simp only[eqT,tL];exact q'
  | lst us=>obtain⟨l',xs',ds',rfl,k1,k2,k3⟩:=h2.yT p r2;cases v2;obtain⟨_,_,pl,_⟩:=I.list k1;simp only[eqT];exact SeqAt.EqAt.tuple_list pt pl.isList (by lia)
 | .lst ts,u,A,d,e,x,y,a,b,hu,hu',h1,h2,r1,r2,v1,v2=>by
  have hd1:=h1;have hr1:=r1;obtain⟨l,xs,ds,rfl,g1,g2,g3⟩:=h1.yT p r1;cases v1;obtain⟨its,w1,pl,_⟩:=I.list g1;simp only[dep] at hu;cases u with
  | zT=>simp only[dep] at hu';lia
  | zi=>have q:=h2.flat r2;subst q;cases v2;simp only[eqT];exact SeqAt.EqAt.list_none pl.isList (by lia)
  | bl b=>have q:=h2.flat r2;subst q;cases v2;simp only[eqT];exact SeqAt.EqAt.list_bool _ pl.isList (by lia)
  | int i=>have q:=h2.flat r2;subst q;obtain⟨t,rfl⟩:=v2;simp only[eqT];exact SeqAt.EqAt.list_int _ _ pl.isList (by lia)
  | str i=>have q:=h2.flat r2;subst q;obtain⟨t,rfl⟩:=v2;simp only[eqT];exact SeqAt.EqAt.list_str _ _ pl.isList (by lia)
  | tup us=>obtain⟨l',xs',ds',rfl,k1,k2,k3⟩:=h2.yQ r2;cases v2;obtain⟨_,_,pt,_⟩:=I.tuple k1;simp only[eqT];exact SeqAt.EqAt.list_tuple pl.isList pt (by lia)
  | lst us=>
   by_cases Ci:(Value.ref l)=b
   .subst Ci;have hy:y=.ref l:=RelV.inj v2 rfl;subst hy;have:=lI I p (.lst ts) (.lst us) hd1 h2 hr1 r2;rw[<- this,fA];exact SeqAt.EqAt.same _
   .obtain⟨l',xs',ds',rfl,k1,k2,k3⟩:=h2.yT p r2;cases v2;obtain⟨Ae,w2,pl',_⟩:=I.list k1;simp only[dep] at hu';have e1:its.toArray.size=ts.length:=by rw[Av,<- w1.length,<- g2.length,<- g3.length]
    have e2:Ae.toArray.size=us.length:=by rw[Av,<- w2.length,<- k2.length,<- k3.length]
    have Ai:l≠l':=λ z=>Ci (by rw[z]);by_cases hsz:ts.length=us.length
    .have q:=SeqAt.RcAt.lists (A:=A) (e:=λ j=>eqT (ts.getD j .zi) (us.getD j .zi)) pl.isList pl'.isList (by rw[e1,e2];exact hsz) (by lia) λ j h1 h2=>by
      have:=q8 I p ts us (A:=A.in1) (by show A.units+1+yC ts<cLine;lia) (by show A.units+1+yC us<cLine;lia) g3 k3 g2 k2 w1 w2 j (by simpa using h1) (by simpa using h2);simpa using this
     rw[e1] at q;have q':=SeqAt.EqAt.of_refs Ai q;simp only[eqT,tL];rw[<- hsz,Nat.min_self];simpa using q'
    .have q:=SeqAt.RcAt.lists_lengths (A:=A) pl.isList pl'.isList (by rw[e1,e2];simpa using hsz) (by lia);have q':=SeqAt.EqAt.of_refs Ai q;simp only[eqT,tL];have:(ts.length == us.length)=false:=by simpa using hsz
     rw[this,B_];exact q'
 | .zT,u,A,d,e,x,y,a,b,hu,hu',h1,h2,r1,r2,v1,v2=>by simp only[dep] at hu;lia
theorem q8 (I:Inv X pins B H s) (p:zJ X.K H S):∀ (ts us:List T) {A:Around}{ds es:List D}{xs ys:List V}{its Ae:List Value},A.units+yC ts<cLine->A.units+yC us<cLine->zl S ts ds->zl S us es->zm X.K H ds xs->zm X.K H es ys->Vals xs its->Vals ys Ae->
  ∀ (j:Nat) (h1:j<its.length) (h2:j<Ae.length),SeqAt.EqAt A s its[j] Ae[j] (eqT (ts.getD j .zi) (us.getD j .zi))
 | [],us,A,ds,es,xs,ys,its,Ae,hu,hu',s1,s2,r1,r2,v1,v2,j,h1,h2=>by
  rw[<- v1.length,<- r1.length,<- s1.length] at h1;simp at h1
 | t::ts,[],A,ds,es,xs,ys,its,Ae,hu,hu',s1,s2,r1,r2,v1,v2,j,h1,h2=>by
  rw[<- v2.length,<- r2.length,<- s2.length] at h2;simp at h2
 | t::ts,u::us,A,ds,es,xs,ys,its,Ae,hu,hu',s1,s2,r1,r2,v1,v2,j,h1,h2=>by
  simp only[zl] at s1 s2;obtain⟨c,cs,rfl,a1,a2⟩:=s1;obtain⟨c',cs',rfl,b1,b2⟩:=s2;simp only[zm] at r1 r2;obtain⟨y,ys,rfl,g1,g2⟩:=r1;obtain⟨y',ys',rfl,k1,k2⟩:=r2;cases v1 with
  | cons m1 m2=>
   cases v2 with
   | cons n1 n2=>
    simp only[yC] at hu hu';cases j with
    | zero=>simpa using ZC I p t u (A:=A) (by lia) (by lia) a1 b1 g1 k1 m1 n1
    | succ j=>simpa using q8 I p ts us (A:=A) (by lia) (by lia) a2 b2 g2 k2 m2 n2 j (by simpa using h1) (by simpa using h2)
end
end
section
variable {X:Cx}{pins:List (Addr×Obj)}{B:St}{H:Hp}{s:Shared}{S:SS}
theorem WU (I:Inv X pins B H s) (p:zJ X.K H S):∀ (t u:T) {A:Around}{d e:D}{x y:V}{a b:Value},A.units+dep t<cLine->A.units+dep u<cLine->Sn S t d->Sn S u e->zg X.K H d x->zg X.K H e y->RelV x a->RelV y b->SeqAt.RcAt A s a b (eqT t u)
 | .zi,u,A,d,e,x,y,a,b,hu,hu',h1,h2,r1,r2,v1,v2=>by
  have q:=h1.flat r1;subst q;cases v1;cases u with
  | zT=>simp only[dep] at hu';lia
  | zi=>have q:=h2.flat r2;subst q;cases v2;simp only[eqT];exact SeqAt.RcAt.none_none
  | bl c2=>have q:=h2.flat r2;subst q;cases v2;simp only[eqT];exact SeqAt.RcAt.none_bool _
  | int c2=>have q:=h2.flat r2;subst q;obtain⟨tk2,rfl⟩:=v2;simp only[eqT];exact SeqAt.RcAt.none_int _ _
  | str c2=>have q:=h2.flat r2;subst q;obtain⟨tk2,rfl⟩:=v2;simp only[eqT];exact SeqAt.RcAt.none_str _ _
  | tup c2=>obtain⟨l',xs',ds',rfl,k1,k2,k3⟩:=h2.yQ r2;cases v2;obtain⟨Ae,w2,pt',_⟩:=I.tuple k1;simp only[dep] at hu';simp only[eqT];exact SeqAt.RcAt.none_tuple pt' (by lia)
  | lst c2=>obtain⟨l',xs',ds',rfl,k1,k2,k3⟩:=h2.yT p r2;cases v2;obtain⟨Ae,w2,pl',_⟩:=I.list k1;simp only[dep] at hu';simp only[eqT];exact SeqAt.RcAt.none_list pl'.isList (by lia)
 | .bl c,u,A,d,e,x,y,a,b,hu,hu',h1,h2,r1,r2,v1,v2=>by
  have q:=h1.flat r1;subst q;cases v1;cases u with
  | zT=>simp only[dep] at hu';lia
  | zi=>have q:=h2.flat r2;subst q;cases v2;simp only[eqT];exact SeqAt.RcAt.bool_none _
  | bl c2=>have q:=h2.flat r2;subst q;cases v2;simp only[eqT];exact SeqAt.RcAt.bool_bool _ _
  | int c2=>have q:=h2.flat r2;subst q;obtain⟨tk2,rfl⟩:=v2;simp only[eqT];exact SeqAt.RcAt.bool_int _ _ _
  | str c2=>have q:=h2.flat r2;subst q;obtain⟨tk2,rfl⟩:=v2;simp only[eqT];exact SeqAt.RcAt.bool_str _ _ _
  | tup c2=>obtain⟨l',xs',ds',rfl,k1,k2,k3⟩:=h2.yQ r2;cases v2;obtain⟨Ae,w2,pt',_⟩:=I.tuple k1;simp only[dep] at hu';simp only[eqT];exact SeqAt.RcAt.bool_tuple _ pt' (by lia)
  | lst c2=>obtain⟨l',xs',ds',rfl,k1,k2,k3⟩:=h2.yT p r2;cases v2;obtain⟨Ae,w2,pl',_⟩:=I.list k1;simp only[dep] at hu';simp only[eqT];exact SeqAt.RcAt.bool_list _ pl'.isList (by lia)
 | .int c,u,A,d,e,x,y,a,b,hu,hu',h1,h2,r1,r2,v1,v2=>by
  have q:=h1.flat r1;subst q;obtain⟨tk,rfl⟩:=v1;cases u with
  | zT=>simp only[dep] at hu';lia
  | zi=>have q:=h2.flat r2;subst q;cases v2;simp only[eqT];exact SeqAt.RcAt.int_none _ _
  | bl c2=>have q:=h2.flat r2;subst q;cases v2;simp only[eqT];exact SeqAt.RcAt.int_bool _ _ _
  | int c2=>have q:=h2.flat r2;subst q;obtain⟨tk2,rfl⟩:=v2;simp only[eqT];exact SeqAt.RcAt.int_int _ _ _ _
  | str c2=>have q:=h2.flat r2;subst q;obtain⟨tk2,rfl⟩:=v2;simp only[eqT];exact SeqAt.RcAt.int_str _ _ _ _
  | tup c2=>obtain⟨l',xs',ds',rfl,k1,k2,k3⟩:=h2.yQ r2;cases v2;obtain⟨Ae,w2,pt',_⟩:=I.tuple k1;simp only[dep] at hu';simp only[eqT];exact SeqAt.RcAt.int_tuple _ _ pt' (by lia)
  | lst c2=>obtain⟨l',xs',ds',rfl,k1,k2,k3⟩:=h2.yT p r2;cases v2;obtain⟨Ae,w2,pl',_⟩:=I.list k1;simp only[dep] at hu';simp only[eqT];exact SeqAt.RcAt.int_list _ _ pl'.isList (by lia)
 | .str c,u,A,d,e,x,y,a,b,hu,hu',h1,h2,r1,r2,v1,v2=>by
  have q:=h1.flat r1;subst q;obtain⟨tk,rfl⟩:=v1;cases u with
  | zT=>simp only[dep] at hu';lia
  | zi=>have q:=h2.flat r2;subst q;cases v2;simp only[eqT];exact SeqAt.RcAt.str_none _ _
  | bl c2=>have q:=h2.flat r2;subst q;cases v2;simp only[eqT];exact SeqAt.RcAt.str_bool _ _ _
  | int c2=>have q:=h2.flat r2;subst q;obtain⟨tk2,rfl⟩:=v2;simp only[eqT];exact SeqAt.RcAt.str_int _ _ _ _
  | str c2=>have q:=h2.flat r2;subst q;obtain⟨tk2,rfl⟩:=v2;simp only[eqT];exact SeqAt.RcAt.str_str _ _ _ _
  | tup c2=>obtain⟨l',xs',ds',rfl,k1,k2,k3⟩:=h2.yQ r2;cases v2;obtain⟨Ae,w2,pt',_⟩:=I.tuple k1;simp only[dep] at hu';simp only[eqT];exact SeqAt.RcAt.str_tuple _ _ pt' (by lia)
  | lst c2=>obtain⟨l',xs',ds',rfl,k1,k2,k3⟩:=h2.yT p r2;cases v2;obtain⟨Ae,w2,pl',_⟩:=I.list k1;simp only[dep] at hu';simp only[eqT];exact SeqAt.RcAt.str_list _ _ pl'.isList (by lia)
 | .tup c,u,A,d,e,x,y,a,b,hu,hu',h1,h2,r1,r2,v1,v2=>by
  obtain⟨l,xs,ds,rfl,g1,g2,g3⟩:=h1.yQ r1;cases v1;obtain⟨its,w1,pt,_⟩:=I.tuple g1;simp only[dep] at hu;cases u with
  | zT=>simp only[dep] at hu';lia
  | zi=>have q:=h2.flat r2;subst q;cases v2;simp only[eqT];exact SeqAt.RcAt.tuple_none pt (by lia)
  | bl c2=>have q:=h2.flat r2;subst q;cases v2;simp only[eqT];exact SeqAt.RcAt.tuple_bool _ pt (by lia)
  | int c2=>have q:=h2.flat r2;subst q;obtain⟨tk2,rfl⟩:=v2;simp only[eqT];exact SeqAt.RcAt.tuple_int _ _ pt (by lia)
  | str c2=>have q:=h2.flat r2;subst q;obtain⟨tk2,rfl⟩:=v2;simp only[eqT];exact SeqAt.RcAt.tuple_str _ _ pt (by lia)
  | tup c2=>
   obtain⟨l',xs',ds',rfl,k1,k2,k3⟩:=h2.yQ r2;cases v2;obtain⟨Ae,w2,pt',_⟩:=I.tuple k1;simp only[dep] at hu';have e1:its.toArray.size=c.length:=by rw[Av,<- w1.length,<- g2.length,<- g3.length]
   have e2:Ae.toArray.size=c2.length:=by rw[Av,<- w2.length,<- k2.length,<- k3.length]
   have q:=SeqAt.RcAt.tuples (A:=A) (e:=λ j=>eqT (c.getD j .zi) (c2.getD j .zi)) pt pt' (by lia) λ j h1 h2=>by
    have:=q8 I p c c2 (A:=A.in1) (by show A.units+1+yC c<cLine;lia) (by show A.units+1+yC c2<cLine;lia) g3 k3 g2 k2 w1 w2 j (by simpa using h1) (by simpa using h2);simpa using this
   rw[e1,e2] at q;simp only[eqT,tL];exact q
  | lst c2=>obtain⟨l',xs',ds',rfl,k1,k2,k3⟩:=h2.yT p r2;cases v2;obtain⟨Ae,w2,pl',_⟩:=I.list k1;simp only[dep] at hu';simp only[eqT];exact SeqAt.RcAt.tuple_list pt pl'.isList (by lia)
 | .lst c,u,A,d,e,x,y,a,b,hu,hu',h1,h2,r1,r2,v1,v2=>by
  obtain⟨l,xs,ds,rfl,g1,g2,g3⟩:=h1.yT p r1;cases v1;obtain⟨its,w1,pl,_⟩:=I.list g1;simp only[dep] at hu;cases u with
  | zT=>simp only[dep] at hu';lia
  | zi=>have q:=h2.flat r2;subst q;cases v2;simp only[eqT];exact SeqAt.RcAt.list_none pl.isList (by lia)
  | bl c2=>have q:=h2.flat r2;subst q;cases v2;simp only[eqT];exact SeqAt.RcAt.list_bool _ pl.isList (by lia)
  | int c2=>have q:=h2.flat r2;subst q;obtain⟨tk2,rfl⟩:=v2;simp only[eqT];exact SeqAt.RcAt.list_int _ _ pl.isList (by lia)
  | str c2=>have q:=h2.flat r2;subst q;obtain⟨tk2,rfl⟩:=v2;simp only[eqT];exact SeqAt.RcAt.list_str _ _ pl.isList (by lia)
  | tup c2=>obtain⟨l',xs',ds',rfl,k1,k2,k3⟩:=h2.yQ r2;cases v2;obtain⟨Ae,w2,pt',_⟩:=I.tuple k1;simp only[dep] at hu';simp only[eqT];exact SeqAt.RcAt.list_tuple pl.isList pt' (by lia)
  | lst c2=>
   obtain⟨l',xs',ds',rfl,k1,k2,k3⟩:=h2.yT p r2;cases v2;obtain⟨Ae,w2,pl',_⟩:=I.list k1;simp only[dep] at hu';have e1:its.toArray.size=c.length:=by rw[Av,<- w1.length,<- g2.length,<- g3.length]
   have e2:Ae.toArray.size=c2.length:=by rw[Av,<- w2.length,<- k2.length,<- k3.length]
   by_cases hsz:c.length=c2.length
   .have q:=SeqAt.RcAt.lists (A:=A) (e:=λ j=>eqT (c.getD j .zi) (c2.getD j .zi)) pl.isList pl'.isList (by rw[e1,e2];exact hsz) (by lia) λ j h1 h2=>by
     have:=q8 I p c c2 (A:=A.in1) (by show A.units+1+yC c<cLine;lia) (by show A.units+1+yC c2<cLine;lia) g3 k3 g2 k2 w1 w2 j (by simpa using h1) (by simpa using h2);simpa using this
    rw[e1] at q;simp only[eqT,tL];rw[<- hsz,Nat.min_self];simpa using q
   .have q:=SeqAt.RcAt.lists_lengths (A:=A) pl.isList pl'.isList (by rw[e1,e2];simpa using hsz) (by lia);simp only[eqT,tL];have z:(c.length == c2.length)=false:=by simpa using hsz
    rw[z,B_];exact q
 | .zT,u,A,d,e,x,y,a,b,hu,hu',h1,h2,r1,r2,v1,v2=>by simp only[dep] at hu;lia
theorem WS (I:Inv X pins B H s) (p:zJ X.K H S):∀ (t u:T) {A:Around}{d e:D}{x y:V}{a b:Value},A.units+dep t<cLine->A.units+dep u<cLine->Sn S t d->Sn S u e->zg X.K H d x->zg X.K H e y->RelV x a->RelV y b->SeqAt.RcNeAt A s a b (!eqT t u)
 | .zi,u,A,d,e,x,y,a,b,hu,hu',h1,h2,r1,r2,v1,v2=>by
  have q:=h1.flat r1;subst q;cases v1;cases u with
  | zT=>simp only[dep] at hu';lia
  | zi=>have q:=h2.flat r2;subst q;cases v2;simp only[eqT,AB,AA];exact SeqAt.RcNeAt.none_none
  | bl c2=>have q:=h2.flat r2;subst q;cases v2;simp only[eqT,AB,AA];exact SeqAt.RcNeAt.none_bool _
  | int c2=>have q:=h2.flat r2;subst q;obtain⟨tk2,rfl⟩:=v2;simp only[eqT,AB,AA];exact SeqAt.RcNeAt.none_int _ _
  | str c2=>have q:=h2.flat r2;subst q;obtain⟨tk2,rfl⟩:=v2;simp only[eqT,AB,AA];exact SeqAt.RcNeAt.none_str _ _
  | tup c2=>obtain⟨l',xs',ds',rfl,k1,k2,k3⟩:=h2.yQ r2;cases v2;obtain⟨Ae,w2,pt',_⟩:=I.tuple k1;simp only[dep] at hu';simp only[eqT,AB,AA];exact SeqAt.RcNeAt.none_tuple pt' (by lia)
  | lst c2=>obtain⟨l',xs',ds',rfl,k1,k2,k3⟩:=h2.yT p r2;cases v2;obtain⟨Ae,w2,pl',_⟩:=I.list k1;simp only[dep] at hu';simp only[eqT,AB,AA];exact SeqAt.RcNeAt.none_list pl'.isList (by lia)
 | .bl c,u,A,d,e,x,y,a,b,hu,hu',h1,h2,r1,r2,v1,v2=>by
  have q:=h1.flat r1;subst q;cases v1;cases u with
  | zT=>simp only[dep] at hu';lia
  | zi=>have q:=h2.flat r2;subst q;cases v2;simp only[eqT,AB,AA];exact SeqAt.RcNeAt.bool_none _
  | bl c2=>have q:=h2.flat r2;subst q;cases v2;simp only[eqT];exact SeqAt.RcNeAt.bool_bool _ _
  | int c2=>have q:=h2.flat r2;subst q;obtain⟨tk2,rfl⟩:=v2;simp only[eqT];exact SeqAt.RcNeAt.bool_int _ _ _
  | str c2=>have q:=h2.flat r2;subst q;obtain⟨tk2,rfl⟩:=v2;simp only[eqT,AB,AA];exact SeqAt.RcNeAt.bool_str _ _ _
  | tup c2=>obtain⟨l',xs',ds',rfl,k1,k2,k3⟩:=h2.yQ r2;cases v2;obtain⟨Ae,w2,pt',_⟩:=I.tuple k1;simp only[dep] at hu';simp only[eqT,AB,AA];exact SeqAt.RcNeAt.bool_tuple _ pt' (by lia)
  | lst c2=>obtain⟨l',xs',ds',rfl,k1,k2,k3⟩:=h2.yT p r2;cases v2;obtain⟨Ae,w2,pl',_⟩:=I.list k1;simp only[dep] at hu';simp only[eqT,AB,AA];exact SeqAt.RcNeAt.bool_list _ pl'.isList (by lia)
 | .int c,u,A,d,e,x,y,a,b,hu,hu',h1,h2,r1,r2,v1,v2=>by
  have q:=h1.flat r1;subst q;obtain⟨tk,rfl⟩:=v1;cases u with
  | zT=>simp only[dep] at hu';lia
  | zi=>have q:=h2.flat r2;subst q;cases v2;simp only[eqT,AB,AA];exact SeqAt.RcNeAt.int_none _ _
  | bl c2=>have q:=h2.flat r2;subst q;cases v2;simp only[eqT];exact SeqAt.RcNeAt.int_bool _ _ _
  | int c2=>have q:=h2.flat r2;subst q;obtain⟨tk2,rfl⟩:=v2;simp only[eqT];exact SeqAt.RcNeAt.int_int _ _ _ _
  | str c2=>have q:=h2.flat r2;subst q;obtain⟨tk2,rfl⟩:=v2;simp only[eqT,AB,AA];exact SeqAt.RcNeAt.int_str _ _ _ _
  | tup c2=>obtain⟨l',xs',ds',rfl,k1,k2,k3⟩:=h2.yQ r2;cases v2;obtain⟨Ae,w2,pt',_⟩:=I.tuple k1;simp only[dep] at hu';simp only[eqT,AB,AA];exact SeqAt.RcNeAt.int_tuple _ _ pt' (by lia)
  | lst c2=>obtain⟨l',xs',ds',rfl,k1,k2,k3⟩:=h2.yT p r2;cases v2;obtain⟨Ae,w2,pl',_⟩:=I.list k1;simp only[dep] at hu';simp only[eqT,AB,AA];exact SeqAt.RcNeAt.int_list _ _ pl'.isList (by lia)
 | .str c,u,A,d,e,x,y,a,b,hu,hu',h1,h2,r1,r2,v1,v2=>by
  have q:=h1.flat r1;subst q;obtain⟨tk,rfl⟩:=v1;cases u with
  | zT=>simp only[dep] at hu';lia
  | zi=>have q:=h2.flat r2;subst q;cases v2;simp only[eqT,AB,AA];exact SeqAt.RcNeAt.str_none _ _
  | bl c2=>have q:=h2.flat r2;subst q;cases v2;simp only[eqT,AB,AA];exact SeqAt.RcNeAt.str_bool _ _ _
  | int c2=>have q:=h2.flat r2;subst q;obtain⟨tk2,rfl⟩:=v2;simp only[eqT,AB,AA];exact SeqAt.RcNeAt.str_int _ _ _ _
  | str c2=>have q:=h2.flat r2;subst q;obtain⟨tk2,rfl⟩:=v2;simp only[eqT];exact SeqAt.RcNeAt.str_str _ _ _ _
  | tup c2=>obtain⟨l',xs',ds',rfl,k1,k2,k3⟩:=h2.yQ r2;cases v2;obtain⟨Ae,w2,pt',_⟩:=I.tuple k1;simp only[dep] at hu';simp only[eqT,AB,AA];exact SeqAt.RcNeAt.str_tuple _ _ pt' (by lia)
  | lst c2=>obtain⟨l',xs',ds',rfl,k1,k2,k3⟩:=h2.yT p r2;cases v2;obtain⟨Ae,w2,pl',_⟩:=I.list k1;simp only[dep] at hu';simp only[eqT,AB,AA];exact SeqAt.RcNeAt.str_list _ _ pl'.isList (by lia)
 | .tup c,u,A,d,e,x,y,a,b,hu,hu',h1,h2,r1,r2,v1,v2=>by
  obtain⟨l,xs,ds,rfl,g1,g2,g3⟩:=h1.yQ r1;cases v1;obtain⟨its,w1,pt,_⟩:=I.tuple g1;simp only[dep] at hu;cases u with
  | zT=>simp only[dep] at hu';lia
  | zi=>have q:=h2.flat r2;subst q;cases v2;simp only[eqT,AB,AA];exact SeqAt.RcNeAt.tuple_none pt (by lia)
  | bl c2=>have q:=h2.flat r2;subst q;cases v2;simp only[eqT,AB,AA];exact SeqAt.RcNeAt.tuple_bool _ pt (by lia)
  | int c2=>have q:=h2.flat r2;subst q;obtain⟨tk2,rfl⟩:=v2;simp only[eqT,AB,AA];exact SeqAt.RcNeAt.tuple_int _ _ pt (by lia)
  | str c2=>have q:=h2.flat r2;subst q;obtain⟨tk2,rfl⟩:=v2;simp only[eqT,AB,AA];exact SeqAt.RcNeAt.tuple_str _ _ pt (by lia)
  | tup c2=>
   obtain⟨l',xs',ds',rfl,k1,k2,k3⟩:=h2.yQ r2;cases v2;obtain⟨Ae,w2,pt',_⟩:=I.tuple k1;simp only[dep] at hu';have e1:its.toArray.size=c.length:=by rw[Av,<- w1.length,<- g2.length,<- g3.length]
   have e2:Ae.toArray.size=c2.length:=by rw[Av,<- w2.length,<- k2.length,<- k3.length]
   have q:=SeqAt.RcNeAt.tuples (A:=A) (e:=λ j=>eqT (c.getD j .zi) (c2.getD j .zi)) pt pt' (by lia) λ j h1 h2=>by
    have:=q8 I p c c2 (A:=A.in1) (by show A.units+1+yC c<cLine;lia) (by show A.units+1+yC c2<cLine;lia) g3 k3 g2 k2 w1 w2 j (by simpa using h1) (by simpa using h2);simpa using this
   rw[e1,e2] at q;simp only[eqT,tL];exact q
  | lst c2=>obtain⟨l',xs',ds',rfl,k1,k2,k3⟩:=h2.yT p r2;cases v2;obtain⟨Ae,w2,pl',_⟩:=I.list k1;simp only[dep] at hu';simp only[eqT,AB,AA];exact SeqAt.RcNeAt.tuple_list pt pl'.isList (by lia)
 | .lst c,u,A,d,e,x,y,a,b,hu,hu',h1,h2,r1,r2,v1,v2=>by
  obtain⟨l,xs,ds,rfl,g1,g2,g3⟩:=h1.yT p r1;cases v1;obtain⟨its,w1,pl,_⟩:=I.list g1;simp only[dep] at hu;cases u with
  | zT=>simp only[dep] at hu';lia
  | zi=>have q:=h2.flat r2;subst q;cases v2;simp only[eqT,AB,AA];exact SeqAt.RcNeAt.list_none pl.isList (by lia)
  | bl c2=>have q:=h2.flat r2;subst q;cases v2;simp only[eqT,AB,AA];exact SeqAt.RcNeAt.list_bool _ pl.isList (by lia)
  | int c2=>have q:=h2.flat r2;subst q;obtain⟨tk2,rfl⟩:=v2;simp only[eqT,AB,AA];exact SeqAt.RcNeAt.list_int _ _ pl.isList (by lia)
  | str c2=>have q:=h2.flat r2;subst q;obtain⟨tk2,rfl⟩:=v2;simp only[eqT,AB,AA];exact SeqAt.RcNeAt.list_str _ _ pl.isList (by lia)
  | tup c2=>obtain⟨l',xs',ds',rfl,k1,k2,k3⟩:=h2.yQ r2;cases v2;obtain⟨Ae,w2,pt',_⟩:=I.tuple k1;simp only[dep] at hu';simp only[eqT,AB,AA];exact SeqAt.RcNeAt.list_tuple pl.isList pt' (by lia)
  | lst c2=>
   obtain⟨l',xs',ds',rfl,k1,k2,k3⟩:=h2.yT p r2;cases v2;obtain⟨Ae,w2,pl',_⟩:=I.list k1;simp only[dep] at hu';have e1:its.toArray.size=c.length:=by rw[Av,<- w1.length,<- g2.length,<- g3.length]
   have e2:Ae.toArray.size=c2.length:=by rw[Av,<- w2.length,<- k2.length,<- k3.length]
   by_cases hsz:c.length=c2.length
   .have q:=SeqAt.RcNeAt.lists (A:=A) (e:=λ j=>eqT (c.getD j .zi) (c2.getD j .zi)) pl.isList pl'.isList (by rw[e1,e2];exact hsz) (by lia) λ j h1 h2=>by
     have:=q8 I p c c2 (A:=A.in1) (by show A.units+1+yC c<cLine;lia) (by show A.units+1+yC c2<cLine;lia) g3 k3 g2 k2 w1 w2 j (by simpa using h1) (by simpa using h2);simpa using this
    rw[e1] at q;simp only[eqT,tL];rw[<- hsz,Nat.min_self];simpa using q
   .have q:=SeqAt.RcNeAt.lists_lengths (A:=A) pl.isList pl'.isList (by rw[e1,e2];simpa using hsz) (by lia);simp only[eqT,tL];have z:(c.length == c2.length)=false:=by simpa using hsz
    rw[z,B_];exact q
 | .zT,u,A,d,e,x,y,a,b,hu,hu',h1,h2,r1,r2,v1,v2=>by simp only[dep] at hu;lia
end
def iI (K:Ac) (neg:Bool):R2:=λ x y H Q=>∃ S d e t u,zg K H d x/\zg K H e y/\zJ K H S/\Sn S t d/\Sn S u e/\dep t<=60/\dep u<=60/\Q (.bl (cond neg (!eqT t u) (eqT t u))) H
def uQ (neg:Bool):yW:=λ x y S Q=>∃ t u,Sn S t x/\Sn S u y/\dep t<=60/\dep u<=60/\Q (.bl (cond neg (!eqT t u) (eqT t u))) S
def uQ.mo {neg:Bool}:xN (uQ neg):=λ _ _ _ _ _ hq ⟨t,u,a,b,c,d,h⟩=>⟨t,u,a,b,c,d,hq _ _ h⟩
def uQ.fits {K:Ac}{neg:Bool}:xD K (uQ neg) (iI K neg):=λ x y d e H S Q h1 h2 h3 ⟨t,u,a,b,c,c',h⟩=>⟨S,d,e,t,u,h1,h2,h3,a,b,c,c',h _ H (by simp only[zg]) (.refl H) h3⟩
section
variable {X:Cx}{a b:Expr}{ta tb:zq}{pos:Pos}
def U_ (hu:X.A.units+64<cLine):yj X (compareOp .Eq) (iI X.K false):=by
 intro pins s B H x y v u Q I rx ry h;obtain⟨S,d,e,t,u',a1,a2,a3,a4,a5,a6,a7,q⟩:=h;exact WU I a3 t u' (A:=X.A) (by lia) (by lia) a4 a5 a1 a2 rx ry X.prog X.w X.xe _ ⟨.bl _,H,I,rfl,q⟩
def UK (hu:X.A.units+64<cLine):yj X (compareOp .NotEq) (iI X.K true):=by
 intro pins s B H x y v u Q I rx ry h;obtain⟨S,d,e,t,u',a1,a2,a3,a4,a5,a6,a7,q⟩:=h;exact WS I a3 t u' (A:=X.A) (by lia) (by lia) a4 a5 a1 a2 rx ry X.prog X.w X.xe _ ⟨.bl _,H,I,rfl,q⟩
def vw {k:Nat}(hr:yF k X.A) (ha:PD X a ta) (hb:PD X b tb):xV X (.Compare a [.Eq] [b] pos) (uv (yy (uQ false) ta tb)):=qk (U_ hr.units) uQ.fits uQ.mo ha hb (qt _)
def iO {k:Nat}(hr:yF k X.A) (ha:PD X a ta) (hb:PD X b tb):xV X (.Compare a [.NotEq] [b] pos) (uv (yy (uQ true) ta tb)):=qk (UK hr.units) uQ.fits uQ.mo ha hb (qt _)
def bc (K:Ac) (neg:Bool):R2:=λ x y H Q=>∃ S d e u ts ds,zg K H d x/\zg K H e y/\zJ K H S/\Sn S u d/\zL e S=some ds/\zl S ts ds/\dep u<=60/\yC ts<=60/\Q (.bl (cond neg (!(ts.any λ t=>eqT t u)) (ts.any λ t=>eqT t u))) H
def rL (neg:Bool):yW:=λ x y S Q=>∃ u ts ds,Sn S u x/\zL y S=some ds/\zl S ts ds/\dep u<=60/\yC ts<=60/\Q (.bl (cond neg (!(ts.any λ t=>eqT t u)) (ts.any λ t=>eqT t u))) S
def rL.mo {neg:Bool}:xN (rL neg):=λ _ _ _ _ _ hq ⟨u,ts,ds,a,b,c,d,e,h⟩=>⟨u,ts,ds,a,b,c,d,e,hq _ _ h⟩
def rL.fits {K:Ac}{neg:Bool}:xD K (rL neg) (bc K neg):=λ x y d e H S Q h1 h2 h3 ⟨u,ts,ds,a,b,c,c',c2,h⟩=>⟨S,d,e,u,ts,ds,h1,h2,h3,a,b,c,c',c2,h _ H (by simp only[zg]) (.refl H) h3⟩
open Classical in
noncomputable def tR (its:List Value) (ts:List T) (u:T) (v:Value):Bool:=if h:∃ j,its[j]?=some v then eqT (ts.getD (Classical.choose h) .zi) u else false
def fY {pins:List (Addr×Obj)}{B:St}{H:Hp}{s:Shared}{S:SS}(I:Inv X pins B H s) (p:zJ X.K H S) {ts:List T}{ds:List D}{xs:List V}{its:List Value}(h1:zl S ts ds) (h2:zm X.K H ds xs) (h3:Vals xs its) (u:T) {j:Nat}{v:Value}(hj:its[j]?=some v):
  tR its ts u v=eqT (ts.getD j .zi) u:=by
 have h:∃ j,its[j]?=some v:=⟨j,hj⟩
 unfold tR;rw[dif_pos h];have hc:=Classical.choose_spec h;have lt:∀ i,its[i]?=some v->i<ts.length:=λ i hi=>by
  rw[h1.length,h2.length,h3.length];exact (AK.mp hi).1
 obtain⟨c1,e1,s1⟩:=h1.get (lt _ hc);obtain⟨c2,e2,s2⟩:=h1.get (lt _ hj);obtain⟨x1,f1,r1⟩:=h2.get e1;obtain⟨x2,f2,r2⟩:=h2.get e2;obtain⟨v1,g1,q1⟩:=h3.get f1;obtain⟨v2,g2,q2⟩:=h3.get f2;rw[hc] at g1;cases g1;rw[hj] at g2;cases g2;have hx:=q1.inj q2;subst hx;rw[lI I p _ _ s1 s2 r1 r2]
def Yy {pins:List (Addr×Obj)}{B:St}{H:Hp}{s:Shared}{S:SS}(I:Inv X pins B H s) (p:zJ X.K H S) {ts:List T}{ds:List D}{xs:List V}{its:List Value}(h1:zl S ts ds) (h2:zm X.K H ds xs) (h3:Vals xs its) (u:T):its.any (tR its ts u)=ts.any λ t=>eqT t u:=by
 have hl:ts.length=its.length:=by rw[h1.length,h2.length,h3.length]
 rw[BD,Bf,Bf];constructor
 .rintro⟨v,hv,h⟩;obtain⟨j,hj,rfl⟩:=Cr.mp hv;rw[fY I p h1 h2 h3 u (j:=j) (by simp[hj])] at h;have hj':j<ts.length:=by lia
  exact⟨ts[j],Ds hj',by simpa [hj'] using h⟩
 .rintro⟨t,ht,h⟩;obtain⟨j,hj,rfl⟩:=Cr.mp ht;have hj':j<its.length:=by lia
  exact⟨its[j],Ds hj',by rw[fY I p h1 h2 h3 u (j:=j) (by simp[hj'])];simpa [hj] using h⟩
def Yz {pins:List (Addr×Obj)}{B:St}{H:Hp}{s:Shared}{S:SS}(I:Inv X pins B H s) (p:zJ X.K H S) {ts:List T}{ds:List D}{xs:List V}{its:List Value}(h1:zl S ts ds) (h2:zm X.K H ds xs) (h3:Vals xs its) {u:T}{d:D}{x:V}{v:Value}(hu:Sn S u d) (hd:zg X.K H d x) (hx:RelV x v) {A:Around}(b1:A.units+yC ts<cLine) (b2:A.units+dep u<cLine) {y:Value}(hy:y∈its):
  SeqAt.EqAt A s y v (tR its ts u y):=by
 obtain⟨j,hj,rfl⟩:=Cr.mp hy;have hjt:j<ts.length:=by rw[h1.length,h2.length,h3.length];exact hj
 rw[fY I p h1 h2 h3 u (j:=j) (by simp[hj])];obtain⟨c1,e1,s1⟩:=h1.get hjt;obtain⟨x1,f1,r1⟩:=h2.get e1;obtain⟨v1,g1,q1⟩:=h3.get f1;have:its[j]=v1:=by
  have:=AK.mp g1;exact this.2
 rw[this];have:=ZQ hjt;exact ZC I p _ u (A:=A) (by lia) b2 s1 hu r1 hd q1 hx
def UW (hu:X.A.units+64<cLine):yj X (compareOp .In) (bc X.K false):=by
 intro pins s B H x y v w Q I rx ry h;obtain⟨S,d,e,u,ts,ds,a1,a2,a3,a4,a5,a6,a7,a8,q⟩:=h;obtain⟨l,xs,rfl,g1,g2⟩:=zL.sq a2 a3 a5;cases ry;rcases g1 with g1 | g1
 .obtain⟨its,w1,pl,_⟩:=I.list g1;refine SeqAt.in_listAt (tR its ts u) pl.isList (λ y hy=>Yz I a3 a6 g2 w1 a4 a1 rx (A:=X.A.in1) (by show X.A.units+1+_<_;lia) (by show X.A.units+1+_<_;lia) (by simpa using hy)) ⟨.bl _,H,I,rfl,?_⟩;rw[show its.toArray.any (tR its ts u)=its.any (tR its ts u) by simp,Yy I a3 a6 g2 w1];exact q
 .obtain⟨its,w1,pt,_⟩:=I.tuple g1;refine SeqAt.in_tupleAt (tR its ts u) pt (λ y hy=>Yz I a3 a6 g2 w1 a4 a1 rx (A:=X.A.in1) (by show X.A.units+1+_<_;lia) (by show X.A.units+1+_<_;lia) (by simpa using hy)) ⟨.bl _,H,I,rfl,?_⟩;rw[show its.toArray.any (tR its ts u)=its.any (tR its ts u) by simp,Yy I a3 a6 g2 w1];exact q
def Uh {k:Nat}(hr:yF k X.A) (ha:PD X a ta) (hb:PD X b tb) (hm:behindInMarks .In b=false:=by rfl):xV X (.Compare a [.In] [b] pos) (uv (yy (rL false) ta tb)):=qk (UW hr.units) rL.fits rL.mo ha hb hm
end
end L3
namespace L2
open PySem PySem.Spec PyProof.Rows
section
variable {κ:Type} [DecidableEq κ]
noncomputable def wA (Aa:List (κ × V)) (k:κ):Option V:=(Aa.find? λ kv=>decide (kv.1=k)).map (·.2)
noncomputable def putK (Aa:List (κ × V)) (k:κ) (v:V):List (κ × V):=
 if (Aa.any λ kv=>decide (kv.1=k))=true then Aa.map (λ kv=>if kv.1=k then (kv.1,v) else kv) else Aa++[(k,v)]
def jA {p:κ × V}{r:List (κ × V)}{k:κ}(e:p.1=k):wA (p::r) k=some p.2:=by simp[wA,Cq,e]
def jB {p:κ × V}{r:List (κ × V)}{k:κ}(e:¬ p.1=k):wA (p::r) k=wA r k:=by simp[wA,Cq,e]
theorem cf (k:κ):∀ Aa:List (κ × V),(Aa.any λ kv=>decide (kv.1=k))=(wA Aa k).isSome
 | []=>rfl
 | p::r=>by
  rw[Br];by_cases e:p.1=k
  .simp only[jA e,decide_eq_true e,Bool.true_or,Option.isSome_some]
  .rw[jB e,decide_eq_false e,Bool.false_or];exact cf k r
def aF (Aa:List (κ × V)) (k:κ) (v:V):(putK Aa k v).length<=Aa.length+1:=by
 unfold putK;split
 .rw[Ay];lia
 .rw[Cc,AR,CL];lia
def u6.RW {o:Option V}{u:Option Value}(r:u6 o u):o.isSome=u.isSome:=by
 cases o with
 | none=>cases u with
  | none=>rfl
  | some _=>exact (show False from r).elim
 | some _=>cases u with
  | none=>exact (show False from r).elim
  | some _=>rfl
theorem u6.getD {o:Option V}{u:Option Value}{d:V}{d':Value}(r:u6 o u) (rd:RelV d d'):RelV (o.getD d) (u.getD d'):=by
 cases o with
 | none=>cases u with
  | none=>exact rd
  | some _=>exact (show False from r).elim
 | some _=>cases u with
  | none=>exact (show False from r).elim
  | some _=>exact r
def KV.val {Aa:List (κ × V)}{vs:List (κ × Value)}(r:KV Aa vs) (k:κ):u6 (wA Aa k) (valueAt vs k):=by
 unfold KV at r
 induction r with
 | nil=>exact True.intro
 | @cons p q ps qs h t ih=>
  obtain⟨h1,h2⟩:=h;by_cases e:p.1=k
  .have e':q.1=k:=h1.symm.trans e;have b:valueAt (q::qs) k=some q.2:=by simp[valueAt,Cq,e']
   rw[jA e,b];exact h2
  .have e':¬ q.1=k:=λ z=>e (h1.trans z);have b:valueAt (q::qs) k=valueAt qs k:=by simp[valueAt,Cq,e']
   rw[jB e,b];exact ih
theorem KV.any {Aa:List (κ × V)}{vs:List (κ × Value)}(r:KV Aa vs) (k:κ):(Aa.any λ kv=>decide (kv.1=k))=vs.any λ kv=>decide (kv.1=k):=by
 unfold KV at r
 induction r with
 | nil=>rfl
 | cons h t ih=>rw[Br,Br,ih,h.1]
def KV.tq {Aa:List (κ × V)}{vs:List (κ × Value)}(r:KV Aa vs) (k:κ) {y:V}{u:Value}(ry:RelV y u):
  KV (Aa.map λ kv=>if kv.1=k then (kv.1,y) else kv) (vs.map λ kv=>if kv.1=k then (kv.1,u) else kv):=by
 unfold KV at r ⊢
 induction r with
 | nil=>exact .nil
 | @cons p q ps qs h t ih=>
  rw[Au,Au];refine .cons ?_ ih;obtain⟨h1,h2⟩:=h;by_cases e:p.1=k
  .rw[if_pos e,if_pos (h1.symm.trans e)];exact⟨h1,ry⟩
  .rw[if_neg e,if_neg (λ z=>e (h1.trans z))];exact⟨h1,h2⟩
def KV.put {Aa:List (κ × V)}{vs:List (κ × Value)}(r:KV Aa vs) (k:κ) {y:V}{u:Value}(ry:RelV y u):KV (putK Aa k y) (stored vs k u):=by
 unfold putK stored;rw[r.any k];by_cases e:(vs.any λ kv=>decide (kv.1=k))=true
 .rw[if_pos e,if_pos e];exact r.tq k ry
 .rw[if_neg e,if_neg e];exact Paired.snoc r ⟨rfl,ry⟩
theorem KV.length {Aa:List (κ × V)}{vs:List (κ × Value)}(r:KV Aa vs):Aa.length=vs.length:=Paired.length r
end
def kE {P:Program}{w:World}{k:Key}{u:Value}(r:RelV (kV k) u):(wV P w).is k u=true:=by
 cases k with
 | inl i=>obtain⟨t,e⟩:=(show ∃ t,u=Value.int i t from r);subst e;exact Rb P w i t
 | inr x=>obtain⟨t,e⟩:=(show ∃ t,u=Value.str x t from r);subst e;exact Ra P w x t
theorem Za {P:Program}{w:World}:∀ {ks:List Key}{us:List Value},Vals (ks.map kV) us->ItemsAre (wV P w) ks us
 | [],_,r=>by rw[Bj] at r;cases r;exact .nil
 | k::ks,_,r=>by
  rw[Au] at r;cases r with
  | cons h t=>exact .cons (kE h) (Za t)
abbrev KT (H:Hp):List (List Key×V)->List (List Key×Addr×Value)->Prop:=Paired λ p q=>p.1=q.1/\H q.2.1=some (.tup (p.1.map kV))/\RelV p.2 q.2.2
def KT.val {H:Hp}{Aa:List (List Key×V)}{xs:List (List Key×Addr×Value)}(r:KT H Aa xs) (k:List Key):u6 (wA Aa k) ((atKey xs k).map (·.2)):=by
 induction r with
 | nil=>exact True.intro
 | @cons p q ps qs h t ih=>
  obtain⟨h1,_,h2⟩:=h;by_cases e:p.1=k
  .have e':q.1=k:=h1.symm.trans e;have b:atKey (q::qs) k=some q.2:=by simp[atKey,Cq,e']
   rw[jA e,b];exact h2
  .have e':¬ q.1=k:=λ z=>e (h1.trans z);have b:atKey (q::qs) k=atKey qs k:=by simp[atKey,Cq,e']
   rw[jB e,b];exact ih
def KT.tq {H:Hp}{Aa:List (List Key×V)}{xs:List (List Key×Addr×Value)}(r:KT H Aa xs) (k:List Key) {y:V}{u:Value}(ry:RelV y u):
  KT H (Aa.map λ kv=>if kv.1=k then (kv.1,y) else kv) (xs.map (putAt k u)):=by
 induction r with
 | nil=>exact .nil
 | @cons p q ps qs h t ih=>
  rw[Au,Au];refine .cons ?_ ih;obtain⟨h1,h2,h3⟩:=h;unfold putAt;by_cases e:p.1=k
  .rw[if_pos e,if_pos (h1.symm.trans e)];exact⟨h1,h2,ry⟩
  .rw[if_neg e,if_neg (λ z=>e (h1.trans z))];exact⟨h1,h2,h3⟩
def KT.put {H:Hp}{Aa:List (List Key×V)}{xs:List (List Key×Addr×Value)}(r:KT H Aa xs) (k:List Key) {b:Addr}{y:V}{u:Value}(hb:H b=some (.tup (k.map kV))) (ry:RelV y u):
  KT H (putK Aa k y) (storedH xs k b u):=by
 have e:(Aa.any λ kv=>decide (kv.1=k))=(atKey xs k).isSome:=by
  rw[cf,(r.val k).RW,Option.isSome_map]
 unfold putK storedH;rw[e];by_cases q:(atKey xs k).isSome=true
 .rw[if_pos q,if_pos q];exact r.tq k ry
 .rw[if_neg q,if_neg q];exact Paired.snoc r ⟨rfl,hb,ry⟩
def KT.keeps {H H':Hp}{Aa:List (List Key×V)}{xs:List (List Key×Addr×Value)}(r:KT H Aa xs) (ht:∀ b ys,H b=some (.tup ys)->H' b=some (.tup ys)):KT H' Aa xs:=
 Paired.kA r λ _ _ z=>⟨z.1,ht _ _ z.2.1,z.2.2⟩
section
variable {P:Program}{w:World}{H:Hp}{h:Heap}{a:Addr}
def cV {u:HO}(ok:yX P w H h) (e:Rd H a u):xg P w H h a u:=e.ok ok
def pZ {Aa:List (Key×V)}(ok:yX P w H h) (e:Rd H a (.dK Aa)):Aa.length<=sizeLine/\(a == sysModules)=false/\∃ vs,KV Aa vs/\h.DictOf (wV P w) a vs:=
 show xg P w H h a (.dK Aa) from cV ok e
def Q_ {Aa:List (Key×V)}(ok:yX P w H h) (e:H a=some (.dK Aa)):Aa.length<=sizeLine/\(a == sysModules)=false/\∃ vs,KV Aa vs/\h.DictOf (wV P w) a vs:=pZ ok (.inl e)
def kD {ks:List Key}(ok:yX P w H h) (e:H a=some (.tup (ks.map kV))):(tupleKind (wV P w)).is h ks a:=by
 obtain⟨_,its,r,o,h1,h2,n,h3⟩:=(show xg P w H h a (.tup (ks.map kV)) from ok a _ e)
 exact⟨o,its.toArray,n,h1,h2,h3,by simpa using Za r⟩
def mz {Aa:List (List Key×V)}(ok:yX P w H h) (e:Rd H a (.dT Aa)):Aa.length<=sizeLine/\(a == sysModules)=false/\
  ∃ xs,KT H Aa xs/\h.DictOfH (tupleKind (wV P w)) a xs:=by
 obtain⟨z,y,xs,r,o,es,ep,h1,h2,h3,h4,h5⟩:=(show xg P w H h a (.dT Aa) from cV ok e)
 refine⟨z,y,xs,r,o,es,ep,h1,h2,h3,h4,λ x hx=>?_,h5⟩;have all:∀ {l:List (List Key×V)}{m:List (List Key×Addr×Value)},KT H l m->∀ x∈m,(tupleKind (wV P w)).is h x.1 x.2.1:=by
  intro l m q
  induction q with
  | nil=>intro x hx;exact nomatch hx
  | @cons p q ps qs hq t ih=>
   intro x hx;rcases Ah.mp hx with e | hx
   .subst e;exact kD ok (by rw[<- hq.1];exact hq.2.1)
   .exact ih x hx
 exact all r x hx
def QV {Aa:List (List Key×V)}(ok:yX P w H h) (e:H a=some (.dT Aa)):Aa.length<=sizeLine/\(a == sysModules)=false/\
  ∃ xs,KT H Aa xs/\h.DictOfH (tupleKind (wV P w)) a xs:=mz ok (.inl e)
end
def sR (H:Hp) (a:Addr) (y:V) (r:Option V):Prop:=
 (∃ Aa k,Rd H a (.dK Aa)/\y=kV k/\r=wA Aa k)\/∃ Aa k b,Rd H a (.dT Aa)/\y=.ref b/\H b=some (.tup (k.map kV))/\r=wA Aa k
def lF (H:Hp) (a:Addr) (y v:V) (H':Hp):Prop:=
 (∃ Aa k,H a=some (.dK Aa)/\y=kV k/\Aa.length<sizeLine/\H'=upd H a (.dK (putK Aa k v)))\/
 ∃ Aa k b,H a=some (.dT Aa)/\y=.ref b/\H b=some (.tup (k.map kV))/\Aa.length<sizeLine/\H'=upd H a (.dT (putK Aa k v))
theorem sR.k {H:Hp}{a:Addr}{Aa:List (Key×V)}{k:Key}(e:H a=some (.dK Aa)):sR H a (kV k) (wA Aa k):=.inl ⟨Aa,k,.inl e,rfl,rfl⟩
theorem lF.k {H:Hp}{a:Addr}{Aa:List (Key×V)}{k:Key}{v:V}(e:H a=some (.dK Aa)) (hl:Aa.length<sizeLine):lF H a (kV k) v (upd H a (.dK (putK Aa k v))):=.inl ⟨Aa,k,e,rfl,hl,rfl⟩
section
variable {X:Cx}{pins:List (Addr×Obj)}{B:St}{H:Hp}{s:Shared}{a:Addr}{y v:V}{u r:Value}{o:Option V}{A:Around}{E:Value->Shared->Prop}
def Inv.big (I:Inv X pins B H s):sysModules<s.heap.objs.size:=by
 have h:mainGlobals<s.heap.objs.size:=(I.mod.glob.keeps I.bk).lt;exact CZ (by decide) h
def Ph {Q:Value->Shared->Prop}(hu:A.units+1<cLine) (I:Inv X pins B H s) (g:sR H a y (some v)) (ry:RelV y u) (h:∀ w' s',Inv X pins B H s'->RelV v w'->Q w' s'):
  wpAny (model X.prog X.w) A (getItem (.ref a) u) Q E s:=by
 rcases g with ⟨Aa,k,e,ey,l⟩ | ⟨Aa,k,b,e,ey,eb,l⟩
 .subst ey;obtain⟨z,hd,vs,rel,dd⟩:=pZ I.zx e;obtain⟨w',hw,rw'⟩:=u6.some_of (v:=v) (o:=valueAt vs k) (by rw[l];exact rel.val k);exact wpAny_getItem_of (kE ry) dd.mapOf hw (h w' _ (I.tok _) rw')
 .subst ey;cases (show u=Value.ref b from ry);obtain⟨z,hd,xs,rel,dd⟩:=mz I.zx e;obtain⟨w',hw,rw'⟩:=u6.some_of (v:=v) (o:=(atKey xs k).map (·.2)) (by rw[l];exact rel.val k);obtain⟨p,hp,pR⟩:=AD hw;refine wpAny_getItem_heap (tupleKind_room_in1 hu) (kD I.zx eb) dd hp ?_;rw[pR];exact h w' _ (I.tok _) rw'
def ZS {h':Heap}{t':Nat}{ob:HO}(I:Inv X pins B H s) (mu:lg (H a)) (hs:Heap.SameBut a s.heap h') (he:∃ q,h'.get? a=some q) (new:xg X.prog X.w (upd H a ob) h' a ob):
  Inv X pins B (upd H a ob) { s with heap:=h',toks:=t' }:=
 I.write (x:=a) (e:=a) mu (.inl rfl) (λ b q hb z=>(hs.2 b hb).trans z) he new
def Pa {P:Program}{w:World}{H':Hp}{h':Heap}{Aa:List (Key×V)}{vs:List (Key×Value)}(z:Aa.length<=sizeLine) (hd:(a == sysModules)=false) (rel:KV Aa vs) (dd:h'.DictOf (wV P w) a vs):
  xg P w H' h' a (.dK Aa):=⟨z,hd,vs,rel,dd⟩
def Pf {H':Hp}{Q:Unit->Shared->Prop}(hu:A.units+1<cLine) (I:Inv X pins B H s) (g:lF H a y v H') (ry:RelV y u) (rv:RelV v r) (h:∀ s',Inv X pins B H' s'->Q () s'):
  wpAny (model X.prog X.w) A (setItem (.ref a) u r) Q E s:=by
 rcases g with ⟨Aa,k,e,ey,l,eH⟩ | ⟨Aa,k,b,e,ey,eb,l,eH⟩
 .subst ey eH;obtain⟨z,hd,vs,rel,dd⟩:=Q_ I.zx e;have hz:vs.length<=sizeLine:=by rw[<- rel.length];exact z
  have hl:(putK Aa k v).length<=sizeLine:=by have:=aF Aa k v;lia
  refine wpAny_setItem_pairs (hsz:=hz) (kE ry) dd λ h' dd' hs=>h _ ?_;have he:∃ q,h'.get? a=some q:=let ⟨q,_,_,hq,_⟩:=dd';⟨q,hq⟩
  exact ZS I (by rw[e];exact True.intro) hs he (Pa hl hd (rel.put k rv) dd')
 .subst ey eH;cases (show u=Value.ref b from ry);obtain⟨z,hd,xs,rel,dd⟩:=QV I.zx e;have hz:xs.length<=sizeLine:=by rw[<- Paired.length rel];exact z
  have hl:(putK Aa k v).length<=sizeLine:=by have:=aF Aa k v;lia
  refine wpAny_setItem_heap (hsz:=hz) (tupleKind_room_in1 hu) (kD I.zx eb) dd λ h' dd' hs=>h _ ?_;obtain⟨q,es,ep,hq,h2,h3,h4,_,h5⟩:=dd';refine ZS I (by rw[e];exact True.intro) hs ⟨q,hq⟩ ⟨hl,hd,_,(rel.put k eb rv).keeps λ c ys ec=>?_,q,es,ep,hq,h2,h3,h4,h5⟩;rw[yG (nJ ec e (λ z=>nomatch z))];exact ec
end
section
variable {X:Cx}{pins:List (Addr×Obj)}{B:St}{H:Hp}{s:Shared}{a:Addr}{Aa:List (Key×V)}{k:Key}{u:Value}{A:Around}{E:Value->Shared->Prop}
def Pg {Q:Value->Shared->Prop}(I:Inv X pins B H s) (e:Rd H a (.dK Aa)) (h:∀ t s',Inv X pins B H s'->Q (.int Aa.length t) s'):wpAny (model X.prog X.w) A (call (.builtin "len") [.ref a]) Q E s:=by
 obtain⟨z,hd,vs,rel,dd⟩:=pZ I.zx e;refine call_len_dict hd dd (by rw[<- rel.length];rw[sizeLine_eq] at z;lia) ?_;rw[<- rel.length];exact h _ _ (I.tok _)
end
def ez (i:Expr):Prop:=∀ ov iv,subscripted i false ov iv=operate [ov,iv] (getItem ov iv)
def Wd {prog:Program}{w:World}{A:Around}{E:Value->Shared->Prop}{s:Shared}{env:Env}{value slice:Expr}{pos:Pos}{T id:String}{Q:Value->Shared->Prop}
  (hl:typeLookup (.type T) "__getitem__"=pure (some (.builtin id))) (hs:ez slice)
  (h:wpAny (model prog w) A (eval value env) (λ o s₁=>wpAny (model prog w) A (eval slice env) (λ i s₂=>s₂.TypeIs o T/\wpAny (model prog w) A (getItem o i) Q E s₂) E s₁) E s):
  wpAny (model prog w) A (eval (.Subscript value slice pos) env) Q E s:=by
 refine Subscript_ (wpAny_mono h (λ o s₁ h₁=>wpAny_mono h₁ (λ i s₂ h₂=>?_) λ _ _ x=>x) λ _ _ x=>x);obtain⟨hT,h₂⟩:=h₂;unfold subscriptTail;refine Ab ?_;rw[getitemInPython_of_ne hT.not_modules];refine Ab (wpAny_specialOf hT hl ?_);have fin:wpAny (model prog w) A (subscripted slice false o i) (λ r s₃=>wpAny (model prog w) A (letTemporaryGo value o r >>= λ _=>pure r) Q E s₃) E s₂:=by
  rw[hs o i];exact wpAny_operating (wpAny_mono h₂ (λ r s₃ h₃=>Ab (wpAny_letTemporaryGo (Ad h₃))) λ _ _ x=>x)
 first
  | exact Ad (Ab fin)
  | exact Ab (Ad (Ab fin))
  | exact Ab fin
def Pc {X:Cx}{pins:List (Addr×Obj)}{B:St}{H:Hp}{s:Shared}{a:Addr}{y:V}{o:Option V}(I:Inv X pins B H s) (g:sR H a y o):s.TypeIs (.ref a) "dict":=by
 rcases g with ⟨Aa,k,e,_,_⟩ | ⟨Aa,k,b,e,_,_,_⟩
 .obtain⟨_,_,vs,_,dd⟩:=pZ I.zx e;exact dd.typeIs
 .obtain⟨_,_,xs,_,dd⟩:=mz I.zx e;exact dd.typeIs
def Wa (td ty:TE):TE:=fun B H Q=>td B H λ x H1=>ty B H1 λ y H2=>∃ a v,x=.ref a/\sR H2 a y (some v)/\Q v H2
def WH (td ty tv:TE):TS:=λ D B H=>tv B H λ v H1=>td B H1 λ x H2=>ty B H2 λ y H3=>∃ a H4,x=.ref a/\lF H3 a y v H4/\D.nx B H4
section
variable {X:Cx}{o i e value:Expr}{pos pos' tpos:Pos}{td ty tv:TE}
def V_ (hu:X.A.units+1<cLine) (ho:PE X o td) (hi:PE X i ty) (hs:ez i):PE X (.Subscript o i pos) (Wa td ty):=by
 intro pins s B H Q I h;refine Wd PySem.F.slot_dict_getitem.lookup hs (zG (ho pins s B H _ I h) λ u s1 ⟨x,H1,I1,rx,q1⟩=>zG (hi pins s1 B H1 _ I1 q1) λ iv s2 ⟨y,H2,I2,ry,a,v,ex,g,q2⟩=>?_);subst ex;obtain rfl:u=Value.ref a:=rx;exact⟨Pc I2 g,Ph hu I2 g ry λ w' s3 I3 rw'=>⟨v,H2,I3,rw',q2⟩⟩
def Vy (hu:X.A.units+1<cLine) (ho:PE X o td) (hi:PE X i ty) (hv:PE X value tv) (hs:swapsWith value (some (.Subscript o i pos')) pos.line X.env=pure false):
  PS X (.Assign [.Subscript o i pos'] value pos) (WH td ty tv):=by
 intro pins s B H D I h;refine wpAny_Assign_Subscript (zG (hv pins s B H _ I h) λ r s1 ⟨v,H1,I1,rv,q1⟩=>zG (ho pins s1 B H1 _ I1 q1) λ u s2 ⟨x,H2,I2,rx,q2⟩=>zG (hi pins s2 B H2 _ I2 q2) λ iv s3 ⟨y,H3,I3,ry,a,H4,ex,g,q3⟩=>?_) hs;subst ex;obtain rfl:u=Value.ref a:=rx;exact Pf hu I3 g ry rv λ s4 I4=>⟨B,H4,I4,q3⟩
end
def Pb {P:Program}{w:World}{H:Hp}(h:Heap) (hb:sysModules<h.objs.size):xg P w H (h.push { cls:=.type "dict",data:=.dict #[] }) h.objs.size (.dK []):=
 ⟨AN _,beq_eq_false_iff_ne.mpr (Ne.symm (Aw hb)),[],.nil,Heap.DictOf.new h⟩
def XZ:TE:=λ _ H Q=>∀ p,H p=none->Q (.ref p) (upd H p (.dK []))
section
variable {X:Cx}{pos:Pos}
def VY:PE X (.Dict [] [] pos) XZ:=λ pins s B H Q I h=>
 wpAny_Dict_empty ⟨.ref s.heap.objs.size,_,I.laid (a:=s.heap.objs.size) (o:=.dK []) (t':=s.toks) (λ _ _ q=>Ao _ q) (Ag _) (Pb s.heap I.big),rfl,h _ (I.zx.fresh (Ag _))⟩
end
structure M2 (X:Cx) (o:Expr) (m:Str) (apos:Pos) (e f:Expr) (Aj:Pos):Prop where
 base:attributeBase o m X.env (eval o X.env)=eval o X.env
 mh:((backTo Aj (starEach [e,f] X.env)).all (λ x=>!x.1)&&(backToKw Aj (keywordEach [] X.env)).all (λ x=>x.1.isSome)
  && decide (([e,f]:List Expr).length+([]:List Keyword).length+(if ([]:List Keyword).isEmpty then 0 else 1)<30))=true
 line:(apos.endLine == Aj.line)=true
 trees:backTo Aj (starEach [e,f] X.env)=[(false,eval e X.env),(false,eval f X.env)]
def YC (H:Hp) (a:Addr):Prop:=(∃ Aa,Rd H a (.dK Aa))\/∃ Aa,Rd H a (.dT Aa)
def RZ {X:Cx}{pins:List (Addr×Obj)}{B:St}{H:Hp}{s:Shared}{a:Addr}(I:Inv X pins B H s) (d:YC H a):
  s.TypeIs (.ref a) "dict"/\(∀ b,Value.ref a=.ref b->∃ ob,s.heap.get? b=some ob/\ob.dict=none)/\(a == sysModules)=false:=by
 rcases d with ⟨Aa,e⟩ | ⟨Aa,e⟩
 .obtain⟨_,hd,vs,_,dd⟩:=pZ I.zx e;refine⟨dd.typeIs,λ b q=>?_,hd⟩;cases q;obtain⟨ob,_,_,h1,h2,_⟩:=dd;exact⟨ob,h1,h2.2.1⟩
 .obtain⟨_,hd,xs,_,dd⟩:=mz I.zx e;refine⟨dd.typeIs,λ b q=>?_,hd⟩;cases q;obtain⟨ob,_,_,h1,h2,_⟩:=dd;exact⟨ob,h1,h2.2.1⟩
section
variable {X:Cx}{pins:List (Addr×Obj)}{B:St}{H:Hp}{s:Shared}{a:Addr}{y d:V}{u r:Value}{o:Option V}{A:Around}{E:Value->Shared->Prop}
def Pj {Q:Value->Shared->Prop}(hu:A.units+1<cLine) (I:Inv X pins B H s) (g:sR H a y o) (ry:RelV y u) (rd:RelV d r) (h:∀ w' s',Inv X pins B H s'->RelV (o.getD d) w'->Q w' s'):
  wpAny (model X.prog X.w) A (call (.builtin "dict.get") [.ref a,u,r]) Q E s:=by
 rcases g with ⟨Aa,k,e,ey,l⟩ | ⟨Aa,k,b,e,ey,eb,l⟩
 .subst ey;obtain⟨z,hd,vs,rel,dd⟩:=pZ I.zx e;refine call_meetsIn PySem.F.slot_dict_get dd.typeIs PySem.F.entry_dict_get (PySem.F.args_dict_get_3 _ _ _) (meets_dict_get_default (wV X.prog X.w) a (kE ry) hd r) ⟨_,dd.mapOf,h _ _ (I.tok _) ?_⟩;rw[l];exact (rel.val k).getD rd
 .subst ey;cases (show u=Value.ref b from ry);obtain⟨z,hd,xs,rel,dd⟩:=mz I.zx e;refine call_meetsIn PySem.F.slot_dict_get dd.typeIs PySem.F.entry_dict_get (PySem.F.args_dict_get_3 _ _ _) (meetsH_dict_get_default (tupleKind (wV X.prog X.w)) a b hd r) ⟨tupleKind_room_in1 hu,k,xs,kD I.zx eb,dd,h _ _ (I.tok _) ?_⟩;rw[l];exact (rel.val k).getD rd
end
def X_ (td ty tx:TE):TE:=fun B H Q=>td B H λ x H1=>∃ a,x=.ref a/\YC H1 a/\ty B H1 λ y H2=>tx B H2 λ z H3=>∃ o,sR H3 a y o/\Q (o.getD z) H3
section
variable {X:Cx}{o e f:Expr}{apos Aj:Pos}{td ty tx:TE}
def VZ (hu:X.A.units+1<cLine) (ho:PE X o td) (he:PE X e ty) (hf:PE X f tx) (m:M2 X o "get" apos e f Aj):PE X (.Call (.Attribute o "get" apos) [e,f] [] Aj) (X_ td ty tx):=by
 intro pins s B H Q I h;refine wpAny_Call_method m.base m.mh m.line PySem.F.plainAttrs_dict PySem.F.slot_dict_get PySem.F.type_dict_get (zG (ho pins s B H _ I h) λ u s1 ⟨x,H1,I1,rx,a,ex,d,q1⟩=>?_);subst ex;obtain rfl:u=Value.ref a:=rx;obtain⟨t1,t2,_⟩:=RZ I1 d;refine⟨t1,t2,?_⟩;rw[m.trees];refine Calls.callWith_builtin rfl (Calls.evalArgs_plain (Calls.spliced_cons (zG (he pins s1 B H1 _ I1 q1) λ iv s2 ⟨y,H2,I2,ry,q2⟩=>
  Calls.spliced_cons (zG (hf pins s2 B H2 _ I2 q2) λ fv s3 ⟨z,H3,I3,rz,ov,g,q3⟩=>Calls.spliced_nil ?_))))
 exact Pj hu I3 g ry rz λ w' s4 I4 rw'=>⟨_,H3,I4,rw',q3⟩
end
section
variable {X:Cx}{pins:List (Addr×Obj)}{B:St}{H:Hp}{s:Shared}{a:Addr}{Aa:List (Key×V)}{A:Around}{E:Value->Shared->Prop}
end
section
variable {X:Cx}{pins:List (Addr×Obj)}{B:St}{H:Hp}{s:Shared}{a:Addr}{y:V}{u:Value}{A:Around}{E:Value->Shared->Prop}
end
end L2
namespace L3
open PySem PySem.Spec L2
open PyProof.Rows hiding St
noncomputable def vY (Aa:List (Key×D)) (k:Key):Option D:=(Aa.find? λ kv=>decide (kv.1=k)).map (·.2)
noncomputable def putD (Aa:List (Key×D)) (k:Key) (v:D):List (Key×D):=
 if (Aa.any λ kv=>decide (kv.1=k))=true then Aa.map (λ kv=>if kv.1=k then (kv.1,v) else kv) else Aa++[(k,v)]
section
variable {K:Ac}{H:Hp}
theorem xa.val:∀ {Aa:List (Key×D)}{vs:List (Key×V)},xa K H Aa vs->∀ k,(vY Aa k=none/\wA vs k=none)\/∃ d v,vY Aa k=some d/\wA vs k=some v/\zg K H d v
 | _,_,.nil,k=>.inl ⟨rfl,rfl⟩
 | (a,d)::Aa,(b,v)::vs,.cons ⟨e,r⟩ t,k=>by
  have e':a=b:=e;subst e';by_cases h:a=k
  .subst h;exact .inr ⟨d,v,by simp[vY],by simp[wA],r⟩
  .rcases xa.val t k with ⟨h1,h2⟩ | ⟨d',v',h1,h2,h3⟩
   .exact .inl ⟨by simpa [vY,h] using h1,by simpa [wA,h] using h2⟩
   .exact .inr ⟨d',v',by simpa [vY,h] using h1,by simpa [wA,h] using h2,h3⟩
theorem xa.any {Aa:List (Key×D)}{vs:List (Key×V)}(h:xa K H Aa vs) (k:Key):(Aa.any λ kv=>decide (kv.1=k))=vs.any λ kv=>decide (kv.1=k):=by
 induction h with
 | nil=>rfl
 | cons r _ ih=>rw[Br,Br,ih,r.1]
def xa.len {Aa:List (Key×D)}{vs:List (Key×V)}(h:xa K H Aa vs):Aa.length=vs.length:=Paired.length h
theorem xa.tq {k:Key}{d:D}{v:V}(r:zg K H d v):∀ {Aa:List (Key×D)}{vs:List (Key×V)},xa K H Aa vs->xa K H (Aa.map λ kv=>if kv.1=k then (kv.1,d) else kv) (vs.map λ kv=>if kv.1=k then (kv.1,v) else kv)
 | _,_,.nil=>.nil
 | (a1,a2)::_,(b1,b2)::_,.cons ⟨e,q⟩ t=>by
  have e':a1=b1:=e;subst e';refine .cons ?_ (xa.tq r t);by_cases hk:a1=k
  .simp[hk,r]
  .simpa [hk] using q
theorem xa.snoc {k:Key}{d:D}{v:V}(r:zg K H d v):∀ {Aa:List (Key×D)}{vs:List (Key×V)},xa K H Aa vs->xa K H (Aa++[(k,d)]) (vs++[(k,v)])
 | _,_,.nil=>.cons ⟨rfl,r⟩ .nil
 | _,_,.cons q t=>.cons q (xa.snoc r t)
def xa.put {Aa:List (Key×D)}{vs:List (Key×V)}(h:xa K H Aa vs) (k:Key) {d:D}{v:V}(r:zg K H d v):xa K H (putD Aa k d) (putK vs k v):=by
 unfold putD putK;rw[h.any k];split
 .exact xa.tq r h
 .exact xa.snoc r h
end
section
variable {X:Cx}{K:Ac}{o i e f v:Expr}{td ty tx tv:zq}{pos pos' apos Aj:Pos}
def Z_:zq:=λ _ S Q=>∀ p,S p=none->Q (.ref p) (ups S p (.yg []))
def U3:PD X (.Dict [] [] pos) Z_:=by
 refine⟨λ _ _ _ _ hq z p hp=>hq _ _ (z p hp),PE.imp VY fun B H Q hu p hp=>?_⟩;obtain⟨Y,S,r1,r2,z⟩:=hu;exact z p (r2.none hp) _ _ (by simp only[zg]) (.new hp _) (r2.ups (.new hp _) ⟨[],yL,.nil⟩)
def Yc (td ty:zq):zq:=fun Y S Q=>td Y S λ x S1=>ty Y S1 λ y S2=>∃ p Aa k d,x=.ref p/\y=.int k/\S2 p=some (.yg Aa)/\vY Aa (.inl k)=some d/\Q d S2
def bH {k:Nat}(hr:yF k X.A) (ho:PD X o td) (hi:PD X i ty) (hs:ez i:=by exact λ _ _=>rfl):PD X (.Subscript o i pos) (Yc td ty):=by
 refine⟨fun Y S Q Q' hq z=>ho.mo Y S _ _ (λ x S1 z=>hi.mo Y S1 _ _ (λ y S2 ⟨p,Aa,k,d,a,b,c,e,h⟩=>⟨p,Aa,k,d,a,b,c,e,hq _ _ h⟩) z) z,PE.imp (V_ (gN hr) ho.pe hi.pe hs) fun B H Q hu=>?_⟩;obtain⟨Y,S,r1,r2,z⟩:=hu;refine zP.go ho.mo r1 r2 z λ x S1 w H1 h1 q1 e1 p1=>?_;refine zP.go hi.mo (r1.ext e1) p1 h1 λ y S2 w2 H2 h2 q2 e2 p2=>?_;obtain⟨p,Aa,k,d,rfl,rfl,c1,c2,h⟩:=h2;simp only[zg] at q1 q2;subst q1 q2;obtain⟨vs,g1,g2⟩:=p2 _ _ c1;rcases xa.val g2 (.inl k) with ⟨n1,_⟩ | ⟨d',v',n1,n2,n3⟩
 .rw[c2] at n1;cases n1
 .rw[c2] at n1;cases n1;exact⟨p,v',rfl,n2▸sR.k (k:=Sum.inl k) g1,h v' H2 n3 (e1.trans e2) p2⟩
def Yb (td ty tx:zq):zq:=fun Y S Q=>td Y S λ x S1=>∃ p,x=.ref p/\(∃ Aa,S1 p=some (.yg Aa))/\ty Y S1 λ y S2=>tx Y S2 λ z S3=>∃ k Aa,y=.int k/\S3 p=some (.yg Aa)/\Q ((vY Aa (.inl k)).getD z) S3
def U4 {k:Nat}(hr:yF k X.A) (ho:PD X o td) (he:PD X e ty) (hf:PD X f tx) (m:M2 X o "get" apos e f Aj:=by exact⟨rfl,rfl,rfl,rfl⟩):PD X (.Call (.Attribute o "get" apos) [e,f] [] Aj) (Yb td ty tx):=by
 refine⟨fun Y S Q Q' hq z=>ho.mo Y S _ _ (λ x S1 ⟨p,a,b,z⟩=>⟨p,a,b,he.mo Y S1 _ _ (λ y S2 z=>hf.mo Y S2 _ _ (λ w S3 ⟨k,Aa,a,b,h⟩=>⟨k,Aa,a,b,hq _ _ h⟩) z) z⟩) z,PE.imp (VZ (gN hr) ho.pe he.pe hf.pe m) fun B H Q hu=>?_⟩;obtain⟨Y,S,r1,r2,z⟩:=hu;refine zP.go ho.mo r1 r2 z λ x S1 w H1 h1 q1 e1 p1=>?_;obtain⟨p,rfl,⟨kvs0,c0⟩,h1⟩:=h1;simp only[zg] at q1;subst q1;obtain⟨vs0,g0,_⟩:=p1 _ _ c0;refine⟨p,rfl,.inl ⟨vs0,.inl g0⟩,?_⟩;refine zP.go he.mo (r1.ext e1) p1 h1 λ y S2 w2 H2 h2 q2 e2 p2=>?_;refine zP.go hf.mo ((r1.ext e1).ext e2) p2 h2 λ y3 S3 w3 H3 h3 q3 e3 p3=>?_;obtain⟨k,Aa,rfl,c1,h⟩:=h3;simp only[zg] at q2;subst q2;obtain⟨vs,g1,g2⟩:=p3 _ _ c1;refine⟨wA vs (.inl k),sR.k (k:=Sum.inl k) g1,?_⟩;rcases xa.val g2 (.inl k) with ⟨n1,n2⟩ | ⟨d',v',n1,n2,n3⟩
 .rw[n1] at h;rw[n2];exact h _ H3 q3 ((e1.trans e2).trans e3) p3
 .rw[n1] at h;rw[n2];exact h _ H3 n3 ((e1.trans e2).trans e3) p3
def Ya (td ty tv:zq):yO:=λ E Y S=>tv Y S λ v S1=>td Y S1 λ x S2=>ty Y S2 λ y S3=>∃ p Aa k,x=.ref p/\y=.int k/\S3 p=some (.yg Aa)/\Aa.length<sizeLine/\E.nx Y (ups S3 p (.yg (putD Aa (.inl k) v)))
theorem Ext.dK {H:Hp}{p:Addr}{Aa:List (Key×V)}(h:H p=some (.dK Aa)) (o:HO):Ext H (upd H p o):=
 ⟨λ b ys q=>by rw[yG (nJ q h (by intro z;cases z))];exact q,λ b ob u q=>by rw[yG (nJ q h (by intro z;cases z))];exact q⟩
def Uk {k:Nat}(hr:yF k X.A) (ho:PD X o td) (hi:PD X i ty) (hv:PD X v tv) (hs:swapsWith v (some (.Subscript o i pos')) pos.line X.env=pure false:=by rfl):vA X (.Assign [.Subscript o i pos'] v pos) (Ya td ty tv):=by
 refine⟨λ E E' Y S hE z=>hv.mo Y S _ _ (λ w S1 z=>ho.mo Y S1 _ _ (λ x S2 z=>hi.mo Y S2 _ _ (λ y S3 ⟨p,Aa,k,a,b,c,d,h⟩=>⟨p,Aa,k,a,b,c,d,hE.nx _ _ h⟩) z) z) z,PS.imp (Vy (gN hr) ho.pe hi.pe hv.pe hs) λ D B H hu=>?_⟩;obtain⟨Y,S,r1,r2,z⟩:=hu;refine zP.go hv.mo r1 r2 z λ w S1 w1 H1 h1 q1 e1 p1=>?_;refine zP.go ho.mo (r1.ext e1) p1 h1 λ x S2 w2 H2 h2 q2 e2 p2=>?_;refine zP.go hi.mo ((r1.ext e1).ext e2) p2 h2 λ y S3 w3 H3 h3 q3 e3 p3=>?_;obtain⟨p,Aa,k,rfl,rfl,c1,c2,h⟩:=h3;simp only[zg] at q2 q3;subst q2 q3;obtain⟨vs,g1,g2⟩:=p3 _ _ c1;have e4:Ext H3 (upd H3 p (.dK (putK vs (.inl k) w1))):=.dK g1 _;refine⟨p,_,rfl,lF.k (k:=Sum.inl k) g1 (by rw[<- g2.len];exact c2),?_⟩;exact h B _ ((((r1.ext e1).ext e2).ext e3).ext e4) (((e1.trans e2).trans e3).trans e4) (p3.ups e4 ⟨_,yL,(xa.put g2 _ (zg.ext (e2.trans e3) w q1)).ext e4⟩)
def Oa:yK X (.builtin "len") (λ xs H Q=>∃ p Aa,xs=[.ref p]/\H p=some (.dK Aa)/\Q (.int Aa.length) H):=by
 intro pins s B H xs us Q I r h;obtain⟨p,Aa,rfl,e,q⟩:=h;obtain⟨u,rfl,ru⟩:=vals1 r;cases ru;exact Pg I (.inl e) λ t s' I'=>⟨.int _,H,I',⟨_,rfl⟩,q⟩
def Z7:x9:=λ ds S Q=>∃ p Aa,ds=[.ref p]/\S p=some (.yg Aa)/\Q (.int Aa.length) S
def U1 {es:List Expr}{tA:yp}{p:Pos}(hm:X.mg "len"=none) (ha:xA X (e::es) tA) (hg:Gl X "len":=by rfl) (he:starEach (e::es) X.env=(false,eval e X.env)::starEach es X.env:=by rfl) (Aq:(backTo pos (starEach es X.env)).any (·.1)=false:=by rfl):PD X (.Call (.Name "len" p) (e::es) [] pos) (xK Z7 tA):=
 tw (se Oa hg hm PySem.boot_len ha.pa (by decide) (by decide) he Aq) (λ _ _ _ _ hq ⟨p,Aa,a,b,h⟩=>⟨p,Aa,a,b,hq _ _ h⟩) (λ xs ds H S Q h0 h2 ⟨p,Aa,a,b,h⟩=>by
  subst a;obtain⟨x,rfl,h1⟩:=h0.one;simp only[zg] at h1;subst h1;obtain⟨vs,g1,g2⟩:=h2 _ _ b;refine⟨p,vs,rfl,g1,?_⟩;rw[<- g2.len];exact h _ H (by simp only[zg]) (.refl H) h2) ha.mo
end
end L3
namespace L3
open PySem L2
section
variable {S S':SS}
mutual
theorem Sn.sx (h:Sx S S'):∀ (t:T) {d:D},Sn S t d->Sn S' t d
 | .zi,d,q=>by simpa only [Sn] using q
 | .bl b,d,q=>by simpa only [Sn] using q
 | .int i,d,q=>by simpa only [Sn] using q
 | .str x,d,q=>by simpa only [Sn] using q
 | .tup ts,d,q=>by
  simp only[Sn] at q ⊢;obtain⟨ds,q1,q2⟩:=q;exact⟨ds,q1,zl.sx h ts q2⟩
 | .lst ts,d,q=>by
  simp only[Sn] at q ⊢;obtain⟨ds,q1,q2⟩:=q;refine⟨ds,?_,zl.sx h ts q2⟩;rcases q1 with q1 | ⟨a,q1,q3⟩
  .exact .inl q1
  .exact .inr ⟨a,q1,h _ _ q3⟩
 | .zT,d,q=>by
  simp only[Sn] at q ⊢;obtain⟨a,Aa,q1,q2⟩:=q;exact⟨a,Aa,q1,h _ _ q2⟩
theorem zl.sx (h:Sx S S'):∀ (ts:List T) {ds:List D},zl S ts ds->zl S' ts ds
 | [],ds,q=>by simpa only [zl] using q
 | t::ts,ds,q=>by
  simp only[zl] at q ⊢;obtain⟨c,cs,q1,q2,q3⟩:=q;exact⟨c,cs,q1,Sn.sx h t q2,zl.sx h ts q3⟩
end
def zl.nil:zl S [] []:=by simp only[zl]
def zl.cons {t:T}{ts:List T}{d:D}{ds:List D}(h:Sn S t d) (h':zl S ts ds):zl S (t::ts) (d::ds):=by
 simp only[zl];exact⟨d,ds,rfl,h,h'⟩
theorem zl.append:∀ {ts us:List T}{ds es:List D},zl S ts ds->zl S us es->zl S (ts++us) (ds++es)
 | [],us,ds,es,h,h'=>by simp only[zl] at h;subst h;simpa using h'
 | t::ts,us,ds,es,h,h'=>by
  simp only[zl] at h;obtain⟨c,cs,rfl,h1,h2⟩:=h;exact zl.cons h1 (zl.append h2 h')
theorem zl.g_:∀ {ts:List T}{ds:List D}{i:Nat}{t:T},zl S ts ds->ts[i]?=some t->∃ d,ds[i]?=some d/\Sn S t d
 | [],_,i,t,_,e=>by simp at e
 | u::ts,ds,i,t,h,e=>by
  simp only[zl] at h;obtain⟨c,cs,rfl,h1,h2⟩:=h;cases i with
  | zero=>simp at e;subst e;exact⟨c,rfl,h1⟩
  | succ i=>
   obtain⟨y,e1,e2⟩:=zl.g_ (i:=i) h2 (by simpa using e);exact⟨y,by simpa using e1,e2⟩
theorem zl.fj:∀ {ts:List T}{ds:List D}{i:Nat}{d:D},zl S ts ds->ds[i]?=some d->∃ t,ts[i]?=some t/\Sn S t d
 | [],ds,i,t,h,e=>by simp only[zl] at h;subst h;simp at e
 | u::ts,ds,i,t,h,e=>by
  simp only[zl] at h;obtain⟨c,cs,rfl,h1,h2⟩:=h;cases i with
  | zero=>simp at e;subst e;exact⟨u,rfl,h1⟩
  | succ i=>
   obtain⟨y,e1,e2⟩:=zl.fj (i:=i) h2 (by simpa using e);exact⟨y,by simpa using e1,e2⟩
def zl.len {ts:List T}{ds:List D}(h:zl S ts ds):ds.length=ts.length:=(L3.zl.length h).symm
theorem zl.at {ts:List T}{ds:List D}{i:Int}{t:T}(h:zl S ts ds) (e:L2.zN ts i=some t):∃ d,L2.zN ds i=some d/\Sn S t d:=by
 unfold L2.zN at e ⊢;rw[h.len];cases q:L2.vh ts.length i with
 | none=>rw[q] at e;cases e
 | some j=>
  rw[q] at e;exact h.g_ e
theorem zl.cI:∀ {ts:List T}{ds:List D}{t:T}{d:D}(i:Nat),zl S ts ds->Sn S t d->zl S (ts.set i t) (ds.set i d)
 | [],ds,t,d,i,h,_=>by simp only[zl] at h;subst h;simpa using zl.nil
 | u::ts,ds,t,d,0,h,hd=>by
  simp only[zl] at h;obtain⟨c,cs,rfl,h1,h2⟩:=h;exact zl.cons hd h2
 | u::ts,ds,t,d,i+1,h,hd=>by
  simp only[zl] at h;obtain⟨c,cs,rfl,h1,h2⟩:=h;exact zl.cons h1 (zl.cI i h2 hd)
def zl.empty {ts:List T}{ds:List D}(h:zl S ts ds):ds.isEmpty=ts.isEmpty:=by
 have:=h.len;cases ds <;> cases ts <;> simp_all
end
end L3
namespace L5
open PySem L2 L3
noncomputable def zK (S:SS) (Z:Addr->Prop):SS:=open Classical in λ a=>if Z a then none else S a
section
variable {S S' S1:SS}{Z Z':Addr->Prop}{a p:Addr}
def uk (h:¬ Z a):zK S Z a=S a:=if_neg h
def gO (h:Z a):zK S Z a=none:=if_pos h
def uM {o:O}(h:zK S Z a=some o):¬ Z a/\S a=some o:=by
 by_cases z:Z a
 .rw[gO z] at h;cases h
 .rw[uk z] at h;exact⟨z,h⟩
def pS (S:SS) (Z:Addr->Prop):Sx (zK S Z) S:=λ _ _ h=>(uM h).2
def wX (h:Sx S S'):Sx (zK S Z) (zK S' Z):=λ b o q=>by
 obtain⟨q1,q2⟩:=uM q;rw[uk q1];exact h _ _ q2
def tG (h:∀ a,Z' a->Z a):Sx (zK S Z) (zK S Z'):=λ b o q=>by
 obtain⟨q1,q2⟩:=uM q;rw[uk (λ z=>q1 (h _ z))];exact q2
def pT (h:Sx S S') (hp:S p=none):Sx (zK S Z) (zK S' λ a=>Z a\/a=p):=λ b o q=>by
 obtain⟨q1,q2⟩:=uM q;rw[uk]
 .exact h _ _ q2
 .rintro (z | z)
  .exact q1 z
  .subst z;rw[hp] at q2;cases q2
def Ql {o:O}(h:Z p):zK (ups S p o) Z=zK S Z:=by
 funext b;by_cases z:Z b
 .rw[gO z,gO z]
 .rw[uk z,uk z,tW (λ e=>z (by rw[e];exact h))]
end
inductive C where
 | lst (ts:List T) | yg (Aa:List (Key×T))
noncomputable def y8 (S:SS):List (Key×T)->List (Key×D)->Prop
 | [],l=>l=[]
 | (k,t)::r,l=>∃ d m,l=(k,d)::m/\Sn S t d/\y8 S r m
theorem y8.sx {S S':SS}(h:Sx S S'):∀ {a:List (Key×T)}{b:List (Key×D)},y8 S a b->y8 S' a b
 | [],_,q=>q
 | (k,t)::r,_,q=>by
  obtain⟨d,m,q1,q2,q3⟩:=q;exact⟨d,m,q1,Sn.sx h t q2,y8.sx h q3⟩
noncomputable def tS (S:SS):C->O->Prop
 | .lst ts,.lst ds=>zl S ts ds
 | .yg a,.yg b=>y8 S a b
 | _,_=>False
theorem tS.sx {S S':SS}(h:Sx S S'):∀ {c:C}{o:O},tS S c o->tS S' c o
 | .lst ts,.lst ds,q=>zl.sx h ts q
 | .yg a,.yg b,q=>y8.sx h q
inductive W where
 | im (t:T) | own (c:C)
abbrev Ev:=List (Option W)
structure ER (S:SS) (Z:Addr->Prop) (Y:ym) (J:Ev):Prop where
 zd:∀ a,Z a->S a≠none
 im:∀ (i:Nat) t,J[i]?=some (some (.im t))->∃ d,Y[i]?=some (some d)/\Sn (zK S Z) t d
 ow:∀ (i:Nat) c,J[i]?=some (some (.own c))->∃ p o,Y[i]?=some (some (.ref p))/\S p=some o/\tS (zK S Z) c o/\Z p
def Vw (S:SS) (Z:Addr->Prop) (y:T) (d:D):Prop:=Sn (zK S Z) y d\/∃ ts p ds,y=.lst ts/\d=.ref p/\S p=some (.lst ds)/\zl (zK S Z) ts ds/\Z p
abbrev Rk:=SS->SS->(Addr->Prop)->T->D->Prop
def Y3:Rk:=λ _ S' Z y d=>Vw S' Z y d
def we:Rk:=λ _ S' Z y d=>Sn (zK S' Z) y d
def zH:Rk:=λ S S' Z y d=>Sn (zK S' Z) y d/\∀ ts,y=.lst ts->∃ p ds,d=.ref p/\S p=none/\S' p=some (.lst ds)/\zl (zK S' λ a=>Z a\/a=p) ts ds
class Cl (R:Rk):Prop where
 cl:∀ {S S1 S':SS}{Z:Addr->Prop}{y:T}{d:D},Sx S S1->R S1 S' Z y d->R S S' Z y d
 of:∀ {S S':SS}{Z:Addr->Prop}{y:T}{d:D},(∀ ts,y≠.lst ts)->Sn (zK S' Z) y d->R S S' Z y d
instance:Cl Y3:=⟨λ _ h=>h,λ _ h=>.inl h⟩
instance:Cl we:=⟨λ _ h=>h,λ _ h=>h⟩
instance:Cl zH:=⟨λ s h=>⟨h.1,λ ts e=>by
 obtain⟨p,ds,h1,h2,h3⟩:=h.2 ts e;exact⟨p,ds,h1,s.none h2,h3⟩⟩,λ n h=>⟨h,λ ts e=>absurd e (n ts)⟩⟩
section
variable {S S' S1:SS}{Z Z':Addr->Prop}{Y:ym}{J:Ev}{y:T}{d:D}
def ER.grow (h:ER S Z Y J) (s:Sx S S'):ER S' Z Y J:=
 ⟨λ a z q=>h.zd a z (s.none q),λ i t e=>by
  obtain⟨d,h1,h2⟩:=h.im i t e;exact⟨d,h1,Sn.sx (wX s) t h2⟩,λ i ts e=>by
  obtain⟨p,ds,h1,h2,h3,h4⟩:=h.ow i ts e;exact⟨p,ds,h1,s _ _ h2,tS.sx (wX s) h3,h4⟩⟩
def Vw.grow (h:Vw S Z y d) (s:Sx S S'):Vw S' Z y d:=by
 rcases h with h | ⟨ts,p,ds,h1,h2,h3,h4,h5⟩
 .exact .inl (Sn.sx (wX s) y h)
 .exact .inr ⟨ts,p,ds,h1,h2,s _ _ h3,zl.sx (wX s) ts h4,h5⟩
def Vw.sn (h:Vw S Z y d):Sn S y d:=by
 rcases h with h | ⟨ts,p,ds,rfl,rfl,h3,h4,_⟩
 .exact Sn.sx (pS S Z) y h
 .simp only[Sn];exact⟨ds,.inr ⟨p,rfl,h3⟩,zl.sx (pS S Z) ts h4⟩
theorem Vw.zi (h:Vw S Z .zi d):d=.zi:=by
 rcases h with h | ⟨_,_,_,h,_⟩
 .simpa only [Sn] using h
 .cases h
theorem Vw.bl {b:Bool}(h:Vw S Z (.bl b) d):d=.bl b:=by
 rcases h with h | ⟨_,_,_,h,_⟩
 .simpa only [Sn] using h
 .cases h
theorem Vw.int {b:Int}(h:Vw S Z (.int b) d):d=.int b:=by
 rcases h with h | ⟨_,_,_,h,_⟩
 .simpa only [Sn] using h
 .cases h
theorem Vw.str {b:Str}(h:Vw S Z (.str b) d):d=.str b:=by
 rcases h with h | ⟨_,_,_,h,_⟩
 .simpa only [Sn] using h
 .cases h
theorem Vw.tup {ts:List T}(h:Vw S Z (.tup ts) d):∃ ds,d=.tup ds/\zl (zK S Z) ts ds:=by
 rcases h with h | ⟨_,_,_,h,_⟩
 .simpa only [Sn] using h
 .cases h
theorem Vw.lst {ts:List T}(h:Vw S Z (.lst ts) d):∃ ds,(d=.yH ds\/∃ a,d=.ref a/\S a=some (.lst ds))/\zl (zK S Z) ts ds:=by
 rcases h with h | ⟨us,p,ds,h1,h2,h3,h4,_⟩
 .simp only[Sn] at h;obtain⟨ds,h1,h2⟩:=h;refine⟨ds,?_,h2⟩;rcases h1 with h1 | ⟨a,h1,h3⟩
  .exact .inl h1.1
  .exact .inr ⟨a,h1,(uM h3).2⟩
 .cases h1;exact⟨ds,.inr ⟨p,h2,h3⟩,h4⟩
noncomputable def xF:T->Option (List T)
 | .tup ts=>some ts
 | .lst ts=>some ts
 | _=>none
@[simp] theorem zab (ts:List T):xF (.tup ts)=some ts:=rfl
@[simp] theorem zac (ts:List T):xF (.lst ts)=some ts:=rfl
def Vw.seq {ts:List T}(h:Vw S Z y d) (e:xF y=some ts):∃ ds,zL d S=some ds/\zl (zK S Z) ts ds:=by
 cases y with
 | tup us=>cases e;obtain⟨ds,rfl,h2⟩:=h.tup;exact⟨ds,rfl,h2⟩
 | lst us=>
  cases e;obtain⟨ds,h1 | ⟨a,rfl,h1⟩,h2⟩:=h.lst
  .subst h1;exact⟨ds,rfl,h2⟩
  .exact⟨ds,by unfold zL;dsimp only;rw[h1],h2⟩
 | zi=>cases e
 | bl _=>cases e
 | int _=>cases e
 | str _=>cases e
 | zT=>cases e
theorem Vw.zT (h:Vw S Z .zT d):∃ a Aa,d=.ref a/\S a=some (.yg Aa):=by
 rcases h with h | ⟨_,_,_,h,_⟩
 .simp only[Sn] at h;obtain⟨a,Aa,h1,h2⟩:=h;exact⟨a,Aa,h1,(uM h2).2⟩
 .cases h
def jR:Sn S .zi .zi:=by simp only[Sn]
def vv {b:Bool}:Sn S (.bl b) (.bl b):=by simp only[Sn]
def xX {i:Int}:Sn S (.int i) (.int i):=by simp only[Sn]
def cE {x:Str}:Sn S (.str x) (.str x):=by simp only[Sn]
def qZ {ts:List T}{ds:List D}(h:zl S ts ds):Sn S (.tup ts) (.tup ds):=by simp only[Sn];exact⟨ds,rfl,h⟩
def ra {ts:List T}{ds:List D}{p:Addr}(hz:∀ a,Z a->S a≠none) (hp:S p=none) (h:zl (zK S Z) ts ds):zH S (ups S p (.lst ds)) Z (.lst ts) (.ref p):=by
 have nz:¬ Z p:=λ z=>hz p z hp;have s:Sx S (ups S p (.lst ds)):=.new hp _;refine⟨?_,λ us e=>?_⟩
 .simp only[Sn];exact⟨ds,.inr ⟨p,rfl,by rw[uk nz,sU]⟩,zl.sx (wX s) ts h⟩
 .cases e;exact⟨p,ds,rfl,hp,sU,zl.sx (pT s hp) ts h⟩
end
def xB (R:Rk) (f:Ev->Option T) (t:zq):Prop:=∀ S Z Y J y Q,ER S Z Y J->f J=some y->(∀ d S',Sx S S'->R S S' Z y d->Q d S')->t Y S Q
abbrev vB:=xB we
abbrev yz:=xB Y3
abbrev xC:=xB zH
def xB.imp {R R':Rk}{f:Ev->Option T}{t:zq}(h:xB R f t) (i:∀ S S' Z y d,R S S' Z y d->R' S S' Z y d):xB R' f t:=λ S Z Y J y Q hE e hq=>h S Z Y J y Q hE e λ d S' s r=>hq d S' s (i _ _ _ _ _ r)
def xB.er {f:Ev->Option T}{t:zq}(h:vB f t):yz f t:=h.imp λ _ _ _ _ _ r=>.inl r
def xB.fe {f:Ev->Option T}{t:zq}(h:xC f t):vB f t:=h.imp λ _ _ _ _ _ r=>r.1
def xB.fr {f:Ev->Option T}{t:zq}(h:xC f t):yz f t:=h.fe.er
@[simp] noncomputable def zp (i:Nat):Ev->Option T:=fun J=>match J[i]? with
 | some (some (.im t))=>some t
 | _=>none
@[simp] noncomputable def zf (i:Nat):Ev->Option T:=fun J=>match J[i]? with
 | some (some (.im t))=>some t
 | some (some (.own (.lst ts)))=>some (.lst ts)
 | _=>none
@[simp] noncomputable def cS (t:T):Ev->Option T:=λ _=>some t
def yM (i:Nat):vB (zp i) (yD i):=λ S Z Y J y Q hE e hq=>by
 unfold zp at e;split at e
 .rename_i t h;cases e;obtain⟨d,h1,h2⟩:=hE.im i _ h;unfold yD;rw[h1];exact hq d S (.refl S) h2
 .cases e
def zI (i:Nat):yz (zf i) (yD i):=λ S Z Y J y Q hE e hq=>by
 unfold zf at e;split at e
 .rename_i t h;cases e;obtain⟨d,h1,h2⟩:=hE.im i _ h;unfold yD;rw[h1];exact hq d S (.refl S) (.inl h2)
 .rename_i ts h;cases e;obtain⟨p,o,h1,h2,h3,h4⟩:=hE.ow i _ h;unfold yD;rw[h1];cases o with
  | yg _=>exact h3.elim
  | lst ds=>exact hq _ S (.refl S) (.inr ⟨ts,p,ds,rfl,rfl,h2,h3,h4⟩)
 .cases e
def zD (i:Int):xC (cS (.int i)) (dC (.int i)):=λ S Z Y J y Q hE e hq=>by cases e;exact hq _ S (.refl S) (Cl.of (λ _=>nofun) xX)
def ky (i:Bool):xC (cS (.bl i)) (dC (.bl i)):=λ S Z Y J y Q hE e hq=>by cases e;exact hq _ S (.refl S) (Cl.of (λ _=>nofun) vv)
def kx (i:Str):xC (cS (.str i)) (dC (.str i)):=λ S Z Y J y Q hE e hq=>by cases e;exact hq _ S (.refl S) (Cl.of (λ _=>nofun) cE)
def nD:xC (cS .zi) (dC .zi):=λ S Z Y J y Q hE e hq=>by cases e;exact hq _ S (.refl S) (Cl.of (λ _=>nofun) jR)
@[simp] noncomputable def zb (f:T->T->Option T) (fa fb:Ev->Option T):Ev->Option T:=fun J=>(fa J).bind λ x=>(fb J).bind λ y=>f x y
def Good2 (R:Rk) (f:T->T->Option T) (g:yW):Prop:=∀ S Z x y z d e Q,(∀ a,Z a->S a≠none)->Vw S Z x d->Vw S Z y e->f x y=some z->(∀ c S',Sx S S'->R S S' Z z c->Q c S')->g d e S Q
def zZ {R:Rk} [Cl R] {f:T->T->Option T}{g:yW}{fa fb:Ev->Option T}{ta tb:zq}(hg:Good2 R f g) (ha:yz fa ta) (hb:yz fb tb):xB R (zb f fa fb) (yy g ta tb):=λ S Z Y J y Q hE e hq=>by
 unfold zb at e;obtain⟨x,e1,e⟩:=Ak e;obtain⟨z,e2,e⟩:=Ak e;refine ha S Z Y J x _ hE e1 λ d S1 s1 r1=>?_;refine hb S1 Z Y J z _ (hE.grow s1) e2 λ d2 S2 s2 r2=>?_;exact hg S2 Z x z y d d2 Q ((hE.grow (s1.trans s2)).zd) (Vw.grow r1 s2) r2 e λ c S' s r=>hq c S' ((s1.trans s2).trans s) (Cl.cl (s1.trans s2) r)
@[simp] noncomputable def i2 (g:Int->Int->T):T->T->Option T
 | .int i,.int j=>some (g i j)
 | _,_=>none
instance {i j:Int}:Decidable (vH i j):=by unfold vH;infer_instance
instance {i j:Int}:Decidable (xE i j):=by unfold xE;infer_instance
instance {i j:Int}:Decidable (qb i j):=by unfold qb;infer_instance
@[simp] noncomputable def qz (C:Int->Int->Prop) [∀ i j,Decidable (C i j)] (g:Int->Int->T):T->T->Option T
 | .int i,.int j=>if C i j then some (g i j) else none
 | _,_=>none
def kM {g:Int->Int->T}{g':Int->Int->D}(h:∀ i j S,Sn S (g i j) (g' i j)) (n:∀ i j ts,g i j≠.lst ts):Good2 zH (i2 g) (wb g'):=λ S Z x y z d e Q hz hx hy ef hq=>by
 unfold i2 at ef;split at ef
 .cases ef;cases hx.int;cases hy.int;exact hq _ S (.refl S) (Cl.of (n _ _) (h _ _ _))
 .cases ef
def nZ {C:Int->Int->Prop} [∀ i j,Decidable (C i j)] {g:Int->Int->T}{g':Int->Int->D}(h:∀ i j S,Sn S (g i j) (g' i j)) (n:∀ i j ts,g i j≠.lst ts):Good2 zH (qz C g) (fI C g'):=λ S Z x y z d e Q hz hx hy ef hq=>by
 unfold qz at ef;split at ef
 .split at ef
  .rename_i hh;cases ef;cases hx.int;cases hy.int;exact⟨hh,hq _ S (.refl S) (Cl.of (n _ _) (h _ _ _))⟩
  .cases ef
 .cases ef
@[simp] noncomputable def xW:T->T->Option T:=i2 λ i j=>.int (i-j)
@[simp] noncomputable def ye:T->T->Option T:=qz (λ _ j=>0<j) λ i j=>.int (i%j)
@[simp] noncomputable def wx:T->T->Option T:=qz xE λ i j=>.int (i/j)
@[simp] noncomputable def xP:T->T->Option T:=qz qb λ i j=>.int (i ^ j.toNat)
@[simp] noncomputable def rC:T->T->Option T:=i2 λ i j=>.bl (decide (i<=j))
@[simp] noncomputable def fk:T->T->Option T:=i2 λ i j=>.bl (decide (j<=i))
section
variable {fa fb:Ev->Option T}{ta tb:zq}
def ug (ha:yz fa ta) (hb:yz fb tb):xC (zb xW fa fb) (yy (wb λ i j=>.int (i-j)) ta tb):=zZ (kM (λ _ _ _=>xX) λ _ _ _=>nofun) ha hb
def wR (ha:yz fa ta) (hb:yz fb tb):xC (zb ye fa fb) (yy (fI (λ _ j=>0<j) λ i j=>.int (i%j)) ta tb):=zZ (nZ (λ _ _ _=>xX) λ _ _ _=>nofun) ha hb
def nG (ha:yz fa ta) (hb:yz fb tb):xC (zb wx fa fb) (yy (fI xE λ i j=>.int (i/j)) ta tb):=zZ (nZ (λ _ _ _=>xX) λ _ _ _=>nofun) ha hb
def rm (ha:yz fa ta) (hb:yz fb tb):xC (zb xP fa fb) (yy (fI qb λ i j=>.int (i ^ j.toNat)) ta tb):=zZ (nZ (λ _ _ _=>xX) λ _ _ _=>nofun) ha hb
def bP (ha:yz fa ta) (hb:yz fb tb):xC (zb rC fa fb) (yy kT ta tb):=zZ (kM (λ _ _ _=>vv) λ _ _ _=>nofun) ha hb
end
noncomputable def zS (neg:Bool):T->T->Option T:=λ x y=>if dep x<=60/\dep y<=60 then some (.bl (cond neg (!eqT x y) (eqT x y))) else none
noncomputable def pO (neg:Bool):T->T->Option T:=λ x y=>match xF y with
 | some ts=>if dep x<=60/\yC ts<=60 then some (.bl (cond neg (!(ts.any λ t=>eqT t x)) (ts.any λ t=>eqT t x))) else none
 | none=>none
def pV {neg:Bool}:Good2 zH (zS neg) (uQ neg):=λ S Z x y z d e Q hz hx hy ef hq=>by
 unfold zS at ef;split at ef
 .rename_i h;cases ef;exact⟨x,y,hx.sn,hy.sn,h.1,h.2,hq _ S (.refl S) (Cl.of (λ _=>nofun) vv)⟩
 .cases ef
def Qy {neg:Bool}:Good2 zH (pO neg) (rL neg):=λ S Z x y z d e Q hz hx hy ef hq=>by
 unfold pO at ef;split at ef
 .rename_i ts ht;split at ef
  .rename_i h;cases ef;obtain⟨ds,h1,h2⟩:=hy.seq ht;exact⟨x,ts,ds,hx.sn,h1,zl.sx (pS S Z) ts h2,h.1,h.2,hq _ S (.refl S) (Cl.of (λ _=>nofun) vv)⟩
  .cases ef
 .cases ef
@[simp] noncomputable def zo:T->T->Option T:=λ x y=>match xF x,y with
 | some ts,.int i=>L2.zN ts i
 | _,_=>none
def xT:Good2 we zo wF:=λ S Z x y z d e Q hz hx hy ef hq=>by
 unfold zo at ef;split at ef
 .rename_i ts i ht;cases hy.int;obtain⟨ds,h1,h2⟩:=hx.seq ht;obtain⟨c,h3,h4⟩:=h2.at ef;unfold zL at h1;split at h1
  .cases h1;exact QI h3 (hq c S (.refl S) h4)
  .cases h1;exact QJ h3 (hq c S (.refl S) h4)
  .split at h1
   .rename_i q;cases h1;exact QK q h3 (hq c S (.refl S) h4)
   .cases h1
  .cases h1
 .cases ef
@[simp] noncomputable def yi:T->T->Option T
 | .int i,.int j=>some (.int (i+j))
 | .str i,.str j=>if i.length+j.length<=sizeLine then some (.str (i++j)) else none
 | .lst ts,.lst us=>if ts.length+us.length<=sizeLine then some (.lst (ts++us)) else none
 | .tup ts,.tup us=>if ts.length+us.length<=sizeLine then some (.tup (ts++us)) else none
 | _,_=>none
def ur:yW:=λ x y S Q=>match x,y with
 | .int i,.int j=>Q (.int (i+j)) S
 | .str i,.str j=>i.length+j.length<=sizeLine/\Q (.str (i++j)) S
 | .tup ds,.tup es=>ds.length+es.length<=sizeLine/\Q (.tup (ds++es)) S
 | .zi,_=>False
 | .bl _,_=>False
 | .int _,_=>False
 | .str _,_=>False
 | .tup _,_=>False
 | x,y=>match zL x S,zL y S with
  | some ds,some es=>(∀ ts,y≠.tup ts)/\ds.length+es.length<=sizeLine/\∀ r,S r=none->Q (.ref r) (ups S r (.lst (ds++es)))
  | _,_=>False
def good_add:Good2 zH yi ur:=λ S Z x y z d e Q hz hx hy ef hq=>by
 unfold yi at ef;split at ef
 .cases ef;cases hx.int;cases hy.int;exact hq _ S (.refl S) (Cl.of (λ _=>nofun) xX)
 .split at ef
  .rename_i h;cases ef;cases hx.str;cases hy.str;exact⟨h,hq _ S (.refl S) (Cl.of (λ _=>nofun) cE)⟩
  .cases ef
 .split at ef
  .rename_i h;cases ef;obtain⟨ds,h1,h2⟩:=hx.seq rfl;obtain⟨es,h3,h4⟩:=hy.seq rfl;have nt:∀ ts,e≠.tup ts:=by
    obtain⟨_,q | ⟨_,q,_⟩,_⟩:=hy.lst <;> subst q <;> exact λ _=>nofun
   have key:(∀ ts,e≠.tup ts)/\ds.length+es.length<=sizeLine/\∀ r,S r=none->Q (.ref r) (ups S r (.lst (ds++es))):=
    ⟨nt,by rw[h2.len,h4.len];exact h,λ r hr=>hq _ _ (.new hr _) (ra hz hr (h2.append h4))⟩
   obtain⟨_,q | ⟨a,q,_⟩,_⟩:=hx.lst
   .subst q;unfold ur;dsimp only;rw[h1,h3];exact key
   .subst q;unfold ur;dsimp only;rw[h1,h3];exact key
  .cases ef
 .split at ef
  .rename_i h;cases ef;obtain⟨ds,rfl,h2⟩:=hx.tup;obtain⟨es,rfl,h4⟩:=hy.tup;exact⟨by rw[h2.len,h4.len];exact h,hq _ S (.refl S) (Cl.of (λ _=>nofun) (qZ (h2.append h4)))⟩
  .cases ef
 .cases ef
def vt (f:Ev->Option Bool) (t:yE):Prop:=∀ S Z Y J y Q,ER S Z Y J->f J=some y->(∀ S',Sx S S'->Q y S')->t Y S Q
@[simp] noncomputable def yv (f:Ev->Option T):Ev->Option Bool:=fun J=>(f J).bind λ x=>match x with
 | .bl b=>some b
 | _=>none
@[simp] noncomputable def sX:T->Option Bool
 | .zi=>some false
 | .bl b=>some b
 | .int i=>some (i != 0)
 | .str x=>if x.length<=sizeLine then some ((x.length:Int) != 0) else none
 | .tup ts=>some (!ts.isEmpty)
 | .lst ts=>some (!ts.isEmpty)
 | .zT=>none
@[simp] noncomputable def xq (f:Ev->Option T):Ev->Option Bool:=fun J=>(f J).bind sX
@[simp] noncomputable def fC (f g:Ev->Option Bool):Ev->Option Bool:=fun J=>(f J).bind λ b=>if b=true then g J else some false
@[simp] noncomputable def qA (f g:Ev->Option Bool):Ev->Option Bool:=fun J=>(f J).bind λ b=>if b=true then some true else g J
@[simp] noncomputable def rO (f:Ev->Option Bool):Ev->Option Bool:=fun J=>(f J).map (!·)
section
variable {f g:Ev->Option T}{t u:zq}{fb gb:Ev->Option Bool}{tb ub:yE}{R:Rk}
def t8 (h:yz f t):vt (yv f) (uv t):=λ S Z Y J y Q hE e hq=>by
 obtain⟨x,e1,e2⟩:=Ak e;refine h S Z Y J x _ hE e1 λ d S1 s1 r1=>?_;split at e2
 .cases e2;cases Vw.bl r1;exact hq S1 s1
 .cases e2
def gg (h:yz f t):vt (xq f) (ZJ t):=λ S Z Y J y Q hE e hq=>by
 obtain⟨x,e1,e2⟩:=Ak e;refine h S Z Y J x _ hE e1 λ d S1 s1 r1=>?_;cases x with
 | zi=>cases Vw.zi r1;cases e2;exact hq S1 s1
 | bl b=>cases Vw.bl r1;cases e2;exact hq S1 s1
 | int b=>cases Vw.int r1;cases e2;exact hq S1 s1
 | str b=>
  cases Vw.str r1;simp only[sX] at e2;split at e2
  .rename_i hh;cases e2;exact⟨hh,hq S1 s1⟩
  .cases e2
 | tup ts=>
  obtain⟨ds,rfl,h2⟩:=Vw.tup r1;cases e2;show Q (!ds.isEmpty) S1;rw[h2.empty];exact hq S1 s1
 | lst ts=>
  obtain⟨ds,rfl | ⟨a,rfl,h1⟩,h2⟩:=Vw.lst r1
  .cases e2;show Q (!ds.isEmpty) S1;rw[h2.empty];exact hq S1 s1
  .cases e2;refine XD h1 ?_;rw[h2.empty];exact hq S1 s1
 | zT=>cases e2
def bR (h:vt fb tb) (h':vt gb ub):vt (fC fb gb) (my tb ub):=λ S Z Y J y Q hE e hq=>by
 obtain⟨b,e1,e2⟩:=Ak e;refine h S Z Y J b _ hE e1 λ S1 s1=>?_;split at e2
 .rename_i hb;rw[if_pos hb];exact h' S1 Z Y J y _ (hE.grow s1) e2 λ S2 s2=>hq S2 (s1.trans s2)
 .rename_i hb;rw[if_neg hb];cases e2;exact hq S1 s1
def Se (h:vt fb tb) (h':vt gb ub):vt (qA fb gb) (mr tb ub):=λ S Z Y J y Q hE e hq=>by
 obtain⟨b,e1,e2⟩:=Ak e;refine h S Z Y J b _ hE e1 λ S1 s1=>?_;split at e2
 .rename_i hb;rw[if_pos hb];cases e2;exact hq S1 s1
 .rename_i hb;rw[if_neg hb];exact h' S1 Z Y J y _ (hE.grow s1) e2 λ S2 s2=>hq S2 (s1.trans s2)
def bQ (h:vt fb tb):vt (rO fb) (mv tb):=λ S Z Y J y Q hE e hq=>by
 unfold rO at e;obtain⟨b,e1,rfl⟩:=AD e;exact h S Z Y J b _ hE e1 λ S1 s1=>hq S1 s1
@[simp] noncomputable def jf (f g:Ev->Option T):Ev->Option T:=fun J=>(f J).bind λ x=>match x with
 | .bl k=>if k=true then g J else some (.bl false)
 | _=>none
@[simp] noncomputable def bW (f:Ev->Option T):Ev->Option T:=fun J=>(f J).bind λ x=>match x with
 | .bl k=>some (.bl (!k))
 | _=>none
@[simp] noncomputable def gL (c:Ev->Option Bool) (f g:Ev->Option T):Ev->Option T:=fun J=>(c J).bind λ b=>if b=true then f J else g J
def Sy [Cl R] (h:yz f t) (h':xB R g u):xB R (jf f g) (mE t u):=λ S Z Y J y Q hE e hq=>by
 obtain⟨x,e1,e2⟩:=Ak e;refine h S Z Y J x _ hE e1 λ d S1 s1 r1=>?_;split at e2
 .cases Vw.bl r1;split at e2
  .rename_i hb;dsimp only;rw[if_pos hb];exact h' S1 Z Y J y _ (hE.grow s1) e2 λ d S2 s2 r2=>hq d S2 (s1.trans s2) (Cl.cl s1 r2)
  .rename_i hb;dsimp only;rw[if_neg hb];cases e2;exact hq _ S1 s1 (Cl.of (λ _=>nofun) vv)
 .cases e2
def T6 [Cl R] (h:yz f t):xB R (bW f) (m9 t):=λ S Z Y J y Q hE e hq=>by
 obtain⟨x,e1,e2⟩:=Ak e;refine h S Z Y J x _ hE e1 λ d S1 s1 r1=>?_;split at e2
 .cases Vw.bl r1;cases e2;exact hq _ S1 s1 (Cl.of (λ _=>nofun) vv)
 .cases e2
def Sb [Cl R] (hc:vt fb tb) (h:xB R f t) (h':xB R g u):xB R (gL fb f g) (mC tb t u):=λ S Z Y J y Q hE e hq=>by
 obtain⟨b,e1,e2⟩:=Ak e;refine hc S Z Y J b _ hE e1 λ S1 s1=>?_;split at e2
 .rename_i hb;rw[if_pos hb];exact h S1 Z Y J y _ (hE.grow s1) e2 λ d S2 s2 r2=>hq d S2 (s1.trans s2) (Cl.cl s1 r2)
 .rename_i hb;rw[if_neg hb];exact h' S1 Z Y J y _ (hE.grow s1) e2 λ d S2 s2 r2=>hq d S2 (s1.trans s2) (Cl.cl s1 r2)
end
noncomputable def ot (S:SS) (Z:Addr->Prop):List T->List D->Prop
 | [],ds=>ds=[]
 | t::ts,ds=>∃ c cs,ds=c::cs/\Vw S Z t c/\ot S Z ts cs
def qP (f:Ev->Option (List T)) (t:yp):Prop:=∀ S Z Y J ys Q,ER S Z Y J->f J=some ys->(∀ ds S',Sx S S'->ot S' Z ys ds->Q ds S')->t Y S Q
def qO (f:Ev->Option (List T)) (t:yp):Prop:=∀ S Z Y J ys Q,ER S Z Y J->f J=some ys->(∀ ds S',Sx S S'->zl (zK S' Z) ys ds->Q ds S')->t Y S Q
@[simp] noncomputable def zj:Ev->Option (List T):=λ _=>some []
@[simp] noncomputable def zc (f:Ev->Option T) (g:Ev->Option (List T)):Ev->Option (List T):=fun J=>(f J).bind λ x=>(g J).bind λ xs=>some (x::xs)
section
variable {f:Ev->Option T}{g:Ev->Option (List T)}{t:zq}{u:yp}
def xH:qP zj kY:=λ S Z Y J y Q hE e hq=>by cases e;exact hq [] S (.refl S) rfl
def yZ:qO zj kY:=λ S Z Y J y Q hE e hq=>by cases e;exact hq [] S (.refl S) .nil
def xc (h:yz f t) (h':qP g u):qP (zc f g) (qC t u):=λ S Z Y J y Q hE e hq=>by
 obtain⟨x,e1,e0⟩:=Ak e;obtain⟨xs,e2,e3⟩:=Ak e0;cases e3;refine h S Z Y J x _ hE e1 λ d S1 s1 r1=>?_;refine h' S1 Z Y J xs _ (hE.grow s1) e2 λ ds S2 s2 r2=>?_;exact hq _ S2 (s1.trans s2) ⟨d,ds,rfl,Vw.grow r1 s2,r2⟩
def zQ (h:vB f t) (h':qO g u):qO (zc f g) (qC t u):=λ S Z Y J y Q hE e hq=>by
 obtain⟨x,e1,e0⟩:=Ak e;obtain⟨xs,e2,e3⟩:=Ak e0;cases e3;refine h S Z Y J x _ hE e1 λ d S1 s1 r1=>?_;refine h' S1 Z Y J xs _ (hE.grow s1) e2 λ ds S2 s2 r2=>?_;exact hq _ S2 (s1.trans s2) (.cons (Sn.sx (wX s2) x r1) r2)
@[simp] noncomputable def tupS (g:Ev->Option (List T)):Ev->Option T:=fun J=>(g J).bind λ xs=>if xs.length<=sizeLine then some (.tup xs) else none
@[simp] noncomputable def xI (g:Ev->Option (List T)):Ev->Option T:=fun J=>(g J).bind λ xs=>if xs.length<=sizeLine then some (.lst xs) else none
def sk (h:qO g u):xC (tupS g) (ZT u):=λ S Z Y J y Q hE e hq=>by
 obtain⟨xs,e1,e2⟩:=Ak e;split at e2
 .rename_i hl;cases e2;refine h S Z Y J xs _ hE e1 λ ds S1 s1 r1=>⟨by rw[r1.len];exact hl,hq _ S1 s1 (Cl.of (λ _=>nofun) (qZ r1))⟩
 .cases e2
def rn (h:qO g u):xC (xI g) (ZX u):=λ S Z Y J y Q hE e hq=>by
 obtain⟨xs,e1,e2⟩:=Ak e;split at e2
 .rename_i hl;cases e2;refine h S Z Y J xs _ hE e1 λ ds S1 s1 r1=>⟨by rw[r1.len];exact hl,λ p hp=>hq _ _ (s1.trans (.new hp _)) (Cl.cl s1 (ra (hE.grow s1).zd hp r1))⟩
 .cases e2
end
@[simp] noncomputable def zv (F:List T->Option T) (g:Ev->Option (List T)):Ev->Option T:=fun J=>(g J).bind F
def vE (R:Rk) (F:List T->Option T) (f:x9):Prop:=∀ S Z ys z ds Q,(∀ a,Z a->S a≠none)->ot S Z ys ds->F ys=some z->(∀ c S',Sx S S'->R S S' Z z c->Q c S')->f ds S Q
def vd {R:Rk} [Cl R] {F:List T->Option T}{f:x9}{g:Ev->Option (List T)}{u:yp}(hf:vE R F f) (h:qP g u):xB R (zv F g) (xK f u):=λ S Z Y J y Q hE e hq=>by
 obtain⟨xs,e1,e2⟩:=Ak e;refine h S Z Y J xs _ hE e1 λ ds S1 s1 r1=>?_;exact hf S1 Z xs y ds Q (hE.grow s1).zd r1 e2 λ c S' s r=>hq c S' (s1.trans s) (Cl.cl s1 r)
@[simp] noncomputable def xi:List T->Option T
 | [.str z]=>if z.length<=sizeLine then some (.int z.length) else none
 | [y]=>(xF y).map λ ts=>.int ts.length
 | _=>none
def vI {S:SS}{Z:Addr->Prop}{y:T}{ds:List D}(h:ot S Z [y] ds):∃ d,ds=[d]/\Vw S Z y d:=by
 obtain⟨c,cs,rfl,h1,h2⟩:=h;cases h2;exact⟨c,rfl,h1⟩
def Xw {S:SS}{Z:Addr->Prop}{y z:T}{ds:List D}(h:ot S Z [y,z] ds):∃ d e,ds=[d,e]/\Vw S Z y d/\Vw S Z z e:=by
 obtain⟨c,cs,rfl,h1,c2,cs2,rfl,h2,h3⟩:=h;cases h3;exact⟨c,c2,rfl,h1,h2⟩
def pU:vE zH xi uq:=λ S Z ys z ds Q hz hv e hq=>by
 unfold xi at e;split at e
 .obtain⟨d,rfl,h1⟩:=vI hv;split at e
  .rename_i hl;cases e;cases h1.str;exact⟨hl,hq _ S (.refl S) (Cl.of (λ _=>nofun) xX)⟩
  .cases e
 .obtain⟨d,rfl,h1⟩:=vI hv;obtain⟨ts,e1,rfl⟩:=AD e;obtain⟨es,h2,h3⟩:=h1.seq e1;refine QH h2 ?_;rw[h3.len];exact hq _ S (.refl S) (Cl.of (λ _=>nofun) xX)
 .cases e
@[simp] noncomputable def listS:List T->Option T
 | [y]=>(xF y).map .lst
 | _=>none
def Qx:vE zH listS uo:=λ S Z ys z ds Q hz hv e hq=>by
 unfold listS at e;split at e
 .obtain⟨d,rfl,h1⟩:=vI hv;obtain⟨ts,e1,rfl⟩:=AD e;obtain⟨es,h2,h3⟩:=h1.seq e1;exact QG h2 λ p hp=>hq _ _ (.new hp _) (ra hz hp h3)
 .cases e
@[simp] noncomputable def tf:List T->Option T
 | [y]=>(xF y).map .tup
 | _=>none
def gT:vE zH tf um:=λ S Z ys z ds Q hz hv e hq=>by
 unfold tf at e;split at e
 .rename_i y;obtain⟨d,rfl,h1⟩:=vI hv;obtain⟨ts,e1,rfl⟩:=AD e;obtain⟨es,h2,h3⟩:=h1.seq e1;have k:Q (.tup es) S:=hq _ S (.refl S) (Cl.of (λ _=>nofun) (qZ h3));unfold zL at h2;split at h2
  .cases h2;exact k
  .cases h2;exact k
  .split at h2
   .rename_i q;cases h2;exact QF q k
   .cases h2
  .cases h2
 .cases e
@[simp] noncomputable def pP (g:Int->Int->Int):List T->Option T
 | [.int i,.int j]=>some (.int (g i j))
 | _=>none
def Zs {g:Int->Int->Int}:vE zH (pP g) (vT λ i j=>.int (g i j)):=λ S Z ys z ds Q hz hv e hq=>by
 unfold pP at e;split at e
 .obtain⟨d,d',rfl,h1,h2⟩:=Xw hv;cases e;cases h1.int;cases h2.int;exact hq _ S (.refl S) (Cl.of (λ _=>nofun) xX)
 .cases e
@[simp] noncomputable def tD:List T->Option T:=pP λ i j=>if j>i then j else i
@[simp] noncomputable def nK:List T->Option T:=pP λ i j=>if j<i then j else i
structure FR (S0:SS) (Z0:Addr->Prop) (S:SS) (Z:Addr->Prop) (Y:ym) (J:Ev):Prop where
 er:ER S Z Y J
 len:Y.length=J.length
 sx:Sx S0 S
 z0:∀ a,Z0 a->S0 a≠none
 zz:∀ a,Z0 a->Z a
 zn:∀ a,Z a->Z0 a\/S0 a=none
 fr:∀ (i:Nat) ts p,J[i]?=some (some (.own ts))->Y[i]?=some (some (.ref p))->S0 p=none
 dj:∀ (i j:Nat) ts us p,i≠j->J[i]?=some (some (.own ts))->J[j]?=some (some (.own us))->Y[i]?=some (some (.ref p))->Y[j]?=some (some (.ref p))->False
def yR {α:Type}{l:List α}{i j:Nat}{a b:α}(h:(l.set i a)[j]?=some b):(i=j/\i<l.length/\b=a)\/(i≠j/\l[j]?=some b):=by
 rw[Dw] at h;by_cases e:i=j
 .subst e;rw[if_pos rfl] at h;by_cases hl:i<l.length
  .rw[if_pos hl] at h;cases h;exact .inl ⟨rfl,hl,rfl⟩
  .rw[if_neg hl] at h;cases h
 .rw[if_neg e] at h;exact .inr ⟨e,h⟩
def vk {α:Type}{l:List α}{i j:Nat}{a:α}(h:i≠j):(l.set i a)[j]?=l[j]?:=by rw[Dw,if_neg h]
def pW {α:Type}{l:List α}{i:Nat}{a:α}(h:i<l.length):(l.set i a)[i]?=some a:=by rw[Dw,if_pos rfl,if_pos h]
section
variable {S0 S S':SS}{Z0 Z:Addr->Prop}{Y:ym}{J:Ev}{y:T}{d:D}
theorem FR.grow (h:FR S0 Z0 S Z Y J) (s:Sx S S'):FR S0 Z0 S' Z Y J:=⟨h.er.grow s,h.len,h.sx.trans s,h.z0,h.zz,h.zn,h.fr,h.dj⟩
def FR.tj (h:FR S0 Z0 S Z Y J) (i:Nat) (r:Sn (zK S Z) y d):FR S0 Z0 S Z (Y.set i (some d)) (J.set i (some (.im y))):=by
 refine⟨⟨h.er.zd,λ j t e=>?_,λ j ts e=>?_⟩,by simp[h.len],h.sx,h.z0,h.zz,h.zn,λ j ts p e e'=>?_,λ j k ts us p n e1 e2 e3 e4=>?_⟩
 .rcases yR e with ⟨rfl,hl,e⟩ | ⟨n,e⟩
  .cases e;exact⟨d,pW (by rw[h.len];exact hl),r⟩
  .rw[vk n];exact h.er.im j t e
 .rcases yR e with ⟨rfl,hl,e⟩ | ⟨n,e⟩
  .cases e
  .rw[vk n];exact h.er.ow j ts e
 .rcases yR e with ⟨rfl,hl,e⟩ | ⟨n,e⟩
  .cases e
  .rw[vk n] at e';exact h.fr j ts p e e'
 .rcases yR e1 with ⟨rfl,hl,e⟩ | ⟨n1,e1⟩
  .cases e
  rcases yR e2 with ⟨rfl,hl,e⟩ | ⟨n2,e2⟩
  .cases e
  rw[vk n1] at e3;rw[vk n2] at e4;exact h.dj j k ts us p n e1 e2 e3 e4
def FR.cH {ts:C}{ds:O}{p:Addr}(h:FR S0 Z0 S Z Y J) (s:Sx S S') (i:Nat) (hp:S p=none) (hd:S' p=some ds) (r:tS (zK S' λ a=>Z a\/a=p) ts ds):
  FR S0 Z0 S' (λ a=>Z a\/a=p) (Y.set i (some (.ref p))) (J.set i (some (.own ts))):=by
 have np:∀ (j:Nat) us q,J[j]?=some (some (.own us))->Y[j]?=some (some (.ref q))->q≠p:=λ j us q e e' z=>by
  subst z;obtain⟨p',ds',h1,h2,_⟩:=h.er.ow j us e;rw[e'] at h1;cases h1;rw[hp] at h2;cases h2
 refine⟨⟨λ a z=>?_,λ j t e=>?_,λ j us e=>?_⟩,by simp[h.len],h.sx.trans s,h.z0,λ a z=>.inl (h.zz a z),λ a z=>z.elim (h.zn a) (λ q=>.inr (by subst q;exact h.sx.none hp)),λ j us q e e'=>?_,λ j k us vs q n e1 e2 e3 e4=>?_⟩
 .rcases z with z | rfl
  .exact λ q=>h.er.zd a z (s.none q)
  .rw[hd];nofun
 .rcases yR e with ⟨rfl,hl,e⟩ | ⟨n,e⟩
  .cases e
  .rw[vk n];obtain⟨d,h1,h2⟩:=h.er.im j t e;exact⟨d,h1,Sn.sx (pT s hp) t h2⟩
 .rcases yR e with ⟨rfl,hl,e⟩ | ⟨n,e⟩
  .cases e;exact⟨p,ds,pW (by rw[h.len];exact hl),hd,r,.inr rfl⟩
  .rw[vk n];obtain⟨q,es,h1,h2,h3,h4⟩:=h.er.ow j us e;exact⟨q,es,h1,s _ _ h2,tS.sx (pT s hp) h3,.inl h4⟩
 .rcases yR e with ⟨rfl,hl,e⟩ | ⟨n,e⟩
  .rw[pW (by rw[h.len];exact hl)] at e';cases e';exact h.sx.none hp
  .rw[vk n] at e';exact h.fr j us q e e'
 .rcases yR e1 with ⟨rfl,hl,e⟩ | ⟨n1,e1⟩
  .rcases yR e2 with ⟨rfl,_,_⟩ | ⟨n2,e2⟩
   .exact n rfl
   .rw[pW (by rw[h.len];exact hl)] at e3;cases e3;rw[vk n2] at e4;exact np k vs p e2 e4 rfl
  .rcases yR e2 with ⟨rfl,hl,_⟩ | ⟨n2,e2⟩
   .rw[pW (by rw[h.len];exact hl)] at e4;cases e4;rw[vk n1] at e3;exact np j us p e1 e3 rfl
   .rw[vk n1] at e3;rw[vk n2] at e4;exact h.dj j k us vs q n e1 e2 e3 e4
def FR.forget (h:FR S0 Z0 S Z Y J) (i:Nat):FR S0 Z0 S Z Y (J.set i none):=by
 refine⟨⟨h.er.zd,λ j t e=>?_,λ j ts e=>?_⟩,by simp[h.len],h.sx,h.z0,h.zz,h.zn,λ j ts p e e'=>?_,λ j k ts us p n e1 e2 e3 e4=>?_⟩
 .rcases yR e with ⟨rfl,hl,e⟩ | ⟨n,e⟩
  .cases e
  .exact h.er.im j t e
 .rcases yR e with ⟨rfl,hl,e⟩ | ⟨n,e⟩
  .cases e
  .exact h.er.ow j ts e
 .rcases yR e with ⟨rfl,hl,e⟩ | ⟨n,e⟩
  .cases e
  .exact h.fr j ts p e e'
 .rcases yR e1 with ⟨rfl,hl,e⟩ | ⟨n1,e1⟩
  .cases e
  rcases yR e2 with ⟨rfl,hl,e⟩ | ⟨n2,e2⟩
  .cases e
  exact h.dj j k ts us p n e1 e2 e3 e4
@[simp] noncomputable def yI (is:List Nat) (J:Ev):Ev:=is.foldl (fun J i=>J.set i none) J
theorem FR.yI:∀ (is:List Nat) {J:Ev},FR S0 Z0 S Z Y J->FR S0 Z0 S Z Y (yI is J)
 | [],_,h=>h
 | i::is,_,h=>FR.yI is (h.forget i)
def FR.freeze {ts:List T}{p:Addr}(h:FR S0 Z0 S Z Y J) (i:Nat) (e:J[i]?=some (some (.own (.lst ts)))) (ed:Y[i]?=some (some (.ref p))):
  FR S0 Z0 S (λ a=>Z a/\a≠p) Y (J.set i (some (.im (.lst ts))))/\Sn (zK S λ a=>Z a/\a≠p) (.lst ts) (.ref p):=by
 obtain⟨p',o,h1,h2,h3,h4⟩:=h.er.ow i _ e;rw[ed] at h1;cases h1;obtain⟨ds,rfl⟩:∃ ds,o=.lst ds:=by
  cases o with
  | lst ds=>exact⟨ds,rfl⟩
  | yg _=>exact h3.elim
 replace h3:zl (zK S Z) ts ds:=h3;have hS:Sn (zK S λ a=>Z a/\a≠p) (.lst ts) (.ref p):=by
  simp only[Sn];exact⟨ds,.inr ⟨p,rfl,by rw[uk (λ z=>z.2 rfl)];exact h2⟩,zl.sx (tG λ a z=>z.1) ts h3⟩
 refine⟨?_,hS⟩;refine⟨⟨λ a z=>h.er.zd a z.1,λ j t e'=>?_,λ j us e'=>?_⟩,by simp[h.len],h.sx,h.z0,λ a z=>⟨h.zz a z,λ q=>?_⟩,λ a z=>h.zn a z.1,λ j us q e' ed'=>?_,λ j k us vs q n e1 e2 e3 e4=>?_⟩
 .rcases yR e' with ⟨rfl,hl,e'⟩ | ⟨n,e'⟩
  .cases e';exact⟨_,ed,hS⟩
  .obtain⟨d,g1,g2⟩:=h.er.im j t e';exact⟨d,g1,Sn.sx (tG λ a z=>z.1) t g2⟩
 .rcases yR e' with ⟨rfl,hl,e'⟩ | ⟨n,e'⟩
  .cases e'
  .obtain⟨q,es,g1,g2,g3,g4⟩:=h.er.ow j us e';exact⟨q,es,g1,g2,tS.sx (tG λ a z=>z.1) g3,g4,λ z=>by subst z;exact h.dj i j _ us q n e e' ed g1⟩
 .subst q;exact h.z0 a z (h.fr i _ a e ed)
 .rcases yR e' with ⟨rfl,hl,e'⟩ | ⟨n,e'⟩
  .cases e'
  .exact h.fr j us q e' ed'
 .rcases yR e1 with ⟨rfl,hl,e⟩ | ⟨n1,e1⟩
  .cases e
  rcases yR e2 with ⟨rfl,hl,e⟩ | ⟨n2,e2⟩
  .cases e
  exact h.dj j k us vs q n e1 e2 e3 e4
def FR.mut {ts us:C}{es:O}{p:Addr}(h:FR S0 Z0 S Z Y J) (i:Nat) (e:J[i]?=some (some (.own ts))) (ed:Y[i]?=some (some (.ref p))) (r:tS (zK S Z) us es):
  FR S0 Z0 (ups S p es) Z Y (J.set i (some (.own us))):=by
 obtain⟨p',ds,h1,h2,h3,h4⟩:=h.er.ow i ts e;rw[ed] at h1;cases h1;have hh:zK (ups S p es) Z=zK S Z:=Ql h4;have hpn:=h.fr i ts p e ed;refine⟨⟨λ a z=>?_,λ j t e'=>?_,λ j vs e'=>?_⟩,by simp[h.len],λ b o q=>?_,h.z0,h.zz,h.zn,λ j vs q e' ed'=>?_,λ j k vs ws q n e1 e2 e3 e4=>?_⟩
 .by_cases hp:a=p
  .subst hp;rw[sU];nofun
  .rw[tW hp];exact h.er.zd a z
 .rw[hh];rcases yR e' with ⟨rfl,hl,e'⟩ | ⟨n,e'⟩
  .cases e'
  .exact h.er.im j t e'
 .rw[hh];rcases yR e' with ⟨rfl,hl,e'⟩ | ⟨n,e'⟩
  .cases e';exact⟨p,es,ed,sU,r,h4⟩
  .obtain⟨q,es',g1,g2,g3,g4⟩:=h.er.ow j vs e';refine⟨q,es',g1,?_,g3,g4⟩;rw[tW (λ z=>by subst z;exact h.dj i j ts vs q n e e' ed g1)];exact g2
 .rw[tW (λ z=>by subst z;rw[hpn] at q;cases q)];exact h.sx b o q
 .rcases yR e' with ⟨rfl,hl,_⟩ | ⟨n,e'⟩
  .rw[ed] at ed';cases ed';exact hpn
  .exact h.fr j vs q e' ed'
 .rcases yR e1 with ⟨rfl,hl,_⟩ | ⟨n1,e1⟩
  .rcases yR e2 with ⟨rfl,hl,_⟩ | ⟨n2,e2⟩
   .exact n rfl
   .exact h.dj _ k ts ws q n e e2 e3 e4
  .rcases yR e2 with ⟨rfl,hl,_⟩ | ⟨n2,e2⟩
   .exact h.dj j _ vs ts q n e1 e e3 e4
   .exact h.dj j k vs ws q n e1 e2 e3 e4
noncomputable def iC (S0 S:SS) (Z:Addr->Prop):SS:=open Classical in λ a=>if S0 a=none/\Z a then none else S a
def kd {a:Addr}(h:¬ (S0 a=none/\Z a)):iC S0 S Z a=S a:=if_neg h
def iB {a:Addr}(h:S0 a=none/\Z a):iC S0 S Z a=none:=if_pos h
def FR.rebase (h:FR S0 Z0 S Z Y J):∃ S1,Sx S0 S1/\FR S1 Z0 S Z Y J/\Sx (zK S Z) S1:=by
 refine⟨iC S0 S Z,λ b o q=>?_,⟨h.er,h.len,λ b o q=>?_,λ a z=>?_,h.zz,λ a z=>?_,λ i ts p e ed=>?_,h.dj⟩,λ b o q=>?_⟩
 .rw[kd (λ z=>by rw[z.1] at q;cases q)];exact h.sx _ _ q
 .by_cases w:S0 b=none/\Z b
  .rw[iB w] at q;cases q
  .rw[kd w] at q;exact q
 .rw[kd (λ q=>h.z0 a z q.1)];exact h.er.zd a (h.zz a z)
 .rcases h.zn a z with w | w
  .exact .inl w
  .exact .inr (iB ⟨w,z⟩)
 .obtain⟨p',ds,h1,h2,h3,h4⟩:=h.er.ow i ts e;rw[ed] at h1;cases h1;exact iB ⟨h.fr i ts p e ed,h4⟩
 .obtain⟨q1,q2⟩:=uM q;rw[kd (λ z=>q1 z.2)];exact q2
def FR.back {S1:SS}(h:FR S1 Z0 S Z Y J) (s:Sx S0 S1) (z0:∀ a,Z0 a->S0 a≠none):FR S0 Z0 S Z Y J:=⟨h.er,h.len,s.trans h.sx,z0,h.zz,λ a z=>(h.zn a z).imp id s.none,λ i ts p e ed=>s.none (h.fr i ts p e ed),h.dj⟩
def FR.Wz {S1:SS}{Z1:Addr->Prop}(h:FR S0 Z0 S Z Y J) (b:Sx (zK S1 Z1) S0) (zz:∀ a,Z0 a->Z1 a):Sx (zK S1 Z1) (zK S Z):=λ a o q=>by
 have q0:=b _ _ q;obtain⟨q1,q2⟩:=uM q;rw[uk]
 .exact h.sx _ _ q0
 .intro z;rcases h.zn a z with w | w
  .exact q1 (zz a w)
  .rw[w] at q0;cases q0
end
inductive Out where
 | nx (J:Ev) | rt (t:T) | bk (J:Ev) | ct (J:Ev)
abbrev Sm:=Ev->Option Out
def O6 (R:Rk) (S0:SS) (Z0:Addr->Prop) (o:Out) (E:r_):Prop:=match o with
 | .nx J=>∀ S Z Y,FR S0 Z0 S Z Y J->E.nx Y S
 | .bk J=>∀ S Z Y,FR S0 Z0 S Z Y J->E.bk Y S
 | .ct J=>∀ S Z Y,FR S0 Z0 S Z Y J->E.ct Y S
 | .rt y=>∀ d S,Sx S0 S->R S0 S Z0 y d->E.rt d S
def yJ (R:Rk) (g:Sm) (t:yO):Prop:=∀ S0 Z0 S Z Y J o E,FR S0 Z0 S Z Y J->g J=some o->O6 R S0 Z0 o E->t E Y S
class Lo (R:Rk):Prop extends Cl R where
 lo:∀ {S0 S S':SS}{Z0 Z:Addr->Prop}{y:T}{d:D},Sx S0 S->(∀ a,Z0 a->Z a)->R S S' Z y d->R S0 S' Z0 y d
instance:Lo we:=⟨λ _ z h=>Sn.sx (tG z) _ h⟩
instance:Lo zH:=⟨λ s z h=>⟨Sn.sx (tG z) _ h.1,λ ts e=>by
 obtain⟨p,ds,h1,h2,h3,h4⟩:=h.2 ts e;exact⟨p,ds,h1,s.none h2,h3,zl.sx (tG λ a q=>q.imp (z a) id) ts h4⟩⟩⟩
@[simp] noncomputable def zr (g h:Sm):Sm:=fun J=>(g J).bind λ o=>match o with
 | .nx J'=>h J'
 | o=>some o
@[simp] noncomputable def xm:Sm:=fun J=>some (.nx J)
@[simp] noncomputable def zU (i:Nat) (f:Ev->Option T):Sm:=fun J=>(f J).map λ y=>.nx (J.set i (some (.im y)))
@[simp] noncomputable def uz (i:Nat) (f:Ev->Option T):Sm:=fun J=>(f J).bind λ y=>match y with
 | .lst ts=>some (.nx (J.set i (some (.own (.lst ts)))))
 | y=>some (.nx (J.set i (some (.im y))))
@[simp] noncomputable def fD (f:Ev->Option T):Sm:=fun J=>(f J).map λ _=>.nx J
@[simp] noncomputable def retS (f:Ev->Option T):Sm:=fun J=>(f J).map .rt
@[simp] noncomputable def qj (i:Nat):Sm:=fun J=>match J[i]? with
 | some (some (.own (.lst ts)))=>some (.rt (.lst ts))
 | _=>none
@[simp] noncomputable def xj (c:Ev->Option Bool) (g h:Sm):Sm:=fun J=>(c J).bind λ b=>if b=true then g J else h J
@[simp] noncomputable def fq (i:Nat) (J:Ev):Ev:=match J[i]? with
 | some (some (.own (.lst ts)))=>J.set i (some (.im (.lst ts)))
 | _=>J
@[simp] noncomputable def fm (i:Nat) (g:Sm):Sm:=fun J=>g (fq i J)
section
variable {R:Rk}{g h:Sm}{t u:yO}{f:Ev->Option T}{te:zq}
def yA (hg:yJ R g t) (hh:yJ R h u):yJ R (zr g h) (m7 t u):=λ S0 Z0 S Z Y J o E F e P=>by
 obtain⟨o1,e1,e2⟩:=Ak e;refine hg S0 Z0 S Z Y J o1 { E with nx:=u E } F e1 ?_;cases o1 with
 | nx J1=>exact λ S1 Z1 Y1 F1=>hh S0 Z0 S1 Z1 Y1 J1 o E F1 e2 P
 | rt y=>cases e2;exact P
 | bk y=>cases e2;exact P
 | ct y=>cases e2;exact P
def sg:yJ R xm ZU:=λ S0 Z0 S Z Y J o E F e P=>by cases e;exact P S Z Y F
def xx (i:Nat) (hf:vB f te):yJ R (zU i f) (v7 te (hName i)):=λ S0 Z0 S Z Y J o E F e P=>by
 obtain⟨y,e1,rfl⟩:=AD e;exact hf S Z Y J y _ F.er e1 λ d S1 s1 r1=>P S1 Z _ ((F.grow s1).tj i r1)
def hX (i:Nat) (hf:xC f te):yJ R (uz i f) (v7 te (hName i)):=λ S0 Z0 S Z Y J o E F e P=>by
 obtain⟨y,e1,e2⟩:=Ak e;refine hf S Z Y J y _ F.er e1 λ d S1 s1 r1=>?_;cases y with
 | lst ts=>
  cases e2;obtain⟨p,ds,rfl,h1,h2,h3⟩:=r1.2 ts rfl;exact P S1 _ _ (F.cH (ts:=.lst ts) (ds:=.lst ds) s1 i h1 h2 h3)
 | zi=>cases e2;exact P S1 Z _ ((F.grow s1).tj i r1.1)
 | bl _=>cases e2;exact P S1 Z _ ((F.grow s1).tj i r1.1)
 | int _=>cases e2;exact P S1 Z _ ((F.grow s1).tj i r1.1)
 | str _=>cases e2;exact P S1 Z _ ((F.grow s1).tj i r1.1)
 | tup _=>cases e2;exact P S1 Z _ ((F.grow s1).tj i r1.1)
 | zT=>cases e2;exact P S1 Z _ ((F.grow s1).tj i r1.1)
def Tn (hf:yz f te):yJ R (fD f) (kZ te):=λ S0 Z0 S Z Y J o E F e P=>by
 obtain⟨y,e1,rfl⟩:=AD e;exact hf S Z Y J y _ F.er e1 λ d S1 s1 r1=>P S1 Z _ (F.grow s1)
def rj [Lo R] (hf:xB R f te):yJ R (retS f) (fG te):=λ S0 Z0 S Z Y J o E F e P=>by
 obtain⟨y,e1,rfl⟩:=AD e;exact hf S Z Y J y _ F.er e1 λ d S1 s1 r1=>P d S1 (F.sx.trans s1) (Lo.lo F.sx F.zz r1)
def kq (i:Nat):yJ zH (qj i) (fG (yD i)):=λ S0 Z0 S Z Y J o E F e P=>by
 unfold qj at e;split at e
 .rename_i ts h;cases e;obtain⟨p,ob,h1,h2,h3,h4⟩:=F.er.ow i _ h;obtain⟨ds,rfl⟩:∃ ds,ob=.lst ds:=by
   cases ob with
   | lst ds=>exact⟨ds,rfl⟩
   | yg _=>exact h3.elim
  replace h3:zl (zK S Z) ts ds:=h3;have hn:=F.fr i _ p h h1;have nz:¬ Z0 p:=λ z=>F.z0 p z hn;show yD i Y S E.rt;unfold yD;rw[h1];refine P _ S F.sx ⟨?_,λ us e=>?_⟩
  .simp only[Sn];exact⟨ds,.inr ⟨p,rfl,by rw[uk nz];exact h2⟩,zl.sx (tG F.zz) ts h3⟩
  .cases e;exact⟨p,ds,rfl,hn,h2,zl.sx (tG λ a q=>q.elim (F.zz a) λ q=>q▸h4) ts h3⟩
 .cases e
def sj {c:Ev->Option Bool}{tc:yE}(hc:vt c tc) (hg:yJ R g t) (hh:yJ R h u):yJ R (xj c g h) (ZZ tc t u):=λ S0 Z0 S Z Y J o E F e P=>by
 obtain⟨b,e1,e2⟩:=Ak e;refine hc S Z Y J b _ F.er e1 λ S1 s1=>?_;split at e2
 .rename_i hb;rw[if_pos hb];exact hg S0 Z0 S1 Z Y J o E (F.grow s1) e2 P
 .rename_i hb;rw[if_neg hb];exact hh S0 Z0 S1 Z Y J o E (F.grow s1) e2 P
def FR.fz {S0 S:SS}{Z0 Z:Addr->Prop}{Y:ym}{J:Ev}(F:FR S0 Z0 S Z Y J) (i:Nat):∃ Z',FR S0 Z0 S Z' Y (fq i J):=by
 unfold fq;split
 .rename_i ts h;obtain⟨p,ds,h1,_⟩:=F.er.ow i _ h;exact⟨_,(F.freeze i h h1).1⟩
 .exact⟨Z,F⟩
def Ti (i:Nat) (hg:yJ R g t):yJ R (fm i g) t:=λ S0 Z0 S Z Y J o E F e P=>by
 obtain⟨Z',F'⟩:=F.fz i;exact hg S0 Z0 S Z' Y _ o E F' e P
def lb (g:T->Ev->Option Ev) (t:xo):Prop:=∀ S0 Z0 S Z Y J J' y d Q,FR S0 Z0 S Z Y J->Sn (zK S Z) y d->g y J=some J'->(∀ Y',FR S0 Z0 S Z Y' J'->Q Y' S)->t d Y S Q
def jl (g:List T->Ev->Option Ev) (t:wZ):Prop:=∀ S0 Z0 S Z Y J J' ys ds Q,FR S0 Z0 S Z Y J->zl (zK S Z) ys ds->g ys J=some J'->(∀ Y',FR S0 Z0 S Z Y' J'->Q Y' S)->t ds Y S Q
@[simp] noncomputable def zA (i:Nat):T->Ev->Option Ev:=λ y J=>some (J.set i (some (.im y)))
@[simp] noncomputable def vz:List T->Ev->Option Ev
 | [],J=>some J
 | _::_,_=>none
@[simp] noncomputable def y6 (g:T->Ev->Option Ev) (h:List T->Ev->Option Ev):List T->Ev->Option Ev
 | y::ys,J=>(g y J).bind fun J'=>h ys J'
 | [],_=>none
@[simp] noncomputable def wL (n:Nat) (g:List T->Ev->Option Ev):T->Ev->Option Ev
 | .tup ys,J=>if ys.length=n then g ys J else none
 | _,_=>none
def uI (i:Nat):lb (zA i) (hName i):=λ S0 Z0 S Z Y J J' y d Q F r e hq=>by cases e;exact hq _ (F.tj i r)
def h_:jl vz gP:=λ S0 Z0 S Z Y J J' ys ds Q F r e hq=>by
 cases ys with
 | nil=>simp only[zl] at r;subst r;cases e;exact⟨rfl,hq _ F⟩
 | cons _ _=>cases e
def qq {g:T->Ev->Option Ev}{h:List T->Ev->Option Ev}{t:xo}{u:wZ}(hg:lb g t) (hh:jl h u):jl (y6 g h) (gQ t u):=λ S0 Z0 S Z Y J J' ys ds Q F r e hq=>by
 cases ys with
 | nil=>cases e
 | cons y ys=>
  simp only[zl] at r;obtain⟨c,cs,rfl,r1,r2⟩:=r;obtain⟨J1,e1,e2⟩:=Ak e;exact hg S0 Z0 S Z Y J J1 y c _ F r1 e1 fun Y1 F1=>hh S0 Z0 S Z Y1 J1 J' ys cs Q F1 r2 e2 hq
def gf {n:Nat}{g:List T->Ev->Option Ev}{t:wZ}(hg:jl g t):lb (wL n g) (kJ n t):=λ S0 Z0 S Z Y J J' y d Q F r e hq=>by
 cases y with
 | tup ys=>
  simp only[Sn] at r;obtain⟨ds,rfl,r⟩:=r;simp only[wL] at e;split at e
  .rename_i hl;exact⟨by rw[r.len];exact hl,hg S0 Z0 S Z Y J J' ys ds Q F r e hq⟩
  .cases e
 | zi=>cases e
 | bl _=>cases e
 | int _=>cases e
 | str _=>cases e
 | lst _=>cases e
 | zT=>cases e
@[simp] noncomputable def cw (f:Ev->Option T) (g:T->Ev->Option Ev):Sm:=fun J=>(f J).bind λ y=>(g y J).map .nx
def bN {g:T->Ev->Option Ev}{tg:xo}(hf:vB f te) (hg:lb g tg):yJ R (cw f g) (v7 te tg):=λ S0 Z0 S Z Y J o E F e P=>by
 obtain⟨y,e1,e2⟩:=Ak e;obtain⟨J',e3,rfl⟩:=AD e2;exact hf S Z Y J y _ F.er e1 λ d S1 s1 r1=>hg S0 Z0 S1 Z Y J J' y d _ (F.grow s1) r1 e3 fun Y' F'=>P S1 Z Y' F'
def rX (free:Bool) (f:Ev->Option (List T)) (ti:wJ):Prop:=∀ S Z Y J ts Q,ER S Z Y J->f J=some ts->(∀ I S',Sx S S'->zl (zK S' Z) ts I.items->(∀ S'',Sx (if free=true then zK S' Z else S') S''->I.keep S'')->Q I S')->ti Y S Q
@[simp] noncomputable def xt (f:Ev->Option T):Ev->Option (List T):=fun J=>(f J).bind xF
def bO {f:Ev->Option T}{te:zq}(hf:yz f te):rX false (xt f) (gI te):=λ S Z Y J ts Q hE e hq=>by
 obtain⟨y,e1,e2⟩:=Ak e;refine hf S Z Y J y _ hE e1 λ d S1 s1 r1=>?_;cases y with
 | tup us=>
  cases e2;obtain⟨ds,rfl,h2⟩:=Vw.tup r1;exact hq _ S1 s1 h2 λ _ _=>trivial
 | lst us=>
  cases e2;obtain⟨ds,rfl | ⟨a,rfl,h1⟩,h2⟩:=Vw.lst r1
  .exact hq _ S1 s1 h2 λ _ _=>trivial
  .dsimp only;rw[h1];exact hq ⟨ds,_⟩ S1 s1 h2 λ S'' s=>s _ _ h1
 | zi=>cases e2
 | bl _=>cases e2
 | int _=>cases e2
 | str _=>cases e2
 | zT=>cases e2
def hZ {f:Ev->Option T}{te:zq}(hf:vB f te):rX true (xt f) (gI te):=λ S Z Y J ts Q hE e hq=>by
 obtain⟨y,e1,e2⟩:=Ak e;refine hf S Z Y J y _ hE e1 λ d S1 s1 r1=>?_;cases y with
 | tup us=>
  cases e2;obtain⟨ds,rfl,h2⟩:=Vw.tup (.inl r1);exact hq _ S1 s1 h2 λ _ _=>trivial
 | lst us=>
  cases e2;have r2:=r1;unfold we at r2;simp only[Sn] at r2;obtain⟨ds,⟨rfl,_⟩ | ⟨a,rfl,h1⟩,h2⟩:=r2
  .exact hq _ S1 s1 h2 λ _ _=>trivial
  .dsimp only;rw[(uM h1).2];exact hq ⟨ds,_⟩ S1 s1 h2 λ S'' s=>s _ _ h1
 | zi=>cases e2
 | bl _=>cases e2
 | int _=>cases e2
 | str _=>cases e2
 | zT=>cases e2
noncomputable def rangeT (lo:Int) (n:Nat):List T:=(List.range n).map λ(k:Nat)=>T.int (lo+(k:Int))
def cC {S:SS}(lo:Int) (n:Nat):zl S (rangeT lo n) (vL lo n):=by
 unfold rangeT vL
 induction List.range n with
 | nil=>exact .nil
 | cons k l ih=>exact .cons xX ih
noncomputable def inR (j:Int):Bool:=decide (-100000000<=j)&&decide (j<=100000000)
def Zn {j:Int}:inR j=true↔-100000000<=j/\j<=100000000:=by simp[inR]
def Qg {j:Int}(h:inR j=true):-(2 ^ 62)<=j/\j<2 ^ 62:=by have:=Zn.mp h;lia
noncomputable def uF:List T->Option (List T)
 | [.int j]=>if inR j=true then some (rangeT 0 j.toNat) else none
 | _=>none
@[simp] noncomputable def wq (F:List T->Option (List T)) (g:Ev->Option (List T)):Ev->Option (List T):=fun J=>(g J).bind F
def pF {b:Bool}{g:Ev->Option (List T)}{tA:yp}(h:qP g tA):rX b (wq uF g) (gJ tA):=λ S Z Y J ts Q hE e hq=>by
 obtain⟨ys,e1,e2⟩:=Ak e;refine h S Z Y J ys _ hE e1 λ ds S1 s1 r1=>?_;unfold uF at e2;split at e2
 .split at e2
  .rename_i hc;cases e2;obtain⟨d,rfl,h1⟩:=vI r1;cases h1.int;exact⟨Qg hc,hq _ S1 s1 (cC _ _) λ _ _=>trivial⟩
  .cases e2
 .cases e2
noncomputable def xQ (is:List Nat) (g:T->Ev->Option Ev) (b:Sm):List T->Ev->Option Out
 | [],J=>some (.nx (yI is J))
 | y::ys,J=>(g y (yI is J)).bind fun J1=>(b J1).bind λ o=>match o with
  | .nx J2=>xQ is g b ys J2
  | .ct J2=>xQ is g b ys J2
  | .bk J2=>some (.nx (yI is J2))
  | .rt t=>some (.rt t)
@[simp] noncomputable def wD (is:List Nat) (f:Ev->Option (List T)) (g:T->Ev->Option Ev) (b:Sm):Sm:=fun J=>(f J).bind λ ts=>xQ is g b ts J
def pE {is:List Nat}{fi:Ev->Option (List T)}{ti:wJ}{g:T->Ev->Option Ev}{tg:xo}{b:Sm}{tb:yO} [Lo R] (hi:rX true fi ti) (hg:lb g tg) (hb:yJ R b tb):yJ R (wD is fi g b) (mD ti tg tb):=λ S0 Z0 S Z Y J o E F e P=>by
 obtain⟨ts,e1,e2⟩:=Ak e;refine hi S Z Y J ts _ F.er e1 λ I S1 s1 r1 hk=>?_;rw[if_pos rfl] at hk;obtain⟨SB,b1,FB,b2⟩:=(F.grow s1).rebase;have lo:∀ S' d y,R SB S' Z0 y d->R S0 S' Z0 y d:=λ S' d y r=>Lo.lo b1 (λ _ z=>z) r;have zz:=F.zz;refine⟨λ i Y' S'=>∃ Z' J',FR SB Z0 S' Z' Y' J'/\xQ is g b (ts.drop i) J'=some o,⟨Z,J,FB,e2⟩,λ i Y' S' ⟨Z',J',F',_⟩=>hk S' (b2.trans F'.sx),λ i d Y' S' hd ⟨Z',J',F',e'⟩=>?_,fun Y' S' ⟨Z',J',F',e'⟩=>?_⟩
 .obtain⟨y,hy,r2⟩:=r1.fj hd;have An:=(AK.mp hy).1;have Et:ts.drop i=y::ts.drop (i+1):=by
   rw[List.drop_eq_getElem_cons An,(AK.mp hy).2]
  rw[Et] at e';unfold xQ at e';obtain⟨J1,g1,e'⟩:=Ak e';obtain⟨o1,g2,e'⟩:=Ak e';refine hg SB Z0 S' Z' Y' _ J1 y d _ (F'.yI is) (Sn.sx (F'.Wz b2 zz) y r2) g1 fun Y2 F2=>?_
  refine hb SB Z0 S' Z' Y2 J1 o1 _ F2 g2 ?_;cases o1 with
  | nx J2=>exact λ S3 Z3 Y3 F3=>⟨Z3,J2,F3,e'⟩
  | ct J2=>exact λ S3 Z3 Y3 F3=>⟨Z3,J2,F3,e'⟩
  | bk J2=>cases e';exact λ S3 Z3 Y3 F3=>P S3 Z3 Y3 ((F3.yI is).back b1 F.z0)
  | rt y=>cases e';exact λ d S3 s3 r3=>P d S3 (b1.trans s3) (lo _ _ _ r3)
 .rw[show I.items.length=ts.length from r1.len,List.drop_length] at e';unfold xQ at e';cases e';exact P S' Z' Y' ((F'.yI is).back b1 F.z0)
end
@[simp] noncomputable def wc (i:Nat) (f:Ev->Option T):Sm:=fun J=>match J[i]? with
 | some (some (.own (.lst ts)))=>(f J).bind λ y=>if ts.length<sizeLine then some (.nx (J.set i (some (.own (.lst (ts++[y])))))) else none
 | _=>none
section
variable {R:Rk}{f:Ev->Option T}{te:zq}
def kr (i:Nat) (hf:vB f te):yJ R (wc i f) (kZ (rR (yD i) te)):=λ S0 Z0 S Z Y J o E F e P=>by
 unfold wc at e;split at e
 .rename_i ts h;obtain⟨y,e1,e2⟩:=Ak e;split at e2
  .rename_i hl;cases e2;obtain⟨p,ob,h1,h2,h3,h4⟩:=F.er.ow i _ h;obtain⟨ds,rfl⟩:∃ ds,ob=.lst ds:=by
    cases ob with
    | lst ds=>exact⟨ds,rfl⟩
    | yg _=>exact h3.elim
   replace h3:zl (zK S Z) ts ds:=h3;show rR (yD i) te Y S _;unfold rR yD;rw[h1];refine⟨⟨ds,h2⟩,hf S Z Y J y _ F.er e1 λ d S1 s1 r1=>?_⟩;dsimp only;rw[s1 _ _ h2];have F1:=F.grow s1;refine⟨by rw[h3.len];exact hl,P _ Z Y (F1.mut (us:=.lst (ts++[y])) (es:=.lst (ds++[d])) i h h1 ((zl.sx (wX s1) ts h3).append (.cons r1 .nil)))⟩
  .cases e2
 .cases e
end
def sE (pick:List (Option Nat)) (ti:wJ) (g:xo) (tc:yE) (te:zq):zq:=fun Y S Q=>ti Y S λ I S1=>I.items.length<=sizeLine/\(∀ S,Sx S1 S->I.keep S)/\∀ p,S1 p=none->∃ W:Nat->SS->List D->Prop,W 0 S1 []/\
 (∀ i S S' acc,(∀ b o,b≠p->S b=some o->S' b=some o)->W i S acc->W i S' acc)/\
 (∀ i d S acc,I.items[i]?=some d->Sx S1 S->S p=some (.lst acc)->W i S acc->g d (ue pick Y) S fun Y2 S2=>qL (ue pick Y) Y2/\tc Y2 S2 λ b S3=>if b=true then te Y2 S3 λ y S4=>Sx S S4/\W (i+1) S4 (acc++[y]) else Sx S S3/\W (i+1) S3 acc)/\
 ∀ S2 acc,Sx S1 S2->S2 p=some (.lst acc)->W I.items.length S2 acc->Q (.ref p) S2
@[simp] noncomputable def nj (pick:List (Option Nat)) (J:Ev):Ev:=pick.map λ o=>o.bind λ i=>(J[i]?).join
noncomputable def qD (h:T->Option (Option T)):List T->Option (List T)
 | []=>some []
 | y::ys=>(h y).bind λ o=>(qD h ys).map λ zs=>match o with
  | some z=>z::zs
  | none=>zs
@[simp] noncomputable def vg (pick:List (Option Nat)) (g:T->Ev->Option Ev) (c:Ev->Option Bool) (f:Ev->Option T) (J:Ev) (y:T):Option (Option T):=
 (g y (nj pick J)).bind fun J2=>(c J2).bind λ b=>if b=true then (f J2).map some else some none
noncomputable def xR (pick:List (Option Nat)) (it:Ev->Option (List T)) (g:T->Ev->Option Ev) (c:Ev->Option Bool) (f:Ev->Option T):Ev->Option T:=fun J=>(it J).bind λ ts=>if ts.length<=sizeLine then (qD (vg pick g c f J) ts).map .lst else none
@[simp] noncomputable def uw:Ev->Option Bool:=λ _=>some true
def ku:vt uw ZI:=λ S Z Y J y Q hE e hq=>by cases e;exact hq S (.refl S)
def jn (pick:List (Option Nat)) (g:T->Ev->Option Ev) (t:xo):Prop:=∀ B S Z Y J J' y d Q,(∀ i:Nat,pick[i]?=some none->B[i]?=some none)->qL B Y->Y.length=J.length->ER S Z Y J->Sn (zK S Z) y d->g y J=some J'->
 (∀ Y',ER S Z Y' J'->qL B Y'->Y'.length=J'.length->Q Y' S)->t d Y S Q
def jm (pick:List (Option Nat)) (g:List T->Ev->Option Ev) (t:wZ):Prop:=∀ B S Z Y J J' y d Q,(∀ i:Nat,pick[i]?=some none->B[i]?=some none)->qL B Y->Y.length=J.length->ER S Z Y J->zl (zK S Z) y d->g y J=some J'->
 (∀ Y',ER S Z Y' J'->qL B Y'->Y'.length=J'.length->Q Y' S)->t d Y S Q
def ER.tj {S:SS}{Z:Addr->Prop}{Y:ym}{J:Ev}{y:T}{d:D}(h:ER S Z Y J) (hl:Y.length=J.length) (i:Nat) (r:Sn (zK S Z) y d):ER S Z (Y.set i (some d)) (J.set i (some (.im y))):=by
 refine⟨h.zd,λ j t e=>?_,λ j ts e=>?_⟩
 .rcases yR e with ⟨rfl,hl',e⟩ | ⟨n,e⟩
  .cases e;exact⟨d,pW (by rw[hl];exact hl'),r⟩
  .rw[vk n];exact h.im j t e
 .rcases yR e with ⟨rfl,hl',e⟩ | ⟨n,e⟩
  .cases e
  .rw[vk n];exact h.ow j ts e
variable {pick:List (Option Nat)}
def nC (i:Nat) (hi:pick[i]?=some none:=by rfl):jn pick (zA i) (hName i):=λ B S Z Y J J' y d Q hB hs hl hE r e hq=>by
 cases e;refine hq _ (hE.tj hl i r) ⟨by rw[Dy];exact hs.1,λ j c q=>?_⟩ (by simp[hl]);by_cases hj:i=j
 .subst hj;rw[hB i hi] at q;cases q
 .rw[vk hj];exact hs.2 j c q
def Tu:jm pick vz gP:=λ B S Z Y J J' y d Q hB hs hl hE r e hq=>by
 cases y with
 | nil=>simp only[zl] at r;subst r;cases e;exact⟨rfl,hq _ hE hs hl⟩
 | cons _ _=>cases e
def Tv {g:T->Ev->Option Ev}{h:List T->Ev->Option Ev}{t:xo}{u:wZ}(hg:jn pick g t) (hh:jm pick h u):jm pick (y6 g h) (gQ t u):=λ B S Z Y J J' y d Q hB hs hl hE r e hq=>by
 cases y with
 | nil=>cases e
 | cons y ys=>
  simp only[zl] at r;obtain⟨c,cs,rfl,r1,r2⟩:=r;obtain⟨J1,e1,e2⟩:=Ak e;exact hg B S Z Y J J1 y c _ hB hs hl hE r1 e1 fun Y1 E1 s1 l1=>hh B S Z Y1 J1 J' ys cs Q hB s1 l1 E1 r2 e2 hq
def Tw {n:Nat}{g:List T->Ev->Option Ev}{t:wZ}(hg:jm pick g t):jn pick (wL n g) (kJ n t):=λ B S Z Y J J' y d Q hB hs hl hE r e hq=>by
 cases y with
 | tup ys=>
  simp only[Sn] at r;obtain⟨ds,rfl,r⟩:=r;simp only[wL] at e;split at e
  .rename_i hn;exact⟨by rw[r.len];exact hn,hg B S Z Y J J' ys ds Q hB hs hl hE r e hq⟩
  .cases e
 | zi=>cases e
 | bl _=>cases e
 | int _=>cases e
 | str _=>cases e
 | lst _=>cases e
 | zT=>cases e
def bw {J:Ev}{i:Nat}{w:W}(h:(nj pick J)[i]?=some (some w)):∃ j:Nat,pick[i]?=some (some j)/\J[j]?=some (some w):=by
 unfold nj at h;rw[Az] at h;cases q:pick[i]? with
 | none=>rw[q] at h;cases h
 | some o=>
  rw[q] at h;cases o with
  | none=>simp at h
  | some j=>
   simp only[Option.map_some,Bn,Option.some.injEq] at h;refine⟨j,rfl,?_⟩;cases q2:J[j]? with
   | none=>rw[q2] at h;cases h
   | some o2=>rw[q2] at h;simp only[Option.join_some] at h;rw[h]
def bx {Y:ym}{i j:Nat}{d:D}(h:pick[i]?=some (some j)) (h':Y[j]?=some (some d)):(ue pick Y)[i]?=some (some d):=by
 unfold ue;rw[Az,h];simp[h']
def ER.V4 {S:SS}{Z:Addr->Prop}{Y:ym}{J:Ev}(h:ER S Z Y J):ER S Z (ue pick Y) (nj pick J):=by
 refine⟨h.zd,λ i t e=>?_,λ i ts e=>?_⟩
 .obtain⟨j,h1,h2⟩:=bw e;obtain⟨d,h3,h4⟩:=h.im j t h2;exact⟨d,bx h1 h3,h4⟩
 .obtain⟨j,h1,h2⟩:=bw e;obtain⟨p,ds,h3,h4⟩:=h.ow j ts h2;exact⟨p,ds,bx h1 h3,h4⟩
def ER.hide {S S':SS}{Z:Addr->Prop}{Y:ym}{J:Ev}{p:Addr}(h:ER S Z Y J) (s:Sx S S') (hp:S p=none) (hp':S' p≠none):ER S' (λ a=>Z a\/a=p) Y J:=by
 refine⟨λ a z q=>?_,λ i t e=>?_,λ i ts e=>?_⟩
 .rcases z with z | rfl
  .exact h.zd a z (s.none q)
  .exact hp' q
 .obtain⟨d,h1,h2⟩:=h.im i t e;exact⟨d,h1,Sn.sx (pT s hp) t h2⟩
 .obtain⟨q,ds,h1,h2,h3,h4⟩:=h.ow i ts e;exact⟨q,ds,h1,s _ _ h2,tS.sx (pT s hp) h3,.inl h4⟩
def nE {it:Ev->Option (List T)}{ti:wJ}{g:T->Ev->Option Ev}{tg:xo}{c:Ev->Option Bool}{tc:yE}{f:Ev->Option T}{te:zq}{b:Bool}(hi:rX b it ti) (hg:jn pick g tg) (hc:vt c tc) (hf:vB f te):
  xC (xR pick it g c f) (sE pick ti tg tc te):=λ S Z Y J y Q hE e hq=>by
 obtain⟨ts,e1,e2⟩:=Ak e;split at e2
 case isFalse=>cases e2
 rename_i hlen;obtain⟨zs,e3,rfl⟩:=AD e2;refine hi S Z Y J ts _ hE e1 λ I S1 s1 r1 hk=>⟨by rw[r1.len];exact hlen,λ S' s'=>hk S' ?_,λ p hp=>?_⟩
 .cases b
  .exact s'
  .exact (pS _ _).trans s'
 have E1:=hE.grow s1;have nz:¬ Z p:=λ z=>E1.zd p z hp;refine⟨λ i S' acc=>∃ us ws,zl (zK S' λ a=>Z a\/a=p) us acc/\qD (vg pick g c f J) (ts.drop i)=some ws/\zs=us++ws,⟨[],zs,.nil,e3,rfl⟩,λ i S' S'' acc hh ⟨us,ws,h1,h2⟩=>⟨us,ws,zl.sx (λ a o q=>?_) us h1,h2⟩,λ i d S2 acc hd s2 AQ ⟨us,ws,h1,h2,h3⟩=>?_,λ S2 acc s2 AQ ⟨us,ws,h1,h2,h3⟩=>?_⟩
 .obtain⟨q1,q2⟩:=uM q;rw[uk q1];exact hh a o (λ z=>q1 (.inr z)) q2
 .obtain⟨x,hx,rx⟩:=r1.fj hd;have An:=(AK.mp hx).1;have Et:ts.drop i=x::ts.drop (i+1):=by rw[List.drop_eq_getElem_cons An,(AK.mp hx).2]
  rw[Et] at h2;unfold qD at h2;obtain⟨o,o1,h2⟩:=Ak h2;obtain⟨ws',o2,rfl⟩:=AD h2;have E2:=(E1.hide s2 hp (by rw[AQ];nofun)).V4 (pick:=pick);unfold vg at o1;obtain⟨J2,g1,o1⟩:=Ak o1;obtain⟨bb,g2,o1⟩:=Ak o1;refine hg (ue pick Y) S2 _ _ _ J2 x d _ (λ j hj=>?_) ⟨rfl,λ _ _ q=>q⟩ (by unfold ue nj;simp) E2 (Sn.sx (pT s2 hp) x rx) g1 fun Y2 E3 l3 _=>⟨l3,?_⟩
  .unfold ue;rw[Az,hj];rfl
  refine hc S2 _ Y2 J2 bb _ E3 g2 λ S3 s3=>?_;split at o1
  .rename_i hb;rw[if_pos hb];obtain⟨z,g3,rfl⟩:=AD o1;refine hf S3 _ Y2 J2 z _ (E3.grow s3) g3 λ dz S4 s4 r4=>⟨s3.trans s4,us++[z],ws',?_,o2,by rw[h3];simp⟩;exact (zl.sx (wX (s3.trans s4)) us h1).append (.cons r4 .nil)
  .rename_i hb;rw[if_neg hb];cases o1;exact⟨s3,us,ws',zl.sx (wX s3) us h1,o2,h3⟩
 .rw[show I.items.length=ts.length from r1.len,List.drop_length] at h2;cases h2;rw[C0] at h3;subst h3;refine hq _ S2 (s1.trans s2) ⟨?_,λ vs e=>?_⟩
  .simp only[Sn];exact⟨acc,.inr ⟨p,rfl,by rw[uk nz];exact AQ⟩,zl.sx (tG λ a z=>.inl z) zs h1⟩
  .cases e;exact⟨p,acc,rfl,s1.none hp,AQ,h1⟩
class Sr (R:Rk):Prop extends Lo R where
 sn:∀ {S S':SS}{Z:Addr->Prop}{y:T}{d:D},R S S' Z y d->Sn (zK S' Z) y d
instance:Sr we:=⟨λ h=>h⟩
instance:Sr zH:=⟨λ h=>h.1⟩
def ya (R:Rk) (F:List T->Option T):rW:=λ ds S Q=>∃ Z ys y,(∀ a,Z a->S a≠none)/\zl (zK S Z) ys ds/\F ys=some y/\∀ d S',Sx S S'->R S S' Z y d->Q d S'
def ya.mo {R:Rk}{F:List T->Option T}:e9 (ya R F):=λ _ _ _ _ hq ⟨Z,ys,y,h1,h2,h3,h4⟩=>⟨Z,ys,y,h1,h2,h3,λ d S' s r=>hq _ _ (h4 d S' s r)⟩
def vy {R:Rk} [Lo R] {F:List T->Option T}{g:Ev->Option (List T)}{u:yp}(h:qO g u):xB R (zv F g) (fH (ya R F) u):=λ S Z Y J y Q hE e hq=>by
 obtain⟨xs,e1,e2⟩:=Ak e;refine h S Z Y J xs _ hE e1 λ ds S1 s1 r1=>?_;exact⟨Z,xs,y,(hE.grow s1).zd,r1,e2,λ d S' s r=>hq d S' (s1.trans s) (Cl.cl s1 r)⟩
@[simp] noncomputable def qW (N:List Str) (ys:List T):Ev:=ys.map (λ y=>some (.im y))++List.replicate (N.length-ys.length) none
@[simp] noncomputable def bJ:Option Out->Option T
 | some (.rt y)=>some y
 | some (.nx _)=>some .zi
 | _=>none
@[simp] noncomputable def yo (N:List Str) (n:Nat) (g:Sm):List T->Option T:=λ ys=>if ys.length=n then bJ (g (qW N ys)) else none
theorem ya.len {R:Rk}{N:List Str}{n:Nat}{g:Sm}{ds:List D}{S:SS}{Q:DK}(hs:ya R (yo N n g) ds S Q):ds.length=n:=by
 obtain⟨Z,ys,y,hz,r,e,hq⟩:=hs;unfold yo at e;split at e
 .rename_i h;rw[r.len];exact h
 .cases e
def Wi {N:List Str}{ds:List D}{i:Nat}{d:D}(h:ds[i]?=some d):(tZ N ds)[i]?=some (some d):=by
 have hi:=(AK.mp h).1;unfold tZ;rw[Ct (by simpa using hi),Az,h];rfl
def lN {N:List Str}{ys:List T}{i:Nat}{w:W}(h:(qW N ys)[i]?=some (some w)):∃ y,ys[i]?=some y/\w=.im y:=by
 unfold qW at h;have hi:i<ys.length:=by
  rcases Bi i ys.length with q | q
  .exact q
  .rw[Cu (by simpa using q),CM] at h;split at h <;> cases h
 rw[Ct (by simpa using hi),Az] at h;cases q:ys[i]? with
 | none=>rw[q] at h;cases h
 | some y=>rw[q] at h;cases h;exact⟨y,rfl,rfl⟩
def Oi {R:Rk} [Lo R] {N:List Str}{n:Nat}{g:Sm}{t:yO}(h:yJ R g t) {ds:List D}{S:SS}{Q:DK}(hs:ya R (yo N n g) ds S Q):t { nx:=λ _ S'=>Q .zi S',rt:=Q } (tZ N ds) S:=by
 obtain⟨Z,ys,y,hz,r,e,hq⟩:=hs;unfold yo at e;split at e
 case isFalse=>cases e
 obtain⟨o,e1,e2⟩:∃ o,g (qW N ys)=some o/\bJ (some o)=some y:=by
  cases q:g (qW N ys) with
  | none=>rw[q] at e;cases e
  | some o=>exact⟨o,rfl,by rw[<- q];exact e⟩
 refine h S Z S Z _ _ o _ ⟨⟨hz,λ i t e=>?_,λ i ts e=>?_⟩,?_,.refl S,hz,λ _ z=>z,λ _ z=>.inl z,λ i ts p e _=>?_,λ i j ts us p _ e _ _ _=>?_⟩ e1 ?_
 .obtain⟨y',h1,h2⟩:=lN e;cases h2;obtain⟨d,h3,h4⟩:=r.g_ h1;exact⟨d,Wi h3,h4⟩
 .obtain⟨y',h1,h2⟩:=lN e;cases h2
 .unfold tZ qW;have:=r.len;simp[this]
 .obtain⟨y',h1,h2⟩:=lN e;cases h2
 .obtain⟨y',h1,h2⟩:=lN e;cases h2
 .cases o with
  | rt y'=>cases e2;exact λ d S' s r=>hq d S' s r
  | nx J'=>
   cases e2;exact λ S' Z' Y' F=>hq .zi S' F.sx (Cl.of (λ _=>nofun) jR)
  | bk _=>cases e2
  | ct _=>cases e2
noncomputable def xp (Aa:List (Key×T)) (k:Key):Option T:=(Aa.find? λ kv=>decide (kv.1=k)).map (·.2)
noncomputable def ua (Aa:List (Key×T)) (k:Key) (v:T):List (Key×T):=
 if (Aa.any λ kv=>decide (kv.1=k))=true then Aa.map (λ kv=>if kv.1=k then (kv.1,v) else kv) else Aa++[(k,v)]
section
variable {S:SS}
theorem y8.len:∀ {a:List (Key×T)}{b:List (Key×D)},y8 S a b->b.length=a.length
 | [],_,h=>by cases h;rfl
 | (k,t)::r,_,h=>by
  obtain⟨d,m,rfl,_,h2⟩:=h;simp[y8.len h2]
theorem y8.val:∀ {a:List (Key×T)}{b:List (Key×D)}(k:Key),y8 S a b->(xp a k=none/\vY b k=none)\/∃ t d,xp a k=some t/\vY b k=some d/\Sn S t d
 | [],_,k,h=>by cases h;exact .inl ⟨rfl,rfl⟩
 | (j,t)::r,_,k,h=>by
  obtain⟨d,m,rfl,h1,h2⟩:=h;by_cases e:j=k
  .subst e;exact .inr ⟨t,d,by simp[xp],by simp[vY],h1⟩
  .rcases y8.val k h2 with ⟨g1,g2⟩ | ⟨t',d',g1,g2,g3⟩
   .exact .inl ⟨by simpa [xp,e] using g1,by simpa [vY,e] using g2⟩
   .exact .inr ⟨t',d',by simpa [xp,e] using g1,by simpa [vY,e] using g2,g3⟩
theorem y8.any:∀ {a:List (Key×T)}{b:List (Key×D)}(k:Key),y8 S a b->(b.any λ kv=>decide (kv.1=k))=a.any λ kv=>decide (kv.1=k)
 | [],_,k,h=>by cases h;rfl
 | (j,t)::r,_,k,h=>by
  obtain⟨d,m,rfl,h1,h2⟩:=h;rw[Br,Br,y8.any k h2]
theorem y8.tq {k:Key}{t:T}{d:D}(r:Sn S t d):∀ {a:List (Key×T)}{b:List (Key×D)},y8 S a b->y8 S (a.map λ kv=>if kv.1=k then (kv.1,t) else kv) (b.map λ kv=>if kv.1=k then (kv.1,d) else kv)
 | [],_,h=>by cases h;rfl
 | (j,u)::a,_,h=>by
  obtain⟨e,m,rfl,h1,h2⟩:=h;rw[Au,Au];by_cases q:j=k
  .rw[if_pos q,if_pos q];exact⟨d,_,rfl,r,y8.tq r h2⟩
  .rw[if_neg q,if_neg q];exact⟨e,_,rfl,h1,y8.tq r h2⟩
theorem y8.snoc {k:Key}{t:T}{d:D}(r:Sn S t d):∀ {a:List (Key×T)}{b:List (Key×D)},y8 S a b->y8 S (a++[(k,t)]) (b++[(k,d)])
 | [],_,h=>by cases h;exact⟨d,[],rfl,r,rfl⟩
 | (j,u)::a,_,h=>by
  obtain⟨e,m,rfl,h1,h2⟩:=h;exact⟨e,_,rfl,h1,y8.snoc r h2⟩
def y8.put {a:List (Key×T)}{b:List (Key×D)}(h:y8 S a b) (k:Key) {t:T}{d:D}(r:Sn S t d):y8 S (ua a k t) (putD b k d):=by
 unfold ua putD;rw[h.any k];split
 .exact y8.tq r h
 .exact y8.snoc r h
end
@[simp] noncomputable def ZM (i:Nat):Sm:=fun J=>some (.nx (J.set i (some (.own (.yg [])))))
@[simp] noncomputable def fF (i:Nat) (f:Ev->Option T):Ev->Option T:=fun J=>(f J).bind λ y=>match J[i]?,y with
 | some (some (.own (.yg Aa))),.int k=>xp Aa (.inl k)
 | _,_=>none
@[simp] noncomputable def ZN (i:Nat) (f g:Ev->Option T):Ev->Option T:=fun J=>(f J).bind λ y=>(g J).bind λ z=>match J[i]?,y with
 | some (some (.own (.yg Aa))),.int k=>some ((xp Aa (.inl k)).getD z)
 | _,_=>none
@[simp] noncomputable def ZK (i:Nat) (f v:Ev->Option T):Sm:=fun J=>(v J).bind λ z=>(f J).bind λ y=>match J[i]?,y with
 | some (some (.own (.yg Aa))),.int k=>if Aa.length<sizeLine then some (.nx (J.set i (some (.own (.yg (ua Aa (.inl k) z)))))) else none
 | _,_=>none
@[simp] noncomputable def fE (i:Nat):Ev->Option T:=fun J=>match J[i]? with
 | some (some (.own (.yg Aa)))=>some (.int Aa.length)
 | _=>none
def ko {S:SS}{Z:Addr->Prop}{Y:ym}{J:Ev}(hE:ER S Z Y J) {i:Nat}{Aa:List (Key×T)}(h:J[i]?=some (some (.own (.yg Aa)))):∃ p b,Y[i]?=some (some (.ref p))/\S p=some (.yg b)/\y8 (zK S Z) Aa b:=by
 obtain⟨p,o,h1,h2,h3,_⟩:=hE.ow i _ h;cases o with
 | yg b=>exact⟨p,b,h1,h2,h3⟩
 | lst _=>exact h3.elim
section
variable {R:Rk}{f g v:Ev->Option T}{ty tx tv:zq}
def Tq (i:Nat):yJ R (ZM i) (v7 Z_ (hName i)):=λ S0 Z0 S Z Y J o E F e P=>by
 cases e;intro p hp;exact P _ _ _ (F.cH (ts:=.yg []) (ds:=.yg []) (.new hp _) i hp sU rfl)
def bS (i:Nat) (hf:yz f ty):vB (fF i f) (Yc (yD i) ty):=λ S Z Y J y Q hE e hq=>by
 obtain⟨x,e1,e2⟩:=Ak e;split at e2
 .rename_i Aa k h;obtain⟨p,b,h1,h2,h3⟩:=ko hE h;show yD i Y S _;unfold yD;rw[h1];refine hf S Z Y J _ _ hE e1 λ d S1 s1 r1=>?_;cases Vw.int r1;rcases (y8.sx (wX s1) h3).val (.inl k) with ⟨g1,_⟩ | ⟨t,d,g1,g2,g3⟩
  .rw[g1] at e2;cases e2
  .rw[g1] at e2;cases e2;exact⟨p,b,k,d,rfl,rfl,s1 _ _ h2,g2,hq d S1 s1 g3⟩
 .cases e2
def bU (i:Nat) (hf:yz f ty) (hg:vB g tx):vB (ZN i f g) (Yb (yD i) ty tx):=λ S Z Y J y Q hE e hq=>by
 obtain⟨x,e1,e⟩:=Ak e;obtain⟨z,e2,e3⟩:=Ak e;split at e3
 .rename_i Aa k h;cases e3;obtain⟨p,b,h1,h2,h3⟩:=ko hE h;show yD i Y S _;unfold yD;rw[h1];refine⟨p,rfl,⟨b,h2⟩,hf S Z Y J _ _ hE e1 λ d S1 s1 r1=>?_⟩;cases Vw.int r1;refine hg S1 Z Y J z _ (hE.grow s1) e2 λ dz S2 s2 r2=>⟨k,b,rfl,(s1.trans s2) _ _ h2,?_⟩;rcases (y8.sx (wX (s1.trans s2)) h3).val (.inl k) with ⟨g1,g2⟩ | ⟨t,d,g1,g2,g3⟩
  .rw[g2];rw[g1] at hq;exact hq _ S2 (s1.trans s2) r2
  .rw[g2];rw[g1] at hq;exact hq _ S2 (s1.trans s2) g3
 .cases e3
def Tp (i:Nat) (hf:yz f ty) (hv:vB v tv):yJ R (ZK i f v) (Ya (yD i) ty tv):=λ S0 Z0 S Z Y J o E F e P=>by
 obtain⟨z,e1,e⟩:=Ak e;obtain⟨x,e2,e3⟩:=Ak e;split at e3
 .rename_i Aa k h;split at e3
  .rename_i hl;cases e3;refine hv S Z Y J z _ F.er e1 λ dz S1 s1 r1=>?_;have F1:=F.grow s1;obtain⟨p,b,h1,h2,h3⟩:=ko F1.er h;show yD i Y S1 _;unfold yD;rw[h1];refine hf S1 Z Y J _ _ F1.er e2 λ d S2 s2 r2=>?_;cases Vw.int r2;have h4:=y8.sx (wX s2) h3;exact⟨p,b,k,rfl,rfl,s2 _ _ h2,by rw[h4.len];exact hl,P _ Z Y ((F1.grow s2).mut (us:=.yg (ua Aa (.inl k) z)) (es:=.yg (putD b (.inl k) dz)) i h h1 (h4.put _ (Sn.sx (wX s2) z r1)))⟩
  .cases e3
 .cases e3
def Sg (i:Nat):xC (fE i) (xK Z7 (qC (yD i) kY)):=λ S Z Y J y Q hE e hq=>by
 unfold fE at e;split at e
 .rename_i Aa h;cases e;obtain⟨p,b,h1,h2,h3⟩:=ko hE h;show yD i Y S _;unfold yD;rw[h1];refine⟨p,b,rfl,h2,?_⟩;rw[h3.len];exact hq _ S (.refl S) (Cl.of (λ _=>nofun) xX)
 .cases e
end
@[simp] noncomputable def kz (f:Ev->Option T):Ev->Option T:=fun J=>(f J).bind λ x=>match x with
 | .int i=>some (.int (-i))
 | _=>none
def ZW (ta:zq):zq:=fun Y S Q=>ta Y S λ x S1=>match x with
 | .int i=>Q (.int (-i)) S1
 | _=>False
def TB {f:Ev->Option T}{te:zq}(h:yz f te):xC (kz f) (ZW te):=λ S Z Y J y Q hE e hq=>by
 obtain⟨x,e1,e2⟩:=Ak e;refine h S Z Y J x _ hE e1 λ d S1 s1 r1=>?_;split at e2
 .cases Vw.int r1;cases e2;exact hq _ S1 s1 (Cl.of (λ _=>nofun) xX)
 .cases e2
def gW:vE zH tD Z6:=Zs
def Zr:vE zH nK Z5:=Zs
noncomputable def wW:List T->Option (List Int)
 | []=>some []
 | .int i::ts=>(wW ts).map (i::·)
 | _::_=>none
noncomputable def v_:List T->Option (List (List Int))
 | []=>some []
 | .tup r::ts=>(wW r).bind λ x=>(v_ ts).map (x::·)
 | _::_=>none
noncomputable def zM (r:List Int):T:=.tup (r.map T.int)
theorem qy:∀ {ts:List T}{is:List Int},wW ts=some is->ts=is.map T.int
 | [],is,h=>by cases h;rfl
 | .int b::ts,is,h=>by
  unfold wW at h;obtain⟨cs,h1,rfl⟩:=AD h;rw[Au,<- qy h1]
 | .zi::ts,bs,h=>by cases h
 | .bl _::ts,bs,h=>by cases h
 | .str _::ts,bs,h=>by cases h
 | .tup _::ts,bs,h=>by cases h
 | .lst _::ts,bs,h=>by cases h
theorem i7:∀ {ts:List T}{rs:List (List Int)},v_ ts=some rs->ts=rs.map zM
 | [],is,h=>by cases h;rfl
 | .tup r::ts,is,h=>by
  unfold v_ at h;obtain⟨x,h1,h⟩:=Ak h;obtain⟨cs,h2,rfl⟩:=AD h;rw[Au,<- i7 h2,qy h1];rfl
 | .zi::ts,bs,h=>by cases h
 | .bl _::ts,bs,h=>by cases h
 | .str _::ts,bs,h=>by cases h
 | .int _::ts,bs,h=>by cases h
 | .lst _::ts,bs,h=>by cases h
def kF (is:List Int):wW (is.map T.int)=some is:=by
 induction is with
 | nil=>rfl
 | cons b bs ih=>rw[Au];unfold wW;rw[ih];rfl
def i8 (rs:List (List Int)):v_ (rs.map zM)=some rs:=by
 induction rs with
 | nil=>rfl
 | cons b bs ih=>
  show v_ (.tup (b.map T.int)::bs.map zM)=_;unfold v_;rw[kF,ih];rfl
theorem uE {S:SS}:∀ {is:List Int}{ds:List D},zl S (is.map T.int) ds↔ds=is.map D.int
 | [],ds=>by simp only[Bj,zl]
 | i::is,ds=>by
  rw[Au];simp only[zl,Sn];constructor
  .rintro⟨c,cs,rfl,rfl,h⟩;rw[uE.mp h];rfl
  .rintro rfl;exact⟨.int i,_,rfl,rfl,uE.mpr rfl⟩
theorem qY {S:SS}:∀ {rs:List (List Int)}{ds:List D},zl S (rs.map zM) ds↔ds=rs.map wj
 | [],ds=>by simp only[Bj,zl]
 | r::rs,ds=>by
  rw[Au];simp only[zl,zM,Sn];constructor
  .rintro⟨c,cs,rfl,⟨es,rfl,h1⟩,h⟩;rw[qY.mp h,uE.mp h1];rfl
  .rintro rfl;exact⟨wj r,_,rfl,⟨_,rfl,uE.mpr rfl⟩,qY.mpr rfl⟩
@[simp] noncomputable def cu:T->String
 | .zi=>"NoneType"
 | .bl _=>"bool"
 | .int _=>"int"
 | .str _=>"str"
 | .tup _=>"tuple"
 | .lst _=>"list"
 | .zT=>"dict"
@[simp] noncomputable def instS (ty:String) (f:Ev->Option T):Ev->Option T:=fun J=>(f J).map λ x=>.bl (ui (cu x) ty)
def T_ {ty:String}{f:Ev->Option T}{te:zq}(hf:yz f te):xC (instS ty f) (mB ty te):=λ S Z Y J y Q hE e hq=>by
 obtain⟨x,e1,rfl⟩:=AD e;refine hf S Z Y J x _ hE e1 λ d S1 s1 r1=>?_;have key:sW d S1=some (cu x):=by
  cases x with
  | zi=>cases Vw.zi r1;rfl
  | bl _=>cases Vw.bl r1;rfl
  | int _=>cases Vw.int r1;rfl
  | str _=>cases Vw.str r1;rfl
  | tup _=>obtain⟨ds,rfl,_⟩:=Vw.tup r1;rfl
  | lst _=>
   obtain⟨ds,rfl | ⟨a,rfl,h1⟩,h2⟩:=Vw.lst r1
   .rfl
   .unfold sW;dsimp only;rw[h1];rfl
  | zT=>
   obtain⟨a,Aa,rfl,h1⟩:=Vw.zT r1;unfold sW;dsimp only;rw[h1];rfl
 rw[key];exact hq _ S1 s1 (Cl.of (λ _=>nofun) vv)
@[simp] noncomputable def isNone:T->Bool
 | .zi=>true
 | _=>false
noncomputable def pL:D->Bool
 | .zi=>true
 | _=>false
noncomputable def zt (p:Int×Int):T:=.tup [.int p.1,.int p.2]
noncomputable def xZ (ns:List Int):T:=.lst (ns.map .int)
@[simp] theorem zaa:sizeLine=16777216:=rfl
def Rq {n:Nat}(h:n<=10000):n<=sizeLine:=Bl h (by decide)
def ux {α:Type}{xs:List α}{k:Nat}{x:α}(h:xs[k]?=some x):L2.zN xs (k:Int)=some x:=by
 unfold L2.zN L2.vh;have hk:=(AK.mp h).1;rw[if_pos (by lia),if_pos (by lia)];simpa using h
@[simp] theorem fT {α:Type}{xs:List α}{x:α}:L2.zN (xs++[x]) (-1)=some x:=by
 unfold L2.zN L2.vh;rw[if_neg (by lia),if_pos (by simp;lia)];have:(-1+((xs++[x]).length:Int)).toNat=xs.length:=by simp;lia
 rw[Bn,this];simp
@[simp] theorem zah {α:Type}{x:α}{xs:List α}:L2.zN (x::xs) 0=some x:=ux (k:=0) rfl
@[simp] theorem zag {α:Type}{x y:α}{xs:List α}:L2.zN (x::y::xs) 1=some y:=ux (k:=1) rfl
@[simp] theorem zaf {α:Type}{x y z:α}{xs:List α}:L2.zN (x::y::z::xs) 2=some z:=ux (k:=2) rfl
@[simp] theorem zae {α:Type}{x y z w:α}{xs:List α}:L2.zN (x::y::z::w::xs) 3=some w:=ux (k:=3) rfl
theorem fK {α:Type}(enc:α->T) (g:α->Option T) (h:T->Option (Option T)):∀ (xs:List α),(∀ x∈xs,h (enc x)=some (g x))->qD h (xs.map enc)=some (xs.filterMap g)
 | [],_=>rfl
 | x::xs,hh=>by
  rw[Au];unfold qD;rw[hh x Am,fK enc g h xs λ y hy=>hh y (Ar _ hy)];cases q:g x <;> simp[q]
def Pq {α:Type}(enc:α->T) (g:α->T) (h:T->Option (Option T)) (xs:List α) (hh:∀ x∈xs,h (enc x)=some (some (g x))):qD h (xs.map enc)=some (xs.map g):=by
 rw[fK enc (λ x=>some (g x)) h xs hh];simp
def tF {α:Type}(enc:α->T) (h:α->T) {pick:List (Option Nat)}{it:Ev->Option (List T)}{g:T->Ev->Option Ev}{c:Ev->Option Bool}{f:Ev->Option T}{J:Ev}(xs:List α) (hi:it J=some (xs.map enc)) (hl:xs.length<=16777216)
  (hh:∀ x∈xs,vg pick g c f J (enc x)=some (some (h x))):xR pick it g c f J=some (.lst (xs.map h)):=by
 unfold xR;rw[hi,Bn,if_pos (by rw[Ay];exact hl),Pq enc h _ xs hh];rfl
def nS {α:Type}(enc:α->T) (h:α->Option T) {pick:List (Option Nat)}{it:Ev->Option (List T)}{g:T->Ev->Option Ev}{c:Ev->Option Bool}{f:Ev->Option T}{J:Ev}(xs:List α) (hi:it J=some (xs.map enc)) (hl:xs.length<=16777216)
  (hh:∀ x∈xs,vg pick g c f J (enc x)=some (h x)):xR pick it g c f J=some (.lst (xs.filterMap h)):=by
 unfold xR;rw[hi,Bn,if_pos (by rw[Ay];exact hl),fK enc h _ xs hh];rfl
section
variable {α:Type}{is:List Nat}{g:T->Ev->Option Ev}{b:Sm}
noncomputable def turn (g:T->Ev->Option Ev) (b:Sm) (y:T) (J:Ev):Option Out:=(g y J).bind b
theorem gC (y:T) (ys:List T) (J:Ev):xQ is g b (y::ys) J=(turn g b y (yI is J)).bind λ o=>match o with
  | .nx J2=>xQ is g b ys J2
  | .ct J2=>xQ is g b ys J2
  | .bk J2=>some (.nx (yI is J2))
  | .rt t=>some (.rt t):=by
 unfold turn;rw[xQ];cases g y (yI is J) <;> rfl
theorem kB (enc:α->T) (test:α->Bool) (v:T) (J0:Ev):∀ (xs:List α) (J:Ev),yI is J=J0->(∀ x∈xs,∃ J',yI is J'=J0/\turn g b (enc x) J0=some (if test x=true then .rt v else .nx J'))->xQ is g b (xs.map enc) J=some (if xs.any test=true then .rt v else .nx J0)
 | [],J,h,_=>by rw[Bj,xQ,h];rfl
 | x::xs,J,h,hs=>by
  obtain⟨J',h1,h2⟩:=hs x Am;rw[Au,gC,h,h2,Br];cases q:test x with
  | true=>simp
  | false=>
   have ih:=kB enc test v J0 xs J' h1 λ y hy=>hs y (Ar _ hy);simpa using ih
theorem a9 (enc:α->T) (I:List α->Ev->Prop):∀ (xs:List α) (pre:List α) (J:Ev),I pre (yI is J)->
  (∀ p x q,pre++xs=p++x::q->∀ J,I p J->∃ J',turn g b (enc x) J=some (.nx J')/\I (p++[x]) (yI is J'))->∃ J',xQ is g b (xs.map enc) J=some (.nx J')/\I (pre++xs) J'
 | [],pre,J,h,_=>⟨yI is J,by rw[Bj,xQ],by simpa using h⟩
 | x::xs,pre,J,h,hs=>by
  obtain⟨J',h1,h2⟩:=hs pre x xs rfl _ h;rw[Au,gC,h1];have ih:=a9 enc I xs (pre++[x]) J' h2 λ p y q e=>hs p y q (by rw[<- e];simp);simpa using ih
def uL (enc:α->T) (I:List α->Ev->Prop) (xs:List α) (J:Ev) (h:I [] (yI is J))
  (hs:∀ p x q,xs=p++x::q->∀ J,I p J->∃ J',turn g b (enc x) J=some (.nx J')/\I (p++[x]) (yI is J')):∃ J',xQ is g b (xs.map enc) J=some (.nx J')/\I xs J':=a9 enc I xs [] J h hs
end
def qh (n:Nat) (h:n<=100000):uF [.int (n:Int)]=some ((List.range n).map λ(k:Nat)=>T.int (0+(k:Int))):=by
 show (if inR (n:Int)=true then some (rangeT 0 (n:Int).toNat) else none)=_;rw[if_pos (Zn.mpr ⟨by lia,by lia⟩)];rfl
def qd (a:Key) (b:T) (Aa:List (Key×T)) (j:Key):xp ((a,b)::Aa) j=if a=j then some b else xp Aa j:=by
 by_cases h:a=j <;> simp[xp,h]
theorem cj (k j:Key) (d:T):∀ Aa:List (Key×T),xp (Aa.map λ kv=>if kv.1=k then (kv.1,d) else kv) j=(xp Aa j).map λ x=>if j=k then d else x
 | []=>rfl
 | (a,b)::Aa=>by
  have ih:=cj k j d Aa;rw[Au];by_cases hk:a=k
  .rw[if_pos hk,qd,qd,ih];by_cases hj:a=j
   .subst hj;subst hk;simp
   .rw[if_neg hj,if_neg hj]
  .rw[if_neg hk,qd,qd,ih];by_cases hj:a=j
   .subst hj;simp[hk]
   .rw[if_neg hj,if_neg hj]
theorem cg (k j:Key) (d:T):∀ Aa:List (Key×T),(∀ kv∈Aa,¬ kv.1=k)->xp (Aa++[(k,d)]) j=if j=k then some d else xp Aa j
 | [],_=>by
  show xp [(k,d)] j=_;rw[qd];by_cases h:j=k
  .subst h;simp
  .rw[if_neg h,if_neg (λ z=>h z.symm)]
 | (a,b)::Aa,hn=>by
  have ih:=cg k j d Aa λ kv Ei=>hn kv (Ar _ Ei);have ha:¬ a=k:=hn (a,b) Am;show xp ((a,b)::(Aa++[(k,d)])) j=_;rw[qd,qd,ih];by_cases hj:a=j
  .subst hj;simp[ha]
  .rw[if_neg hj,if_neg hj]
def Yx (Aa:List (Key×T)) (k:Key):(Aa.any λ kv=>decide (kv.1=k))=(xp Aa k).isSome:=by
 unfold xp;rw[Option.isSome_map,BD,Bf,List.find?_isSome]
def lG (Aa:List (Key×T)) (k j:Key) (d:T):xp (ua Aa k d) j=if j=k then some d else xp Aa j:=by
 unfold ua;split
 .rename_i h;rw[Yx] at h;rw[cj];by_cases hj:j=k
  .subst hj;obtain⟨x,hx⟩:=Dz.mp h;simp[hx]
  .simp[hj]
 .rename_i h;exact cg k j d Aa λ kv Ei z=>h (Bf.mpr ⟨kv,Ei,decide_eq_true z⟩)
def aG (Aa:List (Key×T)) (k:Key) (d:T):(ua Aa k d).length=if (xp Aa k).isSome=true then Aa.length else Aa.length+1:=by
 have e:=Yx Aa k;unfold ua;rw[e];split <;> simp
noncomputable def vK (p:Int×Int):List Int:=[p.1,p.2]
noncomputable def sa (ps:List (Int×Int)):List (Int×Int):=(L4.xO (ps.map vK)).map λ r=>(r.getD 0 0,r.getD 1 0)
def cA (ps:List (Int×Int)):(sa ps).map vK=L4.xO (ps.map vK):=by
 unfold sa;rw[AG]
 conv=>rhs;rw[<- List.map_id (L4.xO (ps.map vK))]
 refine CK λ r hr=>?_;obtain⟨p,_,rfl⟩:=Al.mp ((L4.t_ _).mem_iff.mp hr);rfl
def jQ (ps:List (Int×Int)):(sa ps).Perm ps:=by
 have h:=L4.t_ (ps.map vK);have:(sa ps).Perm ((ps.map vK).map λ r=>(r.getD 0 0,r.getD 1 0)):=h.map _
 rwa [AG,show ((λ r:List Int=>(r.getD 0 0,r.getD 1 0)) ∘ vK)=id from rfl,List.map_id] at this
def pJ (p q:Int×Int):Prop:=p.1<q.1\/(p.1=q.1/\p.2<=q.2)
def c9 (ps:List (Int×Int)):(sa ps).Pairwise pJ:=by
 have h:=L4.jP (ps.map vK);rw[<- cA,B9] at h;refine h.imp λ{p q} CB=>?_;unfold vK at CB;rw[HT.rB,HT.rB] at CB;unfold pJ;by_cases e:q.1=p.1
 .rw[if_pos e] at CB;by_cases e2:q.2=p.2
  .omega
  .rw[if_neg e2] at CB;have:=of_decide_eq_false CB;lia
 .rw[if_neg e] at CB;have:=of_decide_eq_false CB;lia
def WK (ps:List (Int×Int)):v_ (ps.map zt)=some (ps.map vK):=by
 have:=i8 (ps.map vK)
 rwa [AG,show zM ∘ vK=zt from rfl] at this
noncomputable def vl (q p:Int×Int):Bool:=decide (p.1<=q.1)&&decide (p.2<=q.2)
noncomputable def yh (ps:List (Int×Int)) (q:Int×Int):Bool:=ps.any (vl q)
def xk {ps:List (Int×Int)}{q:Int×Int}:yh ps q=true↔∃ p∈ps,p.1<=q.1/\p.2<=q.2:=by
 unfold yh vl;simp[Bf]
def Pl {ps qs:List (Int×Int)}(h:ps.Perm qs) (q:Int×Int):yh ps q=yh qs q:=by
 rw[BD,xk,xk];exact⟨λ⟨p,h1,h2⟩=>⟨p,h.mem_iff.mp h1,h2⟩,λ⟨p,h1,h2⟩=>⟨p,h.mem_iff.mpr h1,h2⟩⟩
def Pm (ps qs:List (Int×Int)) (q:Int×Int):yh (ps++qs) q=(yh ps q||yh qs q):=by
 unfold yh;rw[List.any_append]
def w9 (ps:List (Int×Int)):Prop:=ps.Pairwise λ p q=>p.1<q.1/\q.2<p.2
theorem w9.eq:∀ {ps qs:List (Int×Int)},w9 ps->w9 qs->(∀ q,yh ps q=yh qs q)->ps=qs
 | [],[],_,_,_=>rfl
 | [],q::qs,_,_,h=>by
  have:=h q;rw[show yh [] q=false from rfl] at this;have h2:yh (q::qs) q=true:=xk.mpr ⟨q,Am,AF _,AF _⟩;rw[h2] at this;cases this
 | p::ps,[],_,_,h=>by
  have:=h p;rw[show yh [] p=false from rfl] at this;have h2:yh (p::ps) p=true:=xk.mpr ⟨p,Am,AF _,AF _⟩;rw[h2] at this;cases this
 | p::ps,q::qs,hp,hq,h=>by
  have hp1:=Bh.mp hp;have hq1:=Bh.mp hq;have a1:∃ r∈q::qs,r.1<=p.1/\r.2<=p.2:=xk.mp (by rw[<- h];exact xk.mpr ⟨p,Am,AF _,AF _⟩);have a2:∃ r∈p::ps,r.1<=q.1/\r.2<=q.2:=xk.mp (by rw[h];exact xk.mpr ⟨q,Am,AF _,AF _⟩);obtain⟨r,hr,r1,r2⟩:=a1;obtain⟨u,hu,u1,u2⟩:=a2;have qr:q.1<=r.1:=by
   rcases Ah.mp hr with e | e
   .subst e;exact AF _
   .exact Int.le_of_lt (hq1.1 r e).1
  have pu:p.1<=u.1:=by
   rcases Ah.mp hu with e | e
   .subst e;exact AF _
   .exact Int.le_of_lt (hp1.1 u e).1
  have e1:p.1=q.1:=by lia
  have er:r=q:=by
   rcases Ah.mp hr with e | e
   .exact e
   .have:=(hq1.1 r e).1;lia
  have eu:u=p:=by
   rcases Ah.mp hu with e | e
   .exact e
   .have:=(hp1.1 u e).1;lia
  subst er eu;have e2:u.2=r.2:=by lia
  have epq:u=r:=Prod.ext e1 e2;subst epq;rw[w9.eq hp1.2 hq1.2 λ x=>?_];have hx:=h x;unfold yh at hx ⊢;rw[Br,Br] at hx;cases g:vl x u with
  | false=>rw[g] at hx;simpa using hx
  | true=>
   have gx:u.1<=x.1/\u.2<=x.2:=by simpa [vl] using g
   have key:∀ {l:List (Int×Int)},(∀ v∈l,u.1<v.1/\v.2<u.2)->l.any (vl x)=l.any (vl (x.1,u.2-1)):=by
    intro l hl;rw[BD,Bf,Bf];constructor
    .rintro⟨v,hv,hg⟩;have:=hl v hv;have hg':v.1<=x.1/\v.2<=x.2:=by simpa [vl] using hg
     exact⟨v,hv,by simp[vl];lia⟩
    .rintro⟨v,hv,hg⟩;have:=hl v hv;have hg':v.1<=x.1/\v.2<=u.2-1:=by simpa [vl] using hg
     exact⟨v,hv,by simp[vl];lia⟩
   rw[key hp1.1,key hq1.1];have hy:=h (x.1,u.2-1);unfold yh at hy;rw[Br,Br] at hy;have gn:vl (x.1,u.2-1) u=false:=by
    unfold vl;rw[show decide (u.2<=(x.1,u.2-1).2)=false from decide_eq_false (by show ¬ u.2<=u.2-1;lia),B_]
   rw[gn] at hy;simpa using hy
noncomputable def tQ (l:Option Int) (x:Int):Bool:=match l with
 | none=>true
 | some m=>decide (x<m)
noncomputable def yN:List (Int×Int)->Option Int->List (Int×Int)
 | [],_=>[]
 | p::ps,l=>if tQ l p.2=true then p::yN ps (some p.2) else yN ps l
noncomputable def vf (ps:List (Int×Int)):List (Int×Int):=yN (sa ps) none
theorem nY:∀ (ps:List (Int×Int)) (l:Option Int) (q:Int×Int),q∈yN ps l->q∈ps/\∀ m,l=some m->q.2<m
 | [],l,q,h=>by simp[yN] at h
 | p::ps,l,q,h=>by
  unfold yN at h;split at h
  .rename_i c;have hm:∀ m,l=some m->p.2<m:=λ m e=>by subst e;simpa [tQ] using c
   rcases Ah.mp h with e | e
   .subst e;exact⟨Am,hm⟩
   .obtain⟨h1,h2⟩:=nY ps _ q e;exact⟨Ar _ h1,λ m e=>by have:=h2 _ rfl;have:=hm m e;lia⟩
  .obtain⟨h1,h2⟩:=nY ps _ q h;exact⟨Ar _ h1,h2⟩
theorem gR:∀ (ps:List (Int×Int)) (l:Option Int),ps.Pairwise pJ->w9 (yN ps l)
 | [],l,_=>by simp[yN,w9]
 | p::ps,l,h=>by
  have h1:=Bh.mp h;unfold yN;split
  .refine Bh.mpr ⟨λ q hq=>?_,gR ps _ h1.2⟩;obtain⟨g1,g2⟩:=nY ps _ q hq;have:=h1.1 q g1;have:=g2 _ rfl;unfold pJ at *;lia
  .exact gR ps _ h1.2
theorem gS:∀ (ps:List (Int×Int)) (l:Option Int),ps.Pairwise pJ->∀ p∈ps,(∃ q∈yN ps l,q.1<=p.1/\q.2<=p.2)\/∃ m,l=some m/\m<=p.2
 | [],l,_,p,hp=>by cases hp
 | r::ps,l,h,p,hp=>by
  have h1:=Bh.mp h;unfold yN;split
  .rename_i c;rcases Ah.mp hp with e | e
   .subst e;exact .inl ⟨p,Am,AF _,AF _⟩
   .rcases gS ps (some r.2) h1.2 p e with ⟨q,q1,q2⟩ | ⟨m,e1,e2⟩
    .exact .inl ⟨q,Ar _ q1,q2⟩
    .cases e1;have:=h1.1 p e;unfold pJ at this;exact .inl ⟨r,Am,by lia,e2⟩
  .rename_i c;rcases Ah.mp hp with e | e
   .subst e;cases l with
    | none=>simp[tQ] at c
    | some m=>exact .inr ⟨m,rfl,by simpa [tQ] using c⟩
   .exact gS ps l h1.2 p e
def kC (ps:List (Int×Int)):w9 (vf ps):=gR _ _ (c9 ps)
def Rw {ps:List (Int×Int)}{q:Int×Int}(h:q∈vf ps):q∈ps:=(jQ ps).mem_iff.mp (nY _ _ q h).1
def nR (ps:List (Int×Int)) (q:Int×Int):yh (vf ps) q=yh ps q:=by
 rw[<- Pl (jQ ps) q,BD,xk,xk];constructor
 .rintro⟨p,h1,h2⟩;exact⟨p,(nY _ _ p h1).1,h2⟩
 .rintro⟨p,h1,h2⟩;rcases gS (sa ps) none (c9 ps) p h1 with ⟨r,r1,r2⟩ | ⟨m,e,_⟩
  .exact⟨r,r1,by lia,by lia⟩
  .cases e
end L5
namespace L2
open PySem PySem.Spec PyProof.Rows
section
variable {X:Cx}
def bj (K:Ac):R2:=λ x y H Q=>∃ l b xs zs,x=.ref l/\y=.ref b/\zO K H l xs/\zO K H b zs/\xs.length+zs.length<=sizeLine/\∀ p,H p=none->Q (.ref p) (upd H p (.lst (xs++zs)))
def Tc:yj X (binaryOp .Add) (bj X.K):=by
 intro pins s B H x y v u Q I rx ry h;obtain⟨l,b,xs,zs,rfl,rfl,hH,hB,hz,q⟩:=h;cases rx;cases ry;obtain⟨its,r,p1,_⟩:=I.list hH;obtain⟨its2,r2,p2,_⟩:=I.list hB;obtain⟨⟨cls,dd,data,sl⟩,ho,hc,n,hd⟩:=p1.isList;obtain⟨⟨cls2,dd2,data2,sl2⟩,ho2,hc2,n2,hd2⟩:=p2.isList;simp only at hc hd hc2 hd2;subst hc hd hc2 hd2;have e:its.toArray++its2.toArray=(its++its2).toArray:=by simp
 refine concat_meets ⟨_,ho,rfl⟩ ⟨_,ho2,rfl⟩ noFill_list_add seq_list_add PySem.F.slot_list_add PySem.F.entry_list_add (PySem.F.args_list_add_2 _ _) (list_addW l b its.toArray its2.toArray n n2 dd dd2 sl sl2 (by rw[Av,Av,<- r.length,<- r2.length];exact hz)) ⟨ho,ho2,?_⟩;rw[e];exact⟨.ref _,_,I.Ro (t':=s.toks) (r.append r2) (by rw[Cc];lia),rfl,q _ I.fresh⟩
def bg (K:Ac):R2:=λ x y H Q=>∃ a b ys,x=.ref a/\y=.ref b/\z_ K H a []/\z_ K H b ys/\Q (.ref b) H
def Ta:yj X (binaryOp .Add) (bg X.K):=by
 intro pins s B H x y v u Q I rx ry h;obtain⟨l,b,ys,rfl,rfl,hH,hB,q⟩:=h;cases rx;cases ry;obtain⟨its,r,p1,_⟩:=I.tuple hH;obtain⟨its2,r2,p2,_⟩:=I.tuple hB;obtain⟨⟨cls,dd,data,sl⟩,ho,hc,n,hd⟩:=id p1;obtain⟨⟨cls2,dd2,data2,sl2⟩,ho2,hc2,n2,hd2⟩:=id p2;simp only at hc hd hc2 hd2;subst hc hd hc2 hd2;exact concat_meets ⟨_,ho,rfl⟩ ⟨_,ho2,rfl⟩ noFill_tuple_add seq_tuple_add PySem.F.slot_tuple_add PySem.F.entry_tuple_add (PySem.F.args_tuple_add_2 _ _)
   (tuple_addW0 l b its.toArray its2.toArray n n2 dd dd2 sl sl2 (by cases r;rfl)) ⟨ho,ho2,⟨.ref b,H,I,rfl,q⟩⟩
end
end L2
namespace L5
open PySem PySem.Spec L2 L3
open PyProof.Rows hiding St
section
variable {X:Cx}{K:Ac}{a b c e:Expr}{es:List Expr}{ta tb tc te:zq}{tA:yp}{pos p:Pos}
def ur.mo:xN ur:=λ x y S Q Q' hq h=>by
 cases x with
 | zi=>exact h
 | bl _=>exact h
 | int i=>cases y <;> first | exact hq _ _ h | exact h
 | str i=>cases y <;> first | exact⟨h.1,hq _ _ h.2⟩ | exact h
 | tup i=>cases y <;> first | exact⟨h.1,hq _ _ h.2⟩ | exact h
 | yH ds=>
  unfold ur at h ⊢;dsimp only at h ⊢;split at h
  .exact⟨h.1,h.2.1,λ r hr=>hq _ _ (h.2.2 r hr)⟩
  .exact h.elim
 | ref q=>
  unfold ur at h ⊢;dsimp only at h ⊢;split at h
  .exact⟨h.1,h.2.1,λ r hr=>hq _ _ (h.2.2 r hr)⟩
  .exact h.elim
def pb {H:Hp}{S:SS}{d:D}{v:V}{ds:List D}(r:zg K H d v) (p:zJ K H S) (e:zL d S=some ds) (n:∀ ts,d≠.tup ts):∃ a xs,v=.ref a/\zO K H a xs/\zm K H ds xs:=by
 unfold zL at e;split at e
 .exact absurd rfl (n _)
 .cases e;simp only[zg] at r;obtain⟨a,xs,h1,h2,h3⟩:=r;exact⟨a,xs,h1,h2.sq,h3⟩
 .split at e
  .rename_i q;cases e;simp only[zg] at r;subst r;obtain⟨xs,h1,h2⟩:=p _ _ q;exact⟨_,xs,rfl,zO.of h1,h2⟩
  .cases e
 .cases e
abbrev bp (K:Ac):R2:=λ x y H Q=>vM (λ i j=>.int (i+j)) x y H Q\/((∃ i j,x=.str i/\y=.str j/\i.length+j.length<=sizeLine/\Q (.str (i++j)) H)\/(bj K x y H Q\/(bg K x y H Q\/bh K x y H Q)))
def ur.fits:xD K ur (bp K):=λ x y d e H S Q h1 h2 h3 h=>by
 have lst:(∀ ts,d≠.tup ts)->(match zL d S,zL e S with
  | some ds,some es=>(∀ ts,e≠.tup ts)/\ds.length+es.length<=sizeLine/\∀ r,S r=none->wY K H Q (.ref r) (ups S r (.lst (ds++es)))
  | _,_=>False)->bp K x y H Q:=λ n h=>by
  split at h
  .rename_i ds es q1 q2;obtain⟨a,xs,rfl,g1,g2⟩:=pb h1 h3 q1 n;obtain⟨b,ys,rfl,g3,g4⟩:=pb h2 h3 q2 h.1;refine .inr (.inr (.inl ⟨a,b,xs,ys,rfl,rfl,g1,g3,by rw[<- g2.length,<- g4.length];exact h.2.1,λ p hp=>?_⟩));exact h.2.2 p (h3.none hp) _ _ (by simp only[zg]) (.new hp _) (h3.ups (.new hp _) ⟨_,yL,zm.ext (.new hp _) _ (g2.append g4)⟩)
  .exact h.elim
 cases d with
 | zi=>exact h.elim
 | bl _=>exact h.elim
 | int i=>
  cases e with
  | int j=>
   simp only[zg] at h1 h2;exact .inl ⟨_,_,h1,h2,h _ H (by simp only[zg]) (.refl H) h3⟩
  | zi=>exact h.elim
  | bl _=>exact h.elim
  | str _=>exact h.elim
  | tup _=>exact h.elim
  | yH _=>exact h.elim
  | ref _=>exact h.elim
 | str i=>
  cases e with
  | str j=>
   simp only[zg] at h1 h2;exact .inr (.inl ⟨_,_,h1,h2,h.1,h.2 _ H (by simp only[zg]) (.refl H) h3⟩)
  | zi=>exact h.elim
  | bl _=>exact h.elim
  | int _=>exact h.elim
  | tup _=>exact h.elim
  | yH _=>exact h.elim
  | ref _=>exact h.elim
 | tup ds=>
  cases e with
  | tup es=>
   have h1':=h1;have h2':=h2;simp only[zg] at h1 h2;obtain⟨a,xs,rfl,g1,g2⟩:=h1;obtain⟨b,ys,rfl,g3,g4⟩:=h2;have hl:=g2.length;have hl':=g4.length;by_cases hx:xs=[]
   .subst hx;have:ds=[]:=by cases ds <;> simp_all
    subst this;exact .inr (.inr (.inr (.inl ⟨a,b,ys,rfl,rfl,g1,g3,h.2 _ H h2' (.refl H) h3⟩)))
   .refine .inr (.inr (.inr (.inr ⟨a,b,xs,ys,rfl,rfl,g1,g3,hx,by rw[<- hl,<- hl'];exact h.1,λ hy=>?_,λ hy p hp=>?_⟩)))
    .subst hy;have:es=[]:=by cases es <;> simp_all
     subst this;refine h.2 _ H ?_ (.refl H) h3;rw[C0];exact h1'
    .refine h.2 _ _ ?_ (.new hp _) (h3.new hp);simp only[zg];exact⟨p,_,rfl,z_.of yL,zm.ext (.new hp _) _ (g2.append g4)⟩
  | zi=>exact h.elim
  | bl _=>exact h.elim
  | int _=>exact h.elim
  | str _=>exact h.elim
  | yH _=>exact h.elim
  | ref _=>exact h.elim
 | yH ds=>exact lst (λ _=>nofun) h
 | ref q=>exact lst (λ _=>nofun) h
def xh (ha:PD X a ta) (hb:PD X b tb):PD X (.BinOp a .Add b pos) (yy ur ta tb):=rg (Te.or (Td.or (Tc.or (Ta.or Tb)))) ur.fits ur.mo ha hb
def Zb {H:Hp}{d:D}{v:V}(r:zg K H d v):decide (v=.zi)=pL d:=by
 cases d with
 | zi=>simp only[zg] at r;subst r;rfl
 | bl _=>simp only[zg] at r;subst r;rfl
 | int _=>simp only[zg] at r;subst r;rfl
 | str _=>simp only[zg] at r;subst r;rfl
 | tup _=>simp only[zg] at r;obtain⟨a,xs,rfl,_⟩:=r;rfl
 | yH _=>simp only[zg] at r;obtain⟨a,xs,rfl,_⟩:=r;rfl
 | ref _=>simp only[zg] at r;subst r;rfl
def iU (ha:PD X a ta):PD X (.UnaryOp .USub a pos) (ZW ta):=by
 refine⟨fun Y S Q Q' hq h=>ha.mo Y S _ _ (λ x S1 z=>by
  cases x <;> first
   | exact hq _ _ z
   | exact z) h,PE.imp (VJ X2 ha.pe) fun B H Q hu=>?_⟩
 obtain⟨Y,S,r1,r2,h⟩:=hu;refine zP.go ha.mo r1 r2 h λ x S1 v H1 h1 q1 e1 p1=>?_;cases x with
 | int i=>simp only[zg] at q1;exact⟨i,q1,h1 _ H1 (by simp only[zg]) e1 p1⟩
 | zi=>exact h1.elim
 | bl _=>exact h1.elim
 | str _=>exact h1.elim
 | tup _=>exact h1.elim
 | yH _=>exact h1.elim
 | ref _=>exact h1.elim
section
variable {N':List Str}{pick:List (Option Nat)}{scope:Scope}{tg elt iter:Expr}{ifs:List Expr}{ti:wJ}{g:xo}{tcc:yE}
def sE.mo (hi:jo ti):yn (sE pick ti g tcc te):=fun Y S Q Q' hq z=>hi Y S _ _ (λ I S1 ⟨h1,h2,h3⟩=>⟨h1,h2,λ p hp=>by
 obtain⟨W,w0,w1,w2,w3⟩:=h3 p hp;exact⟨W,w0,w1,w2,λ S2 acc a b c=>hq _ _ (w3 S2 acc a b c)⟩⟩) z
def ck (hi:jo ti) (hg:lh g) (hc:va tcc) (he:yn te) {B:St}{H:Hp}{Q:VK}(hu:zP K (sE pick ti g tcc te) B H Q):jJ pick (wK K ti) (oK K g) (wB K tcc) (zP K te) B H Q:=by
 obtain⟨Y,S,r1,r2,z⟩:=hu;refine⟨Y,S,r1,r2,hi Y S _ _ (λ I S1 hF J H1 e1 p1 rep D hD=>?_) z⟩;obtain⟨hlen,hk,hF⟩:=hF;have hS1:S1 D=none:=p1.none hD;obtain⟨W,w0,wm,wstep,wfin⟩:=hF D hS1;refine⟨λ i m B H2=>m=I.items.length-i/\i<=I.items.length/\Ext H1 H2/\yV K H2 (ue pick Y) B/\∃ S2 acc,zJ K H2 S2/\Sx S1 S2/\S2 D=some (.lst acc)/\acc.length<=i/\W i S2 acc,⟨_,rfl,AN _,.new hD _,((r1.ext e1).pick pick).ext (.new hD _),ups S1 D (.lst []),[],?_,.new hS1 _,sU,Ag _,?_⟩,?_⟩
 .exact p1.ups (.new hD _) ⟨[],yL,.nil⟩
 .exact wm 0 S1 _ [] (λ b o hb q=>by rw[tW hb];exact q) w0
 rintro i m B2 H2 ⟨rfl,hi',x2,q1,S2,acc,q2,sx,hS2,AQ,hW⟩;obtain⟨g1,g2⟩:=rep i H2 S2 x2 q2 (hk S2 sx);by_cases hl:i<I.items.length
 .have hd:I.items[i]?=some I.items[i]:=by simp[hl]
  obtain⟨go,yl⟩:=g1 _ hd;refine .inr ⟨go,λ x H3 hy=>?_⟩;obtain⟨x3,p3,d3⟩:=yl x H3 hy;refine⟨_,_,S2,d3,q1.ext x3,p3,hg _ _ S2 _ _ (fun Y4 S4 z4 B4 H4 a1 a2 a3=>?_) (wstep i _ S2 acc hd sx hS2 hW)⟩;obtain⟨hle,z4⟩:=z4;refine wB.go hc a1 a3 z4 λ b S5 H5 z5 x5 p5=>vi (λ z5=>?_) (λ z5=>?_) z5
  .refine zP.go he (a1.ext x5) p5 z5 λ y S6 v H6 z6 q6 x6 p6=>?_;obtain⟨s6,hW6⟩:=z6;obtain⟨ys,h6,r6⟩:=p6 _ _ (s6 _ _ hS2);have e6:Ext H6 (upd H6 D (.lst (ys++[v]))):=.lst h6 _;have hlen2:ys.length<=i:=by rw[<- r6.length];exact AQ
   refine⟨ys,I.items.length-(i+1),h6,by lia,by lia,rfl,hl,((((x2.trans x3).trans a2).trans x5).trans x6).trans e6,hle.rep ((a1.ext (x5.trans x6)).ext e6),ups S6 D (.lst (acc++[y])),acc++[y],?_,λ b o hb=>?_,sU,by simp;lia,?_⟩
   .exact p6.ups e6 ⟨_,yL,zm.ext e6 _ (r6.snoc q6)⟩
   .rw[tW (by intro q;subst q;rw[hS1] at hb;cases hb)];exact s6 _ _ (sx _ _ hb)
   .exact wm _ S6 _ _ (λ b o hb q=>by rw[tW hb];exact q) hW6
  .obtain⟨s5,hW5⟩:=z5;exact⟨I.items.length-(i+1),by lia,rfl,hl,((x2.trans x3).trans a2).trans x5,hle.rep (a1.ext x5),S5,acc,p5,sx.trans s5,s5 _ _ hS2,by lia,hW5⟩
 .have e:i=I.items.length:=by lia
  subst e;exact .inl ⟨g2 (Ag _),wfin S2 acc sx hS2 hW _ H2 (by simp only[zg]) (e1.trans x2) q2⟩
def rh (Sc:qU X N' pick scope) (hc:X.calm=true) (hi:sL X tg iter ti) (hg:∀ cl C s H fp,sM (yU X N' scope cl C s H fp) tg g) (hf:∀ cl C s H fp,jj (yU X N' scope cl C s H fp) ifs tcc) (he:∀ cl C s H fp,PD (yU X N' scope cl C s H fp) elt te)
  (hs:∀ x,foldedSetIterable iter X.env x=pure x:=by intro _;rfl):
  PD X (.ListComp elt [⟨tg,iter,ifs,0⟩] scope pos) (sE pick ti g tcc te):=
 ⟨sE.mo hi.mo,λ pins s B H Q I hu=>VT (g:=oK X.K g) (tc:=wB X.K tcc) (te:=zP X.K te) Sc hc hi.pi (λ cl C s H fp=>(hg cl C s H fp).pg) (λ cl C s H fp=>(hf cl C s H fp).pf) (λ cl C s H fp=>(he cl C s H fp).pe) hs pins s B H Q I (ck hi.mo (hg [] 0 s H []).mo (hf [] 0 s H []).mo (he [] 0 s H []).mo hu)⟩
def ql {i:Nat}{y:Str}{py BE:Pos}(Sc:qU X N' pick scope) (hc:X.calm=true) (hi:sL X tg iter ti) (hg:∀ cl C s H fp,sM (yU X N' scope cl C s H fp) tg g) (hf:∀ cl C s H fp,jj (yU X N' scope cl C s H fp) ifs tcc) (he:∀ cl C s H fp,PD (yU X N' scope cl C s H fp) elt te)
  (hN:X.N.Nodup) (hy:X.N[i]?=some y) (hx:Loc X.env.scope y)
  (Cy:swapsWith (.ListComp elt [⟨tg,iter,ifs,0⟩] scope pos) (some (.Name y py)) BE.line X.env=pure true:=by rfl)
  (CF:X.fn y=true\/X.env.scope.names.lookup y=some .local:=by first | exact .inl rfl | exact .inr rfl | assumption)
  (hs:∀ x,foldedSetIterable iter X.env x=pure x:=by intro _;rfl):
  vA X (.Assign [.Name y py] (.ListComp elt [⟨tg,iter,ifs,0⟩] scope pos) BE) (v7 (sE pick ti g tcc te) (hName i)):=by
 refine⟨v7.mo (sE.mo hi.mo) λ _ _ _ _ _ hq z=>hq _ _ z,λ pins s B H D I hu=>Vr (g:=oK X.K g) (tc:=wB X.K tcc) (te:=zP X.K te) Sc hc hi.pi (λ cl C s H fp=>(hg cl C s H fp).pg) (λ cl C s H fp=>(hf cl C s H fp).pf) (λ cl C s H fp=>(he cl C s H fp).pe) hN hy hx Cy CF hs pins s B H D I ?_⟩;obtain⟨Y,S,r1,r2,z⟩:=hu;refine ck hi.mo (hg [] 0 s H []).mo (hf [] 0 s H []).mo (he [] 0 s H []).mo ⟨Y,S,r1,r2,sE.mo hi.mo Y S _ _ (λ x S1 z v H1 q1 e1 p1=>?_) z⟩;exact z _ H1 ((r1.ext e1).set i q1) e1 p1
end
end
section
variable {P:Program}{w:World}{K:Ac}{mg:Str->Option Value}{base:Heap}{f:Addr}{fd:FuncData}
def Zz {R:Rk} [Lo R] {x:Str}{st:Stmt}{N ps:List Str}{k n:Nat}{g:Sm}(F:uU K x x st f fd) (Sc:yq N ps (zE st)) (hn:n=ps.length)
  (hbody:∀ (Af:Value) (A:Around) (outer:List Env) (s:Shared) (H:Hp) (E:XK),yF k (A.deeper (envOfC x (zE st) s.heap.objs.size f Af))->
   ∃ t,u9 (tP vG P w K mg base N x (zE st) f Af A outer s H E).rp (v5 st) t/\yJ R g t):uB P w K mg base vG (k+1) f fd ps (tX K (ya R (yo N n g))):=
 Q3 F Sc (λ ds S Q h=>by rw[h.len,hn]) λ Af A outer s H E hr=>by
  obtain⟨t,h1,h2⟩:=hbody Af A outer s H E hr;exact⟨t,h1,λ ds S Q h=>Oi h2 h⟩
def QE {R:Rk} [Lo R] {x:Str}{st:Stmt}{N ps:List Str}{k n:Nat}{g:Sm}(F:uU K x x st f fd) (hm:mg x=some (.ref f)) (Sc:yq N ps (zE st)) (hn:n=ps.length)
  (hb:∀ (kV doc pm:Value) (an:Option Addr) (Af ct:Value) (us:List Value),us.length=ps.length->bindArgs (PySem.W.fnOf x x (sD st) (v5 st) (zE st) .none kV doc pm an Af ct) ⟨us,[]⟩=pure (ps.zip us))
  (hbody:∀ (Af:Value) (A:Around) (outer:List Env) (s:Shared) (H:Hp) (E:XK),yF k (A.deeper (envOfC x (zE st) s.heap.objs.size f Af))->
   ∃ t,u9 (tP vG P w K mg base N x (zE st) f Af A outer s H E).rp (v5 st) t/\yJ R g t):FD P w K mg base x (k+1) ps (ya R (yo N n g)):=
 ⟨⟨f,fd,Zz F Sc hn hbody,hm,F.kp,F.binds hb⟩,ya.mo⟩
def R7 {R:Rk} [Sr R] {F:List T->Option T}(hF:∀ ns:List Int,ns.length<=63->F [.lst (ns.map T.int)]=some (.bl true)) {H:Hp}{a:Addr}{ns:List Int}{E:XK}(hO:jk H) (hS:zO K H a (ns.map V.int)) (hl:ns.length<=63):tX K (ya R F) [.ref a] H (λ v _=>v=.bl true) E:=by
 have hFz:ou K H a (ns.map V.int):=by
  rcases hS with (h | h) | h
  .rcases hO a with z | ⟨o,xs,z⟩
   .rw[h] at z;cases z
   .rw[h] at z;cases z
  .exact .inl h
  .exact .inr h
 refine⟨[.yH (ns.map D.int)],λ _=>none,.cons ?_ .nil,(λ a o z=>nomatch z),λ _=>False,[.lst (ns.map T.int)],.bl true,nofun,.cons ?_ .nil,hF ns hl,λ d S' s r v H' rv _ _=>?_⟩
 .simp only[zg];exact⟨a,_,rfl,hFz,zm.gi ns⟩
 .simp only[Sn];exact⟨_,.inl ⟨rfl,Tf ns⟩,uE.mpr rfl⟩
 .have:=Sr.sn r;simp only[Sn] at this;subst this;simpa only [zg] using rv
end
end L5
namespace ST
open PySem PySem.SetTable
def uT (xs:List Nat):Prop:=xs.Pairwise (· < ·)
def fh {xs:Array Nat}{m d:Nat}(h:m<xs.size):xs.getD m d=xs[m]:=by simp[Array.getD,h]
theorem fR (xs:Array Nat) (j:Nat) (hr:uT xs.toList):∀ (f lo hi:Nat),hi-lo<=f->lo<=hi->hi<=xs.size->(∀ i (h:i<xs.size),i<lo->xs[i]<j)->(∀ i (h:i<xs.size),hi<=i->j<=xs[i])->
  below.go xs j f lo hi<=xs.size/\(∀ i (h:i<xs.size),i<below.go xs j f lo hi->xs[i]<j)/\∀ i (h:i<xs.size),below.go xs j f lo hi<=i->j<=xs[i]
 | 0,lo,hi,h1,h2,h3,h4,h5=>by
  unfold below.go;have:lo=hi:=by lia
  subst this;exact⟨h3,h4,h5⟩
 | f+1,lo,hi,h1,h2,h3,h4,h5=>by
  unfold below.go;have wM:∀ i k (hi:i<xs.size) (hk:k<xs.size),i<=k->xs[i]<=xs[k]:=λ i k hi hk DC=>by
   rcases Bi i k with q | q
   .have r:=Cs.mp hr i k (by simpa using hi) (by simpa using hk) q;rw[Cp,Cp] at r;exact BC r
   .have:i=k:=by lia
    subst this;exact Ag _
  by_cases hl:lo<hi
  .rw[if_pos hl];dsimp only;have hm:(lo+hi)/2<xs.size:=by lia
   rw[fh hm];by_cases c:xs[(lo+hi)/2]<j
   .rw[if_pos c];refine fR xs j hr f _ hi (by lia) (by lia) h3 (λ i hi' An=>?_) h5;have:=wM i ((lo+hi)/2) hi' hm (by lia);lia
   .rw[if_neg c];refine fR xs j hr f lo _ (by lia) (by lia) (by lia) h4 (λ i hi' hge=>?_);have:=wM ((lo+hi)/2) i hm hi' hge;lia
  .rw[if_neg hl];have:lo=hi:=by lia
   subst this;exact⟨h3,h4,h5⟩
def jd {xs:Array Nat}{j:Nat}(hr:uT xs.toList):below xs j<=xs.size/\(∀ i (h:i<xs.size),i<below xs j->xs[i]<j)/\∀ i (h:i<xs.size),below xs j<=i->j<=xs[i]:=
 fR xs j hr xs.size 0 xs.size (by lia) (by lia) (Ag _) (λ i h q=>by lia) (λ i h q=>by lia)
def below_at {xs:Array Nat}{j i:Nat}(hr:uT xs.toList) (h:xs[i]?=some j):below xs j=i:=by
 obtain⟨h1,h2,h3⟩:=jd (j:=j) hr;obtain⟨hi,e⟩:=Array.getElem?_eq_some_iff.mp h;have a:¬ i<below xs j:=λ q=>by have:=h2 i hi q;lia
 have b:¬ below xs j<i:=λ q=>by
  have:=h3 (below xs j) (by lia) (Ag _);have r:=Cs.mp hr (below xs j) i (by simp;lia) (by simpa using hi) q;simp at r;lia
 lia
def Om {xs:Array Nat}{j:Nat}(hr:uT xs.toList):(xs[below xs j]?=some j)↔j∈xs.toList:=by
 constructor
 .intro h;obtain⟨hi,e⟩:=Array.getElem?_eq_some_iff.mp h;rw[<- e];simp
 .intro h;obtain⟨i,hi,e⟩:=Cr.mp h;have hx:xs[i]?=some j:=by
   simp at hi;simp[hi] at e ⊢;exact e
  rw[below_at hr hx];exact hx
noncomputable def u5 (M:Nat) (p:Probe):Probe:=
 if p.more>0 then { p with j:=p.j+1,more:=p.more-1 } else
 let (i,perturb):=leap M p.i p.perturb
 { p with j:=i,more:=runEnd M i-i,i,perturb }
def fZ (t:SetTable) (p:Probe):t.advance p=u5 t.mask p:=rfl
noncomputable def pj (M i perturb:Nat):Probe:={ j:=i,more:=runEnd M i-i,i:=i,perturb:=perturb,dummy:=none }
noncomputable def way (M:Nat) (h:Int):Nat->Probe
 | 0=>pj M (bits h%(M+1)) (bits h)
 | k+1=>u5 M (way M h k)
def O0 (M:Nat) (p:Probe) (h:p.dummy=none):(u5 M p).dummy=none:=by
 unfold u5;split
 .exact h
 .exact h
theorem j8 (M:Nat) (h:Int):∀ k,(way M h k).dummy=none
 | 0=>rfl
 | k+1=>O0 M _ (j8 M h k)
noncomputable def zY (M:Nat) (h:Int):Nat->Nat×Nat
 | 0=>(bits h%(M+1),bits h)
 | n+1=>leap M (zY M h n).1 (zY M h n).2
theorem i6 (M i pt:Nat) (h:Int) (k:Nat) (hk:way M h k=pj M i pt):∀ m,m<=runEnd M i-i->way M h (k+m)={ j:=i+m,more:=runEnd M i-i-m,i:=i,perturb:=pt,dummy:=none }
 | 0,_=>by rw[Nat.add_zero,hk];rfl
 | m+1,hm=>by
  have ih:=i6 M i pt h k hk m (by lia);show u5 M (way M h (k+m))=_;rw[ih];unfold u5;rw[if_pos (by show runEnd M i-i-m>0;lia)];simp only[Probe.mk.injEq];exact⟨by lia,by lia,trivial,trivial,trivial⟩
def WJ (M i:Nat):runEnd M i-i<=9:=by unfold runEnd;split <;> lia
def cN (M:Nat) (h:Int) (n k:Nat) (hk:way M h k=pj M (zY M h n).1 (zY M h n).2):way M h (k+(runEnd M (zY M h n).1-(zY M h n).1)+1)=pj M (zY M h (n+1)).1 (zY M h (n+1)).2:=by
 have:=i6 M _ _ h k hk _ (Ag _);show u5 M (way M h (k+_))=_;rw[this];unfold u5;rw[if_neg (by show ¬ _-_-(_-_)>0;lia)];rfl
theorem cO (M:Nat) (h:Int):∀ n,∃ k,k<=10*n/\way M h k=pj M (zY M h n).1 (zY M h n).2
 | 0=>⟨0,by lia,rfl⟩
 | n+1=>by
  obtain⟨k,h1,h2⟩:=cO M h n;have:=WJ M (zY M h n).1;exact⟨_,by lia,cN M h n k h2⟩
def Oj (h:Int):bits h<2 ^ 64:=by
 unfold bits;have h1:=Bw h (show (2 ^ 64:Int)≠0 by decide);have h2:=BB h (show (0:Int)<2 ^ 64 by decide);lia
theorem bz (M:Nat) (h:Int):∀ n,(zY M h n).2*32 ^ n<=bits h
 | 0=>by simp[zY]
 | n+1=>by
  have ih:=bz M h n;show ((zY M h n).2/32)*32 ^ (n+1)<=_;have:(zY M h n).2/32*32<=(zY M h n).2:=Nat.div_mul_le_self _ _
  calc (zY M h n).2/32*32 ^ (n+1)=((zY M h n).2/32*32)*32 ^ n:=by rw[Nat.pow_succ,Dr (32 ^ n) 32,Nat.mul_assoc]
   _<=(zY M h n).2*32 ^ n:=Nat.mul_le_mul_right _ this
   _<=_:=ih
def VH (M:Nat) (h:Int) (n:Nat) (hn:13<=n):(zY M h n).2=0:=by
 rcases DR (zY M h n).2 with q | q
 .exact q
 .have h1:=bz M h n;have h2:=Oj h;have h3:32 ^ 13<=32 ^ n:=Nat.pow_le_pow_right (by decide) hn;have h4:1*32 ^ n<=(zY M h n).2*32 ^ n:=Nat.mul_le_mul_right _ q;have h5:(2:Nat) ^ 64<32 ^ 13:=by decide
  lia
noncomputable def sf (M:Nat) (i:Nat):Nat->Nat
 | 0=>i
 | n+1=>(sf M i n*5+1)%(M+1)
theorem aI (M:Nat) (h:Int):∀ n,(zY M h (13+n)).1=sf M (zY M h 13).1 n
 | 0=>rfl
 | n+1=>by
  have ih:=aI M h n;have hz:=VH M h (13+n) (by lia);show ((zY M h (13+n)).1*5+1+(zY M h (13+n)).2/32)%(M+1)=_;rw[hz,ih];rfl
theorem nB (M i:Nat):∀ a b,sf M i (a+b)=sf M (sf M i a) b
 | a,0=>rfl
 | a,b+1=>by
  show (sf M i (a+b)*5+1)%(M+1)=_;rw[nB M i a b];rfl
noncomputable def nA (M:Nat):Nat->Nat->List Nat
 | 0,_=>[]
 | n+1,i=>i::nA M n ((i*5+1)%(M+1))
theorem i_ (M:Nat):∀ n i x,x∈nA M n i->∃ k,k<n/\sf M i k=x
 | 0,i,x,h=>by cases h
 | n+1,i,x,h=>by
  rcases Ah.mp h with e | e
  .exact⟨0,by lia,e.symm⟩
  .obtain⟨k,h1,h2⟩:=i_ M n _ x e;exact⟨k+1,by lia,by rw[Nat.add_comm,nB];exact h2⟩
def vC (M:Nat):Prop:=M=7\/M=31\/M=127
def UE (M:Nat) (hM:vC M):(∀ e,e<=M->e∈nA M (M+1) 0)/\sf M 0 (M+1)=0:=by
 have key:∀ M,((List.range (M+1)).all λ e=>(nA M (M+1) 0).contains e)=true->∀ e,e<=M->e∈nA M (M+1) 0:=λ M h e he=>by
  have:=Cv.mp h e (AH.mpr (by lia));simpa using this
 rcases hM with rfl | rfl | rfl
 .exact⟨key 7 (by decide +kernel),by decide +kernel⟩
 .exact⟨key 31 (by decide +kernel),by decide +kernel⟩
 .exact⟨key 127 (by decide +kernel),by decide +kernel⟩
def UD (M:Nat) (hM:vC M) (i e:Nat) (hi:i<=M) (he:e<=M):∃ n,n<=M/\sf M i n=e:=by
 obtain⟨h1,h2⟩:=UE M hM;obtain⟨a,a1,a2⟩:=i_ M _ _ _ (h1 i hi);obtain⟨b,b1,b2⟩:=i_ M _ _ _ (h1 e he);rcases Bi b a with q | q
 .refine⟨M+1+b-a,by lia,?_⟩;rw[<- a2,<- nB,show a+(M+1+b-a)=(M+1)+b by lia,nB,h2,b2]
 .refine⟨b-a,by lia,?_⟩;rw[<- a2,<- nB,show a+(b-a)=b by lia,b2]
theorem Rx (M:Nat) (h:Int):∀ n,(zY M h n).1<=M
 | 0=>by have:=CU (bits h) (show 0<M+1 by lia);show bits h%(M+1)<=M;lia
 | n+1=>by
  have:=CU ((zY M h n).1*5+1+(zY M h n).2/32) (show 0<M+1 by lia);show (_%(M+1):Nat)<=M;lia
def aJ (M:Nat) (hM:vC M) (h:Int) (e:Nat) (he:e<=M):∃ n,n<M+14/\(zY M h n).1=e:=by
 obtain⟨n,h1,h2⟩:=UD M hM (zY M h 13).1 e (Rx M h 13) he;exact⟨13+n,by lia,by rw[aI,h2]⟩
def Xr (M:Nat) (hM:vC M) (h:Int) (e:Nat) (he:e<=M):∃ k,k<10*(M+15)/\(way M h k).j=e:=by
 obtain⟨n,h1,h2⟩:=aJ M hM h e he;obtain⟨k,k1,k2⟩:=cO M h n;exact⟨k,by lia,by rw[k2];exact h2⟩
theorem dY (M:Nat) (h:Int):∀ k,(way M h k).j+(way M h k).more<=M/\(way M h k).i<=M
 | 0=>by
  have h1:bits h%(M+1)<=M:=by have:=CU (bits h) (show 0<M+1 by lia);lia
  refine⟨?_,h1⟩;show bits h%(M+1)+(runEnd M (bits h%(M+1))-bits h%(M+1))<=M;unfold runEnd;split <;> lia
 | k+1=>by
  obtain⟨h1,h2⟩:=dY M h k;show (u5 M (way M h k)).j+(u5 M (way M h k)).more<=M/\(u5 M (way M h k)).i<=M;unfold u5;split
  .rename_i c;exact⟨by show (way M h k).j+1+((way M h k).more-1)<=M;lia,h2⟩
  .have h3:((way M h k).i*5+1+(way M h k).perturb/32)%(M+1)<=M:=by have:=CU ((way M h k).i*5+1+(way M h k).perturb/32) (show 0<M+1 by lia);lia
   refine⟨?_,h3⟩;show _%(M+1)+(runEnd M (_%(M+1))-_%(M+1))<=M;unfold runEnd;split <;> lia
def j7 (M:Nat) (h:Int) (k:Nat):(way M h k).j<=M:=by have:=(dY M h k).1;lia
structure Tab (t:SetTable) (hs:List Int):Prop where
 mask:vC t.mask
 rP:t.dummies=#[]
 len:t.place.size=hs.length
 wM:uT t.place.toList
 yw:∀ j∈t.place.toList,j<=t.mask
 ng:∀ (i:Nat) h j,hs[i]?=some h->t.place[i]?=some j->∃ k,(way t.mask h k).j=j/\∀ k'<k,(way t.mask h k').j∈t.place.toList
theorem Tab.live {t:SetTable}{hs:List Int}(T:Tab t hs) {i j:Nat}(h:t.place[i]?=some j):t.slot j=.live i:=by
 unfold SetTable.slot;dsimp only;rw[below_at T.wM h,if_pos (by rw[h];simp)]
theorem Tab.empty {t:SetTable}{hs:List Int}(T:Tab t hs) {j:Nat}(h:j∉t.place.toList):t.slot j=.empty:=by
 unfold SetTable.slot;dsimp only;have n1:¬ (t.place[below t.place j]? == some j)=true:=λ q=>h ((Om T.wM).mp (by simpa using q));rw[if_neg n1,if_neg (by rw[T.rP];simp[has])]
theorem Tab.at {t:SetTable}{hs:List Int}(T:Tab t hs) {j:Nat}(h:j∈t.place.toList):∃ (i:Nat) (g:Int),t.place[i]?=some j/\hs[i]?=some g:=by
 obtain⟨i,hi,e⟩:=Cr.mp h;have hi':i<t.place.size:=by simpa using hi
 refine⟨i,hs[i]'(by rw[<- T.len];exact hi'),?_,by simp⟩;rw[Ba hi'];rw[Cp] at e;rw[e]
theorem Zt {t:SetTable}{hs:List Int}(T:Tab t hs) {hashAt:Nat->Int}(hA:∀ (i:Nat) g,hs[i]?=some g->hashAt i=g) (h:Int):∀ (f k:Nat),(∃ e,k<=e/\e<k+f/\(way t.mask h e).j∉t.place.toList)->
  ∃ k1,k<=k1/\(∀ m,k<=m->m<k1->∃ (i:Nat) (g:Int),t.place[i]?=some (way t.mask h m).j/\hs[i]?=some g/\g≠h)/\
   ((way t.mask h k1).j∉t.place.toList/\probe.go t hashAt h f (way t.mask h k)=some (.empty (way t.mask h k1).j none)\/
    ∃ i,t.place[i]?=some (way t.mask h k1).j/\hs[i]?=some h/\probe.go t hashAt h f (way t.mask h k)=some (.candidate (way t.mask h k1).j i (way t.mask h (k1+1))))
 | 0,k,⟨e,h1,h2,_⟩=>by lia
 | f+1,k,⟨e,h1,h2,h3⟩=>by
  by_cases hm:(way t.mask h k).j∈t.place.toList
  .obtain⟨i,g,p1,p2⟩:=T.at hm;by_cases hg:g=h
   .refine⟨k,Ag _,λ m a b=>by lia,.inr ⟨i,p1,by rw[<- hg];exact p2,?_⟩⟩;unfold probe.go;rw[T.live p1];dsimp only;rw[hA i g p2,if_pos (by simp[hg]),fZ];rfl
   .have Ai:e≠k:=λ q=>by subst q;exact h3 hm
    obtain⟨k1,q1,q2,q3⟩:=Zt T hA h f (k+1) ⟨e,by lia,by lia,h3⟩;have eq:probe.go t hashAt h (f+1) (way t.mask h k)=probe.go t hashAt h f (way t.mask h (k+1)):=by
     conv=>lhs;unfold probe.go
     rw[T.live p1];dsimp only;rw[hA i g p2,if_neg (by simp[hg]),fZ];rfl
    rw[eq];refine⟨k1,by lia,λ m a b=>?_,q3⟩;rcases Nat.eq_or_lt_of_le a with w | w
    .subst w;exact⟨i,g,p1,p2,hg⟩
    .exact q2 m w b
  .refine⟨k,Ag _,λ m a b=>by lia,.inl ⟨hm,?_⟩⟩;unfold probe.go;rw[T.empty hm,j8]
def bZ {xs ys:List Nat}(hx:xs.Nodup) (h:∀ x∈xs,x∈ys):xs.length<=ys.length:=by
 induction xs generalizing ys with
 | nil=>simp
 | cons x xs ih=>
  have h1:=A_.mp hx;have hxy:=h x Am;have:=ih h1.2 (ys:=ys.erase x) λ z hz=>by
   have Ai:z≠x:=λ e=>h1.1 (e▸hz);exact (DQ Ai).mpr (h z (Ar _ hz))
  rw[DP hxy] at this;have hp:=Dq hxy;simp only[AR];lia
def least {P:Nat->Prop}(k:Nat) (h:P k):∃ m,m<=k/\P m/\∀ m'<m,¬ P m':=by
 induction k using Nat.strongRecOn with
 | ind k ih=>
  rcases Classical.em (∃ m',m'<k/\P m') with ⟨m',h1,h2⟩ | q
  .obtain⟨m,g1,g2⟩:=ih m' h1 h2;exact⟨m,by lia,g2⟩
  .exact⟨k,Ag _,h,λ m' hm hp=>q ⟨m',hm,hp⟩⟩
def Q7 {xs:List Nat}{M:Nat}(h:xs.length<=M):∃ e,e<=M/\e∉xs:=by
 rcases Classical.em (∃ e,e<=M/\e∉xs) with q | q
 .exact q
 .have:=bZ (xs:=List.range (M+1)) (ys:=xs) DN λ e he=>by
   have:=AH.mp he;rcases Classical.em (e∈xs) with w | w
   .exact w
   .exact absurd ⟨e,by lia,w⟩ q
  simp at this;lia
def eZ (t:SetTable) (h:Int) (j:Nat):Prop:=j∉t.place.toList/\∃ k,(way t.mask h k).j=j/\∀ k'<k,(way t.mask h k').j∈t.place.toList
def Tab.first {t:SetTable}{hs:List Int}(T:Tab t hs) (hl:hs.length<=t.mask) (h:Int):∃ K,K<10*(t.mask+15)/\(way t.mask h K).j∉t.place.toList/\∀ k'<K,(way t.mask h k').j∈t.place.toList:=by
 obtain⟨e,e1,e2⟩:=Q7 (xs:=t.place.toList) (M:=t.mask) (by rw[Bm,T.len];exact hl);obtain⟨k,k1,k2⟩:=Xr t.mask T.mask h e e1;obtain⟨K,q1,q2,q3⟩:=least (P:=λ n=>(way t.mask h n).j∉t.place.toList) k (by rw[k2];exact e2);exact⟨K,by lia,q2,λ k' hk=>Classical.not_not.mp (q3 k' hk)⟩
def WN {xs:List Nat}{j p:Nat}(h:uT xs) (h1:∀ x∈xs.take p,x<j) (h2:∀ x∈xs.drop p,j<x):uT (xs.take p++j::xs.drop p):=by
 refine List.pairwise_append.mpr ⟨h.sublist (List.take_sublist _ _),Bh.mpr ⟨h2,h.sublist (List.drop_sublist _ _)⟩,λ a ha b hb=>?_⟩;rcases Ah.mp hb with e | e
 .subst e;exact h1 a ha
 .have:=h1 a ha;have:=h2 b e;lia
def Zl {α:Type}{xs:List α}{p i:Nat}{x y:α}(hp:p<=xs.length) (h:(xs.take p++x::xs.drop p)[i]?=some y):(i=p/\y=x)\/(i<p/\xs[i]?=some y)\/(p<i/\xs[i-1]?=some y):=by
 have hl:(xs.take p).length=p:=by rw[DS];lia
 rcases Dp i p with q | q | q
 .rw[Ct (by lia),List.getElem?_take,if_pos q] at h;exact .inr (.inl ⟨q,h⟩)
 .subst q;rw[Cu (by lia),hl] at h;simp at h;exact .inl ⟨rfl,h.symm⟩
 .rw[Cu (by lia),hl] at h;obtain⟨d,hd⟩:∃ d,i-p=d+1:=⟨i-p-1,by lia⟩
  rw[hd] at h;simp only[DM,List.getElem?_drop] at h;refine .inr (.inr ⟨q,?_⟩);rw[show i-1=p+d by lia];exact h
theorem Tab.put {t:SetTable}{hs:List Int}(T:Tab t hs) {h:Int}{j:Nat}(F:eZ t h j):
  (t.put j).2<=hs.length/\(t.put j).1={ t with place:=insertAt t.place (t.put j).2 j }/\Tab (t.put j).1 (hs.take (t.put j).2++h::hs.drop (t.put j).2):=by
 obtain⟨b1,b2,b3⟩:=jd (xs:=t.place) (j:=j) T.wM;obtain⟨fn,K,k1,k2⟩:=F;have e2:(t.put j).2=below t.place j:=rfl;have e1:(t.put j).1={ t with place:=insertAt t.place (t.put j).2 j }:=by
  show ({ t with place:=insertAt t.place (below t.place j) j,dummies:=_ }:SetTable)=_;rw[if_neg (by rw[T.rP];simp[has]),e2]
 have pl:(insertAt t.place (below t.place j) j).toList=t.place.toList.take (below t.place j)++j::t.place.toList.drop (below t.place j):=toList_insertAt _ _ _;have old:∀ x∈t.place.toList,x∈(insertAt t.place (below t.place j) j).toList:=λ x hx=>by
  rw[pl];have:=DL (below t.place j) t.place.toList;rw[<- this] at hx;rcases AZ.mp hx with q | q
  .exact Cb _ q
  .exact AV _ (Ar _ q)
 rw[e2] at e1 ⊢;refine⟨by rw[<- T.len];exact b1,e1,?_⟩;rw[e1];refine⟨T.mask,T.rP,?_,?_,?_,?_⟩
 .show (insertAt t.place (below t.place j) j).size=_;rw[<- Bm,pl];simp[T.len]
 .show uT (insertAt t.place (below t.place j) j).toList;rw[pl];refine WN T.wM (λ x hx=>?_) (λ x hx=>?_)
  .obtain⟨i,hi,e⟩:=Cr.mp hx;rw[DS] at hi;rw[List.getElem_take,Cp] at e;rw[<- e];exact b2 i (by simp at hi;lia) (by lia)
  .obtain⟨i,hi,e⟩:=Cr.mp hx;rw[List.length_drop] at hi;rw[List.getElem_drop,Cp] at e;have h3:=b3 (below t.place j+i) (by simp at hi;lia) (by lia);have hm:x∈t.place.toList:=List.mem_of_mem_drop hx;have Ai:x≠j:=λ q=>fn (q▸hm);lia
 .intro x hx;show x<=t.mask;have hx:x∈(insertAt t.place (below t.place j) j).toList:=hx;rw[pl] at hx;rcases AZ.mp hx with q | q
  .exact T.yw x (List.mem_of_mem_take q)
  .rcases Ah.mp q with e | e
   .subst e;rw[<- k1];exact j7 _ _ _
   .exact T.yw x (List.mem_of_mem_drop e)
 .intro i g x hg hx;show ∃ k,(way t.mask g k).j=x/\∀ k'<k,(way t.mask g k').j∈(insertAt t.place (below t.place j) j).toList;have hx:(insertAt t.place (below t.place j) j)[i]?=some x:=hx;rw[<- Bx,pl] at hx;have Aq:below t.place j<=t.place.toList.length:=by simpa using b1
  have D7:below t.place j<=hs.length:=by rw[<- T.len];exact b1
  rcases Zl Aq hx with ⟨c1,c2⟩ | ⟨c1,c2⟩ | ⟨c1,c2⟩ <;> rcases Zl D7 hg with ⟨d1,d2⟩ | ⟨d1,d2⟩ | ⟨d1,d2⟩ <;> first
   | lia
   | (subst c2 d2;exact⟨K,k1,λ k' hk=>old _ (k2 k' hk)⟩)
   | (obtain⟨k,g1,g2⟩:=T.ng _ g x d2 (by rw[<- Bx];exact c2)
      exact⟨k,g1,λ k' hk=>old _ (g2 k' hk)⟩)
def rY (owner:Array (Option Nat)) (j:Nat):Prop:=∃ k,owner[j]?=some (some k)
def QD {P:Nat->Bool}{n k:Nat}(h:(List.range n).find? P=some k):k<n/\P k=true/\∀ k'<k,P k'=false:=by
 obtain⟨h1,as,bs,h2,h3⟩:=List.find?_eq_some_iff_append.mp h;have hlen:as.length=k:=by
  have e:(List.range n)[as.length]?=some k:=by rw[h2];simp
  have:=(AK.mp e)
  obtain⟨q1,q2⟩:=this;rw[Dv] at q2;exact q2
 have hk:k<n:=by
  have:k∈List.range n:=by rw[h2];simp
  exact AH.mp this
 refine⟨hk,h1,λ k' hk'=>?_⟩;have:k'∈as:=by
  have e:(List.range n)[k']?=some k':=List.getElem?_range (by lia);rw[h2,Ct (by lia)] at e;exact Bb e
 have:=h3 k' this;simpa using this
def getD_none {owner:Array (Option Nat)}{j:Nat}(h:((owner.getD j (some 0)).isNone)=true):owner[j]?=some none:=by
 unfold Array.getD at h;split at h
 .rename_i hj;have e:owner[j]=none:=by simpa using h
  rw[Ba hj,e]
 .simp at h
def Zv {owner:Array (Option Nat)}{j:Nat}(hj:j<owner.size) (h:((owner.getD j (some 0)).isNone)=false):rY owner j:=by
 unfold Array.getD at h;rw[dif_pos hj] at h;cases q:owner[j] with
 | none=>simp[q] at h
 | some k=>exact⟨k,by rw[Ba hj,q]⟩
theorem Zy (M:Nat) (owner:Array (Option Nat)) (hsz:owner.size=M+1) (h:Int):∀ (fuel n kn:Nat),way M h kn=pj M (zY M h n).1 (zY M h n).2->(∀ q<kn,rY owner (way M h q).j)->
  (∃ n',n<=n'/\n'<n+fuel/\owner[(zY M h n').1]?=some none)->
  ∃ j q,layClean.free M owner fuel (zY M h n).1 (zY M h n).2=some j/\(way M h q).j=j/\owner[j]?=some none/\∀ q'<q,rY owner (way M h q').j
 | 0,n,kn,_,_,⟨n',h1,h2,_⟩=>by lia
 | fuel+1,n,kn,hk,ho,⟨n',h1,h2,h3⟩=>by
  have hre:runEnd M (zY M h n).1+1-(zY M h n).1=runEnd M (zY M h n).1-(zY M h n).1+1:=by unfold runEnd;split <;> lia
  have hwalk:∀ m,m<=runEnd M (zY M h n).1-(zY M h n).1->(way M h (kn+m)).j=(zY M h n).1+m:=λ m hm=>by rw[i6 M _ _ h kn hk m hm]
  unfold layClean.free;cases hf:(List.range (runEnd M (zY M h n).1+1-(zY M h n).1)).find? (λ k=>(owner.getD ((zY M h n).1+k) (some 0)).isNone) with
  | some k=>
   obtain⟨f1,f2,f3⟩:=QD hf;refine⟨_,kn+k,rfl,hwalk k (by lia),getD_none f2,λ q' hq=>?_⟩;rcases Bi q' kn with w | w
   .exact ho q' w
   .have e:(way M h q').j=(zY M h n).1+(q'-kn):=by
     have:=hwalk (q'-kn) (by lia)
     rwa [show kn+(q'-kn)=q' by lia] at this
    have hle:=j7 M h q';rw[e] at hle ⊢;exact Zv (by lia) (f3 (q'-kn) (by lia))
  | none=>
   have f3:=List.find?_eq_none.mp hf;have occ:∀ m,m<=runEnd M (zY M h n).1-(zY M h n).1->rY owner ((zY M h n).1+m):=λ m hm=>by
    have hle:=j7 M h (kn+m);rw[hwalk m hm] at hle;exact Zv (by lia) (Bool.eq_false_iff.mpr (f3 m (AH.mpr (by lia))))
   have Ai:n'≠n:=λ e=>by
    subst e;obtain⟨k,hk'⟩:=occ 0 (AN _);rw[Nat.add_zero] at hk';rw[hk'] at h3;cases h3
   dsimp only;obtain⟨j,q,r1,r2⟩:=Zy M owner hsz h fuel (n+1) _ (cN M h n kn hk) (λ q hq=>by
    rcases Bi q kn with w | w
    .exact ho q w
    .have e:=hwalk (q-kn) (by lia);rw[show kn+(q-kn)=q by lia] at e;rw[e];exact occ _ (by lia)) ⟨n',by lia,by lia,h3⟩
   exact⟨j,q,r1,r2⟩
structure Lay (M:Nat) (hs:List Int) (owner:Array (Option Nat)) (m:Nat):Prop where
 size:owner.size=M+1
 below:∀ (j k:Nat),owner[j]?=some (some k)->k<m
 each:∀ (k:Nat),k<m->∃ (j:Nat),owner[j]?=some (some k)
 once:∀ (i j k:Nat),owner[i]?=some (some k)->owner[j]?=some (some k)->i=j
 ng:∀ (j k:Nat) h,owner[j]?=some (some k)->hs[k]?=some h->∃ q,(way M h q).j=j/\∀ q'<q,rY owner (way M h q').j
theorem Lay.none {M:Nat}(hM:vC M) {hs:List Int}{owner:Array (Option Nat)}{m:Nat}(L:Lay M hs owner m) (hm:m<=M):∃ (e:Nat),e<=M/\owner[e]?=some Option.none:=by
 rcases Classical.em (∃ (e:Nat),e<=M/\owner[e]?=some Option.none) with q | q
 .exact q
 .exfalso;have Ax:∀ (e:Nat),e<=M->∃ (k:Nat),owner[e]?=some (some k):=λ e he=>by
   have An:e<owner.size:=by rw[L.size];lia
   cases w:owner[e] with
   | none=>exact absurd ⟨e,he,by rw[Ba An,w]⟩ q
   | some k=>exact⟨k,by rw[Ba An,w]⟩
  have:=bZ (xs:=(List.range (M+1)).map λ e=>((owner[e]?).getD Option.none).getD 0) (ys:=List.range m) (by
   refine B9.mpr (List.Pairwise.imp_of_mem ?_ DN);intro a b ha hb Ai e;refine Ai ?_;obtain⟨k,hk⟩:=Ax a (by have:=AH.mp ha;lia);obtain⟨k',hk'⟩:=Ax b (by have:=AH.mp hb;lia);rw[hk,hk'] at e;simp at e;subst e;exact L.once a b k hk hk') (λ x hx=>by
   obtain⟨e,he,rfl⟩:=Al.mp hx;obtain⟨k,hk⟩:=Ax e (by have:=AH.mp he;lia);rw[hk];exact AH.mpr (L.below e k hk))
  simp at this;lia
def lR {α:Type}{xs:Array α}{j i:Nat}{a b:α}(h:(xs.setIfInBounds j a)[i]?=some b):(i=j/\b=a)\/(i≠j/\xs[i]?=some b):=by
 rw[Dn] at h;by_cases e:j=i
 .subst e;rw[if_pos rfl] at h;split at h
  .cases h;exact .inl ⟨rfl,rfl⟩
  .cases h
 .rw[if_neg e] at h;exact .inr ⟨λ q=>e q.symm,h⟩
def Lay.step {M:Nat}(hM:vC M) {hs:List Int}{owner:Array (Option Nat)}{m:Nat}{h:Int}(L:Lay M hs owner m) (hm:m<=M) (hh:hs[m]?=some h):
  ∃ j,layClean.free M owner (turns M) (bits h%(M+1)) (bits h)=some j/\Lay M hs (owner.setIfInBounds j (some m)) (m+1):=by
 obtain⟨e,e1,e2⟩:=L.none hM hm;obtain⟨n',n1,n2⟩:=aJ M hM h e e1;obtain⟨j,q,r1,r2,r3,r4⟩:=Zy M owner L.size h (turns M) 0 0 rfl (λ q hq=>by lia) ⟨n',by lia,by unfold turns;lia,by rw[n2];exact e2⟩;have hj:j<owner.size:=(Array.getElem?_eq_some_iff.mp r3).1;have keep:∀ x,rY owner x->rY (owner.setIfInBounds j (some m)) x:=λ x ⟨k,hk⟩=>by
  have Ai:j≠x:=λ w=>by subst w;rw[r3] at hk;cases hk
  exact⟨k,by rw[Dn,if_neg Ai];exact hk⟩
 have self:(owner.setIfInBounds j (some m))[j]?=some (some m):=by rw[Dn,if_pos rfl,if_pos hj]
 refine⟨j,r1,⟨by simp[L.size],λ x k hx=>?_,λ k hk=>?_,λ x y k hx hy=>?_,λ x k g hx hg=>?_⟩⟩
 .rcases lR hx with ⟨_,w⟩ | ⟨_,w⟩
  .cases w;lia
  .have:=L.below x k w;lia
 .rcases Bi k m with w | w
  .obtain⟨x,hx⟩:=L.each k w;have Ai:j≠x:=λ w=>by subst w;rw[r3] at hx;cases hx
   exact⟨x,by rw[Dn,if_neg Ai];exact hx⟩
  .have:k=m:=by lia
   subst this;exact⟨j,self⟩
 .rcases lR hx with ⟨w1,w⟩ | ⟨w1,w⟩ <;> rcases lR hy with ⟨v1,v⟩ | ⟨v1,v⟩
  .omega
  .cases w;have:=L.below y _ v;lia
  .cases v;have:=L.below x _ w;lia
  .exact L.once x y k w v
 .rcases lR hx with ⟨w1,w⟩ | ⟨w1,w⟩
  .cases w;rw[hh] at hg;cases hg;subst w1;exact⟨q,r2,λ q' hq=>keep _ (r4 q' hq)⟩
  .obtain⟨q,g1,g2⟩:=L.ng x k g w hg;exact⟨q,g1,λ q' hq=>keep _ (g2 q' hq)⟩
theorem aM {M:Nat}(hM:vC M) {hs:List Int}(hl:hs.length<=M+1):∀ (rest:List Int) (owner:Array (Option Nat)) (m:Nat),m<=hs.length->hs.drop m=rest->Lay M hs owner m->
  ∃ owner',rest.foldl (λ acc h=>do
   let (owner,k) <- acc
   let j <- layClean.free M owner (turns M) (bits h%(M+1)) (bits h)
   pure (owner.setIfInBounds j (some k),k+1)) (some (owner,m))=some (owner',hs.length)/\Lay M hs owner' hs.length
 | [],owner,m,hl2,hd,L=>by
  have hm:hs.length<=m:=List.drop_eq_nil_iff.mp hd;have e:m=hs.length:=by lia
  subst e;exact⟨owner,rfl,L⟩
 | h::rest,owner,m,hl2,hd,L=>by
  have hm:hs[m]?=some h:=by
   have:=congrArg (λ l=>l[0]?) hd;simpa using this
  have An:m<hs.length:=(AK.mp hm).1;obtain⟨j,j1,j2⟩:=L.step hM (by lia) hm;have hd':hs.drop (m+1)=rest:=by
   have:=congrArg List.tail hd;simpa using this
  obtain⟨o',h1,h2⟩:=aM hM hl rest _ (m+1) (by lia) hd' j2;refine⟨o',?_,h2⟩;rw[Dm,<- h1];show _=_;congr 1;show ((layClean.free M owner (turns M) (bits h%(M+1)) (bits h)).bind λ j=>some (owner.setIfInBounds j (some m),m+1))=_;rw[j1];rfl
def R0 (M:Nat) (hs:List Int):Lay M hs (Array.replicate (M+1) Option.none) 0:=by
 have no:∀ (j k:Nat),(Array.replicate (M+1) (Option.none:Option Nat))[j]?≠some (some k):=λ j k h=>by
  rw[Array.getElem?_replicate] at h;split at h <;> cases h
 exact⟨by simp,λ j k h=>absurd h (no j k),λ k hk=>by lia,λ i j k h=>absurd h (no i k),λ j k h e=>absurd e (no j k)⟩
def R3 {M:Nat}(hM:vC M) (hashes:Array Int) (hl:hashes.size<=M+1):∃ owner,layClean M hashes=some owner/\Lay M hashes.toList owner hashes.size:=by
 obtain⟨o,h1,h2⟩:=aM hM (hs:=hashes.toList) (by simpa using hl) hashes.toList _ 0 (AN _) (by simp) (R0 M _);refine⟨o,?_,by simpa using h2⟩;unfold layClean;rw[<- Array.foldl_toList,h1];rfl
noncomputable def lives (M:Nat) (owner:Array (Option Nat)):List (Nat×Nat):=(List.range (M+1)).filterMap λ j=>(owner.getD j Option.none).map (j,·)
def getD_some {owner:Array (Option Nat)}{j k:Nat}:owner.getD j Option.none=some k↔owner[j]?=some (some k):=by
 unfold Array.getD;split
 .rename_i h;rw[Ba h];simp
 .rename_i h;rw[CJ (by lia)];simp
def qv {M:Nat}{owner:Array (Option Nat)}(hs:owner.size=M+1) {j k:Nat}:(j,k)∈lives M owner↔owner[j]?=some (some k):=by
 unfold lives;rw[DU];constructor
 .rintro⟨x,hx,e⟩;obtain⟨y,e1,e2⟩:=AD e;cases e2;exact getD_some.mp e1
 .intro h;have hj:=(Array.getElem?_eq_some_iff.mp h).1;exact⟨j,AH.mpr (by lia),by rw[getD_some.mpr h];rfl⟩
def aD (M:Nat) (owner:Array (Option Nat)):(lives M owner).Pairwise λ a b=>a.1<b.1:=by
 unfold lives;rw[List.pairwise_filterMap];refine List.Pairwise.imp ?_ List.pairwise_lt_range;intro a b CS x hx y hy;obtain⟨_,_,e1⟩:=AD hx;obtain⟨_,_,e2⟩:=AD hy;subst e1 e2;exact CS
def aN {M:Nat}(hM:vC M) (finger moves:Nat) (led plain:Bool) (hashes:Array Int) (hl:hashes.size<=M+1):
  ∃ t order,laid M finger moves led plain hashes=some (t,order)/\t.mask=M/\t.finger=finger/\t.led=led/\t.plain=plain/\order.toList.Perm (List.range hashes.size)/\Tab t (order.toList.map λ k=>hashes.toList.getD k 0):=by
 obtain⟨owner,h1,L⟩:=R3 hM hashes hl;refine⟨_,_,by unfold laid;rw[h1];rfl,rfl,rfl,rfl,rfl,?_,?_⟩
 .show ((lives M owner).map (·.2)).toArray.toList.Perm _;rw[CT];refine (DJ ?_ DN).mpr λ k=>?_
  .refine B9.mpr (List.Pairwise.imp_of_mem ?_ (aD M owner));intro a b ha hb CS e;have h2:=(qv L.size (j:=a.1) (k:=a.2)).mp ha;have h3:=(qv L.size (j:=b.1) (k:=b.2)).mp hb;have e:a.2=b.2:=e;rw[e] at h2;have:=L.once _ _ _ h2 h3;lia
  .rw[AH];constructor
   .intro h;obtain⟨⟨j,k'⟩,h2,rfl⟩:=Al.mp h;exact L.below j _ ((qv L.size).mp h2)
   .intro h;obtain⟨j,hj⟩:=L.each k h;exact Al.mpr ⟨(j,k),(qv L.size).mpr hj,rfl⟩
 .have pl:∀ x,x∈(lives M owner).map (·.1)↔rY owner x:=λ x=>by
   constructor
   .intro h;obtain⟨⟨j,k⟩,h2,rfl⟩:=Al.mp h;exact⟨k,(qv L.size).mp h2⟩
   .rintro⟨k,hk⟩;exact Al.mpr ⟨(x,k),(qv L.size).mpr hk,rfl⟩
  refine⟨hM,rfl,?_,?_,?_,?_⟩
  .show ((lives M owner).map (·.1)).toArray.size=(((lives M owner).map (·.2)).toArray.toList.map _).length;simp
  .show uT ((lives M owner).map (·.1)).toArray.toList;rw[CT];exact B9.mpr (aD M owner)
  .intro x hx;show x<=M;have hx:x∈((lives M owner).map (·.1)).toArray.toList:=hx;rw[CT] at hx;obtain⟨k,hk⟩:=(pl x).mp hx;have:=(Array.getElem?_eq_some_iff.mp hk).1;rw[L.size] at this;lia
  .intro i g x hg hx;have hx:((lives M owner).map (·.1)).toArray[i]?=some x:=hx;have hg:(((lives M owner).map (·.2)).toArray.toList.map λ k=>hashes.toList.getD k 0)[i]?=some g:=hg;rw[List.getElem?_toArray,Az] at hx;rw[CT,Az,Az] at hg;obtain⟨p,p1,p2⟩:=AD hx;rw[p1] at hg;simp only[Option.map_some,Option.some.injEq] at hg;obtain⟨j,k⟩:=p;cases p2;have hm:=(qv L.size).mp (Bb p1);have hk:=L.below _ _ hm;obtain⟨q,q1,q2⟩:=L.ng _ k g hm (by rw[<- hg];simp[hk]);refine⟨q,q1,λ q' hq=>?_⟩;show _∈((lives M owner).map (·.1)).toArray.toList;rw[CT];exact (pl _).mpr (q2 q' hq)
section
variable {prog:Program}{w:World}{A:Around}{E:Value->Shared->Prop}{s:Shared}
abbrev rk (prog:Program) (w:World):HeapKind prog w (List Int):=tupleKind (intKind prog w)
def items_int {ks:List Int}{vs:List Value}(h:ItemsAre (intKind prog w) ks vs):∀ v∈vs,∃ n t,v=.int n t:=by
 induction h with
 | nil=>intro v hv;cases hv
 | cons h1 _ ih=>
  intro v hv;rcases Ah.mp hv with rfl | hv
  .obtain⟨t,e⟩:=Value.isInt_shape h1;exact⟨_,t,e⟩
  .exact ih v hv
def ae {ks:List Int}{a:Addr}{Q:Bool->Shared->Prop}(hk:IsTupleKey (intKind prog w) s.heap ks a) (h:Q false s):wpAny (model prog w) A (ofAClassStatement 8 (.ref a)) Q E s:=by
 have hT:=hk.typeIs;obtain⟨o,items,n,ho,_,hd,hi⟩:=hk;unfold ofAClassStatement;refine Ab (wpAny_typeOf hT ?_);show wpAny _ _ (pure true >>= _) _ _ s;refine Ab (Ad ?_);simp only[AA,A5,if_false];refine Ab (wpAny_seqItems ho hd ?_);dsimp only;refine Ab ?_;show wpAny _ _ (forIn items _ _) _ _ s;rw[<- Array.forIn_toList];refine wpAny_forIn_list _ (λ rest r s'=>r.1=none/\s'=s/\∀ v∈rest,∃ n t,v=.int n t) _ ?_ ?_ _ _ ⟨rfl,rfl,items_int hi⟩
 .rintro v rest r s' ⟨hr,rfl,Ax⟩;obtain⟨m,t,rfl⟩:=Ax v Am;show wpAny _ _ (pure false >>= _) _ _ _;refine Ab (Ad ?_);simp only[A5,if_false];exact Ad ⟨rfl,rfl,λ u hu=>Ax u (Ar _ hu)⟩
 .rintro⟨r1,r2⟩ s' ⟨hr,rfl,_⟩;simp only at hr;subst hr;exact Ad h
def Qo {ks:List Int}{a:Addr}{Q:Bool->Shared->Prop}(hk:IsTupleKey (intKind prog w) s.heap ks a) (h:Q true s):wpAny (model prog w) A (hashByValue 8 (.ref a)) Q E s:=by
 have hT:=hk.typeIs;obtain⟨o,items,n,ho,_,hd,hi⟩:=hk;unfold hashByValue;refine Ab (wpAny_specialOf hT F.slot_tuple_hash.lookup ?_);dsimp only;refine Ab (wpAny_seqItems ho hd ?_);refine Ab ?_;show wpAny _ _ (forIn items _ _) _ _ s;rw[<- Array.forIn_toList];refine wpAny_forIn_list _ (λ rest r s'=>r.1=none/\s'=s/\∀ v∈rest,∃ n t,v=.int n t) _ ?_ ?_ _ _ ⟨rfl,rfl,items_int hi⟩
 .rintro v rest r s' ⟨hr,rfl,Ax⟩;obtain⟨m,t,rfl⟩:=Ax v Am;show wpAny _ _ (pure true >>= _) _ _ _;refine Ab (Ad ?_);simp only[AA,A5,if_false];exact Ad ⟨rfl,rfl,λ u hu=>Ax u (Ar _ hu)⟩
 .rintro⟨r1,r2⟩ s' ⟨hr,rfl,_⟩;simp only at hr;subst hr;exact Ad h
def X0 {ks:List Int}{b:Addr}{Q:Bool->Shared->Prop}(hk:IsTupleKey (intKind prog w) s.heap ks b) (l:List Value) (hl:∀ v∈l,∃ k c,v=.ref c/\IsTupleKey (intKind prog w) s.heap k c) (h:Q false s):
  wpAny (model prog w) A (searchCouldBeSeen (.ref b) l) Q E s:=by
 unfold searchCouldBeSeen;refine Ab ?_;refine wpAny_forIn_list _ (λ rest r s'=>r.1=none/\s'=s/\∀ v∈rest,∃ k c,v=.ref c/\IsTupleKey (intKind prog w) s.heap k c) _ ?_ ?_ _ _ ⟨rfl,rfl,hl⟩
 .rintro v rest r s' ⟨hr,rfl,Ax⟩;obtain⟨k,c,rfl,hc⟩:=Ax v Am;have rest':∀ u∈rest,∃ k c,u=Value.ref c/\IsTupleKey (intKind prog w) s'.heap k c:=λ u hu=>Ax u (Ar _ hu);dsimp only;by_cases e:(b == c||(carriedByValue (.ref b)&&carriedByValue (.ref c)))=true
  .rw[if_pos e];exact Ad ⟨rfl,rfl,rest'⟩
  .rw[if_neg e];refine Ab ((rk prog w).quiet hk ?_);simp only[AA,A5,if_false];refine Ab ((rk prog w).quiet hc ?_);simp only[AA,A5,if_false];refine Ab (ae hk ?_);simp only[A5,if_false];refine Ab (ae hc ?_);simp only[A5,if_false];exact Ad ⟨rfl,rfl,rest'⟩
 .rintro⟨r1,r2⟩ s' ⟨hr,rfl,_⟩;simp only at hr;subst hr;exact Ad h
structure qa (h:Heap) (es:Array (Int×Value)) (t:SetTable) (xs:List (List Int×Addr)):Prop where
 es:es.toList=xs.map λ e=>((rk prog w).hash e.1,Value.ref e.2)
 is:∀ e∈xs,IsTupleKey (intKind prog w) h e.1 e.2
 tab:Tab t (xs.map λ e=>(rk prog w).hash e.1)
 mh:xs.length<=t.mask
theorem qa.fits {h:Heap}{es:Array (Int×Value)}{t:SetTable}{xs:List (List Int×Addr)}(X:qa (prog:=prog) (w:=w) h es t xs):t.fits es.size=true:=by
 have hl:es.size=xs.length:=by have:=congrArg List.length X.es;simpa using this
 have h1:=X.tab.len;rw[Ay] at h1;have h2:=X.mh;unfold SetTable.fits SetTable.fill;rw[X.tab.rP,hl,h1];simp;lia
def qa.at {h:Heap}{es:Array (Int×Value)}{t:SetTable}{xs:List (List Int×Addr)}(X:qa (prog:=prog) (w:=w) h es t xs) {i:Nat}{e:List Int×Addr}(he:xs[i]?=some e):es[i]?=some ((rk prog w).hash e.1,Value.ref e.2):=by
 rw[<- Bx,X.es,Az,he];rfl
theorem cJ {a:Addr}{o:Obj}{es:Array (Int×Value)}{ep:Nat}{t:SetTable}{xs:List (List Int×Addr)}{key:List Int}{b:Addr}{Q:SetFound->Shared->Prop}
  (hu:A.units<cLine) (ho:s.heap.get? a=some o) (hd:o.data=.set es ep t) (X:qa (prog:=prog) (w:=w) s.heap es t xs) (hb:IsTupleKey (intKind prog w) s.heap key b)
  (h1:key∈xs.map (·.1)->Q (.there none) s) (h2:key∉xs.map (·.1)->∀ j,eZ t ((rk prog w).hash key) j->Q (.free j false) s):
  ∀ (fuel k:Nat) (stand:Option Probe),stand.getD (t.probeStart ((rk prog w).hash key))=way t.mask ((rk prog w).hash key) k->(∀ m<k,∃ (i:Nat) (e:List Int×Addr),t.place[i]?=some (way t.mask ((rk prog w).hash key) m).j/\xs[i]?=some e/\e.1≠key)->(∃ K,k<=K/\K<k+fuel/\K<10*(t.mask+15)/\(way t.mask ((rk prog w).hash key) K).j∉t.place.toList/\∀ m<K,(way t.mask ((rk prog w).hash key) m).j∈t.place.toList)->
   wpAny (model prog w) A (setSearchFrom a (.ref b) ((rk prog w).hash key) true fuel stand) Q E s
 | 0,k,stand,_,_,⟨K,q1,q2,_⟩=>by lia
 | fuel+1,k,stand,AO,hpast,⟨K,q1,q2,q3,q4,q5⟩=>by
  have T:=X.tab;have Ec:t.gaveWay=false:=by
   unfold SetTable.gaveWay;rcases T.mask with e | e | e <;> rw[e] <;> rfl
  unfold setSearchFrom;refine Ab (wpAny_setState_of ho hd X.fits ?_);dsimp only;rw[Ec];simp only[A5,if_false];have hA:∀ (i:Nat) g,(xs.map λ e=>(rk prog w).hash e.1)[i]?=some g->((es[i]?).map (·.1)).getD 0=g:=λ i g hg=>by
   rw[Az] at hg;obtain⟨e,e1,e2⟩:=AD hg;rw[X.at e1];exact e2
  obtain⟨k1,g1,g2,g3⟩:=Zt T (hashAt:=λ i=>((es[i]?).map (·.1)).getD 0) hA ((rk prog w).hash key) (10*turns t.mask) k ⟨K,q1,by unfold turns;lia,q4⟩;rw[AO];have look:∀ (i:Nat) g,(xs.map λ e=>(rk prog w).hash e.1)[i]?=some g->∃ e,xs[i]?=some e/\(rk prog w).hash e.1=g:=λ i g hg=>by
   rw[Az] at hg;obtain⟨e,e1,e2⟩:=AD hg;exact⟨e,e1,e2⟩
  have hpast':∀ m<k1,∃ (i:Nat) (e:List Int×Addr),t.place[i]?=some (way t.mask ((rk prog w).hash key) m).j/\xs[i]?=some e/\e.1≠key:=λ m hm=>by
   rcases Bi m k with c | c
   .exact hpast m c
   .obtain⟨i,g,p1,p2,p3⟩:=g2 m c hm;obtain⟨e,e1,e2⟩:=look i g p2;exact⟨i,e,p1,e1,λ q=>p3 (by rw[<- e2,q])⟩
  rcases g3 with ⟨n1,n2⟩ | ⟨i,n1,n2,n3⟩
  .have n2':t.probe _ ((rk prog w).hash key) (way t.mask ((rk prog w).hash key) k)=_:=n2;simp only[SetTable.probe] at n2' ⊢
   erw [n2]
   dsimp only;refine Ad (h2 (λ hm=>?_) _ ⟨n1,k1,rfl,λ m hm=>?_⟩)
   .obtain⟨e,he,ek⟩:=Al.mp hm;obtain⟨i,hi⟩:=Dl.mp he;have hh:(xs.map λ e=>(rk prog w).hash e.1)[i]?=some ((rk prog w).hash key):=by rw[Az,hi,<- ek];rfl
    have CP:i<t.place.size:=by rw[T.len];exact (AK.mp hh).1
    obtain⟨kk,w1,w2⟩:=T.ng i _ _ hh (Ba CP);rcases Dp kk k1 with c | c | c
    .obtain⟨i',e',p1,p2,p3⟩:=hpast' kk c;rw[w1] at p1;have:i=i':=by
      rw[<- below_at T.wM (Ba CP),<- below_at T.wM p1]
     subst this;rw[hi] at p2;cases p2;exact p3 ek
    .subst c;rw[w1] at n1;exact n1 (by simp)
    .exact n1 (w2 k1 c)
   .obtain⟨i',e',p1,_⟩:=hpast' m hm;exact Bb (by rw[Bx];exact p1)
  .simp only[SetTable.probe]
   erw [n3]
   dsimp only;obtain⟨e,e1,e2⟩:=look i _ n2;have hes:=X.at e1;have hey:=X.is e (Bb e1);have main:wpAny (model prog w) A (holding [Value.ref e.2] (eqBool (.ref e.2) (.ref b)) >>= λ equal=>setState a >>= λ x=>match x with
     | (es',_,t')=>if (true&&equal)=true then pure (SetFound.there none) else
      match t'.sameMemory t.moves t.mask with
      | some same=>
       have jp:=λ still=>match still with
        | none=>do
         rule "set.search.anew"
         setSearchFrom a (.ref b) ((rk prog w).hash key) true fuel none
        | some i'=>if equal=true then pure (SetFound.there (some i')) else setSearchFrom a (.ref b) ((rk prog w).hash key) true fuel (some (way t.mask ((rk prog w).hash key) (k1+1)))
       match if same=true then t'.slot (way t.mask ((rk prog w).hash key) k1).j else Slot.empty with
       | .live i'=>match es'[i']? with
        | some (_,y')=>do
         let r <- isSame y' (.ref e.2)
         let still <- pure (if r=true then some i' else none)
         jp still
        | none=>do
         let still <- pure none
         jp still
       | _=>do
        let still <- pure none
        jp still
      | _=>unsupported "set.changed-during-lookup:is-the-new-block-at-the-old-address") Q E s:=by
    refine Ab (wpAny_holding ((rk prog w).eqBool hu hey hb ?_));refine Ab (wpAny_setState_of ho hd X.fits ?_);dsimp only;by_cases hk:e.1=key
    .rw[decide_eq_true hk];simp only[Dt,if_true];exact Ad (h1 (Al.mpr ⟨e,Bb e1,hk⟩))
    .rw[decide_eq_false hk];simp only[B_,A5,if_false];have sm:t.sameMemory t.moves t.mask=some true:=by unfold SetTable.sameMemory;simp
     rw[sm];dsimp only;rw[if_pos rfl,T.live n1];dsimp only;rw[hes];dsimp only;refine Ab (wpAny_isSame_ref_self ?_);refine Ab (Ad ?_);rw[if_pos rfl];dsimp only;have hKk:k1<K:=by
      rcases Dp K k1 with c | c | c
      .obtain⟨i',e',p1,_⟩:=hpast' K c;exact absurd (Bb (by rw[Bx];exact p1)) q4
      .subst c;exact absurd (Bb (by rw[Bx];exact n1)) q4
      .exact c
     refine cJ hu ho hd X hb h1 h2 fuel (k1+1) _ rfl (λ m hm=>?_) ⟨K,by lia,by lia,q3,q4,q5⟩;rcases Bi m k1 with c | c
     .exact hpast' m c
     .have:m=k1:=by lia
      subst this;exact⟨i,e,n1,e1,hk⟩
   rw[hes];by_cases hl:t.led=true
   .rw[hl];simp only[AA,A5,if_false];exact main
   .have hl':t.led=false:=by simpa using hl
    rw[hl'];simp only[AB,if_true];refine Ab (X0 hb _ (λ v hv=>?_) ?_)
    .obtain⟨p,hp,rfl⟩:=Al.mp hv;rw[Array.toList_filter,AU,X.es] at hp;obtain⟨⟨e',he',rfl⟩,_⟩:=(And.intro (Al.mp hp.1) hp.2)
     exact⟨e'.1,e'.2,rfl,X.is e' he'⟩
    .simp only[A5,if_false];exact main
end
section
variable {prog:Program}{w:World}{A:Around}{E:Value->Shared->Prop}{s:Shared}
structure vV (prog:Program) (w:World) (h:Heap) (a:Addr) (xs:List (List Int×Addr)) (led:Bool):Prop where
 ex:∃ es ep t,h.get? a=some { cls:=.type "set",dict:=none,data:=.set es ep t }/\qa (prog:=prog) (w:=w) h es t xs/\t.led=led/\t.plain=true/\xs.length*5<t.mask*3
 nd:(xs.map (·.1)).Nodup
def jG {h h':Heap}{ks:List Int}{b a:Addr}{es:Array (Int×Value)}{ep:Nat}{t:SetTable}{c:Value}{d:Option Addr}{sl:Array (Option Value)}(x:IsTupleKey (intKind prog w) h ks b) (ho:h.get? a=some { cls:=c,dict:=d,data:=.set es ep t,slots:=sl }) (hs:Heap.SameBut a h h'):IsTupleKey (intKind prog w) h' ks b:=by
 obtain⟨o',items,n,ho',hc,hd',hi⟩:=x;have Ai:b≠a:=by
  rintro rfl;obtain rfl:o'=_:=A4 (ho'.symm.trans ho);cases hd'
 exact⟨o',items,n,(hs.2 b Ai).trans ho',hc,hd',hi⟩
def kh {h:Heap}{a:Addr}{es es':Array (Int×Value)}{ep:Nat}{t t':SetTable}(ho:h.get? a=some { cls:=.type "set",dict:=none,data:=.set es ep t }):(h.update a (Obj.putSet es' t')).get? a=some { cls:=.type "set",dict:=none,data:=.set es' (ep+1) t' }:=by
 have e:Obj.putSet es' t' { cls:=.type "set",dict:=none,data:=.set es ep t }={ cls:=.type "set",dict:=none,data:=.set es' (ep+1) t' }:=putSet_of es' t' rfl;have:=Heap.get?_update_self (Obj.putSet es' t') ho (by rw[e];rfl);rw[e] at this;exact this
theorem iL {α β:Type}(l:List α) (f:α->β) (d:β):∀ (order:List Nat),(∀ k∈order,k<l.length)->order.map (λ k=>(l.map f).getD k d)=(order.filterMap λ k=>l[k]?).map f
 | [],_=>rfl
 | k::order,h=>by
  have hk:=h k Am;have ih:=iL l f d order λ j hj=>h j (Ar _ hj);rw[Au,BM,AX hk];dsimp only;rw[Au,ih];congr 1;simp[hk]
def WQ {a:Addr}{es:Array (Int×Value)}{ep:Nat}{t:SetTable}{xs:List (List Int×Addr)}{led:Bool}{wanted M:Nat}{Q:Unit->Shared->Prop}
  (ho:s.heap.get? a=some { cls:=.type "set",dict:=none,data:=.set es ep t }) (X:qa (prog:=prog) (w:=w) s.heap es t xs) (Bp:t.led=led) (Aq:t.plain=true) (hM:vC M) (hw:sizeAbove wanted=M+1) (AI:xs.length*5<M*3) (CO:(xs.map (·.1)).Nodup)
  (h:∀ h' xs',Heap.SameBut a s.heap h'->vV prog w h' a xs' led->xs'.Perm xs->Q () { s with heap:=h' }):wpAny (model prog w) A (setRelay a wanted) Q E s:=by
 have hlen:es.size=xs.length:=by have:=congrArg List.length X.es;simpa using this
 have Ep:(es.map (·.1)).toList=xs.map λ e=>(rk prog w).hash e.1:=by rw[Array.toList_map,X.es,AG];rfl
 have hsz:(es.map (·.1)).size=xs.length:=by rw[CY,hlen]
 obtain⟨t',order,h1,h2,h3,h4,h5,h6,h7⟩:=aN hM t.finger (t.movedTo M) t.led t.plain (es.map (·.1)) (by rw[hsz];lia);rw[hsz] at h6;have An:∀ k∈order.toList,k<xs.length:=λ k hk=>by simpa using h6.mem_iff.mp hk
 unfold setRelay;refine Ab (wpAny_setState_of ho rfl X.fits ?_);dsimp only;rw[if_neg (by rw[hw];rcases hM with e | e | e <;> rw[e] <;> decide)];have hr:t.relaid (es.map (·.1)) wanted=some (t',order):=by
  unfold SetTable.relaid;rw[hw,Nat.add_sub_cancel];exact h1
 rw[hr];have BG:(order.filterMap (es[·]?)).toList=(order.toList.filterMap λ k=>xs[k]?).map λ e=>((rk prog w).hash e.1,Value.ref e.2):=by
  rw[Array.toList_filterMap,DI];congr 1;funext k;rw[<- Bx,X.es,Az]
 have hperm:(order.toList.filterMap λ k=>xs[k]?).Perm xs:=(h6.filterMap _).trans (by rw[List.filterMap_getElem?_range_length]);have BF:(order.filterMap (es[·]?)).size=es.size:=by
  rw[<- Bm,BG,Ay,hperm.length_eq,hlen]
 refine Ab (m:=_) ?_;show wpAny _ _ (do
  let some (t,order):=some (t',order) | unsupported "internal:set-table-without-room"
  let es':=order.filterMap (es[·]?)
  if es'.size != es.size then unsupported "internal:set-table-lost-an-element"
  pure (es',t)) _ _ _
 dsimp only;rw[if_neg (by rw[BF];simp)];refine Ad ?_;have Bz:(order.filterMap (es[·]?)).size<=sizeLine:=by
  rw[BF,hlen];have:sizeLine=16777216:=rfl;rcases hM with e | e | e <;> subst e <;> lia
 refine wpAny_storeSet_of ho rfl ?_ Bz;have sb:=Heap.SameBut.update s.heap a (Obj.putSet (order.filterMap (es[·]?)) t');refine h _ _ sb ⟨⟨_,ep+1,t',kh ho,⟨BG,λ e he=>jG (X.is e (hperm.mem_iff.mp he)) ho sb,?_,?_⟩,by rw[h4];exact Bp,by rw[h5];exact Aq,?_⟩,(hperm.map _).nodup_iff.mpr CO⟩ hperm
 .rw[<- iL xs (λ e=>(rk prog w).hash e.1) 0 order.toList An,<- Ep];exact h7
 .rw[hperm.length_eq,h2];lia
 .rw[hperm.length_eq,h2];exact AI
def cG (n:Nat) (M:Nat) (hM:vC M) (h1:n*5<M*3) (h2:M*3<=(n+1)*5) (hn:n<70):∃ M',vC M'/\sizeAbove (grown (n+1))=M' + 1/\(n+1)*5<M'*3:=by
 rcases hM with e | e | e <;> subst e
 .have:n=4:=by lia
  subst this;exact⟨31,.inr (.inl rfl),by decide +kernel,by lia⟩
 .have:n=18:=by lia
  subst this;exact⟨127,.inr (.inr rfl),by decide +kernel,by lia⟩
 .omega
def O1 {a:Addr}{xs:List (List Int×Addr)}{key:List Int}{b:Addr}{led:Bool}{Q:Bool->Shared->Prop}(hu:A.units<cLine) (S:vV prog w s.heap a xs led) (hb:IsTupleKey (intKind prog w) s.heap key b) (hn:xs.length<70)
  (h:∀ h' xs' r,Heap.SameBut a s.heap h'->vV prog w h' a xs' led->(key∈xs.map (·.1)/\xs'=xs\/key∉xs.map (·.1)/\xs'.Perm (xs++[(key,b)]))->Q r { s with heap:=h' }):
  wpAny (model prog w) A (setAddHashed a (.ref b) ((rk prog w).hash key)) Q E s:=by
 obtain⟨⟨es,ep,t,ho,X,Bp,Aq,AI⟩,CO⟩:=S;have hlen:es.size=xs.length:=by have:=congrArg List.length X.es;simpa using this
 unfold setAddHashed setAddHashedIn;refine wpAny_holding (Ab (wpAny_setState_of ho rfl X.fits ?_));dsimp only;rw[if_neg (by simp[byScan,Value.scannable])];obtain⟨K,k1,k2,k3⟩:=X.tab.first (by rw[Ay];exact X.mh) ((rk prog w).hash key);have hmk:t.mask<=127:=by rcases X.tab.mask with e | e | e <;> lia
 refine Ab ?_;unfold setSearch;refine cJ (key:=key) (b:=b) hu ho rfl X hb (λ hm=>?_) (λ hm j F=>?_) 100000 0 none rfl (λ m hm=>by lia) ⟨K,by lia,by lia,k1,k2,k3⟩
 .dsimp only;refine Ad ?_;have:=h s.heap xs false ⟨rfl,λ _ _=>rfl⟩ ⟨⟨es,ep,t,ho,X,Bp,Aq,AI⟩,CO⟩ (.inl ⟨hm,rfl⟩);exact this
 .dsimp only;refine Ab (wpAny_setState_of ho rfl X.fits ?_);dsimp only;obtain⟨p1,p2,p3⟩:=X.tab.put F;rw[Ay] at p1;have CA:(t.put j).1.plain=true:=by rw[p2];exact Aq
  have BW:(t.put j).1.mask=t.mask:=by rw[p2]
  have An:(t.put j).1.led=led:=by rw[p2];exact Bp
  generalize hT:(t.put j)=P at *;obtain⟨t1,p⟩:=P;dsimp only at *;rw[CA];simp only[if_true];refine Ab (Qo hb ?_);simp only[if_true]
  let xs1:=xs.take p++(key,b)::xs.drop p
  have hperm:xs1.Perm (xs++[(key,b)]):=by
   have e:xs.take p++xs.drop p=xs:=DL p xs;have:xs1.Perm ((key,b)::(xs.take p++xs.drop p)):=List.perm_middle;rw[e] at this;exact this.trans (List.perm_append_singleton _ _).symm
  have hl1:xs1.length=xs.length+1:=by rw[hperm.length_eq];simp
  have hes1:(insertAt es p ((rk prog w).hash key,Value.ref b)).toList=xs1.map λ e=>((rk prog w).hash e.1,Value.ref e.2):=by
   rw[toList_insertAt,X.es];simp[xs1,Dk,Dj]
  have hsz1:(insertAt es p ((rk prog w).hash key,Value.ref b)).size=xs.length+1:=by rw[<- Bm,hes1,Ay,hl1]
  have Bz:(insertAt es p ((rk prog w).hash key,Value.ref b)).size<=sizeLine:=by
   rw[hsz1];have:sizeLine=16777216:=rfl;lia
  refine Ab (wpAny_storeSet_of ho rfl ?_ Bz);have sb:=Heap.SameBut.update s.heap a (Obj.putSet (insertAt es p ((rk prog w).hash key,Value.ref b)) t1);have ho1:=kh (es':=insertAt es p ((rk prog w).hash key,Value.ref b)) (t':=t1) ho;have hm7:7<=t.mask:=by rcases X.tab.mask with e | e | e <;> lia
  have X1:qa (prog:=prog) (w:=w) (s.heap.update a (Obj.putSet (insertAt es p ((rk prog w).hash key,Value.ref b)) t1)) (insertAt es p ((rk prog w).hash key,Value.ref b)) t1 xs1:=by
   refine⟨hes1,λ e he=>?_,?_,by rw[hl1,BW];lia⟩
   .rcases AZ.mp (hperm.mem_iff.mp he) with q | q
    .exact jG (X.is e q) ho sb
    .cases AJ.mp q;exact jG hb ho sb
   .have:xs1.map (λ e=>(rk prog w).hash e.1)=(xs.map λ e=>(rk prog w).hash e.1).take p++(rk prog w).hash key::(xs.map λ e=>(rk prog w).hash e.1).drop p:=by simp[xs1,Dk,Dj]
    rw[this];exact p3
  have hnd1:(xs1.map (·.1)).Nodup:=by
   refine (hperm.map _).nodup_iff.mpr ?_;rw[Bk,List.nodup_append];refine⟨CO,by simp,λ x hx y hy=>?_⟩;simp at hy;subst hy;exact λ e=>hm (e▸hx)
  by_cases hf:t1.tooFull=true
  .rw[hf];simp only[AB,Dt,if_true];have hfill:t1.fill=xs.length+1:=by
    unfold SetTable.fill;rw[p3.rP,p3.len];simp;lia
   have hfull:t.mask*3<=(xs.length+1)*5:=by
    have:=hf;unfold SetTable.tooFull at this;rw[hfill,BW] at this;simpa using this
   obtain⟨M',g1,g2,g3⟩:=cG xs.length t.mask X.tab.mask AI hfull hn;rw[hlen];refine Ab (WQ (led:=led) ho1 X1 An CA g1 g2 (by rw[hl1];exact g3) hnd1 λ h' xs' sb' S' pm=>?_);refine Ad ?_;exact h h' xs' true (sb.trans sb') S' (.inr ⟨hm,pm.trans hperm⟩)
  .have hf':t1.tooFull=false:=by simpa using hf
   rw[hf'];simp only[AB,B_,A5,if_false];refine Ad ?_;have hfill:t1.fill=xs.length+1:=by
    unfold SetTable.fill;rw[p3.rP,p3.len];simp;lia
   have hfull:(xs.length+1)*5<t.mask*3:=by
    have:=hf';unfold SetTable.tooFull at this;rw[hfill,BW] at this;simpa using this
   exact h _ xs1 true sb ⟨⟨_,ep+1,t1,ho1,X1,An,CA,by rw[hl1,BW];exact hfull⟩,hnd1⟩ (.inr ⟨hm,hperm⟩)
end
noncomputable def vP (w:World):Bool:=!w.params.followText "set-order"
noncomputable def yY (w:World):Obj:={ cls:=.type "set",dict:=none,data:=.set #[] 0 (.fresh 0 0 (vP w)) }
section
variable {prog:Program}{w:World}{A:Around}{E:Value->Shared->Prop}{s:Shared}
set_option maxHeartbeats 3200000 in
def Ye (a:Value) {Q:Value->Shared->Prop}(h:Q (.ref s.heap.objs.size) { s with heap:=s.heap.push (yY w) }):
  codeAny (model prog w) A (.call (.builtin "set.__new__") ⟨[.type "set",a],[]⟩) (wants Q E) s:=by
 refine codeAny_of_tree ?_;show wpAny _ A.in1 (checkBuiltinCall "set.__new__" ⟨[.type "set",a],[]⟩ >>= λ _=>again (.builtin "set.__new__" ⟨[.type "set",a],[]⟩)) _ _ s;refine Ab (wpAny_of_eq (F.newCall_set_1 a) (Ad ⟨plainId_quiet F.plain_set_new _,codeAny_builtin F.entry_set_new ?_⟩));rw[Around.under_plainId F.plain_set_new _];unfold Builtin.«set.__new__» Builtin.Frozenset.newClass newSet setsByText;have sub:=sub_set_self;obtain⟨hp,g,d,tk,os⟩:=s;dsimp only
 wp_walk
 refine wpAny_askSetting (Ad ?_);dsimp only;simp only[newObj];exact Ab (wpAny_alloc (Ad (Ad h)))
def Ww {h:Heap}{a:Addr}(ho:h.get? a=some (yY w)):vV prog w h a [] (vP w):=
 ⟨⟨#[],0,_,ho,⟨rfl,λ e he=>(by cases he),⟨.inl rfl,rfl,rfl,.nil,λ j hj=>(by cases hj),λ i g j hg=>(by cases hg)⟩,by simp⟩,rfl,rfl,by show 0*5<7*3;lia⟩,.nil⟩
end
end ST
namespace ST
open PySem PySem.SetTable PyProof.Rows
structure Up (its:Array Value) (rows:List (List Int)) (i:Nat) (xs:List (List Int×Addr)):Prop where
 own:∀ e∈xs,∃ j,j<i/\its[j]?=some (.ref e.2)/\rows[j]?=some e.1
 all:∀ (j:Nat) r,j<i->rows[j]?=some r->r∈xs.map (·.1)
def Up.len {its:Array Value}{rows:List (List Int)}{i:Nat}{xs:List (List Int×Addr)}(U:Up its rows i xs) (nd:(xs.map (·.1)).Nodup):xs.length<=i:=by
 have:∀ x∈xs.map (·.1),x∈(List.range i).map λ j=>rows.getD j []:=λ x hx=>by
  obtain⟨e,he,rfl⟩:=Al.mp hx;obtain⟨j,h1,_,h3⟩:=U.own e he;refine Al.mpr ⟨j,AH.mpr h1,?_⟩;rw[AW,h3];rfl
 have key:∀ (l m:List (List Int)),l.Nodup->(∀ x∈l,x∈m)->l.length<=m.length:=by
  intro l
  induction l with
  | nil=>intro m _ _;exact AN _
  | cons x l ih=>
   intro m hn hs;have h1:=A_.mp hn;have hx:=hs x Am;have:=ih (m.erase x) h1.2 λ z hz=>(DQ (λ e:z=x=>h1.1 (by rw[<- e];exact hz))).mpr (hs z (Ar _ hz));rw[DP hx] at this;have:=Dq hx;simp only[AR];lia
 have:=key _ _ nd this;simpa using this
def Up.step {its:Array Value}{rows:List (List Int)}{i:Nat}{xs xs':List (List Int×Addr)}{key:List Int}{b:Addr}(U:Up its rows i xs) (hi:its[i]?=some (.ref b)) (hr:rows[i]?=some key)
  (h:key∈xs.map (·.1)/\xs'=xs\/key∉xs.map (·.1)/\xs'.Perm (xs++[(key,b)])):Up its rows (i+1) xs':=by
 rcases h with ⟨hm,rfl⟩ | ⟨_,hp⟩
 .refine⟨λ e he=>?_,λ j r hj Bc=>?_⟩
  .obtain⟨j,h1,h2⟩:=U.own e he;exact⟨j,by lia,h2⟩
  .rcases Bi j i with q | q
   .exact U.all j r q Bc
   .have:j=i:=by lia
    subst this;rw[hr] at Bc;cases Bc;exact hm
 .refine⟨λ e he=>?_,λ j r hj Bc=>?_⟩
  .rcases AZ.mp (hp.mem_iff.mp he) with q | q
   .obtain⟨j,h1,h2⟩:=U.own e q;exact⟨j,by lia,h2⟩
   .cases AJ.mp q;exact⟨i,by lia,hi,hr⟩
  .have hp':=hp.map (·.1);rw[hp'.mem_iff,Bk];rcases Bi j i with q | q
   .exact Cb _ (U.all j r q Bc)
   .have:j=i:=by lia
    subst this;rw[hr] at Bc;cases Bc;exact AV _ Am
section
variable {prog:Program}{w:World}{A:Around}{R:Result->Shared->Prop}{I:Addr}{fp wr:List Addr}{G:Array GenState->Array GenState->Prop}{n:Nat}{P:Nat->Value->Prop}{St:Nat->Shared->Prop}
def qK (prog:Program) (w:World) (h:Heap) (its:Array Value) (rows:List (List Int)):Prop:=∀ (i:Nat) v,its[i]?=some v->∃ b r,v=.ref b/\rows[i]?=some r/\IsTupleKey (intKind prog w) h r b
def qK.at {h h':Heap}{its:Array Value}{rows:List (List Int)}(T:qK prog w h its rows) (k:∀ (i:Nat) b,its[i]?=some (.ref b)->∀ o,h.get? b=some o->h'.get? b=some o):qK prog w h' its rows:=λ i v hv=>by
 obtain⟨b,r,rfl,h1,o,items,m,h2,h3⟩:=T i v hv;exact⟨b,r,rfl,h1,o,items,m,k i b hv o h2,h3⟩
def Rm (W:WalksS prog w A.in1 I fp wr G n (λ i v=>P i v) St) (Sa:Addr) (hSf:Sa∉fp) {its:Array Value}{rows:List (List Int)}(hP:∀ i v,P i v->its[i]?=some v) (hn:n<70) (hu:A.units+1<cLine) (led:Bool)
  (BV:∀ (i:Nat) b,its[i]?=some (.ref b)->b∉Sa::wr):∀ (k i:Nat) (s:Shared) (xs:List (List Int×Addr)),n-i=k->i<=n->St i s->vV prog w s.heap Sa xs led->qK prog w s.heap its rows->Up its rows i xs->
   (∀ s' xs',Moved (Sa::wr) G s s'->vV prog w s'.heap Sa xs' led->Up its rows n xs'->R (.ok (.ret .none)) s')->
   codeAny (model prog w) A (.builtin "set.update.loop" ⟨[.ref Sa,.ref I],[]⟩) R s:=by
 have hSw:Sa∉wr:=λ z=>hSf (W.sub _ z);have more:∀ b∈wr,b∈Sa::wr:=λ b hb=>Ar _ hb;have keepS:∀ {s s':Shared}{xs:List (List Int×Addr)}{wr':List Addr},Sa∉wr'->(∀ e∈xs,e.2∉wr')->Moved wr' G s s'->vV prog w s.heap Sa xs led->vV prog w s'.heap Sa xs led:=λ{s s' xs wr'} h1 h2 hm ⟨⟨es,ep,t,ho,X,r1,r2,r3⟩,nd⟩=>
  ⟨⟨es,ep,t,hm.heap Sa _ h1 ho,⟨X.es,λ e he=>by
   obtain⟨o,items,m,g1,g2⟩:=X.is e he;exact⟨o,items,m,hm.heap _ _ (h2 e he) g1,g2⟩,X.tab,X.mh⟩,r1,r2,r3⟩,nd⟩
 intro k
 induction k with
 | zero=>
  intro i s xs hk hi AO hS hT hU hR;have e:i=n:=by lia
  subst e;refine codeAny_builtin F.entry_set_update_loop ?_;rw[Around.under_plainId F.plain_set_update_loop _];show wpAny _ A.in1 (pyNext (.ref I) >>= _) _ _ s;refine Ab (W.done s _ _ AO λ s' hm=>?_);refine Ad (hR s' xs (hm.mono more) (keepS hSw (λ e he=>?_) hm hS) hU);obtain⟨j,_,h2,_⟩:=hU.own e he;exact λ z=>BV j e.2 h2 (more _ z)
 | succ k ih=>
  intro i s xs hk hi AO hS hT hU hR;have An:i<n:=by lia
  refine codeAny_builtin F.entry_set_update_loop ?_;rw[Around.under_plainId F.plain_set_update_loop _];show wpAny _ A.in1 (pyNext (.ref I) >>= _) _ _ s;refine Ab (W.item i s _ _ An AO λ v s1 hPv hst1 hm=>?_);have hv:=hP i v hPv;have T1:qK prog w s1.heap its rows:=hT.at λ j b hj o e=>hm.heap b o (λ z=>BV j b hj (more _ z)) e;obtain⟨b,r,rfl,hr,hb⟩:=T1 i v hv;have S1:vV prog w s1.heap Sa xs led:=keepS hSw (λ e he=>by
   obtain⟨j,_,h2,_⟩:=hU.own e he;exact λ z=>BV j e.2 h2 (more _ z)) hm hS
  have hl:xs.length<70:=by have:=hU.len hS.nd;lia
  show wpAny _ A.in1 (holding [Value.ref b] (setAdd Sa (.ref b)) >>= _) _ _ s1;refine Ab (wpAny_holding ?_);unfold setAdd;refine wpAny_holding (Ab ((rk prog w).pyHash (k:=r) (a:=b) (A:=A.in1) hu hb ?_));refine O1 (s:={ s1 with toks:=s1.toks+(rk prog w).draws r }) (A:=A.in1) hu S1 hb hl λ h' xs' rr sb S' hx=>?_;have fr:=W.frame (i+1) s1 h' (s1.toks+(rk prog w).draws r) hst1 (B8 _ _) λ c hc o e=>(sb.2 c (λ z:c=Sa=>hSf (z▸hc))).trans e;refine Ad ⟨plainId_quiet F.plain_set_update_loop _,ih (i+1) _ xs' (by lia) An fr S' (T1.at λ j c hj o e=>?_) (hU.step hv hr hx) λ s2 xs2 hm2 S2 U2=>?_⟩
  .exact (sb.2 c (λ z=>BV j c hj (z▸Am))).trans e
  .refine hR s2 xs2 (Moved.trans W.gtrans ((hm.mono more).then_heap (B8 _ _) λ c o hc e=>?_) hm2) S2 U2;exact (sb.2 c (λ z=>hc (z▸Am))).trans e
end
section
variable {prog:Program}{w:World}{A:Around}{E:Value->Shared->Prop}{s:Shared}
set_option maxRecDepth 100000 in
set_option maxHeartbeats 6400000 in
def PO {l:Addr}{its:Array Value}{rows:List (List Int)}{Q:Value->Shared->Prop}(hh:A.handled=none) (hu:A.units+64<cLine) (hl:s.heap.IsList l its) (hT:qK prog w s.heap its rows) (hn:its.size<70)
  (h:∀ (h':Heap) (tk:Nat) xs,vV prog w h' s.heap.objs.size xs (vP w)->Up its rows its.size xs->(∀ b o,b<s.heap.objs.size->s.heap.get? b=some o->h'.get? b=some o)->Q (.ref s.heap.objs.size) { s with heap:=h',toks:=tk }):
  wpAny (model prog w) A (call (.type "set") [.ref l]) Q E s:=by
 obtain⟨c,tl,Ef⟩:=F.called_set.mro;have made:=F.called_set.made;have subm:=F.called_set.sub;refine wpAny_call (codeAny_of_tree ?_);show wpAny _ _ (callAny (.type "set") _) _ _ _;refine Ad ⟨Code.quiet_builtin _ (by decide +kernel),codeAny_builtin F.entry_type_call ?_⟩;rw[Around.under_plain (weight_type_call_type "set" [.ref l] []) rfl];have nt:=F.called_set.notType;have cc:=F.called_set.canCreate;have tc:=F.typeCall_set_1 (.ref l)
 repeat (any_goals (first | assumption | wp_step))
 refine codeAny_mono (Ye (.ref l) (E:=E) (Q:=λ obj s₁=>obj=.ref s.heap.objs.size/\s₁={ s with heap:=s.heap.push (yY w) }) ⟨rfl,rfl⟩) λ r s₁ hr=>?_;cases r with
 | error e=>exact hr
 | ok fl=>
  cases fl with
  | ret obj=>
   obtain⟨rfl,rfl⟩:=hr;have hS:(s.heap.push (yY w)).get? s.heap.objs.size=some (yY w):=AE _ rfl;have hTy:Shared.TypeIs { s with heap:=s.heap.push (yY w) } (.ref s.heap.objs.size) "set":=⟨_,hS,rfl⟩
   have li:=F.called_set.init.lookup;have bi:=F.called_set.init.bind (.ref s.heap.objs.size)
   repeat (any_goals (first | assumption | wp_step))
   let s1:Shared:={ s with heap:=s.heap.push (yY w) }
   refine codeAny_mono (codeAny_call_builtin (R:=wants (λ r s₂=>r=.none/\∃ h' tk xs,s₂={ s with heap:=h',toks:=tk }/\vV prog w h' s.heap.objs.size xs (vP w)/\Up its rows its.size xs/\
     ∀ b o,b<s.heap.objs.size->s.heap.get? b=some o->h'.get? b=some o) E) F.called_set.init.plain F.entry_set_init (check_set_init_1 hTy ?_)) λ r₂ s₂ hr₂=>?_
   .obtain⟨⟨ocls,odict,odata,oslots⟩,C4,AM,nl,Ck⟩:=id hl;simp only at AM Ck;subst AM Ck;have hol1:(s.heap.push (yY w)).get? l=some { cls:=.type "list",dict:=odict,data:=.seq its nl,slots:=oslots }:=Ao _ C4;have sls:=F.sub_list_set;have slf:=F.sub_list_frozenset;have nd:(Value.type "list" == Value.type "dict")=false:=by decide
    have hl1:(s.heap.push (yY w)).IsList l its:=⟨_,hol1,rfl,nl,rfl⟩
    unfold Builtin.«set.__init__» noKeywords Builtin.Frozenset.updateFrom;generalize hPI:pyIter=PI;unfold yY at *
    wp_walk
    subst hPI;refine wpAny_pyIter_list hl1 (Ab (wpAny_runValue ?_));have hlS:l<s.heap.objs.size:=Ap C4;have hsz:(s.heap.push (yY w)).objs.size=s.heap.objs.size+1:=Heap.size_push _ _;have hneI:l≠(s.heap.push (yY w)).objs.size:=by rw[hsz];exact Aw (Bu hlS)
    have szne:s.heap.objs.size≠(s.heap.push (yY w)).objs.size:=by rw[hsz];exact Aw (Cw _)
    have low:∀ b:Addr,b<s.heap.objs.size->b≠(s.heap.push (yY w)).objs.size:=λ b hb=>by rw[hsz];exact Aw (Bu hb)
    have tin:∀ (i:Nat) b,its[i]?=some (.ref b)->b<s.heap.objs.size:=λ i b hb=>by
     obtain⟨b',r,e,_,o,_,_,ho,_⟩:=hT i _ hb;cases e;exact Ap ho
    refine Rm (A:=A.in1.in1) (P:=λ i v=>its[i]?=some v) ((Walks.list (A:=A.in1.in1.in1) (by simp[hh]) _ l hneI its).toS) s.heap.objs.size ?_ (its:=its) (rows:=rows) (λ _ _ q=>q) hn (show A.units+1+1+1<cLine by lia) (vP w) ?_ its.size 0 _ [] (by lia) (AN _)
     ⟨⟨_,AE _ rfl,rfl,rfl⟩,hl1.push _⟩ (Ww (w:=w) (Ao _ hS)) (hT.at λ i b _ o e=>Ao _ (Ao _ e)) ⟨λ e he=>(by cases he),λ j r hj=>(by lia)⟩ ?_
    .intro hm;rcases Ah.mp hm with q | q
     .exact szne q
     .exact BL hlS (AJ.mp q)
    .intro i b hb hm;have An:=tin i b hb;rcases Ah.mp hm with q | q
     .exact Aw An q
     .exact low b An (AJ.mp q)
    .intro s' xs' hm S' U';obtain⟨h',g',d',tk',os'⟩:=s';obtain rfl:g'=s.gens:=hm.gens;obtain rfl:d'=s.drawn:=hm.drawn;obtain rfl:os'=s.os:=hm.os;refine Ad (Ad ⟨rfl,h',tk',xs',rfl,S',U',λ b o hb e=>?_⟩);refine hm.heap b o (λ q=>?_) (Ao _ (Ao _ e));rcases Ah.mp q with q | q
     .exact Aw hb q
     .exact low b hb (AJ.mp q)
   .cases r₂ with
    | error e=>exact hr₂
    | ok fl₂=>
     cases fl₂ with
     | ret r=>
      obtain⟨rfl,h',tk,xs,rfl,g1,g2,g3⟩:=hr₂
      repeat (any_goals (first | assumption | wp_step))
      exact h h' tk xs g1 g2 g3
     | _=>exact hr₂.elim
  | _=>exact hr.elim
end
end ST
namespace ST
open PySem PySem.SetTable
section facts
set_option maxRecDepth 100000
def bI:Manifest.owners.lookup (String.ofList ['r','o','t','a','r','e','t','i','_','t','e','s'].reverse)=some Manifest.sig_set_iterator:=by kernel_rfl
def q_:Slot "set_iterator" "__next__" "set_iterator.__next__":=
 .of (owner:="set_iterator") (n:="__next__") (by rw[typeLookup_type,builtinLookup_eq_fast];kernel_rfl) (by decide +kernel) (by decide +kernel) (by decide +kernel) (by first | exact .inl (by decide +kernel) | exact .inr (by decide +kernel)) (by rw[isSubtype_type];kernel_rfl)
def ZD:entryFor table "set_iterator.__next__"=some Builtin.«set_iterator.__next__»:=entryFor_of_tree (by kernel_rfl)
def Yu (a:Value):argsOk "set_iterator.__next__" ⟨[a],[]⟩:=by
 unfold argsOk;rw[signature?_of (id:="set_iterator.__next__") (n:=['_','_','t','x','e','n','_','_']) (o:=['r','o','t','a','r','e','t','i','_','t','e','s']) (by kernel_rfl) bI]
 kernel_rfl
def QR:entryFor table "set.__iter__"=some Builtin.«frozenset.__iter__»:=entryFor_alias (id':="frozenset.__iter__") (by kernel_rfl) rfl (by decide +kernel) (by kernel_rfl)
def cF:Slot "set_iterator" "__iter__" "set_iterator.__iter__":=
 .of (owner:="set_iterator") (n:="__iter__") (by rw[typeLookup_type,builtinLookup_eq_fast];kernel_rfl) (by decide +kernel) (by decide +kernel) (by decide +kernel) (by first | exact .inl (by decide +kernel) | exact .inr (by decide +kernel)) (by rw[isSubtype_type];kernel_rfl)
def QQ:entryFor table "set_iterator.__iter__"=some Builtin.«dict_keyiterator.__iter__»:=entryFor_alias (id':="dict_keyiterator.__iter__") (by kernel_rfl) rfl (by decide +kernel) (by kernel_rfl)
def Ov (a:Value):argsOk "set_iterator.__iter__" ⟨[a],[]⟩:=by
 unfold argsOk;rw[signature?_of (id:="set_iterator.__iter__") (n:=['_','_','r','e','t','i','_','_']) (o:=['r','o','t','a','r','e','t','i','_','t','e','s']) (by kernel_rfl) bI]
 kernel_rfl
end facts
theorem Z8 {α:Type}:∀ (l:List α) (i:Nat) (x:α),l[i]?=some x->l.Perm (x::l.eraseIdx i)
 | [],i,x,h=>by simp at h
 | y::l,0,x,h=>by simp at h;subst h;simp
 | y::l,i+1,x,h=>by
  have ih:=Z8 l i x (by simpa using h);rw[List.eraseIdx_cons_succ];exact (ih.cons y).trans (.swap x y _)
theorem bu {α:Type}(next:Nat->Nat):∀ (f k:Nat) (left:List α) (out:Array α),left.length=f->(pickOrder.go next f k left out).toList.Perm (out.toList++left)
 | 0,k,left,out,h=>by
  cases left with
  | nil=>unfold pickOrder.go;simp
  | cons _ _=>simp at h
 | f+1,k,left,out,h=>by
  unfold pickOrder.go;have An:next k%left.length<left.length:=CU _ (by lia);rw[AX An];dsimp only;refine (bu next f (k+1) _ _ (by rw[List.length_eraseIdx_of_lt An];lia)).trans ?_;rw[Array.toList_push,List.append_assoc];exact (Z8 left _ _ (AX An)).symm.append_left _
def V3 {α:Type}(next:Nat->Nat) (xs:Array α):(pickOrder next xs).toList.Perm xs.toList:=by
 unfold pickOrder;simpa using bu next xs.size 0 xs.toList #[] (by simp)
noncomputable def comes (w:World) (a:Addr) (es:Array (Int×Value)) (ep:Nat):Array (Int×Value):=if w.params.followText "set-order"=true then pickOrder (w.params.setOrder a ep) es else es
def oa (w:World) (a:Addr) (es:Array (Int×Value)) (ep:Nat):(comes w a es ep).toList.Perm es.toList:=by
 unfold comes;split
 .exact V3 _ _
 .exact .refl _
noncomputable def rE (a:Addr) (slot i n ep:Nat):Obj:={ cls:=.type "set_iterator",data:=.fields #[rawInt slot,rawInt i,.ref a,rawInt n,rawInt ep] }
noncomputable def slotAt (t:SetTable):Nat->Nat
 | 0=>0
 | i+1=>t.place.getD i 0+1
theorem Ol {t:SetTable}(hr:uT t.place.toList):∀ i,i<=t.place.size->below t.place (slotAt t i)=i
 | 0,_=>by
  obtain⟨h1,h2,h3⟩:=jd (xs:=t.place) (j:=0) hr;rcases DR (below t.place 0) with q | q
  .exact q
  .have:=h2 0 (by lia) q;lia
 | i+1,hi=>by
  have hd:t.place.getD i 0=t.place[i]:=fh (by lia);show below t.place (t.place.getD i 0+1)=i+1;rw[hd];obtain⟨h1,h2,h3⟩:=jd (xs:=t.place) (j:=t.place[i] + 1) hr;have wM:∀ a b (ha:a<t.place.size) (hb:b<t.place.size),a<b->t.place[a]<t.place[b]:=λ a b ha hb CS=>by
   have r:=Cs.mp hr a b (by simpa using ha) (by simpa using hb) CS;rw[Cp,Cp] at r;exact r
  rcases Dp (below t.place (t.place[i] + 1)) (i+1) with q | q | q
  .have:=h3 i (by lia) (by lia);lia
  .exact q
  .have a:=h2 (i+1) (by lia) q;have b:=wM i (i+1) (by lia) (by lia) (by lia);lia
structure w_ (w:World) (h:Heap) (a:Addr) (es:Array (Int×Value)) (ep:Nat) (t:SetTable):Prop where
 get:h.get? a=some { cls:=.type "set",dict:=none,data:=.set es ep t }
 fits:t.fits es.size=true
 wM:uT t.place.toList
 led:t.led=vP w
 plain:t.plain=true
theorem w_.size {w:World}{h:Heap}{a:Addr}{es:Array (Int×Value)}{ep:Nat}{t:SetTable}(S:w_ w h a es ep t):t.place.size=es.size:=by
 have:=S.fits;simp only[SetTable.fits,BN,beq_iff_eq] at this;exact this.1
section
variable {prog:Program}{w:World}{A:Around}{E:Value->Shared->Prop}{s:Shared}
def af {a:Addr}{es:Array (Int×Value)}{ep:Nat}{t:SetTable}{i:Nat}{Q:Option (Value×Nat)->Shared->Prop}(S:w_ w s.heap a es ep t) (hi:i<=es.size) (slot:Nat) (hs:w.params.followText "set-order"=false->slot=slotAt t i)
  (h:∀ slot',(w.params.followText "set-order"=false->slot'=slotAt t (i+1))->Q ((comes w a es ep)[i]?.map λ e=>(e.2,slot')) s):wpAny (model prog w) A (setNext a slot i ep) Q E s:=by
 unfold setNext setsByText;refine Ab (wpAny_setState_of S.get rfl S.fits ?_);dsimp only;refine Ab (Ab (wpAny_askSetting (Ad ?_)));show wpAny _ A (if w.params.followText "set-order"=true then _ else _) Q E s;cases hb:w.params.followText "set-order" with
 | true=>
  rw[if_pos rfl,if_neg (by simp)];unfold setWalk setsByText;refine Ab (Ab (wpAny_setState_of S.get rfl S.fits ?_));dsimp only;refine Ab (Ab (wpAny_askSetting (Ad ?_)));show wpAny _ A (if w.params.followText "set-order"=true then _ else _) _ E s;rw[if_pos hb];refine Ab (wpAny_askSetting (Ad ?_));refine Ad ?_;have:=h slot (λ q=>by rw[hb] at q;cases q);unfold comes at this;rw[if_pos hb] at this;exact this
 | false=>
  rw[if_neg (by simp)];split
  .rename_i hd;have hd':(!t.plain&&decide (es.size>1))=true:=hd;rw[S.plain] at hd';simp at hd'
  .show wpAny _ A ((if (!t.led&&!es.isEmpty)=true then unsupported "set:maker-not-led" else pure ()) >>= _) Q E s;have hl:t.led=true:=by rw[S.led];unfold vP;rw[hb];rfl
   rw[if_neg (by rw[hl];simp)];refine Ab (Ad (Ad ?_));have Bz:=hs hb;have hz:=S.size;rw[Bz,Ol S.wM i (by rw[hz];exact hi)];have:=h (slotAt t (i+1)) (λ _=>rfl);unfold comes at this;rw[if_neg (by rw[hb];simp)] at this;rcases Bi i es.size with q | q
   .have hp:i<t.place.size:=by rw[hz];exact q
    rw[Ba q] at this;rw[Ba q,Ba hp];have e:slotAt t (i+1)=t.place[i] + 1:=by show t.place.getD i 0+1=_;rw[fh hp]
    rw[e] at this;exact this
   .rw[CJ q] at this;rw[CJ q];exact this
def qx {a I:Addr}{slot i n ep:Nat}(ho:s.heap.get? I=some (rE a slot i n ep)):s.TypeIs (.ref I) "set_iterator":=⟨_,ho,rfl⟩
def cv (k:Nat):((k:Int)).toNat=k:=Co k
def Wu {I a:Addr}{es:Array (Int×Value)}{ep:Nat}{t:SetTable}{i slot:Nat}{e:Int×Value}{Q:Option Value->Shared->Prop}(ho:s.heap.get? I=some (rE a slot i es.size ep)) (S:w_ w s.heap a es ep t) (hs:w.params.followText "set-order"=false->slot=slotAt t i) (he:(comes w a es ep)[i]?=some e)
  (hi:i<es.size) (h:∀ h' slot',(w.params.followText "set-order"=false->slot'=slotAt t (i+1))->h'.get? I=some (rE a slot' (i+1) es.size ep)->Heap.SameBut I s.heap h'->Q (some e.2) { s with heap:=h' }):wpAny (model prog w) A (pyNext (.ref I)) Q E s:=by
 unfold pyNext;refine Ab (wpAny_attempt (wpAny_callSpecial?_slot (name:=Str.ofString "__next__") (qx ho) q_ (wpAny_call_entry q_ (qx ho) ZD ?_ (Yu _))));refine Ab (Ad ?_);dsimp only;refine Ab (wpAny_fieldsOf ho rfl ?_);dsimp only[rawInt];refine Ab (Ab (wpAny_setState_of S.get rfl S.fits (Ad ?_)));rw[if_neg (by simp)];refine Ab (af S (by lia) slot hs λ slot' hs'=>?_);rw[cv] at hs' ⊢;rw[he];dsimp only[Option.map_some];refine Ab (wpAny_setField ho rfl (by simp) ?_);have o1:=Heap.get?_update_self (Obj.mapFields (·.set! 0 (Value.int (slot':Int) 0))) ho rfl;refine Ab (wpAny_setField o1 rfl (by simp) ?_);have o2:=Heap.get?_update_self (Obj.mapFields (·.set! 1 (Value.int ((i:Int)+1) 0))) o1 rfl;refine Ad ⟨_,rfl,Ad (h _ slot' hs' o2 ((Heap.SameBut.update ..).trans (Heap.SameBut.update ..)))⟩
def Wv {I a:Addr}{es:Array (Int×Value)}{ep:Nat}{t:SetTable}{slot:Nat}{Q:Option Value->Shared->Prop}(hh:A.handled=none) (ho:s.heap.get? I=some (rE a slot es.size es.size ep)) (S:w_ w s.heap a es ep t) (hs:w.params.followText "set-order"=false->slot=slotAt t es.size)
  (h:∀ h',Heap.ExtBut I s.heap h'->Q none { s with heap:=h' }):wpAny (model prog w) A (pyNext (.ref I)) Q E s:=by
 have hn:(comes w a es ep)[es.size]?=none:=by
  have:=(oa w a es ep).length_eq;simp only[Bm] at this;rw[CJ (by lia)]
 unfold pyNext;refine Ab (wpAny_attempt (wpAny_callSpecial?_slot (name:=Str.ofString "__next__") (qx ho) q_ (wpAny_call_entry q_ (qx ho) ZD ?_ (Yu _))));refine Ab (Ad ?_);dsimp only;refine Ab (wpAny_fieldsOf ho rfl ?_);dsimp only[rawInt];refine Ab (Ab (wpAny_setState_of S.get rfl S.fits (Ad ?_)));rw[if_neg (by simp)];refine Ab (af S (by simp) slot (by simpa using hs) λ slot' hs'=>?_);rw[cv,hn];dsimp only[Option.map_none];refine Ab (wpAny_setField ho rfl (by simp) ?_);refine Ab ?_;simp only[newExc,newTuple];refine Ab (wpAny_newObj_type ?_ (by size_fits));refine Ab (m:=firstArgMember _ _) (wpAny_of_eq (a:=Value.none) (by first | rfl | (simp only[firstArgMember];rfl)) (wpAny_newObj_type ?_ (by size_fits)));unfold raiseNew;refine Ab (wpAny_handled ?_);rw[show A.in1.handled=none from hh];refine Ab ((Ad (wpAny_throw ?_)));refine Ab ((wpAny_isInstance (T:="StopIteration") (b:=true) ⟨_,AE _ rfl,rfl⟩ isSubtype_stop ?_));exact Ad (h _ (((Heap.SameBut.update ..).extBut.push _).push _))
def Wt {I a:Addr}{slot i n ep:Nat}{Q:Value->Shared->Prop}(ho:s.heap.get? I=some (rE a slot i n ep)) (h:Q (.ref I) s):wpAny (model prog w) A (pyIter (.ref I)) Q E s:=by
 refine wpAny_pyIter_slot (qx ho) cF (wpAny_call_entry cF (qx ho) QQ ?_ (Ov _));exact Ad ⟨_,rfl,"set_iterator",_,qx ho,q_.lookup,h⟩
def w_.keep {h h':Heap}{a:Addr}{es:Array (Int×Value)}{ep:Nat}{t:SetTable}(S:w_ w h a es ep t) (k:∀ o,h.get? a=some o->h'.get? a=some o):w_ w h' a es ep t:=⟨k _ S.get,S.fits,S.wM,S.led,S.plain⟩
def Xs (hh:A.handled=none) (I a:Addr) (Ai:a≠I) (es:Array (Int×Value)) (ep:Nat) (t:SetTable):
  Walks prog w A I [I,a] [I] es.size (λ i v=>∃ e,(comes w a es ep)[i]?=some e/\v=e.2) (λ i h=>(∃ slot,(w.params.followText "set-order"=false->slot=slotAt t i)/\h.get? I=some (rE a slot i es.size ep))/\w_ w h a es ep t) where
 sub:=λ b hb=>by simp at hb;simp[hb]
 frame:=λ _ _ _ st k=>by
  obtain⟨⟨slot,h1,h2⟩,S⟩:=st;exact⟨⟨slot,h1,k I (by simp) _ h2⟩,S.keep λ o e=>k a (by simp) o e⟩
 item:=λ i s Q E hi st hQ=>by
  obtain⟨⟨slot,h1,h2⟩,S⟩:=st;have hl:i<(comes w a es ep).size:=by
   have:=(oa w a es ep).length_eq;simp only[Bm] at this;lia
  refine Wu h2 S h1 (Ba hl) hi λ h' slot' g1 g2 g3=>?_;exact hQ _ h' s.toks ⟨_,Ba hl,rfl⟩ ⟨⟨slot',g1,g2⟩,S.keep λ o e=>(g3.2 a Ai).trans e⟩ λ b o hb e=>(g3.2 b (λ z=>hb (by simp[z]))).trans e
 done:=λ s Q E st hQ=>by
  obtain⟨⟨slot,h1,h2⟩,S⟩:=st;exact Wv hh h2 S h1 λ h' g=>hQ h' s.toks λ b o hb e=>g b o (λ z=>hb (by simp[z])) e
 self:=λ _ _ _ _ st hQ=>by
  obtain⟨⟨slot,h1,h2⟩,S⟩:=st;exact Wt h2 hQ
end
section
variable {prog:Program}{w:World}{A:Around}{E:Value->Shared->Prop}{s:Shared}
def Rp:typeLookup (.type "set") "__len__"=pure (some (.builtin "set.__len__")):=F.slot_set_len.lookup
def split_len:splitId "set.__len__"=some ("set","__len__"):=by decide +kernel
def SA {a:Addr}{es:Array (Int×Value)}{ep:Nat}{t:SetTable}{Q:Bool->Shared->Prop}(S:w_ w s.heap a es ep t) (h:Q false s):wpAny (model prog w) A (setDrawn a) Q E s:=by
 unfold setDrawn setsByText;refine Ab (wpAny_setState_of S.get rfl S.fits ?_);dsimp only;refine Ab (Ab (wpAny_askSetting (Ad (Ad ?_))));show Q (!w.params.followText "set-order"&&(!t.plain&&decide (es.size>1))) s;rw[S.plain];simpa using h
set_option maxRecDepth 100000 in
set_option maxHeartbeats 4000000 in
def SG {a:Addr}{es:Array (Int×Value)}{ep:Nat}{t:SetTable}{Q:Bool->Shared->Prop}(S:w_ w s.heap a es ep t) (h:Q false s):wpAny (model prog w) A (Builtin.List.listLengthHint (.ref a)) Q E s:=by
 have Ty:s.TypeIs (.ref a) "set":=⟨_,S.get,rfl⟩
 unfold Builtin.List.listLengthHint;refine Ab (wpAny_specialOf Ty Rp ?_);dsimp only;rw[split_len];dsimp only;refine Ab (wpAny_isInstance (b:=true) Ty sub_set_self ?_);rw[if_neg (by decide)];rw[if_pos (by decide +kernel)];refine Ab (wpAny_typeOf Ty ?_);exact Ad h
set_option maxRecDepth 100000 in
set_option maxHeartbeats 4000000 in
def Pr {a:Addr}{es:Array (Int×Value)}{ep:Nat}{t:SetTable}{Q:List Value->Shared->Prop}(hh:A.handled=none) (S:w_ w s.heap a es ep t) (hn:es.size<=sizeLine)
  (h:∀ (h':Heap) (tk:Nat),(∀ b o,b<s.heap.objs.size->s.heap.get? b=some o->h'.get? b=some o)->s.heap.objs.size<=h'.objs.size->Q ((comes w a es ep).toList.map (·.2)) { s with heap:=h',toks:=tk }):wpAny (model prog w) A (collect (.ref a)) Q E s:=by
 have ha:a<s.heap.objs.size:=Ap S.get;unfold collect;refine Ab (wpAny_runValue (codeAny_builtin F.entry_proto_collect ?_));rw[Around.under_plainId F.plain_proto_collect _];show wpAny _ A.in1 (newList [] >>= λ l=>again (.builtin "list.__iadd__" ⟨[l,.ref a],[]⟩)) _ _ s;refine Ab (wpAny_newObj_type (Ad ⟨plainId_quiet F.plain_list_iadd _,codeAny_builtin F.entry_list_iadd ?_⟩));rw[Around.under_plainId F.plain_list_iadd _]
 let L0:Obj:={ cls:=.type "list",data:=.seq ([]:List Value).toArray }
 have S1:w_ w (s.heap.push L0) a es ep t:=S.keep λ o e=>Ao _ e;have T1:Shared.TypeIs { s with heap:=s.heap.push L0 } (.ref a) "set":=⟨_,S1.get,rfl⟩
 show wpAny _ A.in1 (Builtin.List.listExtendWith (.ref s.heap.objs.size) (.ref a) (.ref s.heap.objs.size)) _ _ { s with heap:=s.heap.push L0 };unfold Builtin.List.listExtendWith;refine Ab (wpAny_typeOf T1 ?_);have Ai:s.heap.objs.size≠a:=BL ha;have c1:Builtin.List.listSameRef (.ref s.heap.objs.size) (.ref a)=false:=by simp[Builtin.List.listSameRef,Ai]
 rw[if_neg (by rw[c1];decide)];refine Ab (wpAny_pyIter_slot T1 F.slot_set_iter (wpAny_call_entry F.slot_set_iter T1 QR ?_ (F.args_set_iter_1 _)));refine Ab (Ab (Ad (Ad ?_)));refine Ab (Ab (Ab (wpAny_setState_of S1.get rfl S1.fits (Ad (Ad ?_)))));refine Ab (SA S1 ?_);rw[if_neg (by decide)];refine Ab (Ad ?_);refine Ab (wpAny_setEpoch_of S1.get rfl S1.fits ?_);refine Ab (wpAny_newObj_type (Ad ⟨_,rfl,"set_iterator",_,⟨_,AE _ rfl,rfl⟩,q_.lookup,?_⟩))
 let I:=(s.heap.push L0).objs.size
 let h2:=(s.heap.push L0).push (rE a 0 0 es.size ep)
 have S2:w_ w h2 a es ep t:=S1.keep λ o e=>Ao _ e;have hI:h2.get? I=some (rE a 0 0 es.size ep):=AE _ rfl;have hL:h2.get? s.heap.objs.size=some L0:=Ao _ (AE _ rfl);have hsz:(s.heap.push L0).objs.size=s.heap.objs.size+1:=Heap.size_push _ _;show wpAny _ A.in1 _ _ _ { s with heap:=h2 };refine Ab (wpAny_holding (SG (s:={ s with heap:=h2 }) S2 ?_));rw[if_pos (by decide +kernel)];refine Ab (wpAny_rule ?_);refine Ab ?_;show wpAny _ A.in1 (updateSeq s.heap.objs.size (·.push .none) >>= λ _=>updateSeq s.heap.objs.size (·.pop)) _ _ { s with heap:=h2 };refine Ab (wpAny_updateSeq hL rfl ?_);have hL2:=Heap.get?_update_self (Obj.mapSeq (·.push Value.none)) hL rfl;refine wpAny_updateSeq hL2 rfl ?_;have hL3:=Heap.get?_update_self (Obj.mapSeq (·.pop)) hL2 rfl
 let h3:=(h2.update s.heap.objs.size (Obj.mapSeq (·.push Value.none))).update s.heap.objs.size (Obj.mapSeq (·.pop))
 have iZ:∀ b o,b≠s.heap.objs.size->h2.get? b=some o->h3.get? b=some o:=λ b o hb e=>(Heap.get?_update_other _ _ (Ne.symm hb)).trans ((Heap.get?_update_other _ _ (Ne.symm hb)).trans e);have haI:a≠I:=by show a≠(s.heap.push L0).objs.size;rw[hsz];exact Aw (Bu ha)
 have hIn:I≠s.heap.objs.size:=by show (s.heap.push L0).objs.size≠_;rw[hsz];exact BL (Cw _)
 refine Ad ⟨plainId_quiet F.plain_extend_loop _,codeAny_extend_loopS ((Xs (A:=A.in1) hh I a haI es ep t).toS) hn s.heap.objs.size ?_ _ es.size 0 { s with heap:=h3 } #[] _ rfl (AN _) ⟨⟨0,λ _=>rfl,iZ I _ hIn hI⟩,S2.keep λ o e=>iZ a o (Ne.symm Ai) e⟩ hL3 (ItemsOf.nil _) λ s' acc c' hm hS' AQ=>?_⟩
 .intro hm;rcases Ah.mp hm with q | q
  .exact hIn q.symm
  .exact Ai (AJ.mp q)
 .refine Ab (wpAny_load hS' (Ad ?_));obtain⟨h',g',d',tk',os'⟩:=s';obtain rfl:g'=s.gens:=hm.gens;obtain rfl:d'=s.drawn:=hm.drawn;obtain rfl:os'=s.os:=hm.os;have hcm:(comes w a es ep).size=es.size:=by
   have:=(oa w a es ep).length_eq;simpa using this
  have e:acc.toList=(comes w a es ep).toList.map (·.2):=by
   refine List.ext_getElem? λ j=>?_;rw[Az];rcases Bi j es.size with q | q
   .have C8:j<acc.size:=by rw[AQ.1];exact q
    have hj:acc[j]?=some acc[j]:=Ba C8;obtain⟨e,e1,e2⟩:=AQ.2 j _ hj;rw[Bx,Bx,hj,e1,e2];rfl
   .rw[Bx,Bx,CJ (by rw[AQ.1];exact q),CJ (by rw[hcm];exact q)];rfl
  rw[e];refine h h' tk' (λ b o hb e=>hm.heap b o (λ q=>?_) (iZ b o (Aw hb) (Ao _ (Ao _ e)))) ?_
  .rcases Ah.mp q with q | q
   .exact Aw hb q
   .have q':b=(s.heap.push L0).objs.size:=AJ.mp q;rw[hsz] at q';exact Aw (Bu hb) q'
  .exact BC (Ap hS')
end
end ST
namespace ST
open PySem PySem.SetTable PyProof.Rows L4
section
variable {prog:Program}{w:World}{A:Around}{E:Value->Shared->Prop}{s:Shared}
def c7 {a:Addr}{es:Array (Int×Value)}{ep:Nat}{t:SetTable}{Q:Value->Shared->Prop}{Out:Array Value->Prop}(hh:A.handled=none) (S:w_ w s.heap a es ep t) (hz:es.size<=sizeLine)
  (core:∀ s6:Shared,2<=es.size->(∀ b o,s.heap.get? b=some o->s6.heap.get? b=some o)->Core prog w A.in1.in1 E ((comes w a es ep).toList.map (·.2)) Out s6) (short:es.size<2->Out ((comes w a es ep).toList.map (·.2)).toArray)
  (fin:∀ (out:Array Value) (h':Heap) (tk l:Nat),Out out->out.size=es.size->s.heap.objs.size<=l->(∀ b o,s.heap.get? b=some o->h'.get? b=some o)->(∃ e,h'.get? l=some (seqObj "list" out e))->Q (.ref l) { s with heap:=h',toks:=tk }):
  wpAny (model prog w) A (call (.builtin "sorted") [.ref a]) Q E s:=by
 have AM:((comes w a es ep).toList.map (·.2)).length=es.size:=by
  have:=(oa w a es ep).length_eq;rw[Ay,this,Bm]
 refine Calls.call_function_entry kind_sorted plain_sorted entry_sorted (args_sorted1 _) ?_;unfold Builtin.«sorted»;refine Ab (m:=checkCount "sorted" 1 1 _) (Ad (Ab (Pr (A:=A.in1) hh S hz λ h1 tk k1 k2=>Ab (wpAny_newList ?_ (by rw[AM];exact hz)))));generalize hvs:(comes w a es ep).toList.map (·.2)=vs at *;have hoL:(h1.push (seqObj "list" vs.toArray 0)).get? h1.objs.size=some (seqObj "list" vs.toArray 0):=AE _ rfl;have k3:∀ b o,s.heap.get? b=some o->h1.get? b=some o:=λ b o q=>k1 b o (Ap q) q;show wpAny _ _ _ _ _ { s with heap:=h1.push (seqObj "list" vs.toArray 0),toks:=tk };refine Ab (wpAny_holding (wpAny_call_entry slot_list_sort ⟨_,hoL,rfl⟩ entry_list_sort (gD hoL (by rw[AM];exact hz) (λ h2 s6 k=>core s6 (by rw[<- AM];exact h2) λ b o q=>k b o ?_ (Ao _ (k3 b o q))) (λ h2=>short (by rw[<- AM];exact h2)) λ out g1 g2=>⟨_,rfl,?_⟩) (args_list_sort _)))
 .exact Aw (A8 (Ap q) k2)
 .refine Ad ⟨_,rfl,fin out _ tk h1.objs.size g1 (by rw[g2,AM]) k2 (λ b o q=>?_) (sortedHeap_at (n:=0) hoL)⟩;have An:b<h1.objs.size:=Ap (k3 b o q);rw[sortedHeap_old (Aw An) (by rw[size_push'];exact Bu An),Heap.get?_push_ne _ _ _ (Aw An)];exact k3 b o q
end
end ST
namespace ST
open PySem PySem.SetTable PySem.Spec PyProof.Rows L2
def yP (w:World) (a:Addr) (us:List Value):Heap->Prop:=λ h=>∃ es ep t,w_ w h a es ep t/\es.toList.map (·.2)=us
def yP.tY {w:World}{a:Addr}{us:List Value}{h1 h2:Heap}(S:yP w a us h1) (k:∀ o,h1.get? a=some o->h2.get? a=some o):yP w a us h2:=by
 obtain⟨es,ep,t,S,e⟩:=S;exact⟨es,ep,t,S.keep k,e⟩
def vV.at {prog:Program}{w:World}{h:Heap}{a:Addr}{xs:List (List Int×Addr)}(S:vV prog w h a xs (vP w)):yP w a (xs.map λ e=>Value.ref e.2) h:=by
 obtain⟨⟨es,ep,t,ho,X,h1,h2,h3⟩,_⟩:=S;exact⟨es,ep,t,⟨ho,X.fits,X.tab.wM,h1,h2⟩,by rw[X.es,AG];rfl⟩
section
variable {X:Cx}
abbrev jh (K:Ac) (H:Hp) (ys:List V) (rows:List (List Int)):Prop:=Paired (λ v r=>r≠[]/\∃ b,v=V.ref b/\z_ K H b (r.map V.int)) ys rows
theorem aZ:∀ {ns:List Int}{us:List Value},Vals (ns.map V.int) us->∀ {prog:Program}{w:World},ItemsAre (intKind prog w) ns us
 | [],_,.nil,_,_=>.nil
 | n::ns,_,.cons r t,prog,w=>by
  obtain⟨tk,rfl⟩:=r;exact .cons (intKind_is _ _ _ _) (aZ t)
structure qN (ys:List V) (rows:List (List Int)) (vs:List V) (rs:List (List Int)):Prop where
 sub:∀ (i:Nat) v r,vs[i]?=some v->rs[i]?=some r->∃ (j:Nat),ys[j]?=some v/\rows[j]?=some r
 len:vs.length=rs.length
 nd:rs.Nodup
 all:∀ r∈rows,r∈rs
def PL (hc:X.calm=true) (hu:X.A.units+64<cLine):yK X (.type "set") (λ xs H Q=>∃ p ys,∃ rows:List (List Int),xs=[.ref p]/\zO X.K H p ys/\jh X.K H ys rows/\rows.length<64/\
  ∀ (l:Addr) (us:List Value) (vs:List V) (rs:List (List Int)),H l=none->Vals vs us->qN ys rows vs rs->Q (.ref l) (upd H l (.ext (yP X.w l us)))):=by
 intro pins s B H xs us Q I r h;obtain⟨p,ys,rows,rfl,hq,hr,h64,q⟩:=h;obtain⟨u,rfl,ru⟩:=vals1 r;cases ru;obtain⟨its,rv,pl,hz⟩:=I.list hq;have hl:=rv.length;have BQ:ys.length=rows.length:=Paired.length hr;have u_:qK X.prog X.w s.heap its.toArray rows:=λ i v hv=>by
  have hv':its[i]?=some v:=by simpa using hv
  have hi:i<its.length:=(AK.mp hv').1;obtain⟨Ai,b,hb,Ce⟩:=L4.Paired.at' hr (i:=i) (by lia) V.zi ([]:List Int);have hy:ys[i]?=some (V.ref b):=by
   rw[AX (by lia)];have:ys.getD i V.zi=ys[i]'(by lia):=by simp[show i<ys.length by lia]
   rw[this] at hb;rw[hb]
  obtain⟨v',e1,e2⟩:=rv.get hy;rw[hv'] at e1;cases e1;cases (show v=Value.ref b from e2);obtain⟨its2,rv2,⟨o,e,AM,n,hd⟩,_⟩:=I.tuple Ce;refine⟨b,rows.getD i [],rfl,?_,o,its2.toArray,n,e,AM,hd,by simpa using aZ rv2⟩;simp[show i<rows.length by lia]
 have hh:X.A.handled=none:=I.ok.hd hc;refine PO (A:=X.A) hh hu pl.isList u_ (by rw[Av];lia) λ h' tk xs S U k=>?_;have kk:∀ b o,s.heap.get? b=some o->h'.get? b=some o:=λ b o e=>k b o (Ap e) e;have Bg:H s.heap.objs.size=none:=I.zx.fresh (Ag _);have hSO:=S.at;have vals:Vals (xs.map λ e=>V.ref e.2) (xs.map λ e=>Value.ref e.2):=by
  clear S U hSO
  induction xs with
  | nil=>exact .nil
  | cons e xs ih=>exact .cons rfl ih
 refine⟨.ref s.heap.objs.size,_,I.laid (t':=tk) (o:=.ext (yP X.w s.heap.objs.size (xs.map λ e=>Value.ref e.2))) kk (Ag _) ?_,rfl,q _ _ (xs.map λ e=>V.ref e.2) (xs.map (·.1)) Bg vals ⟨λ i v r hv hr'=>?_,by simp,S.nd,λ r hr'=>?_⟩⟩
 .obtain⟨es,ep,t,St,e⟩:=id hSO;exact⟨hSO,⟨_,St.get⟩,λ h1 h2 S1 k=>S1.tY k⟩
 .rw[Az] at hv hr';obtain⟨e,e1,rfl⟩:=AD hv;rw[e1] at hr';cases hr';obtain⟨j,j1,j2,j3⟩:=U.own e (Bb e1);refine⟨j,?_,j3⟩;have hj':its[j]?=some (Value.ref e.2):=by simpa using j2
  have C8:j<ys.length:=by rw[hl];exact (AK.mp hj').1
  obtain⟨v',e2,e3⟩:=rv.get (AX C8);rw[hj'] at e2;cases e2;obtain⟨Ai,b,hb,_⟩:=L4.Paired.at' hr (i:=j) (by lia) V.zi ([]:List Int);have:ys.getD j V.zi=ys[j]:=by simp[C8]
  rw[this] at hb;rw[hb] at e3;cases (show Value.ref e.2=Value.ref b from e3);rw[AX C8,hb]
 .obtain⟨j,hj⟩:=Dl.mp hr';exact U.all j r (by have:=(AK.mp hj).1;rw[Av];lia) hj
theorem Paired.mk {α β:Type}{F:α->β->Prop}:∀ {l:List α}{m:List β},l.length=m.length->(∀ (i:Nat) a b,l[i]?=some a->m[i]?=some b->F a b)->Paired F l m
 | [],[],_,_=>.nil
 | a::l,b::m,h,f=>.cons (f 0 a b rfl rfl) (Paired.mk (by simpa using h) λ i x y hx hy=>f (i+1) x y (by simpa using hx) (by simpa using hy))
 | [],_::_,h,_=>by simp at h
 | _::_,[],h,_=>by simp at h
def PJ (hc:X.calm=true):yK X (.builtin "sorted") (λ xs H Q=>∃ l us vs,∃ rs:List (List Int),xs=[.ref l]/\H l=some (.ext (yP X.w l us))/\Vals vs us/\jh X.K H vs rs/\rs.length<64/\
  ∀ (p:Addr) (idx:List Nat),H p=none->idx.Perm (List.range vs.length)->(idx.map λ i=>rs.getD i []).Pairwise (λ a b=>HT.lexLt b a=false)->Q (.ref p) (upd H p (.lst (idx.map λ i=>vs.getD i .zi)))):=by
 intro pins s B H xs us0 Q I r h;obtain⟨l,us,vs,rs,rfl,hl,hv,hr,h64,q⟩:=h;obtain⟨u,rfl,ru⟩:=vals1 r;cases ru;obtain⟨⟨es,ep,t,S,eu⟩,-,-⟩:=(show xg X.prog X.w H s.heap l (.ext (yP X.w l us)) from I.zx l _ hl)
 have hlen:es.size=us.length:=by rw[<- eu];simp
 have hvl:=hv.length;have hrl:vs.length=rs.length:=Paired.length hr;have hh:X.A.handled=none:=I.ok.hd hc;obtain⟨ix,ix1,ix2⟩:∃ ix:List Nat,ix.Perm (List.range us.length)/\(comes X.w l es ep).toList.map (·.2)=ix.map λ i=>us.getD i Value.none:=by
  have hp:((comes X.w l es ep).toList.map (·.2)).Perm us:=by rw[<- eu];exact (oa X.w l es ep).map _
  generalize (comes X.w l es ep).toList.map (·.2)=cs at hp;clear eu hl hv hvl hlen
  induction hp with
  | nil=>exact⟨[],.refl _,rfl⟩
  | @cons x a b _ ih=>
   obtain⟨ix,i1,i2⟩:=ih;refine⟨0::ix.map (· + 1),?_,?_⟩
   .rw[AR,CV];exact (i1.map _).cons 0
   .rw[Au,AG,i2];rfl
  | @swap x y a=>
   refine⟨1::0::(List.range a.length).map (· + 2),?_,?_⟩
   .rw[AR,AR,CV,CV,Au,AG];exact .swap _ _ _
   .rw[Au,Au,AG];refine congrArg _ (congrArg _ ?_);refine Bs (by simp) λ i h1 h2=>?_;simp[h1]
  | @trans a b c _ _ ih1 ih2=>
   obtain⟨i1,p1,e1⟩:=ih1;obtain⟨i2,p2,e2⟩:=ih2;have Ci:b.length=c.length:=by rw[e2,Ay,p2.length_eq];simp
   refine⟨i1.map λ i=>i2.getD i 0,?_,?_⟩
   .refine (p1.map _).trans ?_;have e:(List.range b.length).map (λ i=>i2.getD i 0)=i2:=by
     have hl2:i2.length=b.length:=by rw[p2.length_eq,Ci];simp
     rw[<- hl2];refine Bs (by simp) λ i h1 h2=>?_;simp[h2]
    rw[e];exact p2
   .rw[e1,AG];refine CK λ i hi=>?_;have hi':i<b.length:=by simpa using p1.mem_iff.mp hi
    have hl2:i<i2.length:=by rw[p2.length_eq,<- Ci];simpa using hi'
    show b.getD i _=c.getD (i2.getD i 0) _;rw[e2];simp[hl2]
 have A9:∀ i∈ix,i<us.length:=λ i hi=>by simpa using ix1.mem_iff.mp hi
 have rows_at:∀ h6:Heap,(∀ b o,s.heap.get? b=some o->h6.get? b=some o)->L4.sJ h6 ((comes X.w l es ep).toList.map (·.2)) (ix.map λ i=>rs.getD i []):=λ h6 k=>by
  rw[ix2];refine Paired.mk (by simp) λ j a b ha hb=>?_;rw[Az] at ha hb;obtain⟨i,hi,rfl⟩:=AD ha;rw[hi] at hb;cases hb;have CP:=A9 i (Bb hi);obtain⟨Ai,b,hbv,Ce⟩:=L4.Paired.at' hr (i:=i) (by lia) V.zi ([]:List Int);obtain⟨u',e1,e2⟩:=hv.get (i:=i) (x:=vs.getD i V.zi) (by simp[show i<vs.length by lia]);rw[hbv] at e2;cases (show u'=Value.ref b from e2);obtain⟨its2,rv2,⟨o,e,AM,n,hd⟩,_⟩:=I.tuple Ce;have eg:us.getD i Value.none=Value.ref b:=by simp[e1]
  refine⟨Ai,b,o,its2.toArray,n,eg,k _ _ e,AM,hd,by simpa using intsAre_of rv2⟩
 have AM:((comes X.w l es ep).toList.map (·.2)).length=us.length:=by rw[ix2,Ay,ix1.length_eq];simp
 refine c7 (Out:=L4.m_ ((comes X.w l es ep).toList.map (·.2)) (ix.map λ i=>rs.getD i [])) hh S (by rw[hlen];have:sizeLine=16777216:=rfl;lia) (λ s6 h2 k=>L4.fJ (rows_at _ k) (by rw[AM,<- hlen];exact h2) (by rw[AM];lia)) (λ h1=>?_) λ out h' tk p ho hs hp k Ey=>?_
 .refine⟨List.range ((comes X.w l es ep).toList.map (·.2)).length,.refl _,?_,?_⟩
  .refine Bs (by simp) λ i h1 h2=>?_;simp at h2;simp[h2]
  .rw[B9,Cs];intro i j hi hj A3;rw[AM] at hi hj;simp at hi hj;lia
 .obtain⟨idx,g1,g2,g3⟩:=ho;obtain⟨e,he⟩:=Ey;rw[AM] at g1;have Bg:H p=none:=I.zx.fresh hp;have C_:∀ i∈idx,i<us.length:=λ i hi=>by simpa using g1.mem_iff.mp hi
  have hxl:ix.length=us.length:=by rw[ix1.length_eq];simp
  let jx:=idx.map λ i=>ix.getD i 0
  have hjp:jx.Perm (List.range vs.length):=by
   rw[hvl];refine (g1.map _).trans ?_;have e:(List.range us.length).map (λ i=>ix.getD i 0)=ix:=by
    rw[<- hxl];refine Bs (by simp) λ i h1 h2=>?_;simp[h2]
   rw[e];exact ix1
  have hjr:(jx.map λ i=>rs.getD i [])=idx.map λ i=>(ix.map λ i=>rs.getD i []).getD i []:=by
   rw[AG];refine CK λ i hi=>?_;have:=C_ i hi;simp[show i<ix.length by lia]
  refine⟨.ref p,_,I.laid (t':=tk) (o:=.lst (jx.map λ i=>vs.getD i .zi)) k hp ?_,rfl,q p jx Bg hjp (by rw[hjr];exact g3)⟩;refine⟨by rw[Ay,hjp.length_eq,BP];have:sizeLine=16777216:=rfl;lia,out.toList,e,?_,by simpa using he⟩;rw[g2,ix2];refine Paired.mk (by simp[jx]) λ j a b ha hb=>?_;rw[Az] at ha hb;obtain⟨i,hi,rfl⟩:=AD hb;simp only[jx,Az,hi,Option.map_some,Option.some.injEq] at ha;have CP:=C_ i (Bb hi);have hx:ix.getD i 0<us.length:=by
   have:ix.getD i 0∈ix:=by simp[show i<ix.length by lia]
   exact A9 _ this
  obtain⟨u',e1,e2⟩:=hv.get (i:=ix.getD i 0) (x:=vs.getD (ix.getD i 0) V.zi) (by
   have hx':ix.getD i 0<vs.length:=by lia
   generalize ix.getD i 0=q at hx';rw[AW,AX hx'];rfl)
  subst ha;have e3:(ix.map λ i=>us.getD i Value.none).getD i Value.none=u':=by
   simp[show i<ix.length by lia] at e1 ⊢;simp[e1]
  rw[e3];exact e2
end
end ST
namespace L5
open PySem PySem.Spec L2 L3
open PyProof.Rows hiding St
noncomputable def wU:List (List Int)->List (List Int)
 | []=>[]
 | r::rs=>if r∈wU rs then wU rs else r::wU rs
theorem nM {r:List Int}:∀ {rs:List (List Int)},r∈wU rs↔r∈rs
 | []=>.rfl
 | x::rs=>by
  unfold wU;split
  .rename_i h;rw[nM,Ah];exact⟨.inr,λ h'=>h'.elim (λ e=>e▸nM.mp h) id⟩
  .rw[Ah,Ah,nM]
theorem gk:∀ rs:List (List Int),(wU rs).Nodup
 | []=>.nil
 | x::rs=>by
  unfold wU;split
  .exact gk rs
  .rename_i h;exact A_.mpr ⟨h,gk rs⟩
theorem gm:∀ rs:List (List Int),(wU rs).length<=rs.length
 | []=>Ag _
 | x::rs=>by
  unfold wU;have:=gm rs;split <;> simp only[AR] <;> lia
def uP:x9:=λ ds S Q=>match ds with
 | [.tup _]=>False
 | [d]=>∃ rows:List (List Int),zL d S=some (rows.map wj)/\rows.length<64/\(∀ r∈rows,r≠[])/\∀ l,S l=none->Q (.ref l) (ups S l (.lst ((L4.xO (wU rows)).map wj)))
 | _=>False
noncomputable def lQ:List T->Option T
 | [.lst ts]=>(v_ ts).bind λ rs=>if rs.length<64/\∀ r∈rs,r≠[] then some (.lst ((L4.xO (wU rs)).map zM)) else none
 | _=>none
def Qs:vE zH lQ uP:=λ S Z ys z ds Q hz hv e hq=>by
 unfold lQ at e;split at e
 .obtain⟨d,rfl,h1⟩:=vI hv;obtain⟨rs,e1,e2⟩:=Ak e;split at e2
  .rename_i hc;cases e2;cases i7 e1;obtain⟨es,h2,h3⟩:=h1.seq rfl;cases qY.mp h3;have key:∃ rows:List (List Int),zL d S=some (rows.map wj)/\rows.length<64/\(∀ r∈rows,r≠[])/\∀ l,S l=none->Q (.ref l) (ups S l (.lst ((L4.xO (wU rows)).map wj))):=
    ⟨rs,h2,hc.1,hc.2,λ l hl=>hq _ _ (.new hl _) (ra hz hl (qY.mpr rfl))⟩
   obtain⟨_,q | ⟨a,q,_⟩,_⟩:=h1.lst
   .subst q;exact key
   .subst q;exact key
  .cases e2
 .cases e
section
variable {X:Cx}{K:Ac}{e:Expr}{tA:yp}{pos pos2 p p2:Pos}
def uP.mo:vD uP:=λ ds S Q Q' hq h=>by
 unfold uP at h ⊢;split at h
 .exact h.elim
 .obtain⟨rows,h1,h2,h3,h4⟩:=h;exact⟨rows,h1,h2,h3,λ l hl=>hq _ _ (h4 l hl)⟩
 .exact h.elim
def zm.pick {H:Hp}{ys vs:List V}{rows rs:List (List Int)}(h:zm K H (rows.map wj) ys) (P:ST.qN ys rows vs rs):zm K H (rs.map wj) vs:=by
 have key:∀ (vs:List V) (rs:List (List Int)),vs.length=rs.length->(∀ (i:Nat) v r,vs[i]?=some v->rs[i]?=some r->∃ (j:Nat),ys[j]?=some v/\rows[j]?=some r)->zm K H (rs.map wj) vs:=by
  intro vs
  induction vs with
  | nil=>intro rs hl _;cases rs with
   | nil=>exact .nil
   | cons _ _=>simp at hl
  | cons v vs ih=>intro rs hl hp;cases rs with
   | nil=>simp at hl
   | cons r rs=>
    refine .cons ?_ (ih rs (by simpa using hl) λ i v r hv hr=>hp (i+1) v r (by simpa using hv) (by simpa using hr));obtain⟨j,j1,j2⟩:=hp 0 v r rfl rfl;obtain⟨x,e1,e2⟩:=h.get (i:=j) (d:=wj r) (by rw[Az,j2];rfl);rw[j1] at e1;cases e1;exact e2
 exact key vs rs P.len P.sub
def qN.mem {ys vs:List V}{rows rs:List (List Int)}(P:ST.qN ys rows vs rs) {r:List Int}:r∈rs↔r∈rows:=by
 refine⟨λ h=>?_,P.all r⟩;obtain⟨i,hi⟩:=Dl.mp h;have hl:i<vs.length:=by rw[P.len];exact (AK.mp hi).1
 obtain⟨j,_,j2⟩:=P.sub i _ r (AX hl) hi;exact Bb j2
def uP.fits {w:World}:uC K uP (λ xs H Q=>∃ p ys,∃ rows:List (List Int),xs=[.ref p]/\zO K H p ys/\ST.jh K H ys rows/\rows.length<64/\
  ∀ (l:Addr) (us:List Value) (vs:List V) (rs:List (List Int)),H l=none->Vals vs us->ST.qN ys rows vs rs->
   ∃ l' us' vs',∃ rs':List (List Int),[V.ref l]=[.ref l']/\(upd H l (.ext (ST.yP w l us))) l'=some (.ext (ST.yP w l' us'))/\Vals vs' us'/\ST.jh K (upd H l (.ext (ST.yP w l us))) vs' rs'/\rs'.length<64/\
    ∀ (p:Addr) (idx:List Nat),(upd H l (.ext (ST.yP w l us))) p=none->idx.Perm (List.range vs'.length)->(idx.map λ i=>rs'.getD i []).Pairwise (λ a b=>HT.lexLt b a=false)->Q (.ref p) (upd (upd H l (.ext (ST.yP w l us))) p (.lst (idx.map λ i=>vs'.getD i .zi)))):=λ xs ds H S Q h0 h2 h=>by
 unfold uP at h;split at h
 .exact h.elim
 .rename_i d hn;obtain⟨x,hx,h1⟩:=h0.one;subst hx;obtain⟨rows,e,h64,Ai,h⟩:=h;obtain⟨a,ys,rfl,g1,g2⟩:=pb h1 h2 e (λ ts z=>hn ts z);refine⟨a,ys,rows,rfl,g1,oX g2 Ai,h64,λ l us vs rs hf hv P=>?_⟩;have g3:=zm.pick g2 P;have x1:Ext H (upd H l (.ext (ST.yP w l us))):=.new hf _;have C3:rs.Perm (wU rows):=(DJ P.nd (gk rows)).mpr λ r=>by rw[qN.mem P,nM]
  refine⟨l,us,vs,rs,rfl,yL,hv,oX (zm.ext x1 _ g3) λ r hr=>Ai r ((qN.mem P).mp hr),by rw[C3.length_eq];have:=gm rows;lia,λ p idx hp hi hs=>?_⟩;rw[P.len] at hi;have heq:=L4.c8 ((ax hi).trans C3) hs;have Aq:p≠l:=λ z=>by subst z;rw[yL] at hp;cases hp
  have hpH:H p=none:=by rw[yG Aq] at hp;exact hp
  have x2:Ext (upd H l (.ext (ST.yP w l us))) (upd (upd H l (.ext (ST.yP w l us))) p (.lst (idx.map λ i=>vs.getD i .zi))):=.new hp _;have r1:zJ K (upd H l (.ext (ST.yP w l us))) S:=h2.new hf;refine h p (h2.none hpH) _ _ (by simp only[zg]) (x1.trans x2) (r1.ups x2 ⟨_,yL,?_⟩);rw[<- heq];exact zm.ext (x1.trans x2) _ (zm.perm g3 λ i h=>by simpa using hi.mem_iff.mp h)
 .exact h.elim
end
end L5
namespace ST
open PySem PySem.SetTable PyProof.Rows
theorem Zu {t:SetTable}{hs:List Int}(T:Tab t hs) (h:Int):∀ (f k K:Nat),k<=K->K<k+f->(way t.mask h K).j∉t.place.toList->(∀ m<K,(way t.mask h m).j∈t.place.toList)->probe.go t (λ _=>h+1) h f (way t.mask h k)=some (.empty (way t.mask h K).j none)
 | 0,k,K,h1,h2,_,_=>by lia
 | f+1,k,K,h1,h2,h3,h4=>by
  by_cases e:k=K
  .subst e;unfold probe.go;rw[T.empty h3,j8]
  .obtain⟨i,g,p1,_⟩:=T.at (h4 k (by lia));have ih:=Zu T h f (k+1) K (by lia) (by lia) h3 h4
   conv=>lhs;unfold probe.go
   rw[T.live p1];dsimp only;rw[if_neg (by intro q;have:=eq_of_beq q;lia),fZ];exact ih
def Q8 {t:SetTable}{hs:List Int}(T:Tab t hs) (hl:hs.length<=t.mask) (h:Int):∃ j,t.freeSlot h=some (j,false)/\eZ t h j:=by
 obtain⟨K,k1,k2,k3⟩:=T.first hl h;refine⟨(way t.mask h K).j,?_,⟨k2,K,rfl,k3⟩⟩;have g:=Zu T h (10*turns t.mask) 0 K (AN _) (by unfold turns;lia) k2 k3;unfold SetTable.freeSlot;have e:t.probe (λ _=>h+1) h (t.probeStart h)=some (.empty (way t.mask h K).j none):=g;rw[e];rfl
structure vW (prog:Program) (w:World) (h:Heap) (a:Addr) (xs:List (Int×Tok)) (led:Bool):Prop where
 ex:∃ es ep t,h.get? a=some { cls:=.type "set",dict:=none,data:=.set es ep t }/\es.toList=xs.map (λ e=>((intKind prog w).hash e.1,Value.int e.1 e.2))/\Tab t (xs.map λ e=>(intKind prog w).hash e.1)/\t.led=led/\t.plain=true/\xs.length*5<t.mask*3
 nd:(xs.map (·.1)).Nodup
section
variable {prog:Program}{w:World}{A:Around}{E:Value->Shared->Prop}{s:Shared}
def fits_of {es:Array (Int×Value)}{t:SetTable}{hs:List Int}{n:Nat}(h1:es.size=n) (T:Tab t hs) (h2:hs.length=n) (h3:n<=t.mask):t.fits es.size=true:=by
 have l:=T.len;unfold SetTable.fits SetTable.fill;rw[T.rP,h1,l,h2];simp;lia
def nW {n m:Int}{t:Tok}:(intKind prog w).is n (.int m t)=true↔n=m:=by
 constructor
 .intro h;obtain⟨t',e⟩:=Value.isInt_shape (show Value.isInt n (.int m t)=true from h);cases e;rfl
 .rintro rfl;exact intKind_is _ _ _ _
def QS {es:Array (Int×Value)}{xs:List (Int×Tok)}(h:es.toList=xs.map (λ e=>((intKind prog w).hash e.1,Value.int e.1 e.2))):ElemsOf (intKind prog w) es.toList:=λ e he=>by
 rw[h] at he;obtain⟨x,_,rfl⟩:=Al.mp he;exact⟨⟨x.1,nW.mpr rfl,rfl⟩,rfl⟩
def WR {es:Array (Int×Value)}{t:SetTable}{xs:List (Int×Tok)}{M wanted:Nat}(he:es.toList=xs.map (λ e=>((intKind prog w).hash e.1,Value.int e.1 e.2))) (hM:vC M) (hw:sizeAbove wanted=M+1) (AI:xs.length*5<M*3):
  ∃ es' t',∃ xs':List (Int×Tok),relayAll t es wanted=(es',t',false)/\es'.toList=xs'.map (λ e=>((intKind prog w).hash e.1,Value.int e.1 e.2))/\xs'.Perm xs/\Tab t' (xs'.map λ e=>(intKind prog w).hash e.1)/\t'.mask=M/\t'.led=t.led/\t'.plain=t.plain/\es'.size=es.size:=by
 have hlen:es.size=xs.length:=by have:=congrArg List.length he;simpa using this
 have Ep:(es.map (·.1)).toList=xs.map λ e=>(intKind prog w).hash e.1:=by rw[Array.toList_map,he,AG];rfl
 have hsz:(es.map (·.1)).size=xs.length:=by rw[CY,hlen]
 obtain⟨t',order,h1,h2,h3,h4,h5,h6,h7⟩:=aN hM t.finger (t.movedTo M) t.led t.plain (es.map (·.1)) (by rw[hsz];lia);rw[hsz] at h6;have An:∀ k∈order.toList,k<xs.length:=λ k hk=>by simpa using h6.mem_iff.mp hk
 have hr:t.relaid (es.map (·.1)) wanted=some (t',order):=by
  unfold SetTable.relaid;rw[hw,Nat.add_sub_cancel];exact h1
 have BG:(order.filterMap (es[·]?)).toList=(order.toList.filterMap λ k=>xs[k]?).map λ e=>((intKind prog w).hash e.1,Value.int e.1 e.2):=by
  rw[Array.toList_filterMap,DI];congr 1;funext k;rw[<- Bx,he,Az]
 have hperm:(order.toList.filterMap λ k=>xs[k]?).Perm xs:=(h6.filterMap _).trans (by rw[List.filterMap_getElem?_range_length]);have BF:(order.filterMap (es[·]?)).size=es.size:=by
  rw[<- Bm,BG,Ay,hperm.length_eq,hlen]
 have hT:Tab t' ((order.toList.filterMap λ k=>xs[k]?).map λ e=>(intKind prog w).hash e.1):=by
  rw[<- iL xs (λ e=>(intKind prog w).hash e.1) 0 order.toList An,<- Ep];exact h7
 refine⟨_,t',_,?_,BG,hperm,hT,h2,h4,h5,BF⟩;have yh:coversAll order es.size=true:=by
  unfold coversAll;rw[List.isPerm_iff,hlen];exact h6
 have fit:t'.fits (order.filterMap (es[·]?)).size=true:=fits_of (n:=xs.length) (by rw[BF,hlen]) hT (by rw[Ay,hperm.length_eq]) (by rw[h2];lia);unfold relayAll;rw[hr];dsimp only;rw[yh,fit];rfl
def add_int {a:Addr}{xs:List (Int×Tok)}{n:Int}{tk:Tok}{led:Bool}{Q:Bool->Shared->Prop}(S:vW prog w s.heap a xs led) (hn:xs.length<70)
  (h:∀ h' xs' r,Heap.SameBut a s.heap h'->vW prog w h' a xs' led->(n∈xs.map (·.1)/\xs'=xs\/n∉xs.map (·.1)/\xs'.Perm (xs++[(n,tk)]))->Q r { s with heap:=h' }):
  wpAny (model prog w) A (setAddHashed a (.int n tk) ((intKind prog w).hash n)) Q E s:=by
 have S0:=S;obtain⟨⟨es,ep,t,ho,he,T,Bp,Aq,AI⟩,CO⟩:=S;have hlen:es.size=xs.length:=by have:=congrArg List.length he;simpa using this
 have hm7:7<=t.mask/\t.mask<=127:=by rcases T.mask with e | e | e <;> lia
 have fit:t.fits es.size=true:=fits_of (n:=xs.length) hlen T (by simp) (by lia);have hel:=QS (prog:=prog) (w:=w) he;unfold setAddHashed setAddHashedIn;refine wpAny_holding (Ab (wpAny_setState_of ho rfl fit ?_));dsimp only;have bs:byScan (.int n tk) es=true:=by
  have h1:decide (es.size<scanBound)=true:=decide_eq_true (by unfold scanBound;lia);have h2:es.all (·.2.scannable)=true:=by
   rw[Array.all_eq_true_iff_forall_mem];intro e hm;exact (hel e (by simpa using hm)).2
  unfold byScan;rw[h1,h2];rfl
 rw[if_pos bs];refine Ab ?_;unfold setAddByScan;refine Ab (wpAny_rule (Ab (wpAny_setScan_of (k:=n) (nW.mpr rfl) ho rfl fit hel ?_)));have hfind:(es.toList.findIdx? (λ e=>(intKind prog w).is n e.2)).isSome=true↔n∈xs.map (·.1):=by
  rw[he,List.findIdx?_isSome,Bf];constructor
  .rintro⟨e,hm,q⟩;obtain⟨x,hx,rfl⟩:=Al.mp hm;exact Al.mpr ⟨x,hx,(nW.mp q).symm⟩
  .intro hm;obtain⟨x,hx,rfl⟩:=Al.mp hm;exact⟨_,Al.mpr ⟨x,hx,rfl⟩,nW.mpr rfl⟩
 cases hc:es.toList.findIdx? (λ e=>(intKind prog w).is n e.2) with
 | some j=>
  dsimp only;have hm:=hfind.mp (by rw[hc];rfl);refine Ad ?_;dsimp only;exact Ad (h s.heap xs false ⟨rfl,λ _ _=>rfl⟩ S0 (.inl ⟨hm,rfl⟩))
 | none=>
  dsimp only;have hm:n∉xs.map (·.1):=λ q=>by have:=hfind.mpr q;rw[hc] at this;cases this
  obtain⟨j,fs,F⟩:=Q8 T (by rw[Ay];lia) ((intKind prog w).hash n);obtain⟨p1,p2,p3⟩:=T.put F;rw[Ay] at p1;have CA:(t.put j).1.plain=true:=by rw[p2];exact Aq
  have BW:(t.put j).1.mask=t.mask:=by rw[p2]
  have An:(t.put j).1.led=led:=by rw[p2];exact Bp
  generalize hT:(t.put j)=P at *;obtain⟨t1,p⟩:=P;dsimp only at *
  let xs1:=xs.take p++(n,tk)::xs.drop p
  have hperm:xs1.Perm (xs++[(n,tk)]):=by
   have e:xs.take p++xs.drop p=xs:=DL p xs;have:xs1.Perm ((n,tk)::(xs.take p++xs.drop p)):=List.perm_middle;rw[e] at this;exact this.trans (List.perm_append_singleton _ _).symm
  have hl1:xs1.length=xs.length+1:=by rw[hperm.length_eq];simp
  have hes1:(insertAt es p ((intKind prog w).hash n,Value.int n tk)).toList=xs1.map λ e=>((intKind prog w).hash e.1,Value.int e.1 e.2):=by
   rw[toList_insertAt,he];simp[xs1,Dk,Dj]
  have hsz1:(insertAt es p ((intKind prog w).hash n,Value.int n tk)).size=xs.length+1:=by rw[<- Bm,hes1,Ay,hl1]
  have T1:Tab t1 (xs1.map λ e=>(intKind prog w).hash e.1):=by
   have:xs1.map (λ e=>(intKind prog w).hash e.1)=(xs.map λ e=>(intKind prog w).hash e.1).take p++(intKind prog w).hash n::(xs.map λ e=>(intKind prog w).hash e.1).drop p:=by simp[xs1,Dk,Dj]
   rw[this];exact p3
  have fit1:t1.fits (insertAt es p ((intKind prog w).hash n,Value.int n tk)).size=true:=fits_of (n:=xs.length+1) hsz1 T1 (by rw[Ay,hl1]) (by rw[BW];lia);have C7:layNew t es ((intKind prog w).hash n) (.int n tk)=(insertAt es p ((intKind prog w).hash n,Value.int n tk),t1,false,false):=by
   unfold layNew;rw[fs];dsimp only;rw[hT];dsimp only;unfold SetTable.orStandIn;rw[fit1];rfl
  have Bz:(insertAt es p ((intKind prog w).hash n,Value.int n tk)).size<=sizeLine:=by
   rw[hsz1];have:sizeLine=16777216:=rfl;lia
  have hnd1:(xs1.map (·.1)).Nodup:=by
   refine (hperm.map _).nodup_iff.mpr ?_;rw[Bk,List.nodup_append];refine⟨CO,by simp,λ x hx y hy=>?_⟩;simp at hy;subst hy;exact λ e=>hm (e▸hx)
  have ho1:=kh (es':=insertAt es p ((intKind prog w).hash n,Value.int n tk)) (t':=t1) ho;have sb:=Heap.SameBut.update s.heap a (Obj.putSet (insertAt es p ((intKind prog w).hash n,Value.int n tk)) t1);have hfill:t1.fill=xs.length+1:=by
   have l:=T1.len;rw[Ay,hl1] at l;unfold SetTable.fill;rw[T1.rP,l];simp
  rw[C7];dsimp only;refine Ab (m:=pure ()) (Ad ?_);rw[CA];simp only[if_true];refine Ab (m:=pure true) (Ad ?_);simp only[if_true];refine Ab (wpAny_storeSet_of ho rfl ?_ Bz);by_cases hf:t1.tooFull=true
  .rw[hf];simp only[AB,Dt,if_true];have hfull:t.mask*3<=(xs.length+1)*5:=by
    have:=hf;unfold SetTable.tooFull at this;rw[hfill,BW] at this;simpa using this
   obtain⟨M',g1,g2,g3⟩:=cG xs.length t.mask T.mask AI hfull hn;obtain⟨es2,t2,xs2,r1,r2,r3,r4,r5,r6,r7,r8⟩:=WR (prog:=prog) (w:=w) (t:=t1) hes1 g1 (wanted:=grown (insertAt es p ((intKind prog w).hash n,Value.int n tk)).size) (by rw[hsz1];exact g2) (by rw[hl1];exact g3);rw[r1];dsimp only;refine Ab (m:=pure ()) (Ad (Ab (wpAny_storeSet_of ho1 rfl ?_ (by rw[r8];exact Bz))));refine Ad ?_;dsimp only;refine Ad (h _ xs2 true (sb.trans (Heap.SameBut.update _ a _)) ⟨⟨es2,ep+1+1,t2,kh ho1,r2,r4,by rw[r6];exact An,by rw[r7];exact CA,by rw[r3.length_eq,hl1,r5];exact g3⟩,(r3.map _).nodup_iff.mpr hnd1⟩ (.inr ⟨hm,r3.trans hperm⟩))
  .have hf':t1.tooFull=false:=by simpa using hf
   rw[hf'];simp only[AB,B_,A5,if_false];have hfull:(xs.length+1)*5<t.mask*3:=by
    have:=hf';unfold SetTable.tooFull at this;rw[hfill,BW] at this;simpa using this
   refine Ad ?_;dsimp only;exact Ad (h _ xs1 true sb ⟨⟨_,ep+1,t1,ho1,hes1,T1,An,CA,by rw[hl1,BW];exact hfull⟩,hnd1⟩ (.inr ⟨hm,hperm⟩))
end
structure sH (its:Array Value) (ns:List Int) (i:Nat) (xs:List (Int×Tok)):Prop where
 own:∀ e∈xs,∃ j,j<i/\ns[j]?=some e.1
 all:∀ (j:Nat) r,j<i->ns[j]?=some r->r∈xs.map (·.1)
theorem gp:∀ (l m:List Int),l.Nodup->(∀ x∈l,x∈m)->l.length<=m.length
 | [],m,_,_=>AN _
 | x::l,m,hn,hs=>by
  have h1:=A_.mp hn;have hx:=hs x Am;have:=gp l (m.erase x) h1.2 λ z hz=>(DQ (λ e:z=x=>h1.1 (by rw[<- e];exact hz))).mpr (hs z (Ar _ hz));rw[DP hx] at this;have:=Dq hx;simp only[AR];lia
def sH.len {its:Array Value}{ns:List Int}{i:Nat}{xs:List (Int×Tok)}(U:sH its ns i xs) (nd:(xs.map (·.1)).Nodup):xs.length<=i:=by
 have:=gp (xs.map (·.1)) ((List.range i).map λ j=>ns.getD j 0) nd λ x hx=>by
  obtain⟨e,he,rfl⟩:=Al.mp hx;obtain⟨j,h1,h3⟩:=U.own e he;exact Al.mpr ⟨j,AH.mpr h1,by rw[AW,h3];rfl⟩
 simpa using this
def sH.step {its:Array Value}{ns:List Int}{i:Nat}{xs xs':List (Int×Tok)}{n:Int}{t:Tok}(U:sH its ns i xs) (hr:ns[i]?=some n)
  (h:n∈xs.map (·.1)/\xs'=xs\/n∉xs.map (·.1)/\xs'.Perm (xs++[(n,t)])):sH its ns (i+1) xs':=by
 have eqi:∀ j:Nat,j<i+1->¬ j<i->j=i:=λ j a b=>by lia
 rcases h with ⟨hm,rfl⟩ | ⟨_,hp⟩
 .refine⟨λ e he=>?_,λ j r hj Bc=>?_⟩
  .obtain⟨j,h1,h2⟩:=U.own e he;exact⟨j,Bu h1,h2⟩
  .by_cases q:j<i
   .exact U.all j r q Bc
   .rw[eqi j hj q,hr] at Bc;cases Bc;exact hm
 .refine⟨λ e he=>?_,λ j r hj Bc=>?_⟩
  .rcases AZ.mp (hp.mem_iff.mp he) with q | q
   .obtain⟨j,h1,h2⟩:=U.own e q;exact⟨j,Bu h1,h2⟩
   .cases AJ.mp q;exact⟨i,Cw i,hr⟩
  .rw[(hp.map (·.1)).mem_iff,Bk];by_cases q:j<i
   .exact Cb _ (U.all j r q Bc)
   .rw[eqi j hj q,hr] at Bc;cases Bc;exact AV _ Am
def Nums (its:Array Value) (ns:List Int):Prop:=∀ (i:Nat) v,its[i]?=some v->∃ n t,v=.int n t/\ns[i]?=some n
section
variable {prog:Program}{w:World}{A:Around}{R:Result->Shared->Prop}{I:Addr}{fp wr:List Addr}{G:Array GenState->Array GenState->Prop}{n:Nat}{P:Nat->Value->Prop}{St:Nat->Shared->Prop}
def vW.keep {h h':Heap}{a:Addr}{xs:List (Int×Tok)}{led:Bool}(S:vW prog w h a xs led) (k:∀ o,h.get? a=some o->h'.get? a=some o):vW prog w h' a xs led:=
 let ⟨⟨es,ep,t,ho,r⟩,nd⟩:=S;⟨⟨es,ep,t,k _ ho,r⟩,nd⟩
def Rn (W:WalksS prog w A.in1 I fp wr G n (λ i v=>P i v) St) (Sa:Addr) (hSf:Sa∉fp) {its:Array Value}{ns:List Int}(hP:∀ i v,P i v->its[i]?=some v) (hn:n<70) (led:Bool) (hN:Nums its ns):
  ∀ (k i:Nat) (s:Shared) (xs:List (Int×Tok)),n-i=k->i<=n->St i s->vW prog w s.heap Sa xs led->sH its ns i xs->
   (∀ s' xs',Moved (Sa::wr) G s s'->vW prog w s'.heap Sa xs' led->sH its ns n xs'->R (.ok (.ret .none)) s')->
   codeAny (model prog w) A (.builtin "set.update.loop" ⟨[.ref Sa,.ref I],[]⟩) R s:=by
 have hSw:Sa∉wr:=λ z=>hSf (W.sub _ z);have more:∀ b∈wr,b∈Sa::wr:=λ b hb=>Ar _ hb;intro k
 induction k with
 | zero=>
  intro i s xs hk hi AO hS hU hR;have e:i=n:=by lia
  subst e;refine codeAny_builtin F.entry_set_update_loop ?_;rw[Around.under_plainId F.plain_set_update_loop _];show wpAny _ A.in1 (pyNext (.ref I) >>= _) _ _ s;exact Ab (W.done s _ _ AO λ s' hm=>Ad (hR s' xs (hm.mono more) (hS.keep λ o e=>hm.heap _ o hSw e) hU))
 | succ k ih=>
  intro i s xs hk hi AO hS hU hR;have An:i<n:=by lia
  refine codeAny_builtin F.entry_set_update_loop ?_;rw[Around.under_plainId F.plain_set_update_loop _];show wpAny _ A.in1 (pyNext (.ref I) >>= _) _ _ s;refine Ab (W.item i s _ _ An AO λ v s1 hPv hst1 hm=>?_);obtain⟨m,t,rfl,hr⟩:=hN i v (hP i v hPv);have S1:vW prog w s1.heap Sa xs led:=hS.keep λ o e=>hm.heap _ o hSw e;have hl:xs.length<70:=by have:=hU.len hS.nd;lia
  show wpAny _ A.in1 (holding [Value.int m t] (setAdd Sa (.int m t)) >>= _) _ _ s1;refine Ab (wpAny_holding ?_);unfold setAdd;refine wpAny_holding (Ab ((intKind prog w).pyHash (A:=A.in1) (k:=m) (nW.mpr rfl) ?_));refine add_int (s:={ s1 with toks:=s1.toks+1 }) (A:=A.in1) S1 hl λ h' xs' rr sb S' hx=>?_;have fr:=W.frame (i+1) s1 h' (s1.toks+1) hst1 (B8 _ _) λ c hc o e=>(sb.2 c (λ z:c=Sa=>hSf (z▸hc))).trans e;refine Ad ⟨plainId_quiet F.plain_set_update_loop _,ih (i+1) _ xs' (by lia) An fr S' (hU.step hr hx) λ s2 xs2 hm2 S2 U2=>?_⟩;refine hR s2 xs2 (Moved.trans W.gtrans ((hm.mono more).then_heap (B8 _ _) λ c o hc e=>?_) hm2) S2 U2;exact (sb.2 c (λ z=>hc (z▸Am))).trans e
end
section
variable {prog:Program}{w:World}{A:Around}{E:Value->Shared->Prop}{s:Shared}
def Wx {h:Heap}{a:Addr}(ho:h.get? a=some (yY w)):vW prog w h a [] (vP w):=
 ⟨⟨#[],0,_,ho,rfl,⟨.inl rfl,rfl,rfl,.nil,λ j hj=>(by cases hj),λ i g j hg=>(by cases hg)⟩,rfl,rfl,by show 0*5<7*3;lia⟩,.nil⟩
set_option maxRecDepth 100000 in
set_option maxHeartbeats 6400000 in
def PN {l:Addr}{its:Array Value}{ns:List Int}{Q:Value->Shared->Prop}(hh:A.handled=none) (hl:s.heap.IsList l its) (hT:Nums its ns) (hn:its.size<70)
  (h:∀ (h':Heap) (tk:Nat) xs,vW prog w h' s.heap.objs.size xs (vP w)->sH its ns its.size xs->(∀ b o,b<s.heap.objs.size->s.heap.get? b=some o->h'.get? b=some o)->Q (.ref s.heap.objs.size) { s with heap:=h',toks:=tk }):
  wpAny (model prog w) A (call (.type "set") [.ref l]) Q E s:=by
 obtain⟨c,tl,Ef⟩:=F.called_set.mro;have made:=F.called_set.made;have subm:=F.called_set.sub;refine wpAny_call (codeAny_of_tree ?_);show wpAny _ _ (callAny (.type "set") _) _ _ _;refine Ad ⟨Code.quiet_builtin _ (by decide +kernel),codeAny_builtin F.entry_type_call ?_⟩;rw[Around.under_plain (weight_type_call_type "set" [.ref l] []) rfl];have nt:=F.called_set.notType;have cc:=F.called_set.canCreate;have tc:=F.typeCall_set_1 (.ref l)
 repeat (any_goals (first | assumption | wp_step))
 refine codeAny_mono (Ye (.ref l) (E:=E) (Q:=λ obj s₁=>obj=.ref s.heap.objs.size/\s₁={ s with heap:=s.heap.push (yY w) }) ⟨rfl,rfl⟩) λ r s₁ hr=>?_;cases r with
 | error e=>exact hr
 | ok fl=>
  cases fl with
  | ret obj=>
   obtain⟨rfl,rfl⟩:=hr;have hS:(s.heap.push (yY w)).get? s.heap.objs.size=some (yY w):=AE _ rfl;have hTy:Shared.TypeIs { s with heap:=s.heap.push (yY w) } (.ref s.heap.objs.size) "set":=⟨_,hS,rfl⟩
   have li:=F.called_set.init.lookup;have bi:=F.called_set.init.bind (.ref s.heap.objs.size)
   repeat (any_goals (first | assumption | wp_step))
   let s1:Shared:={ s with heap:=s.heap.push (yY w) }
   refine codeAny_mono (codeAny_call_builtin (R:=wants (λ r s₂=>r=.none/\∃ h' tk xs,s₂={ s with heap:=h',toks:=tk }/\vW prog w h' s.heap.objs.size xs (vP w)/\sH its ns its.size xs/\
     ∀ b o,b<s.heap.objs.size->s.heap.get? b=some o->h'.get? b=some o) E) F.called_set.init.plain F.entry_set_init (check_set_init_1 hTy ?_)) λ r₂ s₂ hr₂=>?_
   .obtain⟨⟨ocls,odict,odata,oslots⟩,C4,AM,nl,Ck⟩:=id hl;simp only at AM Ck;subst AM Ck;have hol1:(s.heap.push (yY w)).get? l=some { cls:=.type "list",dict:=odict,data:=.seq its nl,slots:=oslots }:=Ao _ C4;have sls:=F.sub_list_set;have slf:=F.sub_list_frozenset;have nd:(Value.type "list" == Value.type "dict")=false:=by decide
    have hl1:(s.heap.push (yY w)).IsList l its:=⟨_,hol1,rfl,nl,rfl⟩
    unfold Builtin.«set.__init__» noKeywords Builtin.Frozenset.updateFrom;generalize hPI:pyIter=PI;unfold yY at *
    wp_walk
    subst hPI;refine wpAny_pyIter_list hl1 (Ab (wpAny_runValue ?_));have hlS:l<s.heap.objs.size:=Ap C4;have hsz:(s.heap.push (yY w)).objs.size=s.heap.objs.size+1:=Heap.size_push _ _;have hneI:l≠(s.heap.push (yY w)).objs.size:=by rw[hsz];exact Aw (Bu hlS)
    have szne:s.heap.objs.size≠(s.heap.push (yY w)).objs.size:=by rw[hsz];exact Aw (Cw _)
    have low:∀ b:Addr,b<s.heap.objs.size->b≠(s.heap.push (yY w)).objs.size:=λ b hb=>by rw[hsz];exact Aw (Bu hb)
    refine Rn (A:=A.in1.in1) (P:=λ i v=>its[i]?=some v) ((Walks.list (A:=A.in1.in1.in1) (by simp[hh]) _ l hneI its).toS) s.heap.objs.size ?_ (its:=its) (ns:=ns) (λ _ _ q=>q) hn (vP w) hT its.size 0 _ [] (by lia) (AN _)
     ⟨⟨_,AE _ rfl,rfl,rfl⟩,hl1.push _⟩ (Wx (w:=w) (Ao _ hS)) ⟨λ e he=>(by cases he),λ j r hj=>(by lia)⟩ ?_
    .intro hm;rcases Ah.mp hm with q | q
     .exact szne q
     .exact BL hlS (AJ.mp q)
    .intro s' xs' hm S' U';obtain⟨h',g',d',tk',os'⟩:=s';obtain rfl:g'=s.gens:=hm.gens;obtain rfl:d'=s.drawn:=hm.drawn;obtain rfl:os'=s.os:=hm.os;refine Ad (Ad ⟨rfl,h',tk',xs',rfl,S',U',λ b o hb e=>?_⟩);refine hm.heap b o (λ q=>?_) (Ao _ (Ao _ e));rcases Ah.mp q with q | q
     .exact Aw hb q
     .exact low b hb (AJ.mp q)
   .cases r₂ with
    | error e=>exact hr₂
    | ok fl₂=>
     cases fl₂ with
     | ret r=>
      obtain⟨rfl,h',tk,xs,rfl,g1,g2,g3⟩:=hr₂
      repeat (any_goals (first | assumption | wp_step))
      exact h h' tk xs g1 g2 g3
     | _=>exact hr₂.elim
  | _=>exact hr.elim
end
end ST
namespace L4
open PySem PyProof.Rows
def Pp {prog:Program}{w:World}{A:Around}{E:Value->Shared->Prop}{s:Shared}{vs:List Value}{ns:List Int}(hI:IntsAre vs ns) (h2:2<=vs.length) (h64:vs.length<64):
  Core prog w A E vs (λ out=>∃ ns',IntsAre out.toList ns'/\ns'.Perm ns/\ns'.Pairwise (·<=·)) s:=by
 obtain⟨v1,v2,rest,rfl⟩:∃ v1 v2 rest,vs=v1::v2::rest:=by
  match vs,h2 with
  | v1::v2::rest,_=>exact⟨v1,v2,rest,rfl⟩
 unfold Core;rw[keyKind_ints hI];refine Ad ⟨rfl,?_⟩;refine wpAny_mono (wpS_sortRuns (a₀:=pairsOf (v1::v2::rest)) (st:=SortSt.mk' oneType' ((v1::v2::rest).toArray.zip (v1::v2::rest).toArray) #[] 7 none)
   (Q:=λ _ st'=>(arrOf st').Perm (pairsOf (v1::v2::rest))/\failedOf st'=none/\SortedTo (arrOf st') (pairsOf (v1::v2::rest)).size)
   hI.intKeys ⟨Array.Perm.refl _,rfl,rfl,rfl⟩ (by rw[pairsOf_size];simp) (by rw[pairsOf_size];exact h64) λ st' a1 a2 a3=>⟨a1,a2,a3⟩) ?_ λ _ _ e=>e
 rintro⟨⟨⟩,st'⟩ s' ⟨rfl,hp,hf,hs⟩;exact⟨rfl,hf,sorted_out hI hp hs,by rw[hp.size_eq,pairsOf_size]⟩
end L4
namespace L5
open PySem PySem.Spec L2 L3
open PyProof.Rows hiding St
structure Bq (mg:Str->Option Value):Prop where
 set:mg "set"=none
 zip:mg "zip"=none
 enumerate:mg "enumerate"=none
section
variable {X:Cx}{K:Ac}{a b c e:Expr}{es:List Expr}{ta tb tc te:zq}{tA:yp}{pos p:Pos}{fa fb fc:Ev->Option T}
def p_ (f g:yW) (ta tb tc:zq):zq:=fun Y S Q=>ta Y S λ x S1=>tb Y S1 λ y S2=>f x y S2 λ z S3=>match z with
 | .bl k=>if k=true then tc Y S3 λ w S4=>g y w S4 Q else Q (.bl false) S3
 | _=>False
def p_.mo {f g:yW}(hf:xN f) (hg:xN g) (ha:yn ta) (hb:yn tb) (hc:yn tc):yn (p_ f g ta tb tc):=fun Y S Q Q' hq h=>
 ha Y S _ _ (λ x S1 h=>hb Y S1 _ _ (λ y S2 h=>hf x y S2 _ _ (λ z S3 h=>by
  cases z <;> first
   | exact vi (hc Y S3 _ _ λ w S4 h=>hg y w S4 _ _ hq h) (hq _ _) h
   | exact h) h) h) h
def Xy {f g:yW}{r r':R2}(hr:xD K f r) (hr':xD K g r') (hf:xN f) (hg:xN g) (ha:yn ta) (hb:yn tb) (hc:yn tc) {B:St}{H:Hp}{Q:VK}(h:zP K (p_ f g ta tb tc) B H Q):cy r r' (zP K ta) (zP K tb) (zP K tc) B H Q:=by
 obtain⟨Y,S,r1,r2,h⟩:=h;refine zP.go ha r1 r2 h λ x S1 v H1 h1 q1 e1 p1=>?_;refine zP.go hb (r1.ext e1) p1 h1 λ y S2 w H2 h2 q2 e2 p2=>?_;refine hr v w x y H2 S2 _ (zg.ext e2 x q1) q2 p2 (hf x y S2 _ _ (λ d S3 z v3 H3 q3 e3 p3=>?_) h2);cases d with
 | bl k=>
  simp only[zg] at q3;refine⟨k,q3,vi (λ z=>?_) (λ z=>?_) z⟩
  .refine zP.go hc (r1.ext ((e1.trans e2).trans e3)) p3 z λ w4 S4 v4 H4 h4 q4 e4 p4=>?_;exact hr' w v4 y w4 H4 S4 Q (zg.ext (e3.trans e4) y q2) q4 p4 (hg y w4 S4 _ _ (λ d S' z=>z.ext (((e1.trans e2).trans e3).trans e4)) h4)
  .exact z _ H3 (by simp only[zg]) ((e1.trans e2).trans e3) p3
 | zi=>exact z.elim
 | int _=>exact z.elim
 | str _=>exact z.elim
 | tup _=>exact z.elim
 | yH _=>exact z.elim
 | ref _=>exact z.elim
@[simp] noncomputable def Yj (f g:T->T->Option T) (fa fb fc:Ev->Option T):Ev->Option T:=fun J=>(fa J).bind λ x=>(fb J).bind λ y=>(f x y).bind λ b=>match b with
 | .bl k=>if k=true then (fc J).bind λ z=>g y z else some (.bl false)
 | _=>none
def Si {f g:T->T->Option T}{F G:yW}(hf:Good2 zH f F) (hg:Good2 zH g G) (ha:yz fa ta) (hb:yz fb tb) (hc:yz fc tc):xC (Yj f g fa fb fc) (p_ F G ta tb tc):=λ S Z Y J y Q hE e hq=>by
 obtain⟨x1,e1,e⟩:=Ak e;obtain⟨x2,e2,e⟩:=Ak e;obtain⟨b,e3,e⟩:=Ak e;refine ha S Z Y J x1 _ hE e1 λ d1 S1 s1 r1=>?_;refine hb S1 Z Y J x2 _ (hE.grow s1) e2 λ d2 S2 s2 r2=>?_;refine hf S2 Z x1 x2 b d1 d2 _ (hE.grow (s1.trans s2)).zd (Vw.grow r1 s2) r2 e3 λ c S3 s3 r3=>?_;split at e
 .have:=r3.1;simp only[Sn] at this;subst this;split at e
  .rename_i hk;obtain⟨x4,e4,e5⟩:=Ak e;dsimp only;rw[if_pos hk];refine hc S3 Z Y J x4 _ (hE.grow ((s1.trans s2).trans s3)) e4 λ d4 S4 s4 r4=>?_;exact hg S4 Z x2 x4 y d2 d4 Q (hE.grow (((s1.trans s2).trans s3).trans s4)).zd (Vw.grow r2 (s3.trans s4)) r4 e5 λ c' S5 s5 r5=>hq c' S5 ((((s1.trans s2).trans s3).trans s4).trans s5) (Cl.cl (((s1.trans s2).trans s3).trans s4) r5)
  .rename_i hk;dsimp only;rw[if_neg hk];cases e;exact hq _ S3 ((s1.trans s2).trans s3) (Cl.of (λ _=>nofun) vv)
 .cases e
def U6 {op op':CmpOp}{f g:yW}{r r':R2}(ho:yj X (compareOp op) r) (ho':yj X (compareOp op') r') (hr:xD X.K f r) (hr':xD X.K g r') (hf:xN f) (hg:xN g) (ha:PD X a ta) (hb:PD X b tb) (hc:PD X c tc)
  (hm:lastMarks [op,op'] [b,c]=false:=by with_unfolding_all rfl):PD X (.Compare a [op,op'] [b,c] pos) (p_ f g ta tb tc):=
 ⟨p_.mo hf hg ha.mo hb.mo hc.mo,PE.imp (Ub ho ho' ha.pe hb.pe hc.pe hm) λ _ _ _ h=>Xy hr hr' hf hg ha.mo hb.mo hc.mo h⟩
end
end L5
namespace L2
open PySem PySem.Spec PyProof.Rows
section
variable {X:Cx}
def UU:yj X (compareOp .Is) (λ x y H Q=>∃ c d,x=.bl c/\y=.bl d/\Q (.bl (c == d)) H):=by
 intro pins s B H x y v u Q I rx ry h;obtain⟨c,d,rfl,rfl,q⟩:=h;cases rx;cases ry;exact is_bool ⟨.bl _,H,I,rfl,q⟩
def UJ:yj X (compareOp .IsNot) (λ x y H Q=>∃ c d,x=.bl c/\y=.bl d/\Q (.bl (c != d)) H):=by
 intro pins s B H x y v u Q I rx ry h;obtain⟨c,d,rfl,rfl,q⟩:=h;cases rx;cases ry;exact isnot_bool ⟨.bl _,H,I,rfl,q⟩
end
end L2
namespace L5
open PySem PySem.Spec L2 L3
open PyProof.Rows hiding St
section
variable {X:Cx}{K:Ac}{a b c e o i v:Expr}{es:List Expr}{ta tb tc te td ty tv:zq}{tA:yp}{pos p pos':Pos}{fa fb fc:Ev->Option T}
def tJ:yW:=λ x y S Q=>match x,y with
 | .int i,.int j=>Q (.bl (decide (i<j))) S
 | .tup ds,.tup es=>∃ ns ms:List Int,ds=ns.map D.int/\es=ms.map D.int/\Q (.bl (HT.lexLt ns ms)) S
 | _,_=>False
noncomputable def uh:T->T->Option T
 | .int i,.int j=>some (.bl (decide (i<j)))
 | .tup ts,.tup us=>(wW ts).bind λ ns=>(wW us).map λ ms=>.bl (HT.lexLt ns ms)
 | _,_=>none
def tJ.mo:xN tJ:=λ x y S Q Q' hq h=>by
 unfold tJ at h ⊢;split at h
 .exact hq _ _ h
 .obtain⟨ns,ms,h1,h2,h3⟩:=h;exact⟨ns,ms,h1,h2,hq _ _ h3⟩
 .exact h.elim
def tJ.fits:xD K tJ (λ x y H Q=>vM (λ i j=>.bl (decide (i<j))) x y H Q\/iH K x y H Q):=λ x y d e H S Q h1 h2 h3 h=>by
 unfold tJ at h;split at h
 .simp only[zg] at h1 h2;exact .inl ⟨_,_,h1,h2,h _ H (by simp only[zg]) (.refl H) h3⟩
 .obtain⟨ns,ms,rfl,rfl,h⟩:=h;simp only[zg] at h1 h2;obtain⟨a,xs,rfl,g1,g2⟩:=h1;obtain⟨b,ys,rfl,g3,g4⟩:=h2;rw[g2.ints] at g1;rw[g4.ints] at g3;exact .inr ⟨a,b,ns,ms,rfl,rfl,g1,g3,h _ H (by simp only[zg]) (.refl H) h3⟩
 .exact h.elim
def kL:Good2 zH uh tJ:=λ S Z x y z d e Q hz hx hy ef hq=>by
 unfold uh at ef;split at ef
 .cases ef;cases hx.int;cases hy.int;exact hq _ S (.refl S) (Cl.of (λ _=>nofun) vv)
 .obtain⟨ns,e1,e2⟩:=Ak ef;obtain⟨ms,e3,rfl⟩:=AD e2;cases qy e1;cases qy e3;obtain⟨ds,rfl,h2⟩:=hx.tup;obtain⟨es,rfl,h4⟩:=hy.tup;exact⟨ns,ms,uE.mp h2,uE.mp h4,hq _ S (.refl S) (Cl.of (λ _=>nofun) vv)⟩
 .cases ef
def UQ {k:Nat}(hr:yF k X.A):yj X (compareOp .Lt) (λ x y H Q=>vM (λ i j=>.bl (decide (i<j))) x y H Q\/iH X.K x y H Q):=US.or (UR (by have:=hr.units;lia))
def iP {k:Nat}(hr:yF k X.A) (ha:PD X a ta) (hb:PD X b tb):xV X (.Compare a [.Lt] [b] pos) (uv (yy tJ ta tb)):=qk (UQ hr) tJ.fits tJ.mo ha hb (qt _)
def wG (neg:Bool):yW:=λ x y S Q=>match x,y with
 | .bl c,.bl d=>Q (.bl (cond neg (c != d) (c == d))) S
 | x,.zi=>Q (.bl (cond neg (!pL x) (pL x))) S
 | _,_=>False
noncomputable def xS (neg:Bool):T->T->Option T
 | .bl c,.bl d=>some (.bl (cond neg (c != d) (c == d)))
 | x,.zi=>some (.bl (cond neg (!isNone x) (isNone x)))
 | _,_=>none
def wG.mo {neg:Bool}:xN (wG neg):=λ x y S Q Q' hq h=>by
 unfold wG at h ⊢;split at h
 .exact hq _ _ h
 .exact hq _ _ h
 .exact h.elim
def wG.fits:xD K (wG false) (λ x y H Q=>(∃ c d,x=.bl c/\y=.bl d/\Q (.bl (c == d)) H)\/(y=.zi/\Q (.bl (decide (x=.zi))) H)):=λ x y d e H S Q h1 h2 h3 h=>by
 unfold wG at h;split at h
 .simp only[zg] at h1 h2;exact .inl ⟨_,_,h1,h2,h _ H (by simp only[zg,cond]) (.refl H) h3⟩
 .simp only[zg] at h2;refine .inr ⟨h2,?_⟩;rw[Zb h1];exact h _ H (by simp only[zg,cond]) (.refl H) h3
 .exact h.elim
def wG.QB:xD K (wG true) (λ x y H Q=>(∃ c d,x=.bl c/\y=.bl d/\Q (.bl (c != d)) H)\/(y=.zi/\Q (.bl (!decide (x=.zi))) H)):=λ x y d e H S Q h1 h2 h3 h=>by
 unfold wG at h;split at h
 .simp only[zg] at h1 h2;exact .inl ⟨_,_,h1,h2,h _ H (by simp only[zg,cond]) (.refl H) h3⟩
 .simp only[zg] at h2;refine .inr ⟨h2,?_⟩;rw[Zb h1];exact h _ H (by simp only[zg,cond]) (.refl H) h3
 .exact h.elim
def RX {S:SS}{Z:Addr->Prop}{x:T}{d:D}(hx:Vw S Z x d):pL d=isNone x:=by
 cases x with
 | zi=>cases hx.zi;rfl
 | bl _=>cases hx.bl;rfl
 | int _=>cases hx.int;rfl
 | str _=>cases hx.str;rfl
 | tup _=>obtain⟨ds,rfl,_⟩:=hx.tup;rfl
 | lst _=>obtain⟨ds,rfl | ⟨a,rfl,h1⟩,h2⟩:=hx.lst <;> rfl
 | zT=>obtain⟨a,Aa,rfl,h1⟩:=hx.zT;rfl
def gY {neg:Bool}:Good2 zH (xS neg) (wG neg):=λ S Z x y z d e Q hz hx hy ef hq=>by
 unfold xS at ef;split at ef
 .cases ef;cases hx.bl;cases hy.bl;exact hq _ S (.refl S) (Cl.of (λ _=>nofun) vv)
 .cases ef;cases hy.zi;have key:Q (.bl (cond neg (!pL d) (pL d))) S:=by
   rw[RX hx];exact hq _ S (.refl S) (Cl.of (λ _=>nofun) vv)
  unfold wG;cases d <;> exact key
 .cases ef
def iQ (ha:PD X a ta) (hb:PD X b tb):xV X (.Compare a [.Is] [b] pos) (uv (yy (wG false) ta tb)):=qk (UU.or UT) wG.fits wG.mo ha hb (qt _)
def ki (ha:PD X a ta) (hb:PD X b tb):xV X (.Compare a [.IsNot] [b] pos) (uv (yy (wG true) ta tb)):=qk (UJ.or UI) wG.QB wG.mo ha hb (qt _)
def ZY (td ty tv:zq):yO:=λ E Y S=>tv Y S λ v S1=>td Y S1 λ x S2=>ty Y S2 λ y S3=>∃ p ds k j,x=.ref p/\y=.int k/\S3 p=some (.lst ds)/\vh ds.length k=some j/\E.nx Y (ups S3 p (.lst (ds.set j v)))
theorem zm.set {H:Hp}{d:D}{x:V}(h:zg K H d x):∀ {ds:List D}{xs:List V}(j:Nat),zm K H ds xs->zm K H (ds.set j d) (xs.set j x)
 | [],xs,j,r=>by simp only[zm] at r;subst r;exact .nil
 | c::ds,xs,0,r=>by
  simp only[zm] at r;obtain⟨y,ys,rfl,_,r2⟩:=r;exact .cons h r2
 | c::ds,xs,j+1,r=>by
  simp only[zm] at r;obtain⟨y,ys,rfl,r1,r2⟩:=r;exact .cons r1 (zm.set h j r2)
def Uj (ho:PD X o td) (hi:PD X i ty) (hv:PD X v tv) (hs:swapsWithSole [.Subscript o i pos'] v pos.line X.env=pure false:=by rfl) (hw:swappedStores [.Subscript o i pos'] v X.env=pure none:=by rfl)
  (h1:(assignEach [.Subscript o i pos'] X.env).map (·.2)=[assign (.Subscript o i pos') X.env]:=by rfl)
  (ha:∀ v,assign (.Subscript o i pos') X.env v=(do
   let ov <- holding [v] (eval o X.env)
   let iv <- holding [v,ov] (eval i X.env)
   standAt pos'
   holding [v,ov,iv] (setItem ov iv v)
   release [v,ov,iv] []):=by intro _;rfl):vA X (.Assign [.Subscript o i pos'] v pos) (ZY td ty tv):=by
 refine⟨λ E E' Y S hE z=>hv.mo Y S _ _ (λ w S1 z=>ho.mo Y S1 _ _ (λ x S2 z=>hi.mo Y S2 _ _ (λ y S3 ⟨p,ds,k,j,a,b,c,d,h⟩=>⟨p,ds,k,j,a,b,c,d,hE.nx _ _ h⟩) z) z) z,PS.imp (bq hv.pe (VD ho.pe hi.pe set_list ha) hs hw h1) λ D B H hu=>?_⟩;obtain⟨Y,S,r1,r2,z⟩:=hu;refine zP.go hv.mo r1 r2 z λ w S1 w1 H1 h1 q1 e1 p1=>?_;refine zP.go ho.mo (r1.ext e1) p1 h1 λ x S2 w2 H2 h2 q2 e2 p2=>?_;refine zP.go hi.mo ((r1.ext e1).ext e2) p2 h2 λ y S3 w3 H3 h3 q3 e3 p3=>?_;obtain⟨p,ds,k,j,rfl,rfl,c1,c2,h⟩:=h3;simp only[zg] at q2 q3;subst q2 q3;obtain⟨xs,g1,g2⟩:=p3 _ _ c1;have e4:Ext H3 (upd H3 p (.lst (xs.set j w1))):=.lst g1 _;refine⟨p,xs,k,j,rfl,rfl,g1,by rw[<- g2.length];exact c2,?_⟩;exact h B _ ((((r1.ext e1).ext e2).ext e3).ext e4) (((e1.trans e2).trans e3).trans e4) (p3.ups e4 ⟨_,yL,zm.ext e4 _ (zm.set (zg.ext (e2.trans e3) w q1) j g2)⟩)
@[simp] noncomputable def az (n:Nat) (f v:Ev->Option T):Sm:=fun J=>(v J).bind λ z=>(f J).bind λ y=>match J[n]?,y with
 | some (some (.own (.lst ts))),.int k=>(vh ts.length k).map λ j=>.nx (J.set n (some (.own (.lst (ts.set j z)))))
 | _,_=>none
def Th {R:Rk}(n:Nat) {f v:Ev->Option T}(hf:yz f ty) (hv:vB v tv):yJ R (az n f v) (ZY (yD n) ty tv):=λ S0 Z0 S Z Y J o E F e P=>by
 obtain⟨z,e1,e⟩:=Ak e;obtain⟨x,e2,e3⟩:=Ak e;split at e3
 .rename_i ts k h;obtain⟨j,hj,rfl⟩:=AD e3;refine hv S Z Y J z _ F.er e1 λ dz S1 s1 r1=>?_;have F1:=F.grow s1;obtain⟨p,ob,h1,h2,h3,h4⟩:=F1.er.ow n _ h;cases ob with
  | yg _=>exact h3.elim
  | lst ds=>
   show yD n Y S1 _;unfold yD;rw[h1];refine hf S1 Z Y J _ _ F1.er e2 λ d S2 s2 r2=>?_;cases Vw.int r2;have h5:zl (zK S2 Z) ts ds:=zl.sx (wX s2) ts h3;exact⟨p,ds,k,j,rfl,rfl,s2 _ _ h2,by rw[h5.len];exact hj,P _ Z Y ((F1.grow s2).mut (us:=.lst (ts.set j z)) (es:=.lst (ds.set j dz)) n h h1 (h5.cI j (Sn.sx (wX s2) z r1)))⟩
 .cases e3
def Uz {x y:Str}{u:Value}(hm:X.mg x=some u) (r:RelV (.str y) u) (hg:Gl X x:=by rfl) (hd:(x == ("__debug__":Str))=false:=by decide):PD X (.Name x pos) (dC (.str y)):=ny (VX hg hm r hd) λ _=>by simp only[zg]
end
end L5
namespace ZP
open PySem PyProof.Rows
noncomputable def gK (k:Bool):String:=cond k "tuple_iterator" "list_iterator"
def SI (h:Heap) (k:Bool) (it l:Addr) (i:Nat):Prop:=∃ o,h.get? it=some o/\o.cls=.type (gK k)/\o.data=.fields #[.ref l,.int i 0]
def SQ (h:Heap) (k:Bool) (l:Addr) (xs:Array Value):Prop:=match k with
 | true=>h.IsTuple l xs
 | false=>h.IsList l xs
def SI.on {h h':Heap}{k:Bool}{it l:Addr}{i:Nat}(x:SI h k it l i) (f:∀ o,h.get? it=some o->h'.get? it=some o):SI h' k it l i:=
 let ⟨o,ho,r⟩:=x;⟨o,f o ho,r⟩
def SQ.on {h h':Heap}{k:Bool}{l:Addr}{xs:Array Value}(x:SQ h k l xs) (f:∀ o,h.get? l=some o->h'.get? l=some o):SQ h' k l xs:=by
 cases k with
 | true=>obtain⟨o,ho,r⟩:=(show h.IsTuple l xs from x);exact⟨o,f o ho,r⟩
 | false=>obtain⟨o,ho,r⟩:=(show h.IsList l xs from x);exact⟨o,f o ho,r⟩
def SQ.lt {h:Heap}{k:Bool}{l:Addr}{xs:Array Value}(x:SQ h k l xs):l<h.objs.size:=by
 cases k with
 | true=>obtain⟨o,ho,_⟩:=(show h.IsTuple l xs from x);exact Ap ho
 | false=>obtain⟨o,ho,_⟩:=(show h.IsList l xs from x);exact Ap ho
theorem SQ.cls {h:Heap}{k:Bool}{l:Addr}{xs:Array Value}(x:SQ h k l xs):∃ o,h.get? l=some o/\o.cls=.type (cond k "tuple" "list"):=by
 cases k with
 | true=>obtain⟨o,ho,c,_⟩:=(show h.IsTuple l xs from x);exact⟨o,ho,c⟩
 | false=>obtain⟨o,ho,c,_⟩:=(show h.IsList l xs from x);exact⟨o,ho,c⟩
section
variable {prog:Program}{w:World}{A:Around}{E:Value->Shared->Prop}{s:Shared}
def made {k:Bool}{l:Addr}{xs:Array Value}{Q:Value->Shared->Prop}(hl:SQ s.heap k l xs)
  (hQ:Q (.ref s.heap.objs.size) { s with heap:=s.heap.push { cls:=.type (gK k),data:=.fields #[.ref l,.int 0 0] } }):wpAny (model prog w) A (pyIter (.ref l)) Q E s:=by
 cases k with
 | true=>exact wpAny_pyIter_tuple hl hQ
 | false=>exact wpAny_pyIter_list hl hQ
def QX {it l:Addr}{i:Nat}{xs:Array Value}{x:Value}{Q:Value->Shared->Prop}(hit:s.heap.IsTupleIter it l i) (hl:s.heap.IsTuple l xs) (hx:xs[i]?=some x)
  (hQ:∀ h',h'.IsTupleIter it l (i+1)->Heap.SameBut it s.heap h'->Q x { s with heap:=h' }):wpAny (model prog w) A (Builtin.SmallTypes.nextOf (.ref it)) Q E s:=by
 have ht:=hit.typeIs;obtain⟨oi,e1,e2,e3⟩:=id hit;obtain⟨ol,g1,_,n,g2⟩:=hl;refine Ab (wpAny_callSpecial?_slot (name:=Str.ofString "__next__") ht F.slot_tuple_iterator_next (wpAny_call_entry F.slot_tuple_iterator_next ht F.entry_tuple_iterator_next ?_ (F.args_tuple_iterator_next_1 _)));refine Ab (m:=field (.ref it) 0) (wpAny_field e1 e3 (x:=.ref l) rfl ?_);dsimp only;rw[if_neg (show ¬ ((Value.ref l == Value.none)=true) from BA)];refine Ab (m:=field (.ref it) 1) (wpAny_field e1 e3 (x:=.int i 0) rfl ?_);dsimp only;refine Ab (m:=seqItems? (.ref l)) (wpAny_seqItems g1 g2 ?_);simp only[Co,hx];have there:=Heap.get?_update_self (Obj.mapFields λ y=>y.setIfInBounds 1 (rawInt ((i:Int)+1))) e1 (Obj.isFreed_of_fields (Obj.data_mapFields e3 _));refine Ab (wpAny_setField e1 e3 (by simp) (Ad ⟨x,rfl,Ad (hQ _ ⟨_,there,(Obj.cls_mapFields ..).trans e2,?_⟩ (Heap.SameBut.update ..))⟩));rw[Obj.data_mapFields e3];simp[rawInt]
def QP {it l:Addr}{i:Nat}{xs:Array Value}{Q:Value->Shared->Prop}(hh:A.handled=none) (hit:s.heap.IsTupleIter it l i) (hl:s.heap.IsTuple l xs) (hx:xs[i]?=none)
  (hE:∀ h' e,Heap.ExtBut it s.heap h'->(∃ o,h'.get? e=some o/\o.cls=.type "StopIteration")->E (.ref e) { s with heap:=h' }):wpAny (model prog w) A (Builtin.SmallTypes.nextOf (.ref it)) Q E s:=by
 have ht:=hit.typeIs;obtain⟨oi,e1,e2,e3⟩:=id hit;obtain⟨ol,g1,_,n,g2⟩:=hl;refine Ab (wpAny_callSpecial?_slot (name:=Str.ofString "__next__") ht F.slot_tuple_iterator_next (wpAny_call_entry F.slot_tuple_iterator_next ht F.entry_tuple_iterator_next ?_ (F.args_tuple_iterator_next_1 _)));refine Ab (m:=field (.ref it) 0) (wpAny_field e1 e3 (x:=.ref l) rfl ?_);dsimp only;rw[if_neg (show ¬ ((Value.ref l == Value.none)=true) from BA)];refine Ab (m:=field (.ref it) 1) (wpAny_field e1 e3 (x:=.int i 0) rfl ?_);dsimp only;refine Ab (m:=seqItems? (.ref l)) (wpAny_seqItems g1 g2 ?_);simp only[Co,hx];refine Ab (wpAny_rule (Ab (wpAny_setField e1 e3 (by simp) ?_)));refine Ab (m:=newExc (.type "StopIteration") []) ?_;simp only[newExc,newTuple];refine Ab (wpAny_newObj_type (Ab (m:=firstArgMember _ _) (wpAny_of_eq (a:=Value.none) (by first | rfl | (simp only[firstArgMember];rfl)) (wpAny_newObj_type ?_ (by size_fits)))) (by size_fits));simp only[raiseNew];refine Ab (wpAny_handled ?_);rw[show A.in1.handled=none from hh];exact Ab (Ad (wpAny_throw (hE _ _ (((Heap.SameBut.update ..).extBut.push _).push _) ⟨_,AE _ rfl,rfl⟩)))
def draw {k:Bool}{it l:Addr}{i:Nat}{xs:Array Value}{x:Value}{Q:Value->Shared->Prop}(hit:SI s.heap k it l i) (hl:SQ s.heap k l xs) (hx:xs[i]?=some x)
  (hQ:∀ h',SI h' k it l (i+1)->Heap.SameBut it s.heap h'->Q x { s with heap:=h' }):wpAny (model prog w) A (Builtin.SmallTypes.nextOf (.ref it)) Q E s:=by
 cases k with
 | true=>exact QX hit hl hx hQ
 | false=>exact wpAny_nextOf_list_item hit hl hx hQ
def kU {k:Bool}{it l:Addr}{i:Nat}{xs:Array Value}{Q:Value->Shared->Prop}(hh:A.handled=none) (hit:SI s.heap k it l i) (hl:SQ s.heap k l xs) (hx:xs[i]?=none)
  (hE:∀ h' e,Heap.ExtBut it s.heap h'->(∃ o,h'.get? e=some o/\o.cls=.type "StopIteration")->E (.ref e) { s with heap:=h' }):wpAny (model prog w) A (Builtin.SmallTypes.nextOf (.ref it)) Q E s:=by
 cases k with
 | true=>exact QP hh hit hl hx hE
 | false=>exact wpAny_nextOf_list_end hh hit hl hx hE
structure jv (z TI TO i1 i2 l1 l2:Addr):Prop where
 nd:[z,TI,TO,i1,i2].Nodup
 f1:l1∉[z,TI,TO,i1,i2]
 f2:l2∉[z,TI,TO,i1,i2]
structure At (h:Heap) (k1 k2:Bool) (z TI TO i1 i2 l1 l2:Addr) (f0:Value) (n:Nat):Prop where
 z:IsZip h z TI TO f0
 ti:IsPair h TI (.ref i1) (.ref i2)
 to:∃ a b,IsPair h TO a b
 s1:SI h k1 i1 l1 n
 s2:SI h k2 i2 l2 n
def At.keep {h h':Heap}{k1 k2:Bool}{z TI TO i1 i2 l1 l2:Addr}{f0:Value}{n:Nat}(S:At h k1 k2 z TI TO i1 i2 l1 l2 f0 n) (f:∀ b∈[z,TI,TO,i1,i2],∀ o,h.get? b=some o->h'.get? b=some o):At h' k1 k2 z TI TO i1 i2 l1 l2 f0 n:=
 ⟨f z (by simp) _ S.z,f TI (by simp) _ S.ti,let ⟨a,b,e⟩:=S.to;⟨a,b,f TO (by simp) _ e⟩,S.s1.on (f i1 (by simp)),S.s2.on (f i2 (by simp))⟩
def item {k1 k2:Bool}{z TI TO i1 i2 l1 l2:Addr}{n:Nat}{xs ys:Array Value}{x y:Value}{Q:Option Value->Shared->Prop}(D:jv z TI TO i1 i2 l1 l2) (S:At s.heap k1 k2 z TI TO i1 i2 l1 l2 .none n)
  (h1:SQ s.heap k1 l1 xs) (h2:SQ s.heap k2 l2 ys) (hx:xs[n]?=some x) (hy:ys[n]?=some y)
  (hQ:∀ h',At h' k1 k2 z TI TO i1 i2 l1 l2 (rawInt s.heap.objs.size) (n+1)->IsPair h' s.heap.objs.size x y->(∀ c o,c∉[z,TI,TO,i1,i2]->s.heap.get? c=some o->h'.get? c=some o)->Q (some (.ref s.heap.objs.size)) { s with heap:=h' }):
  wpAny (model prog w) A (pyNext (.ref z)) Q E s:=by
 obtain⟨nd,f1,f2⟩:=D;simp only[A_,Ah,AY,or_false,not_or,List.nodup_nil,and_true,not_false_eq_true] at nd f1 f2;obtain⟨⟨n1,n2,n3,n4⟩,⟨n5,n6,n7⟩,⟨n8,n9⟩,n10⟩:=nd;obtain⟨a1,a2,a3,a4,a5⟩:=f1;obtain⟨b1,b2,b3,b4,b5⟩:=f2;obtain⟨hz,DA,⟨a,b,D2⟩,s1,s2⟩:=S;have hT:s.TypeIs (.ref z) "zip":=⟨_,hz,rfl⟩
 unfold pyNext;refine Ab (wpAny_attempt (wpAny_callSpecial?_slot (name:=Str.ofString "__next__") hT F.slot_zip_next (wpAny_call_entry F.slot_zip_next hT F.entry_zip_next ?_ (F.args_zip_next_1 _))));refine Ab (m:=field (.ref z) 2) (wpAny_field hz rfl (x:=.bool false) rfl ?_);refine Ab (m:=field (.ref z) 3) (wpAny_field hz rfl (x:=.ref TI) rfl ?_);refine Ab (m:=seqItems? (.ref TI)) (wpAny_seqItems DA rfl ?_);refine Ab (m:=Builtin.SmallTypes.ownedTupleIsFree (.ref z)) (Ab (m:=field (.ref z) 0) (wpAny_field hz rfl (x:=.none) rfl (Ad ?_)));simp only[if_true];refine Ab (wpAny_rule (Ab (wpAny_field hz rfl (x:=.ref TO) rfl (Ab (wpAny_setField_rec hz (by simp) λ g1 hz1 e1=>?_)))));replace hz1:IsZip g1 z TI TO .ellipsis:=hz1;refine Ab ?_;simp only[Di,List.zipIdx_nil,Dx,List.forIn_nil];refine Ab (Ab (wpAny_onRaise (Ab (m:=Builtin.SmallTypes.nextOf (.ref i1)) (draw (s1.on λ o q=>e1.extBut _ _ (Ne.symm n3) q) (h1.on λ o q=>e1.extBut _ _ a1 q) hx λ g2 s12 e2=>Ad ?_))));have to2:IsPair g2 TO a b:=e2.extBut _ _ n8 (e1.extBut _ _ (Ne.symm n2) D2);refine Ab (wpAny_seqItems to2 rfl (Ab (wpAny_updateSeq_pair to2 λ g3 to3 e3=>Ab (wpAny_letGo (Ad ?_)))));replace to3:IsPair g3 TO x b:=to3;have up:∀ c o,c≠z->c≠i1->c≠TO->s.heap.get? c=some o->g3.get? c=some o:=λ c o c1 c2 c3 q=>e3.extBut _ _ c3 (e2.extBut _ _ c2 (e1.extBut _ _ c1 q));refine Ab (Ab (wpAny_onRaise (Ab (m:=Builtin.SmallTypes.nextOf (.ref i2)) (draw (s2.on λ o q=>up _ o (Ne.symm n4) (Ne.symm n10) (Ne.symm n9) q) (h2.on λ o q=>up _ o b1 b4 b3 q) hy λ g4 s24 e4=>Ad ?_))));have to4:IsPair g4 TO x b:=e4.extBut _ _ n9 to3;refine Ab (wpAny_seqItems to4 rfl (Ab (wpAny_updateSeq_pair to4 λ g5 to5 e5=>Ab (wpAny_letGo (Ad (Ad ?_))))));replace to5:IsPair g5 TO x y:=to5;refine Ab (wpAny_seqItems to5 rfl (Ab (wpAny_newTuple ?_)));have sz:g5.objs.size=s.heap.objs.size:=by rw[e5.1,e4.1,e3.1,e2.1,e1.1]
 have hz5:IsZip g5 z TI TO .ellipsis:=e5.extBut _ _ n2 (e4.extBut _ _ n4 (e3.extBut _ _ n2 (e2.extBut _ _ n3 hz1)));have up5:∀ c o,c∉[z,TI,TO,i1,i2]->s.heap.get? c=some o->g5.get? c=some o:=λ c o hc q=>by
  simp only[Ah,AY,or_false,not_or] at hc;exact e5.extBut _ _ hc.2.2.1 (e4.extBut _ _ hc.2.2.2.2 (up c o hc.1 hc.2.2.2.1 hc.2.2.1 q))
 have ti5:IsPair g5 TI (.ref i1) (.ref i2):=e5.extBut _ _ n5 (e4.extBut _ _ n7 (up _ _ (Ne.symm n1) n6 n5 DA));have s15:SI g5 k1 i1 l1 (n+1):=s12.on λ o q=>e5.extBut _ _ (Ne.symm n8) (e4.extBut _ _ n10 (e3.extBut _ _ (Ne.symm n8) q));have s25:SI g5 k2 i2 l2 (n+1):=s24.on λ o q=>e5.extBut _ _ (Ne.symm n9) q;have lz:z<g5.objs.size:=Ap hz5;refine Ab (m:=Builtin.SmallTypes.ownedTupleHandOut (.ref z) (.ref g5.objs.size)) ?_;have hz6:IsZip (g5.push { cls:=.type "tuple",data:=.seq #[x,y] }) z TI TO .ellipsis:=Ao _ hz5;refine Ab (wpAny_setField_rec hz6 (by simp) λ g7 hz7 e7=>?_);replace hz7:IsZip g7 z TI TO (rawInt g5.objs.size):=hz7;refine wpAny_setField_rec hz7 (by simp) λ g8 hz8 e8=>?_;replace hz8:IsZip g8 z TI TO (rawInt g5.objs.size):=hz8;have up8:∀ c o,c≠z->(g5.push { cls:=.type "tuple",data:=.seq #[x,y] }).get? c=some o->g8.get? c=some o:=λ c o c1 q=>e8.extBut _ _ c1 (e7.extBut _ _ c1 q);have T8:IsPair g8 g5.objs.size x y:=up8 _ _ (BL lz) (AE _ rfl);have up9:∀ c o,c≠z->g5.get? c=some o->g8.get? c=some o:=λ c o c1 q=>up8 c o c1 (Ao _ q);rw[sz] at hz8 T8;refine Ad ⟨.ref g5.objs.size,rfl,Ad ?_⟩;show Q (some (.ref g5.objs.size)) _;rw[sz];refine hQ g8 ⟨hz8,up9 _ _ (Ne.symm n1) ti5,⟨x,y,up9 _ _ (Ne.symm n2) to5⟩,s15.on λ o q=>up9 _ o (Ne.symm n3) q,s25.on λ o q=>up9 _ o (Ne.symm n4) q⟩ T8 λ c o hc q=>up9 c o (λ e=>hc (by simp[e])) (up5 c o hc q)
def stop {k1 k2:Bool}{z TI TO i1 i2 l1 l2:Addr}{n:Nat}{xs ys:Array Value}{Q:Option Value->Shared->Prop}(hh:A.handled=none) (D:jv z TI TO i1 i2 l1 l2) (S:At s.heap k1 k2 z TI TO i1 i2 l1 l2 .none n)
  (h1:SQ s.heap k1 l1 xs) (h2:SQ s.heap k2 l2 ys) (Be:xs[n]?=none\/ys[n]?=none)
  (hQ:∀ h',(∀ c o,c∉[z,TI,TO,i1,i2]->s.heap.get? c=some o->h'.get? c=some o)->Q none { s with heap:=h' }):
  wpAny (model prog w) A (pyNext (.ref z)) Q E s:=by
 obtain⟨nd,f1,f2⟩:=D;simp only[A_,Ah,AY,or_false,not_or,List.nodup_nil,and_true,not_false_eq_true] at nd f1 f2;obtain⟨⟨n1,n2,n3,n4⟩,⟨n5,n6,n7⟩,⟨n8,n9⟩,n10⟩:=nd;obtain⟨a1,a2,a3,a4,a5⟩:=f1;obtain⟨b1,b2,b3,b4,b5⟩:=f2;obtain⟨hz,DA,⟨a,b,D2⟩,s1,s2⟩:=S;have hT:s.TypeIs (.ref z) "zip":=⟨_,hz,rfl⟩
 have fin:∀ (h':Heap) (e:Addr),(∀ c o,c∉[z,TI,TO,i1,i2]->s.heap.get? c=some o->h'.get? c=some o)->(∃ o,h'.get? e=some o/\o.cls=.type "StopIteration")->
   wpAny (model prog w) A (do if <- isInstance (.ref e) (.type "StopIteration") then pure none else throw (.ref e)) Q E { s with heap:=h' }:=λ h' e k1 k2=>by
  obtain⟨o,ho,hc⟩:=k2;exact Ab (wpAny_isInstance (T:="StopIteration") (b:=true) ⟨o,ho,hc⟩ isSubtype_stop (Ad (hQ _ k1)))
 unfold pyNext;refine Ab (wpAny_attempt (wpAny_callSpecial?_slot (name:=Str.ofString "__next__") hT F.slot_zip_next (wpAny_call_entry F.slot_zip_next hT F.entry_zip_next ?_ (F.args_zip_next_1 _))));refine Ab (m:=field (.ref z) 2) (wpAny_field hz rfl (x:=.bool false) rfl ?_);refine Ab (m:=field (.ref z) 3) (wpAny_field hz rfl (x:=.ref TI) rfl ?_);refine Ab (m:=seqItems? (.ref TI)) (wpAny_seqItems DA rfl ?_);refine Ab (m:=Builtin.SmallTypes.ownedTupleIsFree (.ref z)) (Ab (m:=field (.ref z) 0) (wpAny_field hz rfl (x:=.none) rfl (Ad ?_)));simp only[if_true];refine Ab (wpAny_rule (Ab (wpAny_field hz rfl (x:=.ref TO) rfl (Ab (wpAny_setField_rec hz (by simp) λ g1 hz1 e1=>?_)))));replace hz1:IsZip g1 z TI TO .ellipsis:=hz1;refine Ab ?_;simp only[Di,List.zipIdx_nil,Dx,List.forIn_nil];cases hx:xs[n]? with
 | none=>
  refine Ab (Ab (wpAny_onRaise (Ab (m:=Builtin.SmallTypes.nextOf (.ref i1)) (kU hh (s1.on λ o q=>e1.extBut _ _ (Ne.symm n3) q) (h1.on λ o q=>e1.extBut _ _ a1 q) hx λ g2 ex e2 he=>?_))));have hz2:IsZip g2 z TI TO .ellipsis:=e2 _ _ n3 hz1;obtain⟨oe,q1,q2⟩:=he;have ne:ex≠z:=λ q=>by subst q;rw[hz2] at q1;cases q1;simp at q2
  refine wpAny_setField_rec hz2 (by simp) λ g3 _ e3=>fin g3 ex (λ c o hc q=>?_) ⟨oe,e3.extBut _ _ ne q1,q2⟩;simp only[Ah,AY,or_false,not_or] at hc;exact e3.extBut _ _ hc.1 (e2 _ _ hc.2.2.2.1 (e1.extBut _ _ hc.1 q))
 | some x=>
  have hy:ys[n]?=none:=Be.resolve_left (by rw[hx];simp);refine Ab (Ab (wpAny_onRaise (Ab (m:=Builtin.SmallTypes.nextOf (.ref i1)) (draw (s1.on λ o q=>e1.extBut _ _ (Ne.symm n3) q) (h1.on λ o q=>e1.extBut _ _ a1 q) hx λ g2 s12 e2=>Ad ?_))));have to2:IsPair g2 TO a b:=e2.extBut _ _ n8 (e1.extBut _ _ (Ne.symm n2) D2);refine Ab (wpAny_seqItems to2 rfl (Ab (wpAny_updateSeq_pair to2 λ g3 to3 e3=>Ab (wpAny_letGo (Ad ?_)))));have up:∀ c o,c≠z->c≠i1->c≠TO->s.heap.get? c=some o->g3.get? c=some o:=λ c o c1 c2 c3 q=>e3.extBut _ _ c3 (e2.extBut _ _ c2 (e1.extBut _ _ c1 q));refine Ab (Ab (wpAny_onRaise (Ab (m:=Builtin.SmallTypes.nextOf (.ref i2)) (kU hh (s2.on λ o q=>up _ o (Ne.symm n4) (Ne.symm n10) (Ne.symm n9) q) (h2.on λ o q=>up _ o b1 b4 b3 q) hy λ g4 ex e4 he=>?_))));have hz4:IsZip g4 z TI TO .ellipsis:=e4 _ _ n4 (e3.extBut _ _ n2 (e2.extBut _ _ n3 hz1));obtain⟨oe,q1,q2⟩:=he;have ne:ex≠z:=λ q=>by subst q;rw[hz4] at q1;cases q1;simp at q2
  refine wpAny_setField_rec hz4 (by simp) λ g5 _ e5=>fin g5 ex (λ c o hc q=>?_) ⟨oe,e5.extBut _ _ ne q1,q2⟩;simp only[Ah,AY,or_false,not_or] at hc;exact e5.extBut _ _ hc.1 (e4 _ _ hc.2.2.2.2 (up c o hc.1 hc.2.2.2.1 hc.2.2.1 q))
end
abbrev vR (k:Bool) (l:Addr):Obj:={ cls:=.type (gK k),data:=.fields #[.ref l,.int 0 0] }
abbrev pR (k1 k2:Bool) (h:Heap) (l1 l2:Addr):Heap:=(h.push (vR k1 l1)).push (vR k2 l2)
abbrev kH (k1 k2:Bool) (h:Heap) (l1 l2:Addr):Heap:=(pR k1 k2 h l1 l2).push { cls:=.type "tuple",data:=.seq #[.ref h.objs.size,.ref (h.push (vR k1 l1)).objs.size] }
abbrev kG (k1 k2:Bool) (h:Heap) (l1 l2:Addr):Heap:=(kH k1 k2 h l1 l2).push { cls:=.type "tuple",data:=.seq #[.none,.none] }
abbrev pQ (k1 k2:Bool) (h:Heap) (l1 l2:Addr):Heap:=(kG k1 k2 h l1 l2).push { cls:=.type "zip",data:=.fields #[.none,.bool false,.bool false,.ref (pR k1 k2 h l1 l2).objs.size,.ref (kH k1 k2 h l1 l2).objs.size] }
def Rf (k1 k2:Bool) (l1 l2:Addr) (xs ys:Array Value):Meets (Builtin.«zip.__new__» ⟨[.type "zip",.ref l1,.ref l2],[]⟩) (λ _ R s=>SQ s.heap k1 l1 xs/\SQ s.heap k2 l2 ys/\
   R (.ok (.ret (.ref (kG k1 k2 s.heap l1 l2).objs.size))) { s with heap:=pQ k1 k2 s.heap l1 l2 }):=
 .of_wp λ prog w A R s h=>by
  obtain⟨hp,g,d,tk,os⟩:=s;obtain⟨q1,q2,h⟩:=h;have D3:=sub_zip;have m1:SQ (Shared.heap ⟨hp,g,d,tk,os⟩) k1 l1 xs:=q1;have m2:SQ (Shared.heap ⟨hp.push (vR k1 l1),g,d,tk,os⟩) k2 l2 ys:=q2.on λ o e=>Ao _ e
  wp_walk using made m1,made m2
  exact⟨_,rfl,h⟩
section
variable {prog:Program}{w:World}{A:Around}{E:Value->Shared->Prop}{s:Shared}
def new {k1 k2:Bool}{l1 l2:Addr}{xs ys:Array Value}{Q:Value->Shared->Prop}(h1:SQ s.heap k1 l1 xs) (h2:SQ s.heap k2 l2 ys)
  (h:∀ h' z TI TO i1 i2,(∀ b∈[z,TI,TO,i1,i2],s.heap.objs.size<=b)->jv z TI TO i1 i2 l1 l2->At h' k1 k2 z TI TO i1 i2 l1 l2 .none 0->(∀ c o,s.heap.get? c=some o->h'.get? c=some o)->Q (.ref z) { s with heap:=h' }):
  wpAny (model prog w) A (call (.type "zip") [.ref l1,.ref l2]) Q E s:=by
 refine callType_new F.called_zip (by decide) (F.typeCall_zip_2 _ _) (F.newCall_zip_2 _ _) (λ obj=>F.args_object_init_3 obj _ _) F.entry_zip_new (Rf k1 k2 l1 l2 xs ys) ⟨h1,h2,?_⟩;have z1:(s.heap.push (vR k1 l1)).objs.size=s.heap.objs.size+1:=Heap.size_push ..;have z2:(pR k1 k2 s.heap l1 l2).objs.size=s.heap.objs.size+2:=by rw[Heap.size_push,z1]
 have z3:(kH k1 k2 s.heap l1 l2).objs.size=s.heap.objs.size+3:=by rw[Heap.size_push,z2]
 have z4:(kG k1 k2 s.heap l1 l2).objs.size=s.heap.objs.size+4:=by rw[Heap.size_push,z3]
 have p1:∀ (h:Heap) (o:Obj),o.isFreed=false->(h.push o).get? h.objs.size=some o:=λ h o e=>AE _ e;have u:∀ {h:Heap}{b:Addr}{o:Obj}(o':Obj),h.get? b=some o->(h.push o').get? b=some o:=λ o' e=>Ao _ e;have g5:(pQ k1 k2 s.heap l1 l2).get? (kG k1 k2 s.heap l1 l2).objs.size=some _:=p1 _ _ rfl;have g4:(pQ k1 k2 s.heap l1 l2).get? (kH k1 k2 s.heap l1 l2).objs.size=some _:=u _ (p1 _ _ rfl);have g3:(pQ k1 k2 s.heap l1 l2).get? (pR k1 k2 s.heap l1 l2).objs.size=some _:=u _ (u _ (p1 _ _ rfl));have g2:(pQ k1 k2 s.heap l1 l2).get? (s.heap.push (vR k1 l1)).objs.size=some (vR k2 l2):=u _ (u _ (u _ (p1 _ _ rfl)));have g1:(pQ k1 k2 s.heap l1 l2).get? s.heap.objs.size=some (vR k1 l1):=u _ (u _ (u _ (u _ (p1 _ _ rfl))));have a1:=h1.lt;have a2:=h2.lt;rw[z2,z3,z4] at g5;rw[z1,z2] at g3;rw[z3] at g4;rw[z1] at g2;generalize hN:s.heap.objs.size=N at *;have lt:∀ {m:Nat},m<N->∀ j:Nat,¬ m=N+j:=λ hm j=>by lia
 have ne:∀ {i j:Nat},i≠j->¬ (N+i=N+j):=λ A3 e=>A3 (by lia);show _/\_;rw[z4];refine⟨⟨_,g5,rfl⟩,h _ (N+4) (N+2) (N+3) N (N+1) (λ b hb=>?_) ⟨?_,?_,?_⟩ ⟨g5,g3,⟨_,_,g4⟩,⟨_,g1,rfl,rfl⟩,⟨_,g2,rfl,rfl⟩⟩ λ c o e=>u _ (u _ (u _ (u _ (u _ e))))⟩
 .simp only[Ah,AY,or_false] at hb;have h0:N<=N:=Ag N;rcases hb with e | e | e | e | e <;> subst e
  .exact B8 N 4
  .exact B8 N 2
  .exact B8 N 3
  .exact h0
  .exact B8 N 1
 .have e0:∀ {i:Nat},i≠0->¬ (N+i=N):=λ hi e=>hi (by lia);have e0':∀ {i:Nat},i≠0->¬ (N=N+i):=λ hi e=>hi (by lia);simp only[A_,Ah,AY,or_false,not_or,List.nodup_nil,and_true,not_false_eq_true];exact⟨⟨ne (by decide),ne (by decide),e0 (by decide),ne (by decide)⟩,⟨ne (by decide),e0 (by decide),ne (by decide)⟩,⟨e0 (by decide),ne (by decide)⟩,e0' (by decide)⟩
 .simp only[Ah,AY,or_false,not_or];exact⟨lt a1 4,lt a1 2,lt a1 3,Aw a1,lt a1 1⟩
 .simp only[Ah,AY,or_false,not_or];exact⟨lt a2 4,lt a2 2,lt a2 3,Aw a2,lt a2 1⟩
end
end ZP
namespace L2
open PySem PySem.Spec PyProof.Rows ZP
section
variable {X:Cx}{pins:List (Addr×Obj)}{B:St}{H:Hp}{s:Shared}
def Inv.lK {h':Heap}{t':Nat}{fp:List Addr}(I:Inv X pins B H s) (k:∀ b o,b∉fp->s.heap.get? b=some o->h'.get? b=some o) (hf:∀ b∈fp,vX X pins H b):Inv X pins B H { s with heap:=h',toks:=t' }:=by
 have nit:∀ b u,H b=some u->b∉fp:=λ b u e z=>by rw[(hf b z).1] at e;cases e
 refine I.step (g':=s.gens) (d':=s.drawn) (ch:=fp) (λ b hb=>?_) (λ b o _ _ hc e _=>k b o hc e) (λ b o _ _ hc e _=>⟨o.slots,k b o hc e⟩) (λ _ _ _ _ n=>n)
  (λ b o hc e=>⟨o,k b o hc e⟩) (λ _ _ e=>e) (λ _ _ _ e=>e) (λ b ps e=>⟨#[],by rw[e];simp⟩) (λ m hm=>?_) (λ b u e=>?_) I.bare
 .obtain⟨_,q1,_,q2,q3,q4⟩:=hf b hb;exact⟨q2,q1,q3,q4⟩
 .obtain⟨o,es,ep,ho,r⟩:=hm;exact⟨o,es,ep,k _ o (λ z=>(hf _ z).2.1 rfl) ho,r⟩
 .refine (I.zx b u e).tY (λ c v hc q=>k c v ?_ q) (λ _ q=>q) λ _ _ q=>q;rcases hc with z | z
  .rw[z];exact nit b u e
  .exact nit c _ z
def w6 (K:Ac) (H:Hp) (k:Bool) (a:Addr) (xs:List V):Prop:=match k with
 | true=>z_ K H a xs
 | false=>zO K H a xs
def w6.of (I:Inv X pins B H s) {k:Bool}{a:Addr}{xs:List V}(h:w6 X.K H k a xs):∃ its:List Value,Vals xs its/\SQ s.heap k a its.toArray:=by
 cases k with
 | true=>obtain⟨its,rv,p,_⟩:=I.tuple h;exact⟨its,rv,p⟩
 | false=>obtain⟨its,rv,p,_⟩:=I.list h;exact⟨its,rv,p.isList⟩
def w6.inj (I:Inv X pins B H s) {k:Bool}{a:Addr}{xs ys:List V}(h:w6 X.K H k a xs) (h':w6 X.K H k a ys):xs=ys:=by
 cases k with
 | true=>exact I.jF h h'
 | false=>exact I.gE h h'
def Y8 (K:Ac) (k1 k2:Bool) (a1 a2:Addr):It:=
 ⟨λ i H=>∃ xs ys x y,w6 K H k1 a1 xs/\w6 K H k2 a2 ys/\xs[i]?=some x/\ys[i]?=some y,
   λ i H v H'=>∃ p x y,v=.ref p/\H p=none/\H'=upd H p (.tup [x,y])/\(∀ xs,w6 K H k1 a1 xs->xs[i]?=some x)/\∀ ys,w6 K H k2 a2 ys->ys[i]?=some y,
   λ i H=>∃ xs ys,w6 K H k1 a1 xs/\w6 K H k2 a2 ys/\(xs.length<=i\/ys.length<=i)⟩
def X6 {P:Program}{w:World}{K:Ac}{es:List Expr}{kk} {pos:Pos}{k1 k2:Bool}{z TI TO i1 i2 a1 a2:Addr}(D:jv z TI TO i1 i2 a1 a2):
  Turn P w K (.Tuple es kk pos) (Y8 K k1 k2 a1 a2) [z,TI,TO,i1,i2] z (λ i h=>At h k1 k2 z TI TO i1 i2 a1 a2 .none i) where
 mem:=by simp
 obj:=λ i h st b hb=>by
  obtain⟨q1,q2,⟨_,_,q3⟩,⟨o1,q4,_,d1⟩,⟨o2,q5,_,d2⟩⟩:=st;simp only[Ah,AY,or_false] at hb;rcases hb with e | e | e | e | e <;> subst e
  .exact⟨_,q1,λ v z=>by cases z⟩
  .exact⟨_,q2,λ v z=>by cases z⟩
  .exact⟨_,q3,λ v z=>by cases z⟩
  .exact⟨_,q4,λ v z=>by rw[d1] at z;cases z⟩
  .exact⟨_,q5,λ v z=>by rw[d2] at z;cases z⟩
 keep:=λ i h h' st k=>st.keep k
 item:=by
  intro X hP hw hK hc i pins s B H E I hf st hg;subst hP hw hK;obtain⟨xs,ys,x,y,g1,g2,hx,hy⟩:=hg;obtain⟨it1,rv1,q1⟩:=g1.of I;obtain⟨it2,rv2,q2⟩:=g2.of I;obtain⟨u1,e1,r1⟩:=rv1.get hx;obtain⟨u2,e2,r2⟩:=rv2.get hy;refine ZP.item D st q1 q2 (x:=u1) (y:=u2) (by simpa using e1) (by simpa using e2) λ h' S' T' up=>⟨_,rfl,?_⟩;refine wpAny_letOwnedTupleGo_zip S'.z λ h2 z2 sb=>?_;have nT:s.heap.objs.size∉[z,TI,TO,i1,i2]:=λ hb=>by
   obtain⟨o,ho,_⟩:=(show ∃ o,s.heap.get? s.heap.objs.size=some o/\True from by
    obtain⟨w1,w2,⟨_,_,w3⟩,⟨o1,w4,_⟩,⟨o2,w5,_⟩⟩:=st;simp only[Ah,AY,or_false] at hb;rcases hb with e | e | e | e | e <;> rw[e]
    .exact⟨_,w1,trivial⟩
    .exact⟨_,w2,trivial⟩
    .exact⟨_,w3,trivial⟩
    .exact⟨_,w4,trivial⟩
    .exact⟨_,w5,trivial⟩)
   exact absurd (Ap ho) (BO _)
  have nz:s.heap.objs.size≠z:=λ e=>nT (by simp[e]);have fr:H s.heap.objs.size=none:=I.zx.fresh (Ag _);have I1:Inv X pins B (upd H s.heap.objs.size (.tup [x,y])) { s with heap:=s.heap.push { cls:=.type "tuple",data:=.seq [u1,u2].toArray },toks:=s.toks }:=
   I.laid (o:=.tup [x,y]) (λ b u q=>Ao _ q) (Ag _) ⟨by show 2<=sizeLine;decide,[u1,u2],.cons r1 (.cons r2 .nil),IsTup.new _ _⟩
  have hf':∀ b∈[z,TI,TO,i1,i2],upd H s.heap.objs.size (.tup [x,y]) b=none:=λ b hb=>by
   rw[yG (λ e=>nT (by rw[<- e];exact hb))];exact (hf b hb).1
  have kk:∀ b o,b∉[z,TI,TO,i1,i2]->(s.heap.push { cls:=.type "tuple",data:=.seq [u1,u2].toArray }).get? b=some o->h2.get? b=some o:=λ b o hb q=>by
   have hbz:b≠z:=λ e=>hb (by simp[e]);by_cases Df:b=s.heap.objs.size
   .subst Df;rw[AE _ rfl] at q;cases q;exact sb.extBut _ _ nz T'
   .have q':s.heap.get? b=some o:=by rw[Heap.get?_push_ne _ _ _ Df] at q;exact q
    exact sb.extBut _ _ hbz (up b o hb q')
  have I2:=Inv.lK (h':=h2) (t':=s.toks) (fp:=[z,TI,TO,i1,i2]) I1 kk λ b hb=>⟨hf' b hb,(hf b hb).2⟩;refine⟨.ref s.heap.objs.size,_,I2,rfl,⟨_,x,y,rfl,fr,rfl,λ zs hz=>by rw[hz.inj I g1];exact hx,λ zs hz=>by rw[hz.inj I g2];exact hy⟩,⟨z2,?_,?_,?_,?_⟩,hf'⟩
  .have nd:=D.nd;simp only[A_,Ah,AY,or_false,not_or] at nd;exact sb.extBut _ _ (Ne.symm nd.1.1) S'.ti
  .obtain⟨a,b,e⟩:=S'.to;have nd:=D.nd;simp only[A_,Ah,AY,or_false,not_or] at nd;exact⟨a,b,sb.extBut _ _ (Ne.symm nd.1.2.1) e⟩
  .have nd:=D.nd;simp only[A_,Ah,AY,or_false,not_or] at nd;exact S'.s1.on λ o q=>sb.extBut _ _ (Ne.symm nd.1.2.2.1) q
  .have nd:=D.nd;simp only[A_,Ah,AY,or_false,not_or] at nd;exact S'.s2.on λ o q=>sb.extBut _ _ (Ne.symm nd.1.2.2.2) q
 done:=by
  intro X hP hw hK hc i pins s B H E I hf st hg;subst hP hw hK;obtain⟨xs,ys,g1,g2,hx⟩:=hg;obtain⟨it1,rv1,q1⟩:=g1.of I;obtain⟨it2,rv2,q2⟩:=g2.of I;have l1:=rv1.length;have l2:=rv2.length;refine ZP.stop (I.ok.hd hc) D st q1 q2 ?_ λ h' up=>⟨rfl,I.lK (t':=s.toks) up hf⟩;rcases hx with hx | hx
  .exact .inl (by simp;lia)
  .exact .inr (by simp;lia)
 self:=λ _ _ _ _ _ st h=>wpAny_pyIter_zip st.z h
def Qh (K:Ac) (ta:TA):TI:=fun B H R=>ta B H λ vs H1=>∃ a1 a2 k1 k2,vs=[.ref a1,.ref a2]/\(∃ xs,w6 K H1 k1 a1 xs)/\(∃ ys,w6 K H1 k2 a2 ys)/\R (Y8 K k1 k2 a1 a2) H1
def V5 {a b:Expr}{ta:TA}{p pos pos':Pos}{es:List Expr}{kk} (hg:Gl X "zip") (hm:X.mg "zip"=none) (ha:PA X [a,b] ta) (hs:starEach [a,b] X.env=[(false,eval a X.env),(false,eval b X.env)]:=by rfl) (hs2:starEach [b] X.env=[(false,eval b X.env)]:=by rfl):
  PI X (.Tuple es kk pos') (.Call (.Name "zip" p) [a,b] [] pos) (Qh X.K ta):=by
 intro pins s B H R I h;refine Call_ (rD I hg hm boot_zip (PyProof.Rows.callWith_type1 (zG (ha pos pins s B H _ I h) λ us s1 ⟨vs,H1,I1,r1,q1⟩=>?_) (by rw[hs,hs2]) (by rw[hs2];rfl)));obtain⟨a1,a2,k1,k2,rfl,⟨xs,g1⟩,⟨ys,g2⟩,q⟩:=q1;cases r1 with
 | cons r rr=>
  cases rr with
  | cons r' rr=>
   cases rr;cases r;cases r';obtain⟨it1,_,q1⟩:=g1.of I1;obtain⟨it2,_,q2⟩:=g2.of I1;refine ZP.new q1 q2 λ h' z TI TO i1 i2 nw D S up=>wpAny_pyIter_zip S.z ?_;exact⟨z,[z,TI,TO,i1,i2],_,_,H1,rfl,I1.kept (t':=s1.toks) up,X6 D,S,λ b hb=>I1.me (nw b hb) (I1.zx.fresh (nw b hb)),q⟩
end
end L2
namespace L5
open PySem PySem.Spec L2 L3
open PyProof.Rows hiding St
section
variable {X:Cx}{K:Ac}{a b:Expr}{tA:yp}{pos p pos':Pos}
def aR (t:yp):wJ:=fun Y S R=>t Y S λ ds S1=>∃ d e xs ys,ds=[d,e]/\zL d S1=some xs/\zL e S1=some ys/\R ⟨List.zipWith (λ x y=>D.tup [x,y]) xs ys,λ S=>zL d S=some xs/\zL e S=some ys⟩ S1
noncomputable def nU:D->Bool
 | .tup _=>true
 | _=>false
def zL.k {H:Hp}{S:SS}{d:D}{v:V}{ds:List D}(r:zg K H d v) (p:zJ K H S) (e:zL d S=some ds):∃ a xs,v=.ref a/\w6 K H (nU d) a xs/\zm K H ds xs:=by
 by_cases q:∃ ts,d=.tup ts
 .obtain⟨ts,rfl⟩:=q;cases e;simp only[zg] at r;obtain⟨a,xs,h1,h2,h3⟩:=r;exact⟨a,xs,h1,h2,h3⟩
 .obtain⟨a,xs,h1,h2,h3⟩:=pb r p e λ ts z=>q ⟨ts,z⟩;refine⟨a,xs,h1,?_,h3⟩;have:nU d=false:=by cases d <;> first | rfl | exact absurd ⟨_,rfl⟩ q
  rw[this];exact h2
end
section
variable {X:Cx}{K:Ac}{a b:Expr}{tA:yp}{pos p pos':Pos}{es:List Expr}{kk:Nat}
def Um (hm:X.mg "zip"=none) (ha:xA X [a,b] tA) (hg:Gl X "zip":=by rfl) (hs:starEach [a,b] X.env=[(false,eval a X.env),(false,eval b X.env)]:=by rfl) (hs2:starEach [b] X.env=[(false,eval b X.env)]:=by rfl):
  sL X (.Tuple es kk pos') (.Call (.Name "zip" p) [a,b] [] pos) (aR tA):=by
 refine⟨fun Y S Q Q' hq z=>ha.mo Y S _ _ (λ ds S1 ⟨d,e,xs,ys,h1,h2,h3,h4⟩=>⟨d,e,xs,ys,h1,h2,h3,hq _ _ h4⟩) z,PI.imp (V5 hg hm ha.pa hs hs2) fun B H R hu=>?_⟩;obtain⟨Y,S,r1,r2,z⟩:=hu;refine wC.go ha.mo r1 r2 z λ ds S1 vs H1 h1 q1 e1 p1=>?_;obtain⟨d,e,xs,ys,rfl,s1,s2,h⟩:=h1;obtain⟨v,u,rfl,d1,d2⟩:=q1.two;obtain⟨a1,us,rfl,g1,g2⟩:=zL.k d1 p1 s1;obtain⟨a2,ws,rfl,g3,g4⟩:=zL.k d2 p1 s2;refine⟨a1,a2,nU d,nU e,rfl,⟨us,g1⟩,⟨ws,g3⟩,h _ H1 e1 p1 λ i H2 S2 x1 x2 hk=>?_⟩;obtain⟨b1,us2,q1,m1,m2⟩:=zL.k (zg.ext x1 d d1) x2 hk.1;cases q1;obtain⟨b2,ws2,q2,m3,m4⟩:=zL.k (zg.ext x1 e d2) x2 hk.2;cases q2;have l1:=m2.length;have l2:=m4.length;refine⟨λ dd hd=>?_,λ hl=>⟨us2,ws2,m1,m3,?_⟩⟩
 .rw[List.getElem?_zipWith] at hd;split at hd
  .rename_i dx dy hx hy;cases hd;obtain⟨x,hx',rx⟩:=m2.get hx;obtain⟨y,hy',ry⟩:=m4.get hy;refine⟨⟨us2,ws2,x,y,m1,m3,hx',hy'⟩,λ v H' q=>?_⟩;obtain⟨pp,x',y',rfl,hp,rfl,f1,f2⟩:=q;have ex:x'=x:=by have:=f1 _ m1;rw[hx'] at this;exact (A4 this).symm
   have ey:y'=y:=by have:=f2 _ m3;rw[hy'] at this;exact (A4 this).symm
   subst ex ey;refine⟨.new hp _,x2.new hp,?_⟩;simp only[zg];exact⟨pp,_,rfl,z_.of yL,zm.ext (.new hp _) _ (.cons rx (.cons ry .nil))⟩
  .cases hd
 .have hl':(List.zipWith (λ x y=>D.tup [x,y]) xs ys).length<=i:=hl;rw[List.length_zipWith] at hl';lia
@[simp] noncomputable def oJ:List T->Option (List T)
 | [x,y]=>(xF x).bind λ xs=>(xF y).map λ ys=>List.zipWith (λ a b=>T.tup [a,b]) xs ys
 | _=>none
theorem cB {S:SS}:∀ {ts us:List T}{ds es:List D},zl S ts ds->zl S us es->zl S (List.zipWith (λ a b=>T.tup [a,b]) ts us) (List.zipWith (λ x y=>D.tup [x,y]) ds es)
 | [],us,ds,es,h,h'=>by simp only[zl] at h;subst h;simpa using zl.nil
 | t::ts,[],ds,es,h,h'=>by simp only[zl] at h';subst h';simpa using zl.nil
 | t::ts,u::us,ds,es,h,h'=>by
  simp only[zl] at h h';obtain⟨c,cs,rfl,h1,h2⟩:=h;obtain⟨c',cs',rfl,h3,h4⟩:=h';exact zl.cons (qZ (zl.cons h1 (zl.cons h3 zl.nil))) (cB h2 h4)
def zL.sx {S S':SS}{d:D}{ds:List D}(h:zL d S=some ds) (s:Sx S S'):zL d S'=some ds:=by
 unfold zL at h ⊢;split at h
 .exact h
 .exact h
 .split at h
  .rename_i q;cases h;rw[s _ _ q]
  .cases h
 .cases h
theorem zL.zK {S:SS}{Z:Addr->Prop}{y:T}{d:D}{ts:List T}(h:Sn (zK S Z) y d) (e:xF y=some ts):∃ ds,zL d (zK S Z)=some ds/\zl (zK S Z) ts ds:=by
 cases y with
 | tup us=>cases e;simp only[Sn] at h;obtain⟨ds,rfl,h2⟩:=h;exact⟨ds,rfl,h2⟩
 | lst us=>
  cases e;simp only[Sn] at h;obtain⟨ds,⟨rfl,_⟩ | ⟨a,rfl,h1⟩,h2⟩:=h
  .exact⟨ds,rfl,h2⟩
  .exact⟨ds,by unfold zL;dsimp only;rw[h1],h2⟩
 | zi=>cases e
 | bl _=>cases e
 | int _=>cases e
 | str _=>cases e
 | zT=>cases e
def Tr {g:Ev->Option (List T)}(h:qO g tA):rX true (wq oJ g) (aR tA):=λ S Z Y J ts Q hE e hq=>by
 obtain⟨ys,e1,e2⟩:=Ak e;refine h S Z Y J ys _ hE e1 λ ds S1 s1 r1=>?_;unfold oJ at e2;split at e2
 .obtain⟨xs,e3,e4⟩:=Ak e2;obtain⟨zs,e5,rfl⟩:=AD e4;simp only[zl] at r1;obtain⟨d,_,rfl,h1,d',_,rfl,h2,rfl⟩:=r1;obtain⟨es,g1,g2⟩:=zL.zK h1 e3;obtain⟨es',g3,g4⟩:=zL.zK h2 e5;exact⟨d,d',es,es',rfl,zL.sx g1 (pS S1 Z),zL.sx g3 (pS S1 Z),hq _ S1 s1 (cB g2 g4) λ S'' s=>⟨zL.sx g1 s,zL.sx g3 s⟩⟩
 .cases e2
end
end L5
namespace HT
open PySem PyProof.Rows
section
variable {prog:Program}{w:World}{A:Around}{E:Value->Shared->Prop}{s:Shared}
end
end HT
namespace L2
open PySem PySem.Spec PyProof.Rows
section
variable {X:Cx}
end
end L2
namespace L5
open PySem PySem.Spec L2 L3
open PyProof.Rows hiding St
section
variable {X:Cx}{K:Ac}{e:Expr}{lo hi:Option Expr}{te:zq}{tl th:Option zq}{pos p2:Pos}
end
end L5
namespace TM
open PySem PyProof.Rows
set_option maxRecDepth 100000
def noFill:fillsNumberSlot (.type "tuple") "mul"=pure false:=
 PySem.fillsNumberSlot_seq (id:="tuple.__mul__") (r:=some (.builtin "tuple.__rmul__")) F.slot_tuple_mul.lookup (by decide +kernel) F.slot_tuple_rmul.lookup (by decide +kernel)
def rep:seqRepeat? (.type "tuple")=pure (some (.builtin "tuple.__mul__")):=by
 have a:=PySem.seqSlot_of (T:="tuple") (name:="__mul__") (id:="tuple.__mul__") F.slot_tuple_mul.lookup (by decide +kernel);have b:=PySem.seqSlot_of (T:="tuple") (name:="__rmul__") (id:="tuple.__rmul__") F.slot_tuple_rmul.lookup (by decide +kernel);unfold seqRepeat?;rw[a,b];rfl
def declines (i:Int) (t:Tok) (l:Addr) (items:Array Value) (n:Nat) (dd:Option Addr) (sl:Array (Option Value)):
  Meets (Builtin.«int.__rmul__» ⟨[.int i t,.ref l],[]⟩) (λ _ R s=>s.heap.get? l=some { cls:=.type "tuple",dict:=dd,data:=.seq items n,slots:=sl }/\R (.ok (.ret Value.notImplemented)) s):=
 .of_wp λ prog w A R s h=>by
  obtain⟨hp,g,d,tk,os⟩:=s;obtain⟨hl,h⟩:=h
  wp_walk
  exact⟨_,rfl,h⟩
theorem fu {α:Type}(xs:List α):∀ (m:Nat) (acc:Array α),(List.replicate m xs.toArray).foldl (·++·) acc=acc++(List.replicate m xs).flatten.toArray
 | 0,acc=>by simp
 | m+1,acc=>by
  rw[BK,Dm,fu xs m,BK,Ca,Array.append_assoc];simp
def SV (k:Int) (t:Tok) (l:Addr) (items:Array Value) (n:Nat) (dd:Option Addr) (sl:Array (Option Value)) (h1:¬ (decide (k < -(2 ^ 63))||decide (k≥2 ^ 63))=true) (h2:¬ (items.isEmpty||k == 1)=true) (h3:¬ (decide (k<=0)||items.isEmpty)=true)
  (h4:¬ (items.size*k>(2 ^ 63-1)/8)) (h5:¬ Builtin.Tuple.tupleTooMany (items.size*k)=true) (h6:((List.replicate k.toNat items).foldl (·++·) #[]).size<=sizeLine):
  Meets (Builtin.«tuple.__mul__» ⟨[.ref l,.int k t],[]⟩) (λ _ R s=>s.heap.get? l=some { cls:=.type "tuple",dict:=dd,data:=.seq items n,slots:=sl }/\
   R (.ok (.ret (.ref s.heap.objs.size))) { s with heap:=s.heap.push { cls:=.type "tuple",data:=.seq ((List.replicate k.toNat items).foldl (·++·) #[]) } }):=
 .of_wp λ prog w A R s h=>by
  obtain⟨hp,g,d,tk,os⟩:=s;obtain⟨hl,h⟩:=h;have e0:IsTup (Shared.heap ⟨hp,g,d,tk,os⟩) l items:=⟨_,hl,rfl,n,rfl⟩
  wp_walk
  rw[if_neg h1];refine Ab (m:=Builtin.Tuple.tupleItemsOf (.ref l)) (tupleItemsOf_ e0 ?_);dsimp only;rw[if_neg h2,if_neg h3,if_neg h4,if_neg h5];exact Ab (m:=Builtin.Tuple.tupleExact _) (wpAny_newObj_type (Ad ⟨_,rfl,h⟩) h6)
def SW (t:Tok) (l:Addr) (items:Array Value) (n:Nat) (dd:Option Addr) (sl:Array (Option Value)):
  Meets (Builtin.«tuple.__mul__» ⟨[.ref l,.int 1 t],[]⟩) (λ _ R s=>s.heap.get? l=some { cls:=.type "tuple",dict:=dd,data:=.seq items n,slots:=sl }/\R (.ok (.ret (.ref l))) s):=
 .of_wp λ prog w A R s h=>by
  obtain⟨hp,g,d,tk,os⟩:=s;obtain⟨hl,h⟩:=h;have c:(items.isEmpty||(1:Int) == 1)=true:=by simp
  wp_walk
  exact⟨_,rfl,h⟩
section
variable {prog:Program}{w:World}{A:Around}{E:Value->Shared->Prop}{s:Shared}
def times {l:Addr}{its:List Value}{k:Int}{t:Tok}{Q:Value->Shared->Prop}(ht:IsTup s.heap l its.toArray) (Ai:its≠[]) (h0:1<=k) (hz:its.length*k.toNat<=sizeLine)
  (one:k=1->Q (.ref l) s) (more:k≠1->Q (.ref s.heap.objs.size) { s with heap:=s.heap.push { cls:=.type "tuple",data:=.seq (List.replicate k.toNat its).flatten.toArray } }):
  wpAny (model prog w) A (binaryOp .Mult (.ref l) (.int k t)) Q E s:=by
 have hT:=ht.typeIs;obtain⟨⟨cls,dd,data,sl⟩,ho,hc,n,hd⟩:=id ht;simp only at hc hd;subst hc hd;refine wpAny_binaryOp_repeat_ref (T:="tuple") (U:="int") (by decide) hT (λ s'=>typeIs_int s' k t) noFill F.fills_int_mul F.slot_int_rmul rep F.slot_int_index.lookup
  (call_meets F.slot_int_rmul (typeIs_int s k t) F.entry_int_rmul (F.args_int_rmul_2 _ _) (declines k t l its.toArray n dd sl) ⟨ho,rfl,hT,?_⟩)
 have hlen:0<its.length:=List.length_pos_iff.mpr Ai;have DD:its.toArray.isEmpty=false:=by cases its with
  | nil=>exact absurd rfl Ai
  | cons a r=>rfl
 by_cases h1:k=1
 .subst h1;exact call_meets F.slot_tuple_mul hT F.entry_tuple_mul (F.args_tuple_mul_2 _ _) (SW t l its.toArray n dd sl) ⟨ho,one rfl⟩
 .have hks:k.toNat<=sizeLine:=Bl (Nat.le_mul_of_pos_left _ hlen) hz;have hl:sizeLine=16777216:=rfl;have hk2:k<=16777216:=by lia
  have hcast:((its.toArray.size:Nat):Int)*k=((its.length*k.toNat:Nat):Int):=by
   rw[Av,Int.natCast_mul,CN (by lia)]
  have hf:(List.replicate k.toNat its.toArray).foldl (·++·) #[]=(List.replicate k.toNat its).flatten.toArray:=by rw[fu];simp
  have Cj:(List.replicate k.toNat its).flatten.length=k.toNat*its.length:=by simp
  refine call_meets F.slot_tuple_mul hT F.entry_tuple_mul (F.args_tuple_mul_2 _ _) (SV k t l its.toArray n dd sl ?_ ?_ ?_ ?_ ?_ ?_) ⟨ho,?_⟩
  .simp only[DH,decide_eq_true_eq,not_or];exact⟨by lia,by lia⟩
  .rw[DD];simpa using h1
  .rw[DD];simp;lia
  .rw[hcast];lia
  .rw[hcast];intro q;unfold Builtin.Tuple.tupleTooMany at q;have:=of_decide_eq_true q;lia
  .rw[hf,Av,Cj,Dr];exact hz
  .rw[hf];exact more h1
end
end TM
namespace L2
open PySem PySem.Spec PyProof.Rows
def iE (K:Ac):R2:=λ x y H Q=>∃ a k xs,x=.ref a/\y=.int k/\z_ K H a xs/\xs≠[]/\1<=k/\xs.length*k.toNat<=sizeLine/\(k=1->Q (.ref a) H)/\(k≠1->∀ p,H p=none->Q (.ref p) (upd H p (.tup (List.replicate k.toNat xs).flatten)))
def UL {X:Cx}:yj X (binaryOp .Mult) (iE X.K):=by
 intro pins s B H x y v u Q I rx ry h;obtain⟨a,k,xs,rfl,rfl,hx,Ai,h1,hz,q1,q2⟩:=h;cases rx;obtain⟨t,rfl⟩:=ry;obtain⟨its,r,ht,_⟩:=I.tuple hx;have hl:=r.length;refine TM.times ht (λ z=>Ai (r.nI.mp z)) h1 (by rw[<- hl];exact hz) (λ e=>⟨.ref a,H,I,rfl,q1 e⟩) λ e=>?_;have hlen:(List.replicate k.toNat xs).flatten.length<=sizeLine:=by
  have:(List.replicate k.toNat xs).flatten.length=k.toNat*xs.length:=by simp
  rw[this,Dr];exact hz
 exact⟨.ref _,_,I.laid (t':=s.toks) (o:=.tup (List.replicate k.toNat xs).flatten) (λ b ob q=>Ao _ q) (Ag _) ⟨hlen,_,r.rep k.toNat,IsTup.new _ _⟩,rfl,q2 e _ (I.zx.fresh (Ag _))⟩
end L2
namespace L5
open PySem PySem.Spec L2 L3
open PyProof.Rows hiding St
section
variable {X:Cx}{K:Ac}{a b:Expr}{ta tb:zq}{pos:Pos}
def tI:yW:=λ x y S Q=>match x,y with
 | .int i,.int j=>vH i j/\Q (.int (i*j)) S
 | .tup ds,.int k=>(ds≠[]/\1<=k/\ds.length*k.toNat<=sizeLine)/\Q (.tup (List.replicate k.toNat ds).flatten) S
 | _,_=>False
noncomputable def gr:T->T->Option T
 | .int i,.int j=>if vH i j then some (.int (i*j)) else none
 | .tup ts,.int k=>if ts≠[]/\1<=k/\ts.length*k.toNat<=sizeLine then some (.tup (List.replicate k.toNat ts).flatten) else none
 | _,_=>none
def tI.mo:xN tI:=λ x y S Q Q' hq h=>by
 unfold tI at h ⊢;split at h
 .exact⟨h.1,hq _ _ h.2⟩
 .exact⟨h.1,hq _ _ h.2⟩
 .exact h.elim
theorem zm.rep {H:Hp}{ds:List D}{xs:List V}(h:zm K H ds xs):∀ n:Nat,zm K H (List.replicate n ds).flatten (List.replicate n xs).flatten
 | 0=>.nil
 | n+1=>by
  rw[BK,BK,Ca,Ca];exact h.append (zm.rep h n)
def tI.fits:xD K tI (λ x y H Q=>rI vH (λ i j=>.int (i*j)) x y H Q\/iE K x y H Q):=λ x y d e H S Q h1 h2 h3 h=>by
 unfold tI at h;split at h
 .simp only[zg] at h1 h2;exact .inl ⟨_,_,h1,h2,h.1,h.2 _ H (by simp only[zg]) (.refl H) h3⟩
 .rename_i ds k;obtain⟨⟨c1,c2,c3⟩,h⟩:=h;have h1':=h1;simp only[zg] at h1 h2;obtain⟨a,xs,rfl,g1,g2⟩:=h1;have hl:=g2.length;refine .inr ⟨a,k,xs,rfl,h2,g1,λ z=>c1 (by subst z;cases ds with | nil=>rfl | cons _ _=>simp at hl),c2,by rw[<- hl];exact c3,λ e=>?_,λ e p hp=>?_⟩
  .subst e;refine h _ H ?_ (.refl H) h3;have:(List.replicate (1:Int).toNat ds).flatten=ds:=by simp
   rw[this];exact h1'
  .refine h _ _ ?_ (.new hp _) (h3.new hp);simp only[zg];exact⟨p,_,rfl,z_.of yL,zm.ext (.new hp _) _ (zm.rep g2 _)⟩
 .exact h.elim
theorem zl.rep {S:SS}{ts:List T}{ds:List D}(h:zl S ts ds):∀ n:Nat,zl S (List.replicate n ts).flatten (List.replicate n ds).flatten
 | 0=>.nil
 | n+1=>by
  rw[BK,BK,Ca,Ca];exact h.append (zl.rep h n)
def Zq:Good2 zH gr tI:=λ S Z x y z d e Q hz hx hy ef hq=>by
 unfold gr at ef;split at ef
 .split at ef
  .rename_i hc;cases ef;cases hx.int;cases hy.int;exact⟨hc,hq _ S (.refl S) (Cl.of (λ _=>nofun) xX)⟩
  .cases ef
 .split at ef
  .rename_i hc;cases ef;obtain⟨ds,rfl,h2⟩:=hx.tup;cases hy.int;have hl:=h2.len;exact⟨⟨λ q=>hc.1 (by subst q;simpa using hl.symm),hc.2.1,by rw[hl];exact hc.2.2⟩,hq _ S (.refl S) (Cl.of (λ _=>nofun) (qZ (zl.rep h2 _)))⟩
  .cases ef
 .cases ef
end
end L5
namespace L4
open PySem PyProof.Rows
section
variable {prog:Program}{w:World}{A:Around}{E:Value->Shared->Prop}{s:Shared}
def Pt {l:Addr}{vs:List Value}{Q:List Value->Shared->Prop}(hl:IsTup s.heap l vs.toArray) (hz:vs.length<=sizeLine)
  (h:Q vs { s with heap:=(s.heap.push (seqObj "list" #[] 0)).update s.heap.objs.size (Obj.mapSeq (·++vs.toArray)) }):wpAny (model prog w) A (collect (.ref l)) Q E s:=by
 obtain⟨o,ho,hc,n,hd⟩:=id hl;have new:(s.heap.push (seqObj "list" #[] 0)).get? s.heap.objs.size=some (seqObj "list" #[] 0):=AE _ rfl;have ho':(s.heap.push (seqObj "list" #[] 0)).get? l=some o:=Ao _ ho;unfold collect;refine Ab (wpAny_runValue (codeAny_builtin entry_proto_collect' (Ab (m:=newList []) (wpAny_newList (Ad ⟨Code.quiet_builtin _ (by decide +kernel),codeAny_builtin entry_list_iadd' ?_⟩)))));show wpAny _ _ (Builtin.List.listExtendWith (.ref s.heap.objs.size) (.ref l) (.ref s.heap.objs.size)) _ _ { s with heap:=s.heap.push (seqObj "list" #[] 0) };unfold Builtin.List.listExtendWith;refine Ab (wpAny_typeOf (T:="tuple") ⟨o,ho',hc⟩ ?_);rw[if_pos (by rw[show (Value.type "tuple" == Value.type "tuple")=true from rfl];simp)];refine Ab (listItems_at ho' hd (Ab (listItems_at (xs:=#[]) (n:=0) new rfl ?_)));rw[if_neg (by simp)];refine Ab (listUpdate_at (xs:=#[]) (n:=0) new rfl (Ad ?_) (AN _) (by show (#[]++vs.toArray).size<=sizeLine+1;simp only[Array.size_append,Av,CL];lia));refine Ab (m:=load s.heap.objs.size) (wpAny_load (get?_update_seq new _) ?_);show wpAny _ _ (pure ((#[]:Array Value)++vs.toArray).toList) Q E _;have e:((#[]:Array Value)++vs.toArray).toList=vs:=by simp
 rw[e];exact Ad h
def Wm {l:Addr}{vs:List Value}{Q:Value->Shared->Prop}{Out:Array Value->Prop}(hl:IsTup s.heap l vs.toArray) (hz:vs.length<=sizeLine)
  (core:2<=vs.length->∀ s6:Shared,(∀ b o,s.heap.get? b=some o->s6.heap.get? b=some o)->Core prog w A.in1.in1 E vs Out s6) (short:vs.length<2->Out vs.toArray)
  (fin:∀ out:Array Value,Out out->out.size=vs.length->Q (.ref (s.heap.objs.size+1)) { s with heap:=sortedAll s.heap vs out }):
  wpAny (model prog w) A (call (.builtin "sorted") [.ref l]) Q E s:=by
 let h1:=(s.heap.push (seqObj "list" #[] 0)).update s.heap.objs.size (Obj.mapSeq (·++vs.toArray))
 have sz:h1.objs.size=s.heap.objs.size+1:=by show (Heap.update _ _ _).objs.size=_;rw[Heap.size_update,size_push']
 have there:(h1.push (seqObj "list" vs.toArray 0)).get? (s.heap.objs.size+1)=some (seqObj "list" vs.toArray 0):=sz▸AE _ rfl;have keep:∀ b o,s.heap.get? b=some o->(h1.push (seqObj "list" vs.toArray 0)).get? b=some o:=λ b o q=>by
  refine Ao _ ?_;show (Heap.update _ _ _).get? b=_;rw[Heap.get?_update_ne _ _ _ _ (Aw (Ap q))];exact Ao _ q
 refine Calls.call_function_entry kind_sorted plain_sorted entry_sorted (args_sorted1 _) ?_;unfold Builtin.«sorted»;refine Ab (m:=checkCount "sorted" 1 1 _) (Ad (Ab (Pt hl hz (Ab (wpAny_newList ?_ hz)))));show wpAny _ _ _ _ _ { s with heap:=h1.push (seqObj "list" vs.toArray 0) };rw[show (Heap.update (s.heap.push (seqObj "list" #[] 0)) s.heap.objs.size (Obj.mapSeq (·++vs.toArray))).objs.size=s.heap.objs.size+1 from sz];refine Ab (wpAny_holding (wpAny_call_entry slot_list_sort ⟨_,there,rfl⟩ entry_list_sort (gD there hz (λ h2 s6 k=>core h2 s6 λ b o q=>k b o (Aw (Bu (Ap q))) (keep b o q)) short λ out g1 g2=>⟨_,rfl,?_⟩) (args_list_sort _)));exact Ad ⟨_,rfl,fin out g1 g2⟩
end
section
open L2 PySem.Spec
variable {X:Cx}
def PC:yK X (.builtin "sorted") (λ xs H Q=>∃ p ys,∃ rows:List (List Int),xs=[.ref p]/\z_ X.K H p ys/\Paired (λ v r=>r≠[]/\∃ b,v=V.ref b/\z_ X.K H b (r.map V.int)) ys rows/\rows.length<64/\
  ∀ (l:Addr) (idx:List Nat),H l=none->idx.Perm (List.range ys.length)->(idx.map λ i=>rows.getD i []).Pairwise (λ a b=>HT.lexLt b a=false)->Q (.ref l) (upd H l (.lst (idx.map λ i=>ys.getD i .zi)))):=by
 intro pins s B H xs us Q I r h;obtain⟨p,ys,rows,rfl,hq,hr,h64,q⟩:=h;obtain⟨u,rfl,ru⟩:=vals1 r;cases ru;obtain⟨its,rv,pl,hz⟩:=I.tuple hq;have hl:=rv.length;have BQ:ys.length=rows.length:=Paired.length hr;have rows_at:∀ h6:Heap,(∀ b o,s.heap.get? b=some o->h6.get? b=some o)->sJ h6 its rows:=λ h6 k=>by
  refine ST.Paired.mk (by lia) λ i a b ha hb=>?_;have hi:i<ys.length:=by have:=(AK.mp hb).1;lia
  obtain⟨Ai,c,hc,Ce⟩:=L4.Paired.at' hr (i:=i) hi V.zi ([]:List Int);obtain⟨u,e1,e2⟩:=rv.get (i:=i) (x:=ys.getD i V.zi) (by simp[hi]);rw[ha] at e1;cases e1;rw[hc] at e2;cases (show a=Value.ref c from e2);obtain⟨its2,rv2,⟨o,e,AM,n,hd⟩,_⟩:=I.tuple Ce;have eb:rows.getD i []=b:=by simp[hb]
  rw[eb] at Ai rv2;exact⟨Ai,c,o,_,n,rfl,k _ _ e,AM,hd,by simpa using intsAre_of rv2⟩
 refine Wm (Out:=m_ its rows) pl (by rw[<- hl];exact hz) (λ h2 s6 k=>fJ (rows_at _ k) h2 (by lia)) (λ h1=>?_) λ out ho hs=>?_
 .refine⟨List.range its.length,.refl _,?_,?_⟩
  .refine Bs (by simp) λ i h1 h2=>?_;simp at h1;simp[h1]
  .rw[B9,Cs];intro i j hi hj A3;simp at hi hj;lia
 .obtain⟨idx,g1,g2,g3⟩:=ho;obtain⟨e,ho⟩:=sortedAll_at s.heap its out;have g1':idx.Perm (List.range ys.length):=by rw[hl];exact g1
  refine⟨.ref (s.heap.objs.size+1),_,I.laid (t':=s.toks) (o:=.lst (idx.map λ i=>ys.getD i .zi)) (λ b o q=>sortedAll_old q) (CW _) ?_,rfl,q _ idx (I.zx.fresh (CW _)) g1' g3⟩;refine⟨by rw[Ay,g1'.length_eq,BP];exact hz,out.toList,e,?_,by simpa using ho⟩;rw[g2];refine ST.Paired.mk (by simp) λ j a b ha hb=>?_;rw[Az] at ha hb;obtain⟨i,hi,rfl⟩:=AD ha;rw[hi] at hb;cases hb;have CP:i<ys.length:=by simpa using g1'.mem_iff.mp (Bb hi)
  obtain⟨u,e1,e2⟩:=rv.get (i:=i) (x:=ys.getD i V.zi) (by simp[CP]);have e3:its.getD i Value.none=u:=by simp[e1]
  show L2.RelV (ys.getD i V.zi) (its.getD i Value.none);rw[e3];exact e2
end
end L4
namespace L5
open PySem PySem.Spec L2 L3
open PyProof.Rows hiding St
section
variable {X:Cx}{K:Ac}{e:Expr}{es:List Expr}{tA:yp}{pos p pos2 p2:Pos}
def rG:x9:=λ ds S Q=>∃ d,∃ rows:List (List Int),ds=[d]/\zL d S=some (rows.map wj)/\rows.length<64/\(∀ r∈rows,r≠[])/\∀ l,S l=none->Q (.ref l) (ups S l (.lst ((L4.xO rows).map wj)))
noncomputable def qX:List T->Option T
 | [y]=>(xF y).bind λ ts=>(v_ ts).bind λ rs=>if rs.length<64/\∀ r∈rs,r≠[] then some (.lst ((L4.xO rs).map zM)) else none
 | _=>none
def Qt:vE zH qX rG:=λ S Z ys z ds Q hz hv e hq=>by
 unfold qX at e;split at e
 .obtain⟨d,rfl,h1⟩:=vI hv;obtain⟨ts,e0,e⟩:=Ak e;obtain⟨rs,e1,e2⟩:=Ak e;split at e2
  .rename_i hc;cases e2;cases i7 e1;obtain⟨es,h2,h3⟩:=h1.seq e0;cases qY.mp h3;exact⟨d,rs,rfl,h2,hc.1,hc.2,λ l hl=>hq _ _ (.new hl _) (ra hz hl (qY.mpr rfl))⟩
  .cases e2
 .cases e
def rG.mo:vD rG:=λ ds S Q Q' hq ⟨d,rows,h0,h1,h2,h3,h4⟩=>⟨d,rows,h0,h1,h2,h3,λ l hl=>hq _ _ (h4 l hl)⟩
abbrev cW (K:Ac) (sq:Hp->Addr->List V->Prop):List V->Hp->VK->Prop:=λ xs H Q=>∃ p ys,∃ rows:List (List Int),xs=[.ref p]/\sq H p ys/\Paired (λ v r=>r≠[]/\∃ b,v=V.ref b/\z_ K H b (r.map V.int)) ys rows/\rows.length<64/\
  ∀ (l:Addr) (idx:List Nat),H l=none->idx.Perm (List.range ys.length)->(idx.map λ i=>rows.getD i []).Pairwise (λ a b=>HT.lexLt b a=false)->Q (.ref l) (upd H l (.lst (idx.map λ i=>ys.getD i .zi)))
def yK.or {f:Value}{r r':List V->Hp->VK->Prop}(h:yK X f r) (h':yK X f r'):yK X f (λ xs H Q=>r xs H Q\/r' xs H Q):=λ pins s B H xs us Q I rv q=>
 q.elim (λ q=>h pins s B H xs us Q I rv q) λ q=>h' pins s B H xs us Q I rv q
def rG.fits:uC K rG (λ xs H Q=>cW K (zO K) xs H Q\/cW K (z_ K) xs H Q):=λ xs ds H S Q h0 h2 h=>by
 obtain⟨d,rows,rfl,e,h64,Ai,h⟩:=h;obtain⟨x,hx,h1⟩:=h0.one;subst hx;obtain⟨a,ys,rfl,g1,g2⟩:=zL.sq h1 h2 e;have hl:=g2.length;rw[Ay] at hl;have key:∀ (l:Addr) (idx:List Nat),H l=none->idx.Perm (List.range ys.length)->(idx.map λ i=>rows.getD i []).Pairwise (λ a b=>HT.lexLt b a=false)->Q (.ref l) (upd H l (.lst (idx.map λ i=>ys.getD i .zi))):=λ l idx hf hp hs=>by
  rw[<- hl] at hp;have heq:=L4.c8 (ax hp) hs;have hx:Ext H (upd H l (.lst (idx.map λ i=>ys.getD i .zi))):=.new hf _;refine h l (h2.none hf) _ _ (by simp only[zg]) hx (h2.ups hx ⟨_,yL,?_⟩);rw[<- heq];exact zm.ext hx _ (g2.perm λ i hi=>by simpa using hp.mem_iff.mp hi)
 rcases g1 with g1 | g1
 .exact .inl ⟨_,ys,rows,rfl,g1,oX g2 Ai,h64,key⟩
 .exact .inr ⟨_,ys,rows,rfl,g1,oX g2 Ai,h64,key⟩
def bC (hm:X.mg "sorted"=none) (ha:xA X (e::es) tA) (hg:Gl X "sorted":=by rfl) (he:starEach (e::es) X.env=(false,eval e X.env)::starEach es X.env:=by rfl) (Aq:(backTo pos (starEach es X.env)).any (·.1)=false:=by rfl):PD X (.Call (.Name "sorted" p) (e::es) [] pos) (xK rG tA):=
 tw (se (yK.or L4.PK L4.PC) hg hm boot_sorted ha.pa (by decide) (by decide) he Aq) rG.mo rG.fits ha.mo
end
end L5
namespace L2
open PySem PySem.Spec PyProof.Rows
section
variable {X:Cx}
def u7 (r:Addr) (j:Int):Heap->Prop:=λ h=>∃ t u v,IsRange h r 0 j 1 t u v
def PQ:yK X (.type "range") (λ xs H Q=>∃ j,xs=[.int j]/\∀ r,H r=none->Q (.ref r) (upd H r (.ext (u7 r j)))):=by
 intro pins s B H xs us Q I r h;obtain⟨j,rfl,q⟩:=h;obtain⟨u,rfl,ru⟩:=vals1 r;obtain⟨t,rfl⟩:=ru;refine call_range_1 ⟨.ref s.heap.objs.size,_,I.laid (o:=.ext (u7 s.heap.objs.size j)) (λ b o e=>Ao _ e) (Ag _) ?_,rfl,q _ (I.zx.fresh (Ag _))⟩;have here:u7 s.heap.objs.size j (s.heap.push { cls:=.type "range",data:=.fields #[.int 0 s.toks,.int j t,.int 1 (s.toks+1)] }):=⟨_,_,_,IsRange.new ..⟩
 refine⟨here,⟨_,AE _ rfl⟩,λ h1 h2 S k=>?_⟩;obtain⟨a,b,c,e⟩:=S;exact⟨a,b,c,k _ e⟩
def PY (hc:X.calm=true):yK X (.type "list") (λ xs H Q=>∃ r j,xs=[.ref r]/\H r=some (.ext (u7 r j))/\0<=j/\j<=16777216/\∀ l,H l=none->Q (.ref l) (upd H l (.lst ((List.range j.toNat).map λ(k:Nat)=>V.int (k:Int))))):=by
 intro pins s B H xs us Q I r h;obtain⟨a,j,rfl,hr,h0,h1,q⟩:=h;obtain⟨u,rfl,ru⟩:=vals1 r;cases ru;obtain⟨⟨t,u,v,hR⟩,-,-⟩:=(show xg X.prog X.w H s.heap a (.ext (u7 a j)) from I.zx a _ hr)
 have hsz:Builtin.Range.rangeSize 0 j 1=((j.toNat:Nat):Int):=by rw[rangeSize_one];split <;> lia
 refine call_list_range (n:=j.toNat) (I.ok.hd hc) hR (small_one (by decide) (by decide) (by lia) (by lia)) hsz (by lia) λ h' tk acc c k e hi=>?_;refine⟨.ref s.heap.objs.size,_,I.laid (o:=.lst ((List.range j.toNat).map λ(k:Nat)=>V.int (k:Int))) k (Ag _) ⟨?_,acc.toList,c,?_,by simpa using e⟩,rfl,q _ (I.zx.fresh (Ag _))⟩
 .have:sizeLine=16777216:=rfl;simp;lia
 .obtain⟨hn,hi⟩:=hi;refine ST.Paired.mk (by simp[hn]) λ i a b ha hb=>?_;rw[Az] at ha;obtain⟨k',hk,rfl⟩:=AD ha;obtain⟨hk1,hk2⟩:=AK.mp hk;simp at hk2;subst hk2;obtain⟨w,hw⟩:=hi i b (by simpa using hb);subst hw;exact⟨w,by simp⟩
end
end L2
namespace L5
open PySem PySem.Spec L2 L3
open PyProof.Rows hiding St
section
variable {X:Cx}{K:Ac}{e:Expr}{tA:yp}{pos p pos2 p2:Pos}
def sC:x9:=λ ds S Q=>∃ j:Int,ds=[.int j]/\0<=j/\j<=16777216/\∀ l,S l=none->Q (.ref l) (ups S l (.lst (vL 0 j.toNat)))
noncomputable def nQ:List T->Option T
 | [.int j]=>if 0<=j/\j<=16777216 then some (.lst (rangeT 0 j.toNat)) else none
 | _=>none
def Qw:vE zH nQ sC:=λ S Z ys z ds Q hz hv e hq=>by
 unfold nQ at e;split at e
 .obtain⟨d,rfl,h1⟩:=vI hv;split at e
  .rename_i hc;cases e;cases h1.int;exact⟨_,rfl,hc.1,hc.2,λ l hl=>hq _ _ (.new hl _) (ra hz hl (cC _ _))⟩
  .cases e
 .cases e
def sC.mo:vD sC:=λ ds S Q Q' hq ⟨j,h0,h1,h2,h3⟩=>⟨j,h0,h1,h2,λ l hl=>hq _ _ (h3 l hl)⟩
def WO {H:Hp}(n:Nat):zm K H (vL 0 n) ((List.range n).map λ(k:Nat)=>V.int (k:Int)):=by
 unfold vL
 induction List.range n with
 | nil=>exact .nil
 | cons k l ih=>exact .cons (by simp only[zg];rw[Int.zero_add]) ih
def sC.fits:uC K sC (λ xs H Q=>∃ j,xs=[.int j]/\∀ r,H r=none->∃ r' j',[V.ref r]=[.ref r']/\(upd H r (.ext (u7 r j))) r'=some (.ext (u7 r' j'))/\0<=j'/\j'<=16777216/\
  ∀ l,(upd H r (.ext (u7 r j))) l=none->Q (.ref l) (upd (upd H r (.ext (u7 r j))) l (.lst ((List.range j'.toNat).map λ(k:Nat)=>V.int (k:Int))))):=λ xs ds H S Q h0 h2 h=>by
 obtain⟨j,rfl,c1,c2,h⟩:=h;obtain⟨x,hx,h1⟩:=h0.one;subst hx;simp only[zg] at h1;subst h1;refine⟨j,rfl,λ r hr=>⟨r,j,rfl,yL,c1,c2,λ l hl=>?_⟩⟩;have x1:Ext H (upd H r (.ext (u7 r j))):=.new hr _;have BQ:l≠r:=λ z=>by subst z;rw[yL] at hl;cases hl
 have hlH:H l=none:=by rw[yG BQ] at hl;exact hl
 have x2:Ext (upd H r (.ext (u7 r j))) (upd (upd H r (.ext (u7 r j))) l (.lst ((List.range j.toNat).map λ(k:Nat)=>V.int (k:Int)))):=.new hl _;exact h l (h2.none hlH) _ _ (by simp only[zg]) (x1.trans x2) ((h2.new hr).ups x2 ⟨_,yL,WO _⟩)
def Ux (hm:X.mg "list"=none) (hm2:X.mg "range"=none) (ha:xA X [e] tA) (hc:X.calm=true:=by rfl) (hg:Gl X "list":=by rfl) (hg2:Gl X "range":=by rfl)
  (he2:starEach [e] X.env=(false,eval e X.env)::starEach [] X.env:=by rfl)
  (he:starEach [.Call (.Name "range" p2) [e] [] pos2] X.env=(false,eval (.Call (.Name "range" p2) [e] [] pos2) X.env)::starEach [] X.env:=by rfl) (Aq:(backTo pos (starEach [] X.env)).any (·.1)=false:=by rfl) (hpl2:(backTo pos2 (starEach [] X.env)).any (·.1)=false:=by rfl):
  PD X (.Call (.Name "list" p) [.Call (.Name "range" p2) [e] [] pos2] [] pos) (xK sC tA):=by
 have h:=nk (p:=p) (PY hc) hg hm PyProof.Rows.boot_list (qp (nk PQ hg2 hm2 boot_range ha.pa (by decide) (by decide) he2 hpl2) pC he) (by decide) (by decide) he Aq;exact⟨xK.mo sC.mo ha.mo,PE.imp h λ _ _ _ hu=>cp sC.mo sC.fits ha.mo hu⟩
end
end L5
namespace ST
open PySem PySem.SetTable PySem.Spec PyProof.Rows L2
def Qe {us us':List Value}(p:us'.Perm us):∀ {ms:List Int},IntsAre us ms->∃ ms',IntsAre us' ms'/\ms'.Perm ms:=by
 induction p with
 | nil=>intro ms h;exact⟨ms,h,.refl _⟩
 | cons x _ ih=>
  intro ms h;cases h with
  | cons n t h=>
   obtain⟨ms',h1,h2⟩:=ih h;exact⟨n::ms',.cons n t h1,h2.cons n⟩
 | swap x y l=>
  intro ms h;cases h with
  | cons n t h=>
   cases h with
   | cons m u h=>exact⟨m::n::_,.cons m u (.cons n t h),.swap _ _ _⟩
 | trans _ _ ih1 ih2=>
  intro ms h;obtain⟨m1,h1,h2⟩:=ih2 h;obtain⟨m2,h3,h4⟩:=ih1 h1;exact⟨m2,h3,h4.trans h2⟩
def vW.at {prog:Program}{w:World}{h:Heap}{a:Addr}{xs:List (Int×Tok)}(S:vW prog w h a xs (vP w)):yP w a (xs.map λ e=>Value.int e.1 e.2) h:=by
 obtain⟨⟨es,ep,t,ho,he,T,h1,h2,h3⟩,_⟩:=S;have hm:7<=t.mask/\t.mask<=127:=by rcases T.mask with e | e | e <;> lia
 have hlen:es.size=xs.length:=by have:=congrArg List.length he;simpa using this
 exact⟨es,ep,t,⟨ho,fits_of (n:=xs.length) hlen T (by simp) (by lia),T.wM,h1,h2⟩,by rw[he,AG];rfl⟩
theorem Zk:∀ xs:List (Int×Tok),IntsAre (xs.map λ e=>Value.int e.1 e.2) (xs.map (·.1))
 | []=>.nil
 | e::xs=>.cons e.1 e.2 (Zk xs)
theorem dZ:∀ {us:List Value}{ns:List Int},IntsAre us ns->Vals (ns.map V.int) us
 | _,_,.nil=>.nil
 | _,_,.cons n t h=>.cons ⟨t,rfl⟩ (dZ h)
section
variable {X:Cx}
def PM (hc:X.calm=true):yK X (.type "set") (λ xs H Q=>∃ p,∃ ns:List Int,xs=[.ref p]/\zO X.K H p (ns.map V.int)/\ns.length<64/\
  ∀ (l:Addr) (us:List Value) (ms:List Int),H l=none->IntsAre us ms->ms.Nodup->(∀ n,n∈ms↔n∈ns)->Q (.ref l) (upd H l (.ext (yP X.w l us)))):=by
 intro pins s B H xs us Q I r h;obtain⟨p,ns,rfl,hq,h64,q⟩:=h;obtain⟨u,rfl,ru⟩:=vals1 r;cases ru;obtain⟨its,rv,pl,hz⟩:=I.list hq;have hl:=rv.length;rw[Ay] at hl;have iA:IntsAre its ns:=intsAre_of rv;have nums:Nums its.toArray ns:=λ i v hv=>by
  have hv':its[i]?=some v:=by simpa using hv
  have hi:i<ns.length:=by rw[hl];exact (AK.mp hv').1
  obtain⟨u,e1,t,e2⟩:=rv.get (i:=i) (x:=V.int ns[i]) (by simp[hi]);rw[hv'] at e1;cases e1;exact⟨ns[i],t,e2,by simp[hi]⟩
 have hh:X.A.handled=none:=I.ok.hd hc;refine PN (A:=X.A) hh pl.isList nums (by rw[Av];lia) λ h' tk xs S U k=>?_;have kk:∀ b o,s.heap.get? b=some o->h'.get? b=some o:=λ b o e=>k b o (Ap e) e;have hSO:=S.at;refine⟨.ref s.heap.objs.size,_,I.laid (t':=tk) (o:=.ext (yP X.w s.heap.objs.size (xs.map λ e=>Value.int e.1 e.2))) kk (Ag _) ?_,rfl,q _ _ (xs.map (·.1)) (I.zx.fresh (Ag _)) (Zk xs) S.nd λ n=>⟨λ hn=>?_,λ hn=>?_⟩⟩
 .obtain⟨es,ep,t,St,e⟩:=id hSO;exact⟨hSO,⟨_,St.get⟩,λ h1 h2 S1 k=>S1.tY k⟩
 .obtain⟨e,he,rfl⟩:=Al.mp hn;obtain⟨j,_,hj⟩:=U.own e he;exact Bb hj
 .obtain⟨j,hj⟩:=Dl.mp hn;exact U.all j n (by have:=(AK.mp hj).1;rw[Av];lia) hj
def PH (hc:X.calm=true):yK X (.builtin "sorted") (λ xs H Q=>∃ l us,∃ ms:List Int,xs=[.ref l]/\H l=some (.ext (yP X.w l us))/\IntsAre us ms/\ms.length<64/\
  ∀ (p:Addr) (ns:List Int),H p=none->ns.Perm ms->ns.Pairwise (·<=·)->Q (.ref p) (upd H p (.lst (ns.map V.int)))):=by
 intro pins s B H xs us0 Q I r h;obtain⟨l,us,ms,rfl,hl,hm,h64,q⟩:=h;obtain⟨u,rfl,ru⟩:=vals1 r;cases ru;obtain⟨⟨es,ep,t,S,eu⟩,-,-⟩:=(show xg X.prog X.w H s.heap l (.ext (yP X.w l us)) from I.zx l _ hl)
 have hlen:es.size=us.length:=by rw[<- eu];simp
 have hml:=hm.length;have hh:X.A.handled=none:=I.ok.hd hc;have hp:((comes X.w l es ep).toList.map (·.2)).Perm us:=by rw[<- eu];exact (oa X.w l es ep).map _
 obtain⟨ms',i1,i2⟩:=Qe hp hm;have AM:=hp.length_eq;have hl24:sizeLine=16777216:=rfl;refine c7 (Out:=λ out=>∃ ns',IntsAre out.toList ns'/\ns'.Perm ms'/\ns'.Pairwise (·<=·)) hh S (by rw[hlen,hml];lia) (λ s6 h2 k=>L4.Pp i1 (by rw[AM,<- hlen];exact h2) (by rw[AM,hml];exact h64)) (λ h1=>⟨ms',by simpa using i1,.refl _,?_⟩) λ out h' tk p ho hs hp' k Ey=>?_
 .have:ms'.length<2:=by rw[<- i1.length,AM,<- hlen];exact h1
  match ms',this with
  | [],_=>exact .nil
  | [_],_=>exact List.pairwise_singleton _ _
 .obtain⟨ns,g1,g2,g3⟩:=ho;obtain⟨e,he⟩:=Ey;refine⟨.ref p,_,I.laid (t':=tk) (o:=.lst (ns.map V.int)) k hp' ?_,rfl,q p ns (I.zx.fresh hp') (g2.trans i2) g3⟩;exact⟨by rw[Ay,g2.length_eq,i2.length_eq];lia,out.toList,e,dZ g1,by simpa using he⟩
end
end ST
namespace L5
open PySem PySem.Spec L2 L3
open PyProof.Rows hiding St
noncomputable def insI (n:Int):List Int->List Int
 | []=>[n]
 | m::l=>if n<m then n::m::l else if n=m then m::l else m::insI n l
noncomputable def wK:List Int->List Int
 | []=>[]
 | n::ns=>insI n (wK ns)
theorem gw {n k:Int}:∀ {l:List Int},k∈insI n l↔k=n\/k∈l
 | []=>by simp[insI]
 | m::l=>by
  unfold insI;split
  .simp
  .split
   .rename_i h;subst h;simp
   .rw[Ah,gw,Ah];constructor
    .rintro (h | h | h)
     .exact .inr (.inl h)
     .exact .inl h
     .exact .inr (.inr h)
    .rintro (h | h | h)
     .exact .inr (.inl h)
     .exact .inl h
     .exact .inr (.inr h)
theorem k7 {k:Int}:∀ {l:List Int},k∈wK l↔k∈l
 | []=>.rfl
 | n::l=>by unfold wK;rw[gw,k7,Ah]
theorem Zm {n:Int}:∀ {l:List Int},l.Pairwise (· < ·)->(insI n l).Pairwise (· < ·)
 | [],_=>List.pairwise_singleton _ _
 | m::l,h=>by
  have h':=Bh.mp h;unfold insI;split
  .rename_i c;refine Bh.mpr ⟨λ x hx=>?_,h⟩;rcases Ah.mp hx with e | e
   .rw[e];exact c
   .exact Int.lt_trans c (h'.1 x e)
  .split
   .exact h
   .rename_i c1 c2;refine Bh.mpr ⟨λ x hx=>?_,Zm h'.2⟩;rcases gw.mp hx with e | e
    .rw[e];lia
    .exact h'.1 x e
theorem cm:∀ l:List Int,(wK l).Pairwise (· < ·)
 | []=>.nil
 | n::l=>Zm (cm l)
def Xx {l m:List Int}(h1:l.Nodup) (h2:l.Pairwise (·<=·)) (h3:m.Pairwise (· < ·)) (h:∀ k,k∈l↔k∈m):l=m:=by
 have nm:m.Nodup:=h3.imp λ h e=>by lia
 refine L4.iM (r:=λ a b:Int=>a<=b) (λ a b p q=>by lia) ((DJ h1 nm).mpr h) h2 (h3.imp λ h=>by lia)
section
variable {X:Cx}{K:Ac}{e:Expr}{tA:yp}{pos pos2 p p2:Pos}
def mi:x9:=λ ds S Q=>uP ds S Q\/∃ d,∃ ns:List Int,ds=[d]/\(∀ ts,d≠.tup ts)/\zL d S=some (ns.map D.int)/\ns.length<64/\∀ l,S l=none->Q (.ref l) (ups S l (.lst ((wK ns).map D.int)))
noncomputable def vu:List T->Option T
 | [.lst ts]=>match wW ts with
  | some ns=>if ns.length<64 then some (.lst ((wK ns).map T.int)) else none
  | none=>lQ [.lst ts]
 | _=>none
def Zp:vE zH vu mi:=λ S Z ys z ds Q hz hv e hq=>by
 unfold vu at e;split at e
 .split at e
  .rename_i ns CD;split at e
   .rename_i hc;cases e;cases qy CD;obtain⟨d,rfl,h1⟩:=vI hv;obtain⟨es,h2,h3⟩:=h1.seq rfl;cases uE.mp h3;refine .inr ⟨d,ns,rfl,?_,h2,hc,λ l hl=>hq _ _ (.new hl _) (ra hz hl (uE.mpr rfl))⟩;obtain⟨_,q | ⟨a,q,_⟩,_⟩:=h1.lst <;> subst q <;> exact λ _=>nofun
   .cases e
  .exact .inl (Qs S Z _ z ds Q hz hv e hq)
 .cases e
theorem mi.mo:vD mi:=λ ds S Q Q' hq h=>by
 rcases h with h | ⟨d,ns,h1,h2,h3,h4,h5⟩
 .exact .inl (uP.mo ds S Q Q' hq h)
 .exact .inr ⟨d,ns,h1,h2,h3,h4,λ l hl=>hq _ _ (h5 l hl)⟩
def QA {w:World}{xs:List V}{H:Hp}{S:SS}{Q:VK}{d:D}{ns:List Int}(h0:zm K H [d] xs) (h2:zJ K H S) (hn:∀ ts,d≠.tup ts) (e:zL d S=some (ns.map D.int)) (h64:ns.length<64) (h:∀ l,S l=none->wY K H Q (.ref l) (ups S l (.lst ((wK ns).map D.int)))):
  ∃ p,∃ ns':List Int,xs=[.ref p]/\zO K H p (ns'.map V.int)/\ns'.length<64/\
   ∀ (l:Addr) (us:List Value) (ms:List Int),H l=none->IntsAre us ms->ms.Nodup->(∀ n,n∈ms↔n∈ns')->
    ∃ l' us',∃ ms':List Int,[V.ref l]=[.ref l']/\(upd H l (.ext (ST.yP w l us))) l'=some (.ext (ST.yP w l' us'))/\IntsAre us' ms'/\ms'.length<64/\
     ∀ (p:Addr) (ns:List Int),(upd H l (.ext (ST.yP w l us))) p=none->ns.Perm ms'->ns.Pairwise (·<=·)->Q (.ref p) (upd (upd H l (.ext (ST.yP w l us))) p (.lst (ns.map V.int))):=by
 obtain⟨x,hx,h1⟩:=h0.one;subst hx;obtain⟨a,ys,rfl,g1,g2⟩:=pb h1 h2 e hn;rw[g2.ints] at g1;refine⟨a,ns,rfl,g1,h64,λ l us ms hf hi nd A2=>⟨l,us,ms,rfl,yL,hi,?_,λ p ns2 hp pm srt=>?_⟩⟩
 .have:=ST.gp ms ns nd λ x hx=>(A2 x).mp hx;lia
 .have x1:Ext H (upd H l (.ext (ST.yP w l us))):=.new hf _;have Aq:p≠l:=λ z=>by subst z;rw[yL] at hp;cases hp
  have hpH:H p=none:=by rw[yG Aq] at hp;exact hp
  have x2:Ext (upd H l (.ext (ST.yP w l us))) (upd (upd H l (.ext (ST.yP w l us))) p (.lst (ns2.map V.int))):=.new hp _;have heq:ns2=wK ns:=Xx (pm.nodup_iff.mpr nd) srt (cm ns) λ k=>by rw[pm.mem_iff,A2,k7]
  refine h p (h2.none hpH) _ _ (by simp only[zg]) (x1.trans x2) ((h2.new hf).ups x2 ⟨_,yL,?_⟩);rw[<- heq];exact zm.gi ns2
def kj {k:Nat}(hr:yF k X.A) (hm:X.mg "sorted"=none) (hm2:X.mg "set"=none) (ha:xA X [e] tA) (hc:X.calm=true:=by rfl) (hg:Gl X "sorted":=by rfl) (hg2:Gl X "set":=by rfl)
  (he2:starEach [e] X.env=(false,eval e X.env)::starEach [] X.env:=by rfl)
  (he:starEach [.Call (.Name "set" p2) [e] [] pos2] X.env=(false,eval (.Call (.Name "set" p2) [e] [] pos2) X.env)::starEach [] X.env:=by rfl) (Aq:(backTo pos (starEach [] X.env)).any (·.1)=false:=by rfl) (hpl2:(backTo pos2 (starEach [] X.env)).any (·.1)=false:=by rfl):
  PD X (.Call (.Name "sorted" p) [.Call (.Name "set" p2) [e] [] pos2] [] pos) (xK mi tA):=by
 have h:=se (p:=p) (yK.or (ST.PJ hc) (ST.PH hc)) hg hm boot_sorted (qp (nk (yK.or (ST.PL hc hr.units) (ST.PM hc)) hg2 hm2 PyProof.Rows.boot_set ha.pa (by decide) (by decide) he2 hpl2) pC he) (by decide) (by decide) he Aq;refine⟨xK.mo mi.mo ha.mo,PE.imp h fun B H Q hu=>?_⟩;obtain⟨Y,S,r1,r2,z⟩:=hu;refine wC.go ha.mo r1 r2 z λ ds S1 xs H1 h1 q1 e1 p1=>?_;rcases h1 with h1 | ⟨d,ns,rfl,c1,c2,c3,h1⟩
 .obtain⟨p,ys,rows,a1,a2,a3,a4,a5⟩:=uP.fits (w:=X.w) xs ds H1 S1 Q q1 p1 (uP.mo ds S1 _ _ (λ d S' z=>z.ext e1) h1);exact .inl ⟨p,ys,rows,a1,a2,a3,a4,λ l us vs rs b1 b2 b3=>.inl (a5 l us vs rs b1 b2 b3)⟩
 .obtain⟨p,ns',a1,a2,a3,a4⟩:=QA (w:=X.w) q1 p1 c1 c2 c3 (λ l hl=>(h1 l hl).ext e1);exact .inr ⟨p,ns',a1,a2,a3,λ l us ms b1 b2 b3 b4=>.inr (a4 l us ms b1 b2 b3 b4)⟩
end
end L5
namespace HT
open PySem PyProof.Rows
section
variable {prog:Program}{w:World}{A:Around}{E:Value->Shared->Prop}{s:Shared}
end
end HT
namespace L2
open PySem PySem.Spec PyProof.Rows
section
variable {X:Cx}{e st:Expr}{te:TE}{pos p2:Pos}
end
end L2
namespace L5
open PySem PySem.Spec L2 L3
open PyProof.Rows hiding St
section
variable {X:Cx}{K:Ac}{e st:Expr}{te:zq}{pos p2 p3 p4:Pos}
noncomputable def gj:Sm:=λ _=>none
def ZV:yO:=λ _ _ _=>False
def bA {st:Stmt}:vA X st ZV:=⟨λ _ _ _ _ _ h=>h.elim,λ _ _ _ _ _ _ ⟨_,_,_,_,h⟩=>h.elim⟩
def Tg {R:Rk}:yJ R gj ZV:=λ S0 Z0 S Z Y J o E F e P=>by cases e
end
end L5
namespace L5
open PySem L2 L3
def gX:Good2 zH rC kT:=kM (λ _ _ _=>vv) λ _ _ _=>nofun
def gZ:Good2 zH fk fy:=kM (λ _ _ _=>vv) λ _ _ _=>nofun
end L5
namespace L5
open PySem PySem.Spec L2 L3
open PyProof.Rows hiding St
section
variable {X:Cx}{e:Expr}{te:zq}{pos p q:Pos}
end
end L5
namespace L3
open PySem PyProof.Rows L2
section
variable {X:Cx}{pos:Pos}
noncomputable def wE (E:r_) (W:Nat->ym->SS->Prop) (m:Nat):r_:={ E with nx:=fun Y' S'=>∃ m',m'<m/\W m' Y' S',ct:=fun Y' S'=>∃ m',m'<m/\W m' Y' S',bk:=E.nx }
def m6 (c:yE) (tb:yO):yO:=λ E Y S=>∃ W:Nat->ym->SS->Prop,(∃ m,W m Y S)/\∀ m Y S,W m Y S->
 c Y S λ b S1=>if b=true then tb (wE E W m) Y S1 else E.nx Y S1
def m6.mo {c:yE}{tb:yO}(hc:va c) (hb:tU tb):tU (m6 c tb):=λ E E' Y S hE ⟨W,w0,ws⟩=>
 ⟨W,w0,λ m Y S hw=>hc Y S _ _ (λ b S1 z=>vi (λ z=>hb (wE E W m) (wE E' W m) Y S1 ⟨λ _ _ q=>q,hE.rt,hE.nx,λ _ _ q=>q⟩ z) (λ z=>hE.nx _ _ z) z) (ws m Y S hw)⟩
def iR {c:Expr}{body:List Stmt}{tc:yE}{tb:yO}(hp:PassesOwn (model X.prog X.w) X.A X.env X.xe) (hc:xV X c tc) (hb:u9 X body tb):vA X (.While c body [] pos) (m6 tc tb):=by
 refine⟨m6.mo hc.mo hb.mo,PS.imp (Vq hp hc.pt hb.ps) λ D B H hu=>?_⟩;obtain⟨Y,S,r1,r2,W,⟨m0,w0⟩,ws⟩:=hu;refine⟨λ m B' H'=>Ext H H'/\∃ Y S,yV X.K H' Y B'/\zJ X.K H' S/\W m Y S,⟨m0,.refl _,Y,S,r1,r2,w0⟩,?_⟩;rintro m B2 H2 ⟨x2,Y2,S2,q1,q2,w2⟩;refine wB.go hc.mo q1 q2 (ws m Y2 S2 w2) λ k S3 H3 h3 e3 p3=>vi (λ z=>?_) (λ z=>?_) h3
 .refine⟨fun B' H'=>Ext H H'/\∃ Y S m',m'<m/\yV X.K H' Y B'/\zJ X.K H' S/\W m' Y S,fun B' H' ⟨a,Y',S',m',b,c,d,e⟩=>⟨m',b,a,Y',S',c,d,e⟩,Y2,S3,q1.ext e3,p3,?_⟩;exact hb.mo (wE (tN X.K H D) W m) _ Y2 S3 ⟨fun Y5 S5 ⟨m',b,w5⟩ B5 H5 b1 b2 b3=>⟨(x2.trans e3).trans b2,Y5,S5,m',b,b1,b3,w5⟩,λ _ _ q=>wY.ext (x2.trans e3) q,λ _ _ q=>vn.ext (x2.trans e3) q,fun Y5 S5 ⟨m',b,w5⟩ B5 H5 b1 b2 b3=>⟨(x2.trans e3).trans b2,Y5,S5,m',b,b1,b3,w5⟩⟩ z
 .exact z B2 H3 (q1.ext e3) (x2.trans e3) p3
end
end L3
namespace L5
open PySem PyProof.Rows L2 L3
noncomputable def xJ (is:List Nat) (c:Ev->Option Bool) (b:Sm):Nat->Ev->Option Out
 | 0,_=>none
 | n+1,J=>(c (yI is J)).bind λ k=>if k=true then (b (yI is J)).bind λ o=>match o with
   | .nx J2=>xJ is c b n J2
   | .ct J2=>xJ is c b n J2
   | .bk J2=>some (.nx (yI is J2))
   | .rt t=>some (.rt t)
  else some (.nx (yI is J))
noncomputable def qc (n:Nat) (is:List Nat) (c:Ev->Option Bool) (b:Sm):Sm:=xJ is c b n
def bM {R:Rk} [Lo R] {n:Nat}{is:List Nat}{c:Ev->Option Bool}{tc:yE}{b:Sm}{tb:yO}(hc:vt c tc) (hb:yJ R b tb):yJ R (qc n is c b) (m6 tc tb):=λ S0 Z0 S Z Y J o E F e P=>by
 obtain⟨SB,b1,FB,b2⟩:=F.rebase;have lo:∀ S' d y,R SB S' Z0 y d->R S0 S' Z0 y d:=λ S' d y r=>Lo.lo b1 (λ _ z=>z) r;refine⟨λ m Y' S'=>∃ Z' J',FR SB Z0 S' Z' Y' J'/\xJ is c b m J'=some o,⟨n,Z,J,FB,e⟩,λ m Y' S' ⟨Z',J',F',e'⟩=>?_⟩;cases m with
 | zero=>cases e'
 | succ m=>
  unfold xJ at e';obtain⟨k,c1,e'⟩:=Ak e';have G:=F'.yI is;refine hc S' Z' Y' _ k _ G.er c1 λ S3 s3=>?_;cases k with
  | true=>
   rw[if_pos rfl] at e' ⊢;obtain⟨o1,g2,e'⟩:=Ak e';refine hb SB Z0 S3 Z' Y' _ o1 _ (G.grow s3) g2 ?_;cases o1 with
   | nx J2=>exact λ S3 Z3 Y3 F3=>⟨m,Cw m,Z3,J2,F3,e'⟩
   | ct J2=>exact λ S3 Z3 Y3 F3=>⟨m,Cw m,Z3,J2,F3,e'⟩
   | bk J2=>cases e';exact λ S3 Z3 Y3 F3=>P S3 Z3 Y3 ((F3.yI is).back b1 F.z0)
   | rt y=>cases e';exact λ d S3 s3 r3=>P d S3 (b1.trans s3) (lo _ _ _ r3)
  | false=>
   rw[if_neg (by decide)] at e' ⊢;cases e';exact P S3 Z' Y' ((G.grow s3).back b1 F.z0)
end L5
namespace ZP
open PySem PyProof.Rows
set_option maxRecDepth 100000
def Rg (k:Bool) (l:Addr) (xs:Array Value):Meets (Builtin.«enumerate.__new__» ⟨[.type "enumerate",.ref l],[]⟩) (λ _ R s=>SQ s.heap k l xs/\
   R (.ok (.ret (.ref (s.heap.push (vR k l)).objs.size))) { s with heap:=(s.heap.push (vR k l)).push { cls:=.type "enumerate",data:=.fields #[.none,.bool false,.ref s.heap.objs.size,rawInt 0,.none,.none] } }):=
 .of_wp λ prog w A R s h=>by
  obtain⟨hp,g,d,tk,os⟩:=s;obtain⟨q,h⟩:=h;have D3:=sub_enumerate;have hL:SQ (Shared.heap ⟨hp,g,d,tk,os⟩) k l xs:=q;obtain⟨⟨c,yg,dt,sl⟩,hl,hc⟩:=q.cls;replace hc:c=.type (cond k "tuple" "list"):=hc;subst hc
  wp_walk using AutoSeq1.wpAny_loadPart' hl
  refine wpAny_stack_any λ st=>Ad ?_;split
  .rename_i c _ _ _ _ _;cases (c == Value.type "enumerate")
   .wp_walk using AutoSeq1.wpAny_loadPart' hl,made hL
    exact⟨_,rfl,h⟩
   .wp_walk using AutoSeq1.wpAny_loadPart' hl,made hL
    exact⟨_,rfl,h⟩
  .wp_walk using AutoSeq1.wpAny_loadPart' hl,made hL
   exact⟨_,rfl,h⟩
section
variable {prog:Program}{w:World}{A:Around}{E:Value->Shared->Prop}{s:Shared}
def QO {k:Bool}{l:Addr}{xs:Array Value}{Q:Value->Shared->Prop}(hL:SQ s.heap k l xs)
  (h:∀ h',IsEnum h' (s.heap.objs.size+1) s.heap.objs.size 0 .none->SI h' k s.heap.objs.size l 0->(∀ b o,s.heap.get? b=some o->h'.get? b=some o)->Q (.ref (s.heap.objs.size+1)) { s with heap:=h' }):
  wpAny (model prog w) A (call (.type "enumerate") [.ref l]) Q E s:=by
 refine callType_new F.called_enumerate (by decide) (F.typeCall_enumerate_1 _) (F.newCall_enumerate_1 _) (λ obj=>F.args_object_init_2 obj _) F.entry_enumerate_new (Rg k l xs) ⟨hL,?_⟩;have hz:(s.heap.push (vR k l)).objs.size=s.heap.objs.size+1:=Heap.size_push ..;show _/\_;rw[hz];have he:IsEnum ((s.heap.push (vR k l)).push { cls:=.type "enumerate",data:=.fields #[.none,.bool false,.ref s.heap.objs.size,rawInt 0,.none,.none] }) (s.heap.objs.size+1) s.heap.objs.size 0 .none:=by
  have:=AE (s.heap.push (vR k l)) (o:={ cls:=.type "enumerate",data:=.fields #[.none,.bool false,.ref s.heap.objs.size,rawInt 0,.none,.none] }) rfl;rw[hz] at this;exact this
 exact⟨⟨_,he,rfl⟩,h _ he ⟨_,Ao _ (AE _ rfl),rfl,rfl⟩ λ b o x=>Ao _ (Ao _ x)⟩
def QW (hh:A.handled=none) (k:Bool) (it l:Addr) (Ai:l≠it) (xs:Array Value):Draws prog w A it [it,l] xs.size (λ i v=>xs[i]?=some v) (λ i h=>SI h k it l i/\SQ h k l xs) where
 live:=λ _ _ st=>let ⟨o,ho,_⟩:=st.1;⟨o,ho⟩
 frame:=λ _ _ _ st hk=>⟨st.1.on λ o e=>hk it (by simp) o e,st.2.on λ o e=>hk l (by simp) o e⟩
 item:=λ i s Q E hi st hQ=>draw st.1 st.2 (x:=xs[i]) (by simp[hi]) λ h' Eo hs'=>hQ _ h' s.toks (by simp[hi]) ⟨Eo,st.2.on λ o e=>(hs'.2 l Ai).trans e⟩ hs'
 done:=λ s Q E st hE=>kU hh st.1 st.2 (by simp) hE
end
end ZP
namespace L2
open PySem PySem.Spec PyProof.Rows ZP
section
variable {X:Cx}{pins:List (Addr×Obj)}{B:St}{H:Hp}{s:Shared}
def YB (K:Ac) (k:Bool) (a:Addr):It:=
 ⟨λ i H=>∃ xs x,w6 K H k a xs/\xs[i]?=some x,
   λ i H v H'=>∃ p x,v=.ref p/\H p=none/\H'=upd H p (.tup [.int i,x])/\∀ xs,w6 K H k a xs->xs[i]?=some x,
   λ i H=>∃ xs,w6 K H k a xs/\xs.length<=i⟩
def XB {P:Program}{w:World}{K:Ac}{es:List Expr}{kk} {pos:Pos}{k:Bool}{e it a:Addr}(Es:e≠it) (hea:e≠a) (hai:a≠it):
  Turn P w K (.Tuple es kk pos) (YB K k a) [e,it] e (λ i h=>(∃ old,IsEnum h e it i old)/\SI h k it a i) where
 mem:=by simp
 obj:=λ i h st b hb=>by
  obtain⟨⟨old,q1⟩,o1,q2,_,d1⟩:=st;simp only[Ah,AY,or_false] at hb;rcases hb with e | e <;> subst e
  .exact⟨_,q1,λ v z=>by cases z⟩
  .exact⟨_,q2,λ v z=>by rw[d1] at z;cases z⟩
 keep:=λ i h h' st k=>⟨let ⟨old,q⟩:=st.1;⟨old,k e (by simp) _ q⟩,st.2.on λ o q=>k it (by simp) o q⟩
 item:=by
  intro X hP hw hK hc i pins s B H E I hf st hg;subst hP hw hK;obtain⟨xs,x,g1,hx⟩:=hg;obtain⟨its,rv,q1⟩:=g1.of I;obtain⟨u1,e1,r1⟩:=rv.get hx;obtain⟨⟨old,he⟩,si⟩:=st;have An:i<its.toArray.size:=by have:=(AK.mp e1).1;simpa using this
  have D:=QW (prog:=X.prog) (w:=X.w) (A:=X.A.in1) (show X.A.in1.handled=none from I.ok.hd hc) k it a hai its.toArray;refine wpAny_pyNext_enum_itemD D he ⟨si,q1⟩ An Es (by simp[Es,hea]) λ u h' tk hP ho hs' hT hsz hk=>⟨_,rfl,?_⟩;have hu:u=u1:=by simp only[List.getElem?_toArray,e1] at hP;exact (A4 hP).symm
  subst hu;have nT:s.heap.objs.size∉[e,it]:=λ hb=>by
   simp only[Ah,AY,or_false] at hb;obtain⟨oi,qi,_⟩:=si;rcases hb with z | z
   .exact absurd (Ap he) (by rw[<- z];exact BO _)
   .exact absurd (Ap qi) (by rw[<- z];exact BO _)
  have ne:s.heap.objs.size≠e:=λ z=>nT (by simp[z]);refine wpAny_letOwnedTupleGo_enum ho λ h2 he2 sb=>?_;have fr:H s.heap.objs.size=none:=I.zx.fresh (Ag _);have I1:Inv X pins B (upd H s.heap.objs.size (.tup [.int i,x])) { s with heap:=s.heap.push { cls:=.type "tuple",data:=.seq [.int i tk,u].toArray },toks:=s.toks }:=
   I.laid (o:=.tup [.int i,x]) (λ b u q=>Ao _ q) (Ag _) ⟨by show 2<=sizeLine;decide,[.int i tk,u],.cons ⟨tk,rfl⟩ (.cons r1 .nil),IsTup.new _ _⟩
  have hf':∀ b∈[e,it],upd H s.heap.objs.size (.tup [.int i,x]) b=none:=λ b hb=>by
   rw[yG (λ z=>nT (by rw[<- z];exact hb))];exact (hf b hb).1
  have kk:∀ b o,b∉[e,it]->(s.heap.push { cls:=.type "tuple",data:=.seq [.int i tk,u].toArray }).get? b=some o->h2.get? b=some o:=λ b o hb q=>by
   have BI:b≠e:=λ z=>hb (by simp[z]);have hbi:b≠it:=λ z=>hb (by simp[z]);by_cases Df:b=s.heap.objs.size
   .subst Df;rw[AE _ rfl] at q;cases q;exact sb.extBut _ _ BI hT
   .have q':s.heap.get? b=some o:=by rw[Heap.get?_push_ne _ _ _ Df] at q;exact q
    exact sb.extBut _ _ BI (hk b o BI hbi q')
  have I2:=Inv.lK (h':=h2) (t':=tk+1) (fp:=[e,it]) I1 kk λ b hb=>⟨hf' b hb,(hf b hb).2⟩;refine⟨.ref s.heap.objs.size,_,I2,rfl,⟨_,x,rfl,fr,rfl,λ zs hz=>by rw[hz.inj I g1];exact hx⟩,⟨⟨_,by simpa using he2⟩,hs'.1.on λ o q=>(sb.2 it (Ne.symm Es)).trans q⟩,hf'⟩
 done:=by
  intro X hP hw hK hc i pins s B H E I hf st hg;subst hP hw hK;obtain⟨xs,g1,hx⟩:=hg;obtain⟨its,rv,q1⟩:=g1.of I;have l1:=rv.length;obtain⟨⟨old,he⟩,si⟩:=st;have hT:s.TypeIs (.ref e) "enumerate":=⟨_,he,rfl⟩
  unfold pyNext;refine Ab (wpAny_attempt (wpAny_callSpecial?_slot (name:=Str.ofString "__next__") hT F.slot_enumerate_next
   (wpAny_call_entry F.slot_enumerate_next hT F.entry_enumerate_next ?_ (F.args_enumerate_next_1 _))))
  show wpAny _ _ (field (.ref e) 2 >>= _) _ _ _;refine Ab (wpAny_field he rfl (x:=.ref it) rfl ?_);refine Ab (kU (show X.A.in1.handled=none from I.ok.hd hc) si q1 (by simp;lia) λ h' x he' hx'=>?_);obtain⟨o,ho,hc⟩:=hx';refine Ab (wpAny_isInstance (T:="StopIteration") (b:=true) ⟨o,ho,hc⟩ isSubtype_stop ?_);exact Ad ⟨rfl,I.lK (t':=s.toks) (fp:=[e,it]) (λ b o hb q=>he' b o (λ z=>hb (by simp[z])) q) hf⟩
 self:=λ _ _ _ _ _ st h=>let ⟨_,q⟩:=st.1;wpAny_pyIter_enum q h
def Qk (K:Ac) (ta:TA):TI:=fun B H R=>ta B H λ vs H1=>∃ a k,vs=[.ref a]/\(∃ xs,w6 K H1 k a xs)/\R (YB K k a) H1
def V9 {a:Expr}{ta:TA}{p pos pos':Pos}{es:List Expr}{kk} (hg:Gl X "enumerate") (hm:X.mg "enumerate"=none) (ha:PA X [a] ta) (hs:starEach [a] X.env=[(false,eval a X.env)]:=by rfl):
  PI X (.Tuple es kk pos') (.Call (.Name "enumerate" p) [a] [] pos) (Qk X.K ta):=by
 intro pins s B H R I h;refine Call_ (rD I hg hm boot_enumerate (PyProof.Rows.callWith_type1 (zG (ha pos pins s B H _ I h) λ us s1 ⟨vs,H1,I1,r1,q1⟩=>?_) (by rw[hs];rfl) rfl));obtain⟨a1,k,rfl,⟨xs,g1⟩,q⟩:=q1;cases r1 with
 | cons r rr=>
  cases rr;cases r;obtain⟨it1,_,q1⟩:=g1.of I1;have la:=q1.lt;refine ZP.QO q1 λ h' E S up=>wpAny_pyIter_enum E ?_;have nw:∀ b∈[s1.heap.objs.size+1,s1.heap.objs.size],s1.heap.objs.size<=b:=λ b hb=>by
   simp only[Ah,AY,or_false] at hb;rcases hb with z | z <;> rw[z]
   .exact CW _
   .exact Ag _
  exact⟨_,[s1.heap.objs.size+1,s1.heap.objs.size],_,_,H1,rfl,I1.kept (t':=s1.toks) up,XB (Nat.succ_ne_self _) (BL (Bu la)) (Aw la),⟨⟨_,E⟩,S⟩,λ b hb=>I1.me (nw b hb) (I1.zx.fresh (nw b hb)),q⟩
end
end L2
namespace L5
open PySem PySem.Spec L2 L3
open PyProof.Rows hiding St
noncomputable def tM (k:Nat):List D->List D
 | []=>[]
 | d::ds=>.tup [.int k,d]::tM (k+1) ds
noncomputable def rM (k:Nat):List T->List T
 | []=>[]
 | d::ds=>.tup [.int k,d]::rM (k+1) ds
theorem ZH:∀ (ds:List D) (k i:Nat),(tM k ds)[i]?=(ds[i]?).map λ d=>D.tup [.int ((k+i:Nat):Int),d]
 | [],k,i=>by simp[tM]
 | d::ds,k,0=>by simp[tM]
 | d::ds,k,i+1=>by
  unfold tM;rw[DM,DM,ZH ds (k+1) i,show k+1+i=k+(i+1) from by lia]
theorem ZG:∀ (ds:List D) (k:Nat),(tM k ds).length=ds.length
 | [],k=>rfl
 | d::ds,k=>by unfold tM;rw[AR,ZG ds];rfl
theorem cD {S:SS}:∀ {ts:List T}{ds:List D}(k:Nat),zl S ts ds->zl S (rM k ts) (tM k ds)
 | [],ds,k,h=>by simp only[zl] at h;subst h;exact zl.nil
 | t::ts,ds,k,h=>by
  simp only[zl] at h;obtain⟨c,cs,rfl,h1,h2⟩:=h;exact zl.cons (qZ (zl.cons (by simp only[Sn]) (zl.cons h1 zl.nil))) (cD (k+1) h2)
section
variable {X:Cx}{K:Ac}{a:Expr}{tA:yp}{pos p pos':Pos}{es:List Expr}{kk:Nat}
def aV (t:yp):wJ:=fun Y S R=>t Y S λ ds S1=>∃ d xs,ds=[d]/\zL d S1=some xs/\R ⟨tM 0 xs,λ S=>zL d S=some xs⟩ S1
def bB (hm:X.mg "enumerate"=none) (ha:xA X [a] tA) (hg:Gl X "enumerate":=by rfl) (hs:starEach [a] X.env=[(false,eval a X.env)]:=by rfl):
  sL X (.Tuple es kk pos') (.Call (.Name "enumerate" p) [a] [] pos) (aV tA):=by
 refine⟨fun Y S Q Q' hq z=>ha.mo Y S _ _ (λ ds S1 ⟨d,xs,h1,h2,h4⟩=>⟨d,xs,h1,h2,hq _ _ h4⟩) z,PI.imp (V9 hg hm ha.pa hs) fun B H R hu=>?_⟩;obtain⟨Y,S,r1,r2,z⟩:=hu;refine wC.go ha.mo r1 r2 z λ ds S1 vs H1 h1 q1 e1 p1=>?_;obtain⟨d,xs,rfl,s1,h⟩:=h1;obtain⟨v,rfl,d1⟩:=q1.one;obtain⟨a1,us,rfl,g1,g2⟩:=zL.k d1 p1 s1;refine⟨a1,nU d,rfl,⟨us,g1⟩,h _ H1 e1 p1 λ i H2 S2 x1 x2 hk=>?_⟩;obtain⟨b1,us2,q1,m1,m2⟩:=zL.k (zg.ext x1 d d1) x2 hk;cases q1;have l1:=m2.length;refine⟨λ dd hd=>?_,λ hl=>⟨us2,m1,?_⟩⟩
 .rw[ZH,Nat.zero_add] at hd;obtain⟨dx,hx,rfl⟩:=AD hd;obtain⟨x,hx',rx⟩:=m2.get hx;refine⟨⟨us2,x,m1,hx'⟩,λ v H' q=>?_⟩;obtain⟨pp,x',rfl,hp,rfl,f1⟩:=q;have ex:x'=x:=by have:=f1 _ m1;rw[hx'] at this;exact (A4 this).symm
  subst ex;refine⟨.new hp _,x2.new hp,?_⟩;simp only[zg];exact⟨pp,_,rfl,z_.of yL,zm.ext (.new hp _) _ (.cons (by simp only[zg]) (.cons rx .nil))⟩
 .have hl':(tM 0 xs).length<=i:=hl;rw[ZG] at hl';lia
@[simp] noncomputable def rN:List T->Option (List T)
 | [x]=>(xF x).map λ xs=>rM 0 xs
 | _=>none
def Tt {g:Ev->Option (List T)}(h:qP g tA):rX false (wq rN g) (aV tA):=λ S Z Y J ts Q hE e hq=>by
 obtain⟨ys,e1,e2⟩:=Ak e;refine h S Z Y J ys _ hE e1 λ ds S1 s1 r1=>?_;unfold rN at e2;split at e2
 .obtain⟨xs,e3,rfl⟩:=AD e2;obtain⟨d,rfl,h1⟩:=vI r1;obtain⟨es,g1,g2⟩:=h1.seq e3;exact⟨d,es,rfl,g1,hq _ S1 s1 (cD 0 g2) λ S'' s=>zL.sx g1 s⟩
 .cases e2
end
end L5
namespace TM
open PySem PyProof.Rows
set_option maxRecDepth 100000
def Pe (i:Int) (t:Tok) (l:Addr) (items:Array Value) (n:Nat) (dd:Option Addr) (sl:Array (Option Value)):
  Meets (Builtin.«int.__rmul__» ⟨[.int i t,.ref l],[]⟩) (λ _ R s=>s.heap.get? l=some { cls:=.type "list",dict:=dd,data:=.seq items n,slots:=sl }/\R (.ok (.ret Value.notImplemented)) s):=
 .of_wp λ prog w A R s h=>by
  obtain⟨hp,g,d,tk,os⟩:=s;obtain⟨hl,h⟩:=h
  wp_walk
  exact⟨_,rfl,h⟩
def mulL (l:Addr) (items:Array Value) (n:Nat) (x:Int) (u:Tok) (dd:Option Addr) (sl:Array (Option Value)) (hc0:¬(!Builtin.List.listFitsIndex x)=true) (hc1:¬items.size*x.toNat>(2 ^ 63-1)/8) (hc2:¬Builtin.List.listTooLong (items.size*x.toNat)=true):
  Meets (Builtin.«list.__mul__» ⟨[.ref l,.int x u],[]⟩) (λ _ R s=>s.heap.get? l=some { cls:=.type "list",dict:=dd,data:=.seq items n,slots:=sl }/\R (.ok (.ret (Value.ref s.heap.objs.size))) { s with heap:=s.heap.push { cls:=.type "list",data:=.seq (List.foldl (λ x1 x2=>x1++x2) #[] (List.replicate (if items.isEmpty=true then 0 else x.toNat) items)) } }):=
 .of_wp λ prog w A R s h=>by
  obtain⟨hp,g,d,tk,os⟩:=s;obtain⟨hl,h⟩:=h;have hsz:=AutoListH.joined_fits hc2
  wp_walk;refine wpAny_ite_false (decide_eq_false (Nat.not_lt.mpr hsz)) ?_;wp_walk;exact⟨_,rfl,h⟩
section
variable {prog:Program}{w:World}{A:Around}{E:Value->Shared->Prop}{s:Shared}
def XF {l:Addr}{its:List Value}{k:Int}{t:Tok}{Q:Value->Shared->Prop}(ht:PlainL s.heap l its.toArray) (Ai:its≠[]) (h0:0<=k) (hz:its.length*k.toNat<=sizeLine)  (hk:k<=1000000)
  (more:Q (.ref s.heap.objs.size) { s with heap:=s.heap.push { cls:=.type "list",data:=.seq (List.replicate k.toNat its).flatten.toArray } }):
  wpAny (model prog w) A (binaryOp .Mult (.ref l) (.int k t)) Q E s:=by
 obtain⟨⟨cls,dd,data,sl⟩,n,ho,hc,he,hd⟩:=id ht;simp only at hc hd he;subst hc hd he;have hl:sizeLine=16777216:=rfl;have DD:its.toArray.isEmpty=false:=by cases its with
  | nil=>exact absurd rfl Ai
  | cons a r=>rfl
 have hf:List.foldl (λ x1 x2=>x1++x2) #[] (List.replicate (if its.toArray.isEmpty=true then 0 else k.toNat) its.toArray)=(List.replicate k.toNat its).flatten.toArray:=by
  rw[DD,if_neg (by decide)];have:=fu its k.toNat #[];simpa using this
 refine wpAny_binaryOp_repeat_ref (T:="list") (U:="int") (by decide) ⟨_,ho,rfl⟩ (λ s'=>typeIs_int s' k t) noFill_list_mul F.fills_int_mul F.slot_int_rmul repeat_list F.slot_int_index.lookup
  (call_meets F.slot_int_rmul (typeIs_int s k t) F.entry_int_rmul (F.args_int_rmul_2 _ _) (Pe k t l its.toArray n none sl)
   ⟨ho,rfl,⟨_,ho,rfl⟩,call_meets F.slot_list_mul ⟨_,ho,rfl⟩ F.entry_list_mul (F.args_list_mul_2 _ _)
    (mulL l its.toArray n k t none sl (by simp[Builtin.List.listFitsIndex];lia) (by simp;lia) (by simp[Builtin.List.listTooLong];lia)) ⟨ho,?_⟩⟩)
 rw[hf];exact more
end
end TM
namespace L2
open PySem PySem.Spec PyProof.Rows
def iG (K:Ac):R2:=λ x y H Q=>∃ a k xs,x=.ref a/\y=.int k/\zO K H a xs/\xs≠[]/\0<=k/\k<=1000000/\xs.length*k.toNat<=sizeLine/\∀ p,H p=none->Q (.ref p) (upd H p (.lst (List.replicate k.toNat xs).flatten))
def UM {X:Cx}:yj X (binaryOp .Mult) (iG X.K):=by
 intro pins s B H x y v u Q I rx ry h;obtain⟨a,k,xs,rfl,rfl,hx,Ai,h1,h2,hz,q⟩:=h;cases rx;obtain⟨t,rfl⟩:=ry;obtain⟨its,r,ht,_⟩:=I.list hx;have hl:=r.length;refine TM.XF ht (λ z=>Ai (r.nI.mp z)) h1 (by rw[<- hl];exact hz) h2 ?_;have hlen:(List.replicate k.toNat xs).flatten.length<=sizeLine:=by
  have:(List.replicate k.toNat xs).flatten.length=k.toNat*xs.length:=by simp
  rw[this,Dr];exact hz
 exact⟨.ref _,_,I.laid (t':=s.toks) (o:=.lst (List.replicate k.toNat xs).flatten) (λ b ob q=>Ao _ q) (Ag _) ⟨hlen,_,0,r.rep k.toNat,AE _ rfl⟩,rfl,q _ (I.zx.fresh (Ag _))⟩
end L2
namespace L5
open PySem PySem.Spec L2 L3
open PyProof.Rows hiding St
section
variable {X:Cx}{K:Ac}{a b:Expr}{ta tb:zq}{pos:Pos}
noncomputable def RV:D->Bool
 | .tup _=>true
 | _=>false
def kS:yW:=λ x y S Q=>∃ k ds,y=.int k/\RV x=false/\zL x S=some ds/\(ds≠[]/\0<=k/\k<=1000000/\ds.length*k.toNat<=sizeLine)/\∀ p,S p=none->Q (.ref p) (ups S p (.lst (List.replicate k.toNat ds).flatten))
def rH:yW:=λ x y S Q=>tI x y S Q\/kS x y S Q
noncomputable def ve:T->T->Option T
 | .lst ts,.int k=>if ts≠[]/\0<=k/\k<=1000000/\ts.length*k.toNat<=sizeLine then some (.lst (List.replicate k.toNat ts).flatten) else none
 | x,y=>gr x y
theorem rH.mo:xN rH:=λ x y S Q Q' hq h=>by
 rcases h with h | ⟨k,ds,h1,h2,h3,h4,h5⟩
 .exact .inl (tI.mo x y S Q Q' hq h)
 .exact .inr ⟨k,ds,h1,h2,h3,h4,λ p hp=>hq _ _ (h5 p hp)⟩
def kS.fits:xD K kS (iG K):=λ x y d e H S Q h1 h2 h3 h=>by
 obtain⟨k,ds,rfl,ht,hs,⟨c1,c2,c3,c4⟩,h⟩:=h;simp only[zg] at h2;obtain⟨a,xs,rfl,g1,g2⟩:=pb h1 h3 hs λ ts z=>by subst z;cases ht
 have hl:=g2.length;refine⟨a,k,xs,rfl,h2,g1,λ z=>c1 (by subst z;cases ds with | nil=>rfl | cons _ _=>simp at hl),c2,c3,by rw[<- hl];exact c4,λ p hp=>?_⟩;exact h p (h3.none hp) _ _ (by simp only[zg]) (.new hp _) (h3.ups (.new hp _) ⟨_,yL,zm.ext (.new hp _) _ (zm.rep g2 _)⟩)
theorem rH.fits:xD K rH (λ x y H Q=>(rI vH (λ i j=>.int (i*j)) x y H Q\/iE K x y H Q)\/iG K x y H Q):=λ x y d e H S Q h1 h2 h3 h=>by
 rcases h with h | h
 .exact .inl (tI.fits x y d e H S Q h1 h2 h3 h)
 .exact .inr (kS.fits x y d e H S Q h1 h2 h3 h)
def gU:Good2 zH ve rH:=λ S Z x y z d e Q hz hx hy ef hq=>by
 unfold ve at ef;split at ef
 .rename_i ts k;split at ef
  .rename_i hc;cases ef;obtain⟨ds,g1,g2⟩:=hx.seq (ts:=ts) rfl;cases hy.int;have hl:=g2.len;refine .inr ⟨_,ds,rfl,?_,g1,⟨λ q=>hc.1 (by subst q;simpa using hl.symm),hc.2.1,hc.2.2.1,by rw[hl];exact hc.2.2.2⟩,λ p hp=>hq _ _ (.new hp _) (ra hz hp (zl.rep g2 _))⟩;cases d with
   | tup es=>exact absurd hx (by
     intro q;rcases q with q | ⟨us,p,es',_,q,_⟩
     .simp only[Sn] at q;obtain⟨_,⟨q,_⟩ | ⟨_,q,_⟩,_⟩:=q <;> cases q
     .cases q)
   | _=>rfl
  .cases ef
 .exact .inl (Zq S Z x y z d e Q hz hx hy ef hq)
def pA (ha:PD X a ta) (hb:PD X b tb):PD X (.BinOp a .Mult b pos) (yy rH ta tb):=rg ((UO.or UL).or UM) rH.fits rH.mo ha hb
end
end L5
namespace L3
open PySem PySem.Spec PyProof.Rows L2
section
variable {X:Cx}{K:Ac}{e o:Expr}{te to:zq}{apos Aj:Pos}
def rQ (to te:zq):zq:=fun Y S Q=>to Y S λ x S1=>match x with
 | .ref p=>(∃ ds,S1 p=some (.lst ds))/\te Y S1 λ y S2=>∃ q ds es,y=.ref q/\S2 p=some (.lst ds)/\S2 q=some (.lst es)/\ds.length+es.length<=sizeLine/\Q .zi (ups S2 p (.lst (ds++es)))
 | _=>False
def rQ.mo (h:yn to) (h':yn te):yn (rQ to te):=fun Y S Q Q' hq z=>h Y S _ _ (λ x S1 z=>by
 cases x with
 | ref p=>exact⟨z.1,h' Y S1 _ _ (λ y S2 ⟨q,ds,es,a,b,c,d,w⟩=>⟨q,ds,es,a,b,c,d,hq _ _ w⟩) z.2⟩
 | _=>exact z) z
def U0 {e0:Expr}(D8:PE X e0 (jL X.K "list" bf (zP X.K to) (jK (zP X.K te) jI))) (h:yn to) (h':yn te):PD X e0 (rQ to te):=by
 refine⟨rQ.mo h h',PE.imp D8 fun B H Q hu=>?_⟩;obtain⟨Y,S,r1,r2,z⟩:=hu;refine zP.go h r1 r2 z λ x S1 v H1 h1 q1 e1 p1=>?_;cases x with
 | ref p=>
  obtain⟨⟨ds,hd⟩,h1⟩:=h1;simp only[zg] at q1;subst q1;obtain⟨xs,g1,g2⟩:=p1 _ _ hd;refine⟨.inl ⟨rfl,xs,zO.of g1⟩,?_⟩;refine zP.go h' (r1.ext e1) p1 h1 λ y S2 w H2 h2 q2 e2 p2=>?_;obtain⟨q,ds',es,rfl,b1,b2,b3,b4⟩:=h2;simp only[zg] at q2;subst q2;obtain⟨xs',g3,g4⟩:=p2 _ _ b1;obtain⟨ys',g5,g6⟩:=p2 _ _ b2;refine⟨p,q,xs',ys',rfl,rfl,g3,g5,by rw[<- g4.length,<- g6.length];exact b3,?_⟩;have e4:Ext H2 (upd H2 p (.lst (xs'++ys'))):=.lst g3 _;exact b4 _ _ (by simp only[zg]) ((e1.trans e2).trans e4) (p2.ups e4 ⟨_,yL,zm.ext e4 _ (g4.append g6)⟩)
 | zi=>exact h1.elim
 | bl _=>exact h1.elim
 | int _=>exact h1.elim
 | str _=>exact h1.elim
 | tup _=>exact h1.elim
 | yH _=>exact h1.elim
def Uw (ho:PD X o to) (he:PD X e te)
  (hbase:attributeBase o "extend" X.env (eval o X.env)=eval o X.env:=by rfl)
  (AI:((backTo Aj (starEach [e] X.env)).all (λ x=>!x.1)&&(backToKw Aj (keywordEach [] X.env)).all (λ x=>x.1.isSome)
   && decide ([e].length+([]:List Keyword).length+(if ([]:List Keyword).isEmpty then 0 else 1)<30))=true:=by rfl)
  (hline:(apos.endLine == Aj.line)=true:=by rfl) (hs:starEach [e] X.env=(false,eval e X.env)::starEach [] X.env:=by rfl) (hplain:(backTo Aj (starEach [] X.env)).any (·.1)=false:=by rfl):
  PD X (.Call (.Attribute o "extend" apos) [e] [] Aj) (rQ to te):=
 U0 (b6 PySem.F.plainAttrs_list PySem.F.slot_list_extend PySem.F.type_list_extend S_ ho.pe (qp he.pe pC hs) hbase AI hline hs hplain) ho.mo he.mo
end
end L3
namespace L5
open PySem L2 L3
@[simp] noncomputable def f6 (i:Nat) (f:Ev->Option T):Sm:=fun J=>match J[i]? with
 | some (some (.own (.lst ts)))=>(f J).bind λ y=>match y with
  | .lst us=>if ts.length+us.length<=sizeLine then some (.nx (J.set i (some (.own (.lst (ts++us)))))) else none
  | _=>none
 | _=>none
section
variable {R:Rk}{f:Ev->Option T}{te:zq}
def Tj (i:Nat) (hf:xC f te):yJ R (f6 i f) (kZ (rQ (yD i) te)):=λ S0 Z0 S Z Y J o E F e P=>by
 unfold f6 at e;split at e
 .rename_i ts h;obtain⟨y,e1,e2⟩:=Ak e;split at e2
  .rename_i us;split at e2
   .rename_i hl;cases e2;obtain⟨p,ob,h1,h2,h3,h4⟩:=F.er.ow i _ h;obtain⟨ds,rfl⟩:∃ ds,ob=.lst ds:=by
     cases ob with
     | lst ds=>exact⟨ds,rfl⟩
     | yg _=>exact h3.elim
    replace h3:zl (zK S Z) ts ds:=h3;show rQ (yD i) te Y S _;unfold rQ yD;rw[h1];refine⟨⟨ds,h2⟩,hf S Z Y J _ _ F.er e1 λ d S1 s1 r1=>?_⟩;obtain⟨q,es,rfl,g1,g2,g3⟩:=r1.2 us rfl;have F1:=F.grow s1;have g4:zl (zK S1 Z) us es:=zl.sx (tG λ a z=>.inl z) us g3;refine⟨q,ds,es,rfl,s1 _ _ h2,g2,by rw[h3.len,g4.len];exact hl,P _ Z Y (F1.mut (us:=.lst (ts++us)) (es:=.lst (ds++es)) i h h1 ((zl.sx (wX s1) ts h3).append g4))⟩
   .cases e2
  .cases e2
 .cases e
end
end L5
namespace L5
open PySem PySem.Spec L2 L3
open PyProof.Rows hiding St
section
variable {X:Cx}{K:Ac}{e:Expr}{es:List Expr}{tA:yp}{pos p:Pos}
end
end L5
namespace L2
open PySem PySem.Spec PyProof.Rows
section
variable {X:Cx}{e st:Expr}{te ts:TE}{pos p2:Pos}
end
end L2
namespace L5
open PySem PySem.Spec L2 L3
open PyProof.Rows hiding St
section
variable {X:Cx}{K:Ac}{e st:Expr}{te ts:zq}{pos p2:Pos}
end
end L5
namespace L5
section
variable {α:Type}{P:List α->Prop}
def sF (h:∀ a,P [a]) (us:List α) (hl:us.length=1):P us:=match us,hl with | [a],_=>h a
def v8 (h:∀ a b,P [a,b]) (us:List α) (hl:us.length=2):P us:=match us,hl with | [a,b],_=>h a b
def qI (h:∀ a b c,P [a,b,c]) (us:List α) (hl:us.length=3):P us:=match us,hl with | [a,b,c],_=>h a b c
def Yv (h:∀ a b c d,P [a,b,c,d]) (us:List α) (hl:us.length=4):P us:=match us,hl with | [a,b,c,d],_=>h a b c d
def ar5 (h:∀ a b c d e,P [a,b,c,d,e]) (us:List α) (hl:us.length=5):P us:=match us,hl with | [a,b,c,d,e],_=>h a b c d e
def ar6 (h:∀ a b c d e f,P [a,b,c,d,e,f]) (us:List α) (hl:us.length=6):P us:=match us,hl with | [a,b,c,d,e,f],_=>h a b c d e f
def ar7 (h:∀ a b c d e f g,P [a,b,c,d,e,f,g]) (us:List α) (hl:us.length=7):P us:=match us,hl with | [a,b,c,d,e,f,g],_=>h a b c d e f g
def ar8 (h:∀ a b c d e f g i,P [a,b,c,d,e,f,g,i]) (us:List α) (hl:us.length=8):P us:=match us,hl with | [a,b,c,d,e,f,g,i],_=>h a b c d e f g i
end
end L5
namespace L5
open PySem PySem.Spec L2 L3
open PyProof.Rows hiding St
section
variable {P:Program}{w:World}{K:Ac}{mg:Str->Option Value}{base h:Heap}{x:Str}{st:Stmt}
def Fx (K:Ac) (x:Str) (st:Stmt):Prop:=∃ (f:Addr) (oc:Value) (od:Option Addr) (kV dc pm:Value) (an:Option Addr) (cd ct:Value) (sl:Array (Option Value)),
 PySem.W.nsIn K mainGlobals x=some (some (.ref f))/\K.lookup f=some ⟨oc,od,.func (PySem.W.fnOf x x (sD st) (v5 st) (zE st) .none kV dc pm an cd ct),sl⟩/\PySem.W.codeIn K cd x=true/\PySem.W.keepIn K (.ref f)=true
def Fx.i {f:Addr}{oc:Value}{od:Option Addr}{kV dc pm:Value}{an:Option Addr}{cd ct:Value}{sl:Array (Option Value)}(a:PySem.W.nsIn K mainGlobals x=some (some (.ref f))) (l:K.lookup f=some ⟨oc,od,.func (PySem.W.fnOf x x (sD st) (v5 st) (zE st) .none kV dc pm an cd ct),sl⟩) (c:PySem.W.codeIn K cd x=true) (k:PySem.W.keepIn K (.ref f)=true):Fx K x st:=⟨f,oc,od,kV,dc,pm,an,cd,ct,sl,a,l,c,k⟩
def Fy (K:Ac) (mg:Str->Option Value) (x:Str) (st:Stmt):Prop:=∃ (f:Addr) (fd:FuncData),uU K x x st f fd/\mg x=some (.ref f)
def Fx.mk (H:Fx K x st) (X:K.In h) (G:h.Ns mainGlobals mg):Fy K mg x st:=by
 obtain⟨f,oc,od,kV,dc,pm,an,cd,ct,sl,a,l,c,k⟩:=H;exact⟨f,_,Zx l c k,PySem.W.mg_of X G a⟩
theorem Fx.law {fa:Addr}{p:Str}(H:Fx K "law" st) (X:K.In h) (G:h.Ns mainGlobals mg) (Er:mg "law"=some (.ref fa)) (hb:∀ (kV dc pm:Value) (an:Option Addr) (cd ct:Value) (s:Shared) (v:Value),BindsTo s (PySem.W.fnOf "law" "law" (sD st) (v5 st) (zE st) .none kV dc pm an cd ct) ⟨[v],[]⟩ [(p,v)]):∃ fd:FuncData,uU K "law" "law" st fa fd/\∀ (s:Shared) (v:Value),BindsTo s fd ⟨[v],[]⟩ [(p,v)]:=by
 obtain⟨f,oc,od,kV,dc,pm,an,cd,ct,sl,a,l,c,k⟩:=H;have e:=Er.symm.trans (PySem.W.mg_of X G a);cases e;exact⟨_,Zx l c k,hb kV dc pm an cd ct⟩
def Cn (K:Ac) (x:Str) (t:V):Prop:=∃ u,PySem.W.nsIn K mainGlobals x=some (some u)/\L2.RelV t u
def Cn.i {t:V}{u:Value}(a:PySem.W.nsIn K mainGlobals x=some (some u)) (r:L2.RelV t u):Cn K x t:=⟨u,a,r⟩
def Cn.mk {t:V}(H:Cn K x t) (X:K.In h) (G:h.Ns mainGlobals mg):∃ u,mg x=some u/\L2.RelV t u:=by
 obtain⟨u,a,r⟩:=H;exact⟨u,PySem.W.mg_of X G a,r⟩
def yB {R:Rk} [Lo R] {N ps:List Str}{k n:Nat}{g:Sm}(F:Fy K mg x st) (Sc:yq N ps (zE st)) (hn:n=ps.length)
  (hb:∀ (kV doc pm:Value) (an:Option Addr) (Af ct:Value) (us:List Value),us.length=ps.length->bindArgs (PySem.W.fnOf x x (sD st) (v5 st) (zE st) .none kV doc pm an Af ct) ⟨us,[]⟩=pure (ps.zip us))
  (hbody:∀ (f:Addr) (Af:Value) (A:Around) (outer:List Env) (s:Shared) (H:Hp) (E:XK),yF k (A.deeper (envOfC x (zE st) s.heap.objs.size f Af))->
   ∃ t,u9 (tP vG P w K mg base N x (zE st) f Af A outer s H E).rp (v5 st) t/\yJ R g t):FD P w K mg base x (k+1) ps (ya R (yo N n g)):=by
 obtain⟨f,fd,F,hm⟩:=F;exact QE F hm Sc hn hb (hbody f)
end
end L5
namespace L2
open PySem PySem.Spec PyProof.Rows
def jr (lo c:Int) (n:Nat):It:=⟨λ i _=>i<n,λ i H x H'=>H'=H/\x=.int (lo+i*c),λ i _=>n<=i⟩
def X8 {P:Program}{w:World}{K:Ac}{tg:Expr}(it:Addr) (lo c:Int) (n:Nat):Turn P w K tg (jr lo c n) [it] it (λ i h=>IsRangeIter h it (lo+(i:Nat)*c) ((n:Int)-(i:Nat)) c) where
 mem:=by simp
 obj:=λ i h st b hb=>by
  have e:b=it:=by simpa using hb
  subst e;exact⟨_,st,λ v z=>by
   have z':Data.fields _=Data.cell v:=z;cases z'⟩
 keep:=λ i h h' st k=>k it (by simp) _ st
 item:=by
  intro X hP hw hK hc i pins s B H E I hf st hg;subst hP hw hK;obtain⟨f0,f1,f2,f3,f4,f5⟩:=hf it (by simp);have W:=Walks.range (prog:=X.prog) (w:=X.w) (I.ok.hd hc) it lo c n;refine W.item i s _ _ hg st λ v h' tk hv st' kk=>?_;obtain⟨t,rfl⟩:=hv;have I1:Inv X pins B H { s with heap:=h',toks:=tk }:=I.turned (λ b o hb e=>kk b o (by simpa using hb) e) f0 f1 f3 f4 f5;exact⟨_,rfl,kN (s:={ s with heap:=h',toks:=tk }) (n:="range_iterator") st' rfl rfl (by decide) ⟨.int (lo+i*c),H,I1,⟨t,rfl⟩,⟨rfl,rfl⟩,st',λ b hb=>(hf b hb).1⟩⟩
 done:=by
  intro X hP hw hK hc i pins s B H E I hf st hg;subst hP hw hK;obtain⟨f0,f1,f2,f3,f4,f5⟩:=hf it (by simp);exact wpAny_pyNext_range_end (I.ok.hd hc) st (by have:n<=i:=hg;lia) λ h' eb=>⟨rfl,I.turned (t':=s.toks) (λ b o hb e=>eb b o hb e) f0 f1 f3 f4 f5⟩
 self:=λ _ _ _ _ _ st h=>wpAny_pyIter_rangeiter st h
noncomputable def uJ (i j c:Int):Nat:=if i<j then ((j-i-1)/c+1).toNat else 0
def ao {i j c:Int}(hc:0<c):((uJ i j c:Nat):Int)=Builtin.Range.rangeSize i j c:=by
 unfold uJ Builtin.Range.rangeSize;rw[if_pos hc];split
 .rename_i h;have:0<=(j-i-1)/c:=Int.ediv_nonneg (by lia) (by lia);lia
 .rfl
def Ws {a b c:Int}(ha:-(2 ^ 31)<=a) (ha':a<2 ^ 31) (hb:-(2 ^ 31)<=b) (hb':b<2 ^ 31) (hc:0<c) (hc':c<1000000):Builtin.Range.small a b c=true:=by
 have e:=ao (i:=a) (j:=b) hc;have h1:(b-a-1)/c<=(b-a-1)\/¬ a<b:=by
  by_cases h:a<b
  .exact .inl (Int.ediv_le_self _ (by lia))
  .exact .inr h
 have h2:0<=Builtin.Range.rangeSize a b c/\Builtin.Range.rangeSize a b c<=2 ^ 33:=by
  refine⟨by lia,?_⟩;unfold Builtin.Range.rangeSize;rw[if_pos hc];split <;> lia
 have h3:Builtin.Range.rangeSize a b c*c<=2 ^ 33*1000000:=by
  refine Int.le_trans (DG h2.2 (by lia)) ?_;exact Int.mul_le_mul_of_nonneg_left (by lia) (by decide)
 have h4:0<=Builtin.Range.rangeSize a b c*c:=Int.mul_nonneg h2.1 (by lia);unfold Builtin.Range.small;simp only[Builtin.Range.rangeFitsLong,BN,DH,decide_eq_true_eq,beq_iff_eq,hc,if_true];lia
section
variable {X:Cx}{tg:Expr}
def WV {pins:List (Addr×Obj)}{B:St}{H:Hp}{s:Shared}{R:It->Hp->Prop}{E:Value->Shared->Prop}{lo hi c:Int}{t u v:Tok}{tk:Nat}(I:Inv X pins B H s) (h1:-(2 ^ 31)<=lo) (h2:lo<2 ^ 31) (h3:-(2 ^ 31)<=hi) (h4:hi<2 ^ 31) (h5:0<c) (h6:c<1000000)
  (q:R (jr lo c (uJ lo hi c)) H):wpAny (model X.prog X.w) X.A (pyIter (.ref s.heap.objs.size)) (el X pins B tg R) E { s with heap:=s.heap.push { cls:=.type "range",data:=.fields #[.int lo t,.int hi u,.int c v] },toks:=tk }:=by
 refine wpAny_pyIter_range (IsRange.new ..) (Ws h1 h2 h3 h4 h5 h6) ?_;have I1:Inv X pins B H { s with heap:=s.heap.push { cls:=.type "range",data:=.fields #[.int lo t,.int hi u,.int c v] },toks:=tk }:=I.kept λ b o e=>Ao _ e;refine⟨(s.heap.push { cls:=.type "range",data:=.fields #[.int lo t,.int hi u,.int c v] }).objs.size,[(s.heap.push { cls:=.type "range",data:=.fields #[.int lo t,.int hi u,.int c v] }).objs.size],_,_,H,rfl,
  I1.kept (t':=tk) λ b o e=>Ao _ e,X8 _ lo c (uJ lo hi c),?_,λ b hb=>?_,q⟩
 .have e1:lo+((0:Nat):Int)*c=lo:=by simp
  have e2:((uJ lo hi c:Nat):Int)-((0:Nat):Int)=Builtin.Range.rangeSize lo hi c:=by rw[ao h5];simp
  show IsRangeIter _ _ (lo+((0:Nat):Int)*c) (((uJ lo hi c:Nat):Int)-((0:Nat):Int)) c;rw[e1,e2];exact AE _ rfl
 .have e:b=(s.heap.push { cls:=.type "range",data:=.fields #[.int lo t,.int hi u,.int c v] }).objs.size:=by simpa using hb
  subst e;exact I1.me (Ag _) (I1.zx.fresh (Ag _))
def Qj (ta:TA):TI:=fun B H R=>ta B H λ vs H1=>∃ i j c:Int,vs=[.int i,.int j,.int c]/\(-(2 ^ 31)<=i/\i<2 ^ 31/\-(2 ^ 31)<=j/\j<2 ^ 31/\0<c/\c<1000000)/\R (jr i c (uJ i j c)) H1
def V7 {a b c:Expr}{ta:TA}{p pos:Pos}(hg:Gl X "range") (hm:X.mg "range"=none) (ha:PA X [a,b,c] ta) (hs:starEach [a,b,c] X.env=[(false,eval a X.env),(false,eval b X.env),(false,eval c X.env)]:=by rfl) (hs2:starEach [b,c] X.env=[(false,eval b X.env),(false,eval c X.env)]:=by rfl):
  PI X tg (.Call (.Name "range" p) [a,b,c] [] pos) (Qj ta):=by
 intro pins s B H R I h;refine Call_ (rD I hg hm boot_range (PyProof.Rows.callWith_type1 (zG (ha pos pins s B H _ I h) λ us s1 ⟨vs,H1,I1,r1,q1⟩=>?_) (by rw[hs,hs2]) (by rw[hs2];rfl)));obtain⟨i,j,c,e,⟨q1,q2,q3,q4,q5,q6⟩,q⟩:=q1;subst e;cases r1 with
 | cons r rr=>
  cases rr with
  | cons r' rr=>
   cases rr with
   | cons r2 rr=>
    cases rr;obtain⟨t,rfl⟩:=r;obtain⟨t',rfl⟩:=r';obtain⟨t2,rfl⟩:=r2;exact call_range_3 (by lia) (WV I1 q1 q2 q3 q4 q5 q6 q) (.inl (PyProof.noPylong_small (by lia)))
end
end L2
namespace L3
open PySem PySem.Spec L2
open PyProof.Rows hiding St
section
variable {X:Cx}{K:Ac}{tg e a b c:Expr}{es:List Expr}{tA:yp}{pos p:Pos}
noncomputable def sd (lo c:Int) (n:Nat):List D:=(List.range n).map λ(k:Nat)=>D.int (lo+(k:Int)*c)
def W_ {lo c:Int}{n i:Nat}{d:D}(h:(sd lo c n)[i]?=some d):i<n/\d=.int (lo+(i:Int)*c):=by
 unfold sd at h;rw[Az] at h;cases q:(List.range n)[i]? with
 | none=>rw[q] at h;cases h
 | some k=>
  rw[q] at h;obtain⟨h1,h2⟩:=AK.mp q;rw[BP] at h1;rw[Dv] at h2;subst h2;cases h;exact⟨h1,rfl⟩
def lj.WX {H1:Hp}{lo c:Int}{n:Nat}:lj K H1 (jr lo c n) ⟨sd lo c n,λ _=>True⟩:=λ i H S _ x2 _=>by
 refine⟨λ d hd=>?_,λ hl=>by rw[show (oI.mk (sd lo c n) λ _=>True).items=sd lo c n from rfl] at hl;unfold sd at hl;rw[Ay,BP] at hl;exact hl⟩;obtain⟨h1,rfl⟩:=W_ hd;refine⟨h1,λ x H' q=>?_⟩;obtain⟨rfl,rfl⟩:=q;exact⟨.refl _,x2,by simp only[zg]⟩
def aU (t:yp):wJ:=fun Y S R=>t Y S λ ds S1=>match ds with
 | [.int i,.int j,.int c]=>(-(2 ^ 31)<=i/\i<2 ^ 31/\-(2 ^ 31)<=j/\j<2 ^ 31/\0<c/\c<1000000)/\R ⟨sd i c (uJ i j c),λ _=>True⟩ S1
 | _=>False
def zm.three {H:Hp}{d d' d2:D}{xs:List V}(h:zm K H [d,d',d2] xs):∃ x y z,xs=[x,y,z]/\zg K H d x/\zg K H d' y/\zg K H d2 z:=by
 simp only[zm] at h;obtain⟨x,r,rfl,h1,y,r',rfl,h2,z,r2,rfl,h3,rfl⟩:=h;exact⟨x,y,z,rfl,h1,h2,h3⟩
def Uo (hm:X.mg "range"=none) (ha:xA X [a,b,c] tA) (hg:Gl X "range":=by rfl) (hs:starEach [a,b,c] X.env=[(false,eval a X.env),(false,eval b X.env),(false,eval c X.env)]:=by rfl) (hs2:starEach [b,c] X.env=[(false,eval b X.env),(false,eval c X.env)]:=by rfl):sL X tg (.Call (.Name "range" p) [a,b,c] [] pos) (aU tA):=by
 refine⟨fun Y S Q Q' hq z=>ha.mo Y S _ _ (λ ds S1 z=>?_) z,PI.imp (V7 hg hm ha.pa hs hs2) fun B H R hu=>?_⟩
 .split at z
  .exact⟨z.1,hq _ _ z.2⟩
  .exact z.elim
 .obtain⟨Y,S,r1,r2,z⟩:=hu;refine wC.go ha.mo r1 r2 z λ ds S1 xs H1 h1 q1 e1 p1=>?_;split at h1
  .obtain⟨x,y,w,rfl,q,q',q2⟩:=q1.three;simp only[zg] at q q' q2;subst q q' q2;exact⟨_,_,_,rfl,h1.1,h1.2 _ H1 e1 p1 .WX⟩
  .exact h1.elim
def tK:x9:=λ ds S Q=>match ds with
 | [.int i]=>Q (.int (if i<0 then -i else i)) S
 | _=>False
def tK.mo:vD tK:=λ ds S Q Q' hq h=>by
 unfold tK at h ⊢;split at h
 .exact hq _ _ h
 .exact h.elim
def tK.fits:uC K tK (λ xs H Q=>∃ i,xs=[.int i]/\Q (.int (if i<0 then -i else i)) H):=λ xs ds H S Q h0 h2 h=>by
 unfold tK at h;split at h
 .obtain⟨x,rfl,h1⟩:=h0.one;simp only[zg] at h1;subst h1;exact⟨_,rfl,h _ H (by simp only[zg]) (.refl H) h2⟩
 .exact h.elim
def U9 (hm:X.mg "abs"=none) (ha:xA X (e::es) tA) (hg:Gl X "abs":=by rfl) (he:starEach (e::es) X.env=(false,eval e X.env)::starEach es X.env:=by rfl) (Aq:(backTo pos (starEach es X.env)).any (·.1)=false:=by rfl):PD X (.Call (.Name "abs" p) (e::es) [] pos) (xK tK tA):=
 tw (se Oc hg hm boot_abs ha.pa (by decide) (by decide) he Aq) tK.mo tK.fits ha.mo
def uX (_ j:Int):Prop:=0<j/\j<2 ^ 200
def sS (i j:Int):Prop:=i.natAbs<2 ^ 200/\j.natAbs<2 ^ 200
instance (i j:Int):Decidable (uX i j):=by unfold uX;infer_instance
instance (i j:Int):Decidable (sS i j):=by unfold sS;infer_instance
def aC {n:Nat}(h:n<2 ^ 200):n.log2<200:=by
 rcases DR n with h0 | hp
 .rw[h0];decide
 .exact (Nat.log2_lt (BL hp)).mpr h
def Ym {i:Int}(h:i.natAbs<2 ^ 200):Builtin.Int.intBits i<=2 ^ 20:=by
 have:=aC h;unfold Builtin.Int.intBits;split <;> lia
def UY:yj X (binaryOp .FloorDiv) (rI uX λ i j=>.int (i/j)):=pD λ i j _ _ _ _ _ hc q=>by
 have h1:(0:Int)<j:=hc.1;have h2:j.natAbs<2 ^ 200:=by have:=hc.2;lia
 have h3:=aC h2;exact floordiv_int (by lia) (by rw[Int.fdiv_eq_ediv_of_nonneg i (by lia)];exact q) (.inl (PyProof.noPylong_of_log2 (by lia)))
def UN:yj X (binaryOp .Mult) (rI sS λ i j=>.int (i*j)):=pD λ _ _ _ _ _ _ _ hc q=>mul_int q (PySem.IntMulOk.of_bits (Ym hc.1) (Ym hc.2))
variable {ta tb:zq}
def nv (ha:PD X a ta) (hb:PD X b tb):PD X (.BinOp a .FloorDiv b pos) (yy (fI uX λ i j=>.int (i/j)) ta tb):=rg UY (fI.fits λ _ _ _=>by simp only[zg]) fI.mo ha hb
def iV (ha:PD X a ta) (hb:PD X b tb):PD X (.BinOp a .Mult b pos) (yy (fI sS λ i j=>.int (i*j)) ta tb):=rg UN (fI.fits λ _ _ _=>by simp only[zg]) fI.mo ha hb
end
end L3
namespace L5
open PySem PySem.Spec L2 L3
open PyProof.Rows hiding St
structure Xk (mg:Str->Option Value):Prop extends Bq mg where
 abs:mg "abs"=none
@[simp] noncomputable def f_:List T->Option T
 | [.int i]=>some (.int (if i<0 then -i else i))
 | _=>none
def Qz:vE zH f_ tK:=λ S Z ys z ds Q hz hv e hq=>by
 unfold f_ at e;split at e
 .cases e;obtain⟨d,rfl,h1⟩:=vI hv;cases h1.int;exact hq _ S (.refl S) (Cl.of (λ _=>nofun) xX)
 .cases e
@[simp] noncomputable def wy:T->T->Option T:=qz uX λ i j=>.int (i/j)
@[simp] noncomputable def vN:T->T->Option T:=qz sS λ i j=>.int (i*j)
def nF {fa fb:Ev->Option T}{ta tb:zq}(ha:yz fa ta) (hb:yz fb tb):xC (zb wy fa fb) (yy (fI uX λ i j=>.int (i/j)) ta tb):=zZ (nZ (λ _ _ _=>xX) λ _ _ _=>nofun) ha hb
def gh {fa fb:Ev->Option T}{ta tb:zq}(ha:yz fa ta) (hb:yz fb tb):xC (zb vN fa fb) (yy (fI sS λ i j=>.int (i*j)) ta tb):=zZ (nZ (λ _ _ _=>xX) λ _ _ _=>nofun) ha hb
noncomputable def rF (j:Int):Bool:=decide (-1000000<=j)&&decide (j<1000000)
noncomputable def ke (lo c:Int) (n:Nat):List T:=(List.range n).map λ(k:Nat)=>T.int (lo+(k:Int)*c)
def Wr {S:SS}(lo c:Int) (n:Nat):zl S (ke lo c n) (sd lo c n):=by
 unfold ke sd
 induction List.range n with
 | nil=>exact .nil
 | cons k l ih=>exact .cons xX ih
noncomputable def oZ:List T->Option (List T)
 | [.int i,.int j,.int c]=>if (rF i=true/\rF j=true)/\rF c=true/\0<c then some (ke i c (uJ i j c)) else none
 | _=>none
def Xv {S:SS}{Z:Addr->Prop}{a b c:T}{ds:List D}(h:ot S Z [a,b,c] ds):∃ d d' d2,ds=[d,d',d2]/\Vw S Z a d/\Vw S Z b d'/\Vw S Z c d2:=by
 obtain⟨d,cs,rfl,h1,d',cs2,rfl,h2,d2,cs3,rfl,h3,h4⟩:=h;cases h4;exact⟨d,d',d2,rfl,h1,h2,h3⟩
def Ts {b:Bool}{g:Ev->Option (List T)}{tA:yp}(h:qP g tA):rX b (wq oZ g) (aU tA):=λ S Z Y J ts Q hE e hq=>by
 obtain⟨ys,e1,e2⟩:=Ak e;refine h S Z Y J ys _ hE e1 λ ds S1 s1 r1=>?_;unfold oZ at e2;split at e2
 .split at e2
  .rename_i hc;cases e2;obtain⟨d,d',d2,rfl,h1,h2,h3⟩:=Xv r1;cases h1.int;cases h2.int;cases h3.int;simp only[rF,BN,decide_eq_true_eq] at hc;exact⟨⟨by lia,by lia,by lia,by lia,by lia,by lia⟩,hq _ S1 s1 (Wr _ _ _) λ _ _=>trivial⟩
  .cases e2
 .cases e2
end L5
namespace MX
open PySem PySem.Spec PyProof.Rows
section
variable {prog:Program}{w:World}{A:Around}{R:Result->Shared->Prop}{I:Addr}{fp wr:List Addr}{n:Nat}{P:Nat->Value->Prop}{St:Nat->Heap->Prop}
def Old (P:Nat->Value->Prop) (bt:Nat->Nat->Bool) (j:Nat) (old:Array Value):Prop:=(j=0/\old=#[])\/∃ i v,j=i+1/\old=#[v,v]/\P (argBest bt i) v
def minD (W:Walks prog w A.in1 I fp wr n P St) (bt:Nat->Nat->Bool) (Eu:CmpOf prog w A.in1 .Lt P bt) (S:Addr) (hSf:S∉fp) (dv:Value):
  ∀ (k j:Nat) (s:Shared) (old:Array Value) (c:Nat),j+k=n->St j s.heap->Old P bt j old->
  s.heap.get? S=some { cls:=.type "list",dict:=none,data:=.seq old c,slots:=#[] }->
  (∀ v h' tk,(n=0/\v=dv)\/(0<n/\P (argBest bt (n-1)) v)->(∀ b o,b∉wr->b≠S->s.heap.get? b=some o->h'.get? b=some o)->R (.ok (.ret v)) { s with heap:=h',toks:=tk })->
  codeAny (model prog w) A (.builtin "min.loop" ⟨[.ref I,.none,.ref S],[("default",dv)]⟩) R s:=by
 have hSw:S∉wr:=λ h=>hSf (W.sub _ h);have hname:(toString "min"++toString ".loop":String)="min.loop":=by decide
 intro k
 induction k with
 | zero=>
  intro j s old c hk AO ho hS hR;have hin:j=n:=by lia
  refine codeAny_builtin F.entry_min_loop ?_;rw[Around.under_plainId F.plain_min_loop _];show wpAny _ A.in1 (seqItems? (.ref S) >>= _) _ _ s;refine Ab (wpAny_seqItems hS rfl ?_);show wpAny _ A.in1 (tryCatch (pyNext (.ref I)) _ >>= _) _ _ s;refine Ab (wpAny_tryCatch (W.done s _ _ (hin▸AO) λ h' tk hk'=>?_));rcases ho with ⟨h0,rfl⟩ | ⟨i,v,hi,rfl,hv⟩
  .show wpAny _ A.in1 (rule _ >>= _) _ _ _;refine Ab (wpAny_rule (Ad ?_));exact hR dv h' tk (.inl ⟨by lia,rfl⟩) λ b o hb _ e=>hk' b o hb e
  .have hS':=hk' S _ hSw hS;show wpAny _ A.in1 (updateSeq S (λ _=>#[]) >>= _) _ _ _;refine Ab (wpAny_updateSeq hS' rfl (Ab (wpAny_letGo (Ad ?_))));exact hR v _ tk (.inr ⟨by lia,by rw[show n-1=i by lia];exact hv⟩) λ b o hb hbS e=>(Heap.get?_update_other _ _ (Ne.symm hbS)).trans (hk' b o hb e)
 | succ k ih=>
  intro j s old c hk AO ho hS hR;refine codeAny_builtin F.entry_min_loop ?_;rw[Around.under_plainId F.plain_min_loop _];show wpAny _ A.in1 (seqItems? (.ref S) >>= _) _ _ s;refine Ab (wpAny_seqItems hS rfl ?_);show wpAny _ A.in1 (tryCatch (pyNext (.ref I)) _ >>= _) _ _ s;refine Ab (wpAny_tryCatch (W.item j s _ _ (by lia) AO λ v h' tk hP C2 hk'=>?_));have hS':=hk' S _ hSw hS;have hz:old.size<=sizeLine:=by
   rcases ho with ⟨_,rfl⟩ | ⟨_,_,_,rfl,_⟩
   .decide
   .show 2<=sizeLine;decide
  have put:∀ (tk:Nat),Old P bt (j+1) #[v,v]->wpAny (model prog w) A.in1 (updateSeq S (λ _=>#[v,v])) (λ _ s'=>codeAny (model prog w) A (.builtin "min.loop" ⟨[.ref I,.none,.ref S],[("default",dv)]⟩) R s') (λ _ _=>False) { s with heap:=h',toks:=tk }:=λ tk hb=>by
   refine wpAny_updateSeq (hz:=hz) hS' rfl ?_;refine ih (j+1) _ #[v,v] _ (by lia) (W.frame _ _ _ C2 λ b hbf o e=>?_) hb (Heap.get?_update_self _ hS' rfl) λ v' h'' tk'' hP' hk''=>?_
   .exact (Heap.get?_update_other _ _ (λ h:S=b=>hSf (by rw[h];exact hbf))).trans e
   .exact hR v' h'' tk'' hP' λ b o De hbS e=>hk'' b o De hbS ((Heap.get?_update_other _ _ (Ne.symm hbS)).trans (hk' b o De e))
  rcases ho with ⟨h0,rfl⟩ | ⟨i,vb,hi,rfl,hvb⟩
  .show wpAny _ A.in1 (updateSeq S (λ _=>#[v,v]) >>= _) _ _ _;refine Ab (wpAny_mono (put tk (.inr ⟨j,v,rfl,rfl,by subst h0;exact hP⟩)) (λ _ s' h=>?_) λ _ _ z=>z.elim);rw[hname];exact Ad ⟨plainId_quiet F.plain_min_loop _,h⟩
  .show wpAny _ A.in1 (tryCatch (holding [v,v] (richCompare .Lt v vb >>= _)) _ >>= _) _ _ _;refine Ab (wpAny_tryCatch (wpAny_holding (Ab (Eu j (argBest bt i) v vb _ _ _ hP hvb ?_))));refine Ab (wpAny_holding (wpAny_truthy_bool ?_));refine Ab (wpAny_letGo (Ad ?_));subst hi;cases hb:bt (i+1) (argBest bt i) with
   | true=>
    simp only[if_true];refine Ab (wpAny_mono (put tk (.inr ⟨i+1,v,rfl,rfl,by simp only[argBest,hb,if_true];exact hP⟩)) (λ _ s' h=>Ab (wpAny_letGo ?_)) λ _ _ z=>z.elim);rw[hname];exact Ad ⟨plainId_quiet F.plain_min_loop _,h⟩
   | false=>
    simp only[A5,if_false];refine Ab (wpAny_letGo ?_);rw[hname];refine Ad ⟨plainId_quiet F.plain_min_loop _,ih (i+1+1) _ #[vb,vb] c (by lia) C2 (.inr ⟨i+1,vb,rfl,rfl,by simp only[argBest,hb,A5,if_false];exact hvb⟩) hS' λ v' h'' tk'' hP' hk''=>?_⟩;exact hR v' h'' tk'' hP' λ b o De hbS e=>hk'' b o De hbS (hk' b o De e)
end
section
variable {prog:Program}{w:World}{A:Around}{E:Value->Shared->Prop}{s:Shared}
theorem PB {id:String}{b:Builtin}{args:List Value}{kw:List (Str×Value)}{Q:Value->Shared->Prop}(hk:builtinKind id=none) (hp:plainId id=true)
  (hb:entryFor table id=some b) (ha:argsOk id ⟨args,kw⟩)
  (hc:wpAny (model prog w) A.in1 (b ⟨args,kw⟩) (λ fin s'=>match fin with
   | .done f=>(match (Except.ok f:Result) with | .ok (.ret v)=>Q v s' | .ok _=>False | .error e=>E e s')
   | .again c'=>c'.quiet=true/\codeAny (model prog w) A c' (λ r s'=>match r with | .ok (.ret v)=>Q v s' | .ok _=>False | .error e=>E e s') s') E s):
  wpAny (model prog w) A (call (.builtin id) args kw) Q E s:=by
 refine wpAny_call (codeAny_call_builtin hp hb ?_);simp only[checkBuiltinCall,hk];cases D4:Manifest.signature? id with
 | none=>exact Ad hc
 | some sig=>
  have ha':Bind.checkArgs id sig ⟨args,kw⟩=pure ():=by simpa only [argsOk,D4] using ha
  simp only[ha'];exact Ad hc
def Ou (a d:Value):argsOk "min" ⟨[a],[("default",d)]⟩:=by unfold argsOk;kernel_rfl
def Rc {l:Addr}{xs:Array (Int×Tok)}{Q:Value->Shared->Prop}(hh:A.handled=none) (hl:s.heap.IsList l (intItems xs))
  (h:∀ v h' tk,(xs.size=0/\v=.none)\/(0<xs.size/\(intItems xs)[argBest (λ i j=>decide (numAt xs i<numAt xs j)) (xs.size-1)]?=some v)->(∀ b o,s.heap.get? b=some o->h'.get? b=some o)->Q v { s with heap:=h',toks:=tk }):
  wpAny (model prog w) A (call (.builtin "min") [.ref l] [("default",.none)]) Q E s:=by
 have hname:(toString "min"++toString ".loop":String)="min.loop":=by decide
 refine PB F.kind_min F.plain_min F.entry_min (Ou _ _) ?_;show wpAny _ A.in1 (Builtin.Builtins.bindParams "min" ["key","default"] 0 ⟨[],[("default",.none)]⟩ >>= _) _ _ s;refine Ab (wpAny_of_eq (show Builtin.Builtins.bindParams "min" ["key","default"] 0 ⟨[],[("default",.none)]⟩=pure [none,some .none] from rfl) ?_);refine Ab (Ad ?_);refine Ab (iter_intList hl λ s₂ e st A7 hlI=>?_);subst e;refine Ab (wpAny_newObj_type ?_);rw[hname];have W:=Walks.list (prog:=prog) (w:=w) (A:=A.in1) hh s.heap.objs.size l hlI (intItems xs);have hSf:(s.heap.push { cls:=.type "list_iterator",data:=.fields #[.ref l,.int 0 0] }).objs.size∉[s.heap.objs.size,l]:=λ hm=>BO _ (A7 _ hm);refine Ad ⟨plainId_quiet F.plain_min_loop _,minD W (λ i j=>decide (numAt xs i<numAt xs j)) (CmpOf.ints_lt (numAt xs) (λ _ _=>intItems_at)) _ hSf .none (intItems xs).size 0 _ #[] _ (by simp) (W.frame _ _ _ st λ b _ o e=>Ao _ e) (.inl ⟨rfl,rfl⟩) (AE _ rfl) λ v h' tk hv hk=>?_⟩;refine h v h' tk (by simpa [intItems] using hv) λ b o e=>?_;have e1:(s.heap.push { cls:=.type "list_iterator",data:=.fields #[.ref l,.int 0 0] }).get? b=some o:=Ao _ e;exact hk b o (by simpa using Aw (Ap e)) (Aw (Ap e1)) (Ao _ e1)
end
end MX
namespace L2
open PySem PySem.Spec PyProof.Rows
theorem j9:∀ {ns:List Int}{us:List Value},Vals (ns.map V.int) us->∃ xs:List (Int×Tok),us=xs.map (λ p=>.int p.1 p.2)/\xs.map (·.1)=ns
 | [],_,h=>by cases h;exact⟨[],rfl,rfl⟩
 | n::ns,us,h=>by
  cases h with
  | cons r rr=>
   obtain⟨t,rfl⟩:=r;obtain⟨xs,rfl,rfl⟩:=j9 rr;exact⟨(n,t)::xs,rfl,rfl⟩
section
variable {X:Cx}
def a_ {xs:List (Int×Tok)}{i:Nat}{v:Value}(h:(intItems xs.toArray)[i]?=some v):i<xs.length/\∃ t,v=.int (numAt xs.toArray i) t:=by
 obtain⟨t,rfl⟩:=intItems_at h;refine⟨?_,t,rfl⟩;obtain⟨h1,_⟩:=Array.getElem?_eq_some_iff.mp h;simpa [intItems] using h1
def bV {xs:List (Int×Tok)}{i:Nat}(h:i<xs.length):numAt xs.toArray i∈xs.map (·.1):=by
 rw[numAt_eq];exact getD_mem (by simpa using h)
def aw {xs:List (Int×Tok)}{a:Int}(h:a∈xs.map (·.1)):∃ j,j<xs.length/\a=numAt xs.toArray j:=by
 obtain⟨j,hj,rfl⟩:=mem_getD h;exact⟨j,by simpa using hj,by rw[numAt_eq]⟩
def PU (hc:X.calm=true):yK X (.builtin "max") (λ xs H Q=>∃ (p:Addr) (ns:List Int),xs=[.ref p]/\zO X.K H p (ns.map V.int)/\0<ns.length/\∀ M,M∈ns->(∀ a∈ns,a<=M)->Q (.int M) H):=by
 intro pins s B H xs us Q I r h;obtain⟨p,ns,rfl,hq,hn,q⟩:=h;obtain⟨u,rfl,rx⟩:=vals1 r;cases rx;obtain⟨its,r',pl,hz⟩:=I.list hq;obtain⟨zs,rfl,rfl⟩:=j9 r';have hl:s.heap.IsList p (intItems zs.toArray):=by
  have:=pl.isList;simpa [intItems] using this
 refine max_intList (I.ok.hd hc) hl (by simpa using hn) λ v h' tk hv hk=>?_;obtain⟨hi,t,rfl⟩:=a_ hv;obtain⟨h1,h2⟩:=argBest_gt (numAt zs.toArray) (zs.toArray.size-1);refine⟨.int _,H,I.kept hk,⟨t,rfl⟩,q _ (bV hi) λ a ha=>?_⟩;obtain⟨j,hj,rfl⟩:=aw ha;exact h2 j (by simp;lia)
end
section
variable {X:Cx}{e:Expr}{t:TA}{p pos q kp:Pos}{j:Nat}
def Vc (K:Ac):List V->Hp->VK->Prop:=λ xs H Q=>∃ (p:Addr) (ns:List Int),xs=[.ref p]/\zO K H p (ns.map V.int)/\0<ns.length/\∀ M,M∈ns->(∀ a∈ns,a<=M)->Q (.int M) H
def cX (K:Ac):List V->Hp->VK->Prop:=λ xs H Q=>∃ (p:Addr) (ns:List Int),xs=[.ref p]/\zO K H p (ns.map V.int)/\(ns=[]->Q .zi H)/\∀ M,M∈ns->(∀ a∈ns,M<=a)->Q (.int M) H
def VR (hc:X.calm=true) (hg:Gl X "min") (hm:X.mg "min"=none) (ha:PA X [e] t) (he:backTo pos (starEach [e] X.env)=(false,eval e X.env)::backTo pos (starEach [] X.env):=by rfl) (Aq:(backTo pos (starEach [e] X.env)).any (·.1)=false:=by rfl):
  PE X (.Call (.Name "min" p) [e] [⟨some "default",.Constant .none j q,kp⟩] pos) (oQ (cX X.K) t):=by
 intro pins s B H Q I h;refine wpAny_Call_Name_kw (rD I hg hm boot_min ?_);refine PyProof.Rows.callWith_kw (zG (ha pos pins s B H _ I h) λ us s1 ⟨vs,H1,I1,r1,q1⟩=>?_) he Aq rfl rfl;refine PyProof.Rows.kws_cons (Constant_none (PyProof.Rows.kws_nil ?_));show wpAny (model X.prog X.w) X.A (call (.builtin "min") us [("default",.none)]) (EP X pins B Q) X.xe s1;obtain⟨p,ns,rfl,hq,hn,hM⟩:=q1;obtain⟨u,rfl,rx⟩:=vals1 r1;cases rx;obtain⟨its,r',pl,hz⟩:=I1.list hq;obtain⟨zs,rfl,rfl⟩:=j9 r';have hl:s1.heap.IsList p (intItems zs.toArray):=by
  have:=pl.isList;simpa [intItems] using this
 refine MX.Rc (I1.ok.hd hc) hl λ v h' tk hv hk=>?_;rcases hv with ⟨h0,rfl⟩ | ⟨h0,hv⟩
 .exact⟨.zi,H1,I1.kept hk,rfl,hn (by
   have e0:zs=[]:=by simpa using h0
   rw[e0];rfl)⟩
 .obtain⟨hi,t,rfl⟩:=a_ hv;obtain⟨h1,h2⟩:=argBest_lt (numAt zs.toArray) (zs.toArray.size-1);refine⟨.int _,H1,I1.kept hk,⟨t,rfl⟩,hM _ (bV hi) λ a ha=>?_⟩;obtain⟨j,hj,rfl⟩:=aw ha;exact h2 j (by simp;lia)
end
end L2
namespace L3
open PySem PySem.Spec L2
open PyProof.Rows hiding St
section
variable {X:Cx}{K:Ac}{e:Expr}{tA:yp}{p pos q kp:Pos}{j:Nat}
def rA (d:D) (S:SS) (ns:List Int):Prop:=match d with
 | .yH es=>es=ns.map D.int
 | .ref a=>S a=some (.lst (ns.map D.int))
 | _=>False
theorem rA.sq {H:Hp}{S:SS}{d:D}{v:V}{ns:List Int}(r:zg K H d v) (p:zJ K H S) (h:rA d S ns):∃ a,v=.ref a/\zO K H a (ns.map V.int):=by
 unfold rA at h;split at h
 .subst h;simp only[zg] at r;obtain⟨a,xs,r1,r2,r3⟩:=r;rw[r3.ints] at r2;exact⟨a,r1,r2.sq⟩
 .rename_i a;simp only[zg] at r;obtain⟨xs,x1,x2⟩:=p a _ h;rw[x2.ints] at x1;exact⟨a,r,.inl (.inl x1)⟩
 .exact h.elim
def rK:x9:=λ ds S Q=>∃ d ns,ds=[d]/\rA d S ns/\0<ns.length/\∀ M,M∈ns->(∀ a∈ns,a<=M)->Q (.int M) S
def rJ:x9:=λ ds S Q=>∃ d ns,ds=[d]/\rA d S ns/\(ns=[]->Q .zi S)/\∀ M,M∈ns->(∀ a∈ns,M<=a)->Q (.int M) S
def rK.mo:vD rK:=λ ds S Q Q' hq ⟨d,ns,h1,h2,h3,h4⟩=>⟨d,ns,h1,h2,h3,λ M a b=>hq _ _ (h4 M a b)⟩
def rJ.mo:vD rJ:=λ ds S Q Q' hq ⟨d,ns,h1,h2,h3,h4⟩=>⟨d,ns,h1,h2,λ e=>hq _ _ (h3 e),λ M a b=>hq _ _ (h4 M a b)⟩
def rK.fits:uC K rK (Vc K):=λ xs ds H S Q h0 h2 h=>by
 obtain⟨d,ns,rfl,h1,h3,h4⟩:=h;obtain⟨x,rfl,r⟩:=h0.one;obtain⟨a,rfl,sq⟩:=rA.sq r h2 h1;exact⟨a,ns,rfl,sq,h3,λ M x y=>h4 M x y _ H (by simp only[zg]) (.refl H) h2⟩
def rJ.fits:uC K rJ (cX K):=λ xs ds H S Q h0 h2 h=>by
 obtain⟨d,ns,rfl,h1,h3,h4⟩:=h;obtain⟨x,rfl,r⟩:=h0.one;obtain⟨a,rfl,sq⟩:=rA.sq r h2 h1;exact⟨a,ns,rfl,sq,λ e=>h3 e _ H (by simp only[zg]) (.refl H) h2,λ M x y=>h4 M x y _ H (by simp only[zg]) (.refl H) h2⟩
def Uv (hm:X.mg "max"=none) (ha:xA X [e] tA) (hc:X.calm=true:=by rfl) (hg:Gl X "max":=by rfl) (he:starEach [e] X.env=(false,eval e X.env)::starEach [] X.env:=by rfl) (Aq:(backTo pos (starEach [] X.env)).any (·.1)=false:=by rfl):PD X (.Call (.Name "max" p) [e] [] pos) (xK rK tA):=
 tw (se (PU hc) hg hm boot_max ha.pa (by decide) (by decide) he Aq) rK.mo rK.fits ha.mo
def Uu (hm:X.mg "min"=none) (ha:xA X [e] tA) (hc:X.calm=true:=by rfl) (hg:Gl X "min":=by rfl) (he:backTo pos (starEach [e] X.env)=(false,eval e X.env)::backTo pos (starEach [] X.env):=by rfl) (Aq:(backTo pos (starEach [e] X.env)).any (·.1)=false:=by rfl):
  PD X (.Call (.Name "min" p) [e] [⟨some "default",.Constant .none j q,kp⟩] pos) (xK rJ tA):=
 tw (VR hc hg hm ha.pa he Aq) rJ.mo rJ.fits ha.mo
end
end L3
namespace L5
open PySem PySem.Spec L2 L3
open PyProof.Rows hiding St
noncomputable def tE:List Int->Option Int
 | []=>none
 | n::ns=>match tE ns with
  | none=>some n
  | some m=>some (if m<n then n else m)
noncomputable def uK:List Int->Option Int
 | []=>none
 | n::ns=>match uK ns with
  | none=>some n
  | some m=>some (if n<m then n else m)
theorem gy:∀ {ns:List Int},tE ns=none->ns=[]
 | [],_=>rfl
 | n::ns,h=>by unfold tE at h;split at h <;> cases h
theorem gu:∀ {ns:List Int},uK ns=none->ns=[]
 | [],_=>rfl
 | n::ns,h=>by unfold uK at h;split at h <;> cases h
theorem nP:∀ {ns:List Int}{M:Int},tE ns=some M->M∈ns/\∀ a∈ns,a<=M
 | [],_,h=>by cases h
 | n::ns,M,h=>by
  unfold tE at h;split at h
  .rename_i e;cases h;rw[gy e];exact⟨Am,λ a ha=>by cases AJ.mp ha;exact AF _⟩
  .rename_i m e;obtain⟨h1,h2⟩:=nP e;cases h;split
   .exact⟨Am,λ a ha=>by
     rcases Ah.mp ha with rfl | x
     .exact AF _
     .have:=h2 a x;lia⟩
   .exact⟨Ar _ h1,λ a ha=>by
     rcases Ah.mp ha with rfl | x
     .omega
     .exact h2 a x⟩
theorem k6:∀ {ns:List Int}{M:Int},uK ns=some M->M∈ns/\∀ a∈ns,M<=a
 | [],_,h=>by cases h
 | n::ns,M,h=>by
  unfold uK at h;split at h
  .rename_i e;cases h;rw[gu e];exact⟨Am,λ a ha=>by cases AJ.mp ha;exact AF _⟩
  .rename_i m e;obtain⟨h1,h2⟩:=k6 e;cases h;split
   .exact⟨Am,λ a ha=>by
     rcases Ah.mp ha with rfl | x
     .exact AF _
     .have:=h2 a x;lia⟩
   .exact⟨Ar _ h1,λ a ha=>by
     rcases Ah.mp ha with rfl | x
     .omega
     .exact h2 a x⟩
noncomputable def nN:List T->Option T
 | [.lst ts]=>(wW ts).bind λ ns=>(tE ns).map .int
 | _=>none
noncomputable def nL:List T->Option T
 | [.lst ts]=>(wW ts).map λ ns=>match uK ns with
  | none=>.zi
  | some m=>.int m
 | _=>none
def Vw.ints {S:SS}{Z:Addr->Prop}{ns:List Int}{d:D}(h:Vw S Z (.lst (ns.map T.int)) d):rA d S ns:=by
 rcases h with h | ⟨ts,p,ds,e,rfl,h1,h2,_⟩
 .simp only[Sn] at h;obtain⟨ds,h1,h2⟩:=h;have e:=uE.mp h2;subst e;rcases h1 with ⟨rfl,_⟩ | ⟨a,rfl,h3⟩
  .rfl
  .exact (uM h3).2
 .cases e;rw[uE.mp h2] at h1;exact h1
def Qv:vE zH nN rK:=λ S Z ys z ds Q hz hv e hq=>by
 unfold nN at e;split at e
 .obtain⟨d,rfl,h1⟩:=vI hv;obtain⟨ns,e1,e2⟩:=Ak e;rw[qy e1] at h1;obtain⟨M,e3,rfl⟩:=AD e2;obtain⟨m1,m2⟩:=nP e3;refine⟨d,ns,rfl,h1.ints,Dq m1,λ M' a b=>?_⟩;have:M'=M:=Int.le_antisymm (m2 M' a) (b M m1);subst this;exact hq _ S (.refl S) (Cl.of (λ _=>nofun) xX)
 .cases e
def Qu:vE zH nL rJ:=λ S Z ys z ds Q hz hv e hq=>by
 unfold nL at e;split at e
 .obtain⟨d,rfl,h1⟩:=vI hv;obtain⟨ns,e1,e2⟩:=AD e;rw[qy e1] at h1;refine⟨d,ns,rfl,h1.ints,λ en=>?_,λ M' a b=>?_⟩
  .subst en;cases e2;exact hq _ S (.refl S) (Cl.of (λ _=>nofun) jR)
  .cases e3:uK ns with
   | none=>rw[gu e3] at a;cases a
   | some M=>
    rw[e3] at e2;cases e2;obtain⟨m1,m2⟩:=k6 e3;have:M'=M:=Int.le_antisymm (b M m1) (m2 M' a);subst this;exact hq _ S (.refl S) (Cl.of (λ _=>nofun) xX)
 .cases e
end L5
namespace L5
open L2 L3
def okA {R:Rk}{g:Sm}{t:yO}(h:yJ R g t:=by
 repeat' first
  | (with_reducible first | exact zI _ | apply Sy | apply T6 | apply Sb)
  | (with_reducible first | exact yM _ | refine zZ (R:=we) xT ?_ ?_ | refine vy (R:=we) ?_ | apply bS | apply bU)
  | ((try first | refine xB.fr ?_ | refine xB.fe ?_);with_reducible first | exact zD _ | refine zZ (R:=zH) (by with_reducible first | exact good_add | exact kL | exact pV | exact Qy | exact gY | exact gX | exact gZ | exact gU | exact Zq) ?_ ?_ | refine vy (R:=zH) ?_ | refine vd (R:=zH) (by with_reducible first | exact pU | exact gT | exact Qx | exact gW | exact Zr | exact Qt | exact Zp | exact Qw) ?_ | apply sk | apply ug | apply wR | apply nG | apply bP | apply rn | exact ky _ | exact kx _ | exact nD | apply nE | apply T_ | apply TB | refine Si (by with_reducible first | exact kL | exact gX | exact gZ) (by with_reducible first | exact kL | exact gX | exact gZ) ?_ ?_ ?_ | apply rm | exact Sg _)
  | (refine xB.er ?_;with_reducible first | exact yM _ | refine zZ (R:=we) xT ?_ ?_ | refine vy (R:=we) ?_ | apply bS | apply bU)
  | (with_reducible first | apply yA | apply xx | apply sj | exact sg | apply rj | apply kr | apply hX | apply pE | apply bM | exact kq _ | apply Tn | exact Tg | apply Ti | apply bN | apply Tj | exact Tq _ | apply Tp | apply Th)
  | (with_reducible first | exact xH | apply xc | exact yZ | apply zQ | apply t8 | apply gg | apply bQ | apply Se | apply bR | exact ku | exact uI _ | exact h_ | apply qq | exact Tu | apply Tv | apply pF | apply bO | apply hZ | apply Tt | apply Tr)
  | (first | exact nC _ | apply gf | apply Tw)
  | exact (kq _).fv):yJ R g t:=h
end L5
namespace RN
open L5
abbrev Bd:=List (Int×Int)
def xb (b c:Bd):Prop:=∀ q,yh b q=true->yh c q=true
def xb.refl (b:Bd):xb b b:=λ _ h=>h
def xb.of {b c:Bd}(h:∀ p∈b,∃ r∈c,r.1<=p.1/\r.2<=p.2):xb b c:=λ q x=>by
 obtain⟨p,hp,h1,h2⟩:=xk.mp x;obtain⟨r,hr,h3,h4⟩:=h p hp;exact xk.mpr ⟨r,hr,by lia,by lia⟩
def xb.at {b c:Bd}(h:xb b c) {p:Int×Int}(hp:p∈b):∃ r∈c,r.1<=p.1/\r.2<=p.2:=xk.mp (h p (xk.mpr ⟨p,hp,AF _,AF _⟩))
structure Gd (A B:Int) (b:Bd):Prop where
 pN:w9 b
 uj:∀ p∈b,(0<=p.1/\p.1<=A)/\0<=p.2/\p.2<=B
noncomputable def xl:Bd:=[(0,0)]
def Pn {q:Int×Int}:yh xl q=true↔0<=q.1/\0<=q.2:=by
 rw[xk];unfold xl;simp
theorem Gd.xl {A B:Int}(hA:0<=A) (hB:0<=B):Gd A B xl:=⟨by unfold RN.xl w9;simp,λ p hp=>by
 unfold RN.xl at hp;cases AJ.mp hp;exact⟨⟨AF _,hA⟩,AF _,hB⟩⟩
def Gd.Ry {A B:Int}{b:Bd}(h:Gd A B b):xb b RN.xl:=xb.of λ p hp=>⟨(0,0),by unfold RN.xl;simp,(h.uj p hp).1.1,(h.uj p hp).2.1⟩
theorem Gd.eq {A B:Int}{b c:Bd}(h:Gd A B b) (h':Gd A B c) (x:xb b c) (y:xb c b):b=c:=w9.eq h.pN h'.pN λ q=>by
 rw[BD];exact⟨x q,y q⟩
def Gd.least {A B:Int}{ps:Bd}(h:∀ p∈ps,(0<=p.1/\p.1<=A)/\0<=p.2/\p.2<=B):Gd A B (vf ps):=⟨kC ps,λ p hp=>h p (Rw hp)⟩
def aH {ps qs:Bd}(h:∀ p∈ps,∃ r∈qs,r.1<=p.1/\r.2<=p.2):xb (vf ps) (vf qs):=λ q x=>by
 rw[nR] at x ⊢;exact xb.of h q x
theorem Ze:∀ {b:Bd}{lo hi:Int},w9 b->(∀ p∈b,lo<=p.1/\p.1<=hi)->(b.length:Int)<=hi+1-lo\/b=[]
 | [],_,_,_,_=>.inr rfl
 | p::b,lo,hi,h,hb=>by
  have h1:=Bh.mp h;have hp:=hb p Am;refine .inl ?_;rcases Ze (lo:=p.1+1) (hi:=hi) h1.2 (λ q hq=>⟨by have:=(h1.1 q hq).1;lia,(hb q (Ar _ hq)).2⟩) with x | x
  .rw[AR];lia
  .subst x;simp;lia
theorem Zd:∀ {b:Bd}{lo hi:Int},w9 b->(∀ p∈b,lo<=p.2/\p.2<=hi)->(b.length:Int)<=hi+1-lo\/b=[]
 | [],_,_,_,_=>.inr rfl
 | p::b,lo,hi,h,hb=>by
  have h1:=Bh.mp h;have hp:=hb p Am;refine .inl ?_;rcases Zd (lo:=lo) (hi:=p.2-1) h1.2 (λ q hq=>⟨(hb q (Ar _ hq)).1,by have:=(h1.1 q hq).2;lia⟩) with x | x
  .rw[AR];lia
  .subst x;simp;lia
def Gd.pH {A B:Int}{b:Bd}(h:Gd A B b) (hA:0<=A):(b.length:Int)<=A+1:=by
 rcases Ze (lo:=0) (hi:=A) h.pN (λ p hp=>(h.uj p hp).1) with x | x
 .omega
 .subst x;simp;lia
def Gd.Rv {A B:Int}{b:Bd}(h:Gd A B b) (hB:0<=B):(b.length:Int)<=B+1:=by
 rcases Zd (lo:=0) (hi:=B) h.pN (λ p hp=>(h.uj p hp).2) with x | x
 .omega
 .subst x;simp;lia
noncomputable def yt (x:Int):Int:=if x>0 then x else 0
def k5 (x:Int):0<=yt x:=by unfold yt;split <;> lia
def gq {x y:Int}(h:x<=y):yt x<=yt y:=by unfold yt;split <;> split <;> lia
def SU {x g:Int}(h:0<=x) (hg:0<=g):yt (x-g)<=x:=by unfold yt;split <;> lia
noncomputable def xU (a b:Int) (p:Int×Int):Int×Int:=(yt (p.1-a),yt (p.2-b))
noncomputable def vm (A B:Int) (p:Int×Int):Bool:=decide (p.1<=A)&&decide (p.2<=B)
noncomputable def qJ (A B a b:Int) (bd:Bd):Bd:=vf ((bd.map (xU a b)).filter (vm A B))
def Oz (A B a b:Int) (bd:Bd):Gd A B (qJ A B a b bd):=Gd.least λ p hp=>by
 obtain⟨h1,h2⟩:=AU.mp hp;obtain⟨q,_,rfl⟩:=Al.mp h1;have h3:(xU a b q).1<=A/\(xU a b q).2<=B:=by simpa [vm] using h2
 exact⟨⟨k5 _,h3.1⟩,k5 _,h3.2⟩
def Y1 (A B a b:Int) {bd bd':Bd}(h:xb bd bd'):xb (qJ A B a b bd) (qJ A B a b bd'):=aH λ p hp=>by
 obtain⟨h1,h2⟩:=AU.mp hp;obtain⟨q,hq,rfl⟩:=Al.mp h1;obtain⟨r,hr,r1,r2⟩:=h.at hq;have h3:(xU a b q).1<=A/\(xU a b q).2<=B:=by simpa [vm] using h2
 have m1:(xU a b r).1<=(xU a b q).1:=gq (by lia);have m2:(xU a b r).2<=(xU a b q).2:=gq (by lia);exact⟨xU a b r,AU.mpr ⟨Al.mpr ⟨r,hr,rfl⟩,by simp[vm];lia⟩,m1,m2⟩
noncomputable def uu (b c:Bd):Bd:=vf (b++c)
def QU (b c:Bd) (q:Int×Int):yh (uu b c) q=(yh b q||yh c q):=by unfold uu;rw[nR,Pm]
def QT {A B:Int}{b c:Bd}(h:Gd A B b) (h':Gd A B c):Gd A B (uu b c):=Gd.least λ p hp=>by
 rcases AZ.mp hp with x | x
 .exact h.uj p x
 .exact h'.uj p x
noncomputable def k9 (p q:Int×Int):Int×Int:=(if q.1>p.1 then q.1 else p.1,if q.2>p.2 then q.2 else p.2)
noncomputable def vU (b c:Bd):Bd:=vf (b.flatMap λ p=>c.map (k9 p))
def Yl (b c:Bd) (q:Int×Int):yh (vU b c) q=(yh b q&&yh c q):=by
 unfold vU;rw[nR,BD,BN,xk,xk,xk];constructor
 .rintro⟨p,hp,h1,h2⟩;obtain⟨x,hx,hp⟩:=Cm.mp hp;obtain⟨y,hy,rfl⟩:=Al.mp hp;unfold k9 at h1 h2;dsimp only at h1 h2;refine⟨⟨x,hx,?_,?_⟩,⟨y,hy,?_,?_⟩⟩ <;> (first | (split at h1 <;> lia) | (split at h2 <;> lia))
 .rintro⟨⟨x,hx,h1,h2⟩,⟨y,hy,h3,h4⟩⟩;refine⟨k9 x y,Cm.mpr ⟨x,hx,Al.mpr ⟨y,hy,rfl⟩⟩,?_,?_⟩
  .show (if y.1>x.1 then y.1 else x.1)<=q.1;split <;> lia
  .show (if y.2>x.2 then y.2 else x.2)<=q.2;split <;> lia
def Oh {A B:Int}{b c:Bd}(h:Gd A B b) (h':Gd A B c):Gd A B (vU b c):=Gd.least λ p hp=>by
 obtain⟨x,hx,hp⟩:=Cm.mp hp;obtain⟨y,hy,rfl⟩:=Al.mp hp;have a1:=h.uj x hx;have a2:=h'.uj y hy;unfold k9;dsimp only;refine⟨⟨?_,?_⟩,?_,?_⟩ <;> split <;> lia
noncomputable def uR (bs:List Bd):Bd:=bs.foldl uu []
noncomputable def qG (bs:List Bd):Bd:=bs.foldl vU xl
theorem fB:∀ (bs:List Bd) (b:Bd) (q:Int×Int),yh (bs.foldl uu b) q=true↔yh b q=true\/∃ c∈bs,yh c q=true
 | [],b,q=>by simp
 | c::bs,b,q=>by
  rw[Dm,fB bs,QU,DH];constructor
  .rintro ((h | h) | ⟨d,hd,h⟩)
   .exact .inl h
   .exact .inr ⟨c,Am,h⟩
   .exact .inr ⟨d,Ar _ hd,h⟩
  .rintro (h | ⟨d,hd,h⟩)
   .exact .inl (.inl h)
   .rcases Ah.mp hd with e | e
    .subst e;exact .inl (.inr h)
    .exact .inr ⟨d,e,h⟩
theorem mq {A B:Int}:∀ (bs:List Bd) (b:Bd),Gd A B b->(∀ c∈bs,Gd A B c)->Gd A B (bs.foldl uu b)
 | [],b,h,_=>h
 | c::bs,b,h,hb=>mq bs _ (QT h (hb c Am)) λ d hd=>hb d (Ar _ hd)
def Gd.nil {A B:Int}:Gd A B []:=⟨by unfold w9;simp,λ p hp=>by cases hp⟩
theorem fP:∀ (bs:List Bd) (b:Bd) (q:Int×Int),yh (bs.foldl vU b) q=true↔yh b q=true/\∀ c∈bs,yh c q=true
 | [],b,q=>by simp
 | c::bs,b,q=>by
  rw[Dm,fP bs,Yl,BN];constructor
  .rintro⟨⟨h1,h2⟩,h3⟩;exact⟨h1,λ d hd=>by
    rcases Ah.mp hd with e | e
    .subst e;exact h2
    .exact h3 d e⟩
  .rintro⟨h1,h2⟩;exact⟨⟨h1,h2 c Am⟩,λ d hd=>h2 d (Ar _ hd)⟩
theorem jc {A B:Int}:∀ (bs:List Bd) (b:Bd),Gd A B b->(∀ c∈bs,Gd A B c)->Gd A B (bs.foldl vU b)
 | [],b,h,_=>h
 | c::bs,b,h,hb=>jc bs _ (Oh h (hb c Am)) λ d hd=>hb d (Ar _ hd)
noncomputable def xG (pu:Bool) (g t:Int):Int×Int:=if pu=true then (t,g) else (g,t)
noncomputable def xy (pu:Bool) (p:Int×Int):Int:=if pu=true then p.2 else p.1
noncomputable def vj (pu:Bool) (p:Int×Int):Int:=if pu=true then p.1 else p.2
noncomputable def wz (pu:Bool) (zB give get:Int):Nat->Int->Int->Bd
 | 0,_,_=>[]
 | n+1,g,t=>if g<=zB then xG pu g t::wz pu zB give get n (g+give) (yt (t-get)) else []
def Vz {pu:Bool}{g t g' t':Int}(h:g'<=g) (h':t'<=t):(xG pu g' t').1<=(xG pu g t).1/\(xG pu g' t').2<=(xG pu g t).2:=by
 cases pu
 .exact⟨h,h'⟩
 .exact⟨h',h⟩
theorem Yh (pu:Bool) (zB give get:Int):∀ (n:Nat) (g t g' t':Int),g'<=g->t'<=t->∀ e∈wz pu zB give get n g t,∃ r∈wz pu zB give get n g' t',r.1<=e.1/\r.2<=e.2
 | 0,_,_,_,_,_,_,e,he=>by cases he
 | n+1,g,t,g',t',h1,h2,e,he=>by
  unfold wz at he ⊢;split at he
  .rw[if_pos (by lia)];rcases Ah.mp he with x | x
   .subst x;exact⟨_,Am,Vz h1 h2⟩
   .obtain⟨r,hr,r1⟩:=Yh pu zB give get n _ _ (g' + give) (yt (t'-get)) (by lia) (gq (by lia)) e x;exact⟨r,Ar _ hr,r1⟩
  .cases he
theorem fM (pu:Bool) (zB give get most:Int) (hg:1<=give) (hgt:0<=get):∀ (n:Nat) (g t:Int),0<=g->0<=t->t<=most->∀ e∈wz pu zB give get n g t,(0<=xy pu e/\xy pu e<=zB)/\0<=vj pu e/\vj pu e<=most
 | 0,_,_,_,_,_,e,he=>by cases he
 | n+1,g,t,h1,h2,h3,e,he=>by
  unfold wz at he;split at he
  .rcases Ah.mp he with x | x
   .subst x;cases pu <;> exact⟨⟨h1,by assumption⟩,h2,h3⟩
   .exact fM pu zB give get most hg hgt n _ _ (by lia) (k5 _) (Int.le_trans (SU h2 hgt) h3) e x
  .cases he
theorem Yi (pu:Bool) (zB give get:Int) (hg:1<=give):∀ (n:Nat) (g t:Int),g<=zB+1->((wz pu zB give get n g t).length:Int)<=zB+1-g
 | 0,g,t,h=>by simp[wz];lia
 | n+1,g,t,h=>by
  unfold wz;split
  .rw[AR];by_cases hh:g+give<=zB+1
   .have:=Yi pu zB give get hg n (g+give) (yt (t-get)) hh;lia
   .have e:wz pu zB give get n (g+give) (yt (t-get))=[]:=by
     cases n with
     | zero=>rfl
     | succ n=>unfold wz;rw[if_neg (by lia)]
    rw[e];simp;lia
  .simp;lia
structure Wy where
 f:Nat
 t:Nat
 a:Int
 b:Int
structure Sl where
 p:Nat
 pu:Bool
 gv:Int
 gt:Int
structure zu where
 A:Int
 B:Int
 os:List Bool
 ws:List Wy
 ss:List Sl
structure zu.Ok (F:zu):Prop where
 a0:0<=F.A
 a1:F.A<=12
 b0:0<=F.B
 b1:F.B<=12
 n1:1<=F.os.length
 n8:F.os.length<=8
 ws:∀ w∈F.ws,w.f<F.os.length/\w.t<F.os.length
 uZ:F.ws.length<=60
 ss:∀ s∈F.ss,1<=s.gv/\0<=s.gt
 sl:F.ss=[]\/(F.A+1)*(F.B+1)<64
 s8:F.ss.length<=60
noncomputable def zu.zB (F:zu) (pu:Bool):Int:=if pu=true then F.B else F.A
noncomputable def y_ (F:zu) (s:Sl) (p:Int×Int):Bd:=wz s.pu (F.zB s.pu) s.gv s.gt 100 (xy s.pu p) (vj s.pu p)
noncomputable def mF (F:zu) (s:Sl) (bd:Bd):Bd:=vf (bd.flatMap (y_ F s))
def Px (F:zu) (s:Sl) {b c:Bd}(h:xb b c):xb (mF F s b) (mF F s c):=aH λ p hp=>by
 obtain⟨x,hx,hp⟩:=Cm.mp hp;obtain⟨r,hr,r1,r2⟩:=h.at hx;obtain⟨e,he,e1⟩:=Yh s.pu (F.zB s.pu) s.gv s.gt 100 (xy s.pu x) (vj s.pu x) (xy s.pu r) (vj s.pu r) (by unfold xy;split <;> assumption) (by unfold vj;split <;> assumption) p hp;exact⟨e,Cm.mpr ⟨r,hr,he⟩,e1⟩
def Pw {F:zu}{s:Sl}(hs:1<=s.gv/\0<=s.gt) {p:Int×Int}(hp:(0<=p.1/\p.1<=F.A)/\0<=p.2/\p.2<=F.B):∀ e∈y_ F s p,(0<=e.1/\e.1<=F.A)/\0<=e.2/\e.2<=F.B:=λ e he=>by
 obtain⟨p,pu,gv,gt⟩:=s;unfold y_ zu.zB at he;cases pu with
 | true=>exact (fM true F.B gv gt F.A hs.1 hs.2 100 _ _ hp.2.1 hp.1.1 hp.1.2 e he).symm
 | false=>exact fM false F.A gv gt F.B hs.1 hs.2 100 _ _ hp.1.1 hp.2.1 hp.2.2 e he
def Py {F:zu}{s:Sl}(hs:1<=s.gv/\0<=s.gt) {b:Bd}(h:Gd F.A F.B b):Gd F.A F.B (mF F s b):=Gd.least λ p hp=>by
 obtain⟨x,hx,hp⟩:=Cm.mp hp;exact Pw hs (h.uj x hx) p hp
noncomputable def xM (F:zu) (last:List Bd) (p:Nat):List Bd:=(F.ws.filter λ w=>decide (w.f=p)).map λ w=>qJ F.A F.B w.a w.b (last.getD w.t [])
noncomputable def zu.stall (F:zu) (p:Nat):Option Sl:=F.ss.find? λ s=>decide (s.p=p)
noncomputable def yS (F:zu) (last:List Bd) (p:Nat):Bd:=
 if F.os.getD p false=true then match F.stall p with
  | none=>uR (xM F last p)
  | some s=>mF F s (uR (xM F last p))
 else qG (xM F last p)
def jg (F:zu) (last:List Bd) (p:Nat):∀ c∈xM F last p,Gd F.A F.B c:=λ c hc=>by
 obtain⟨w,_,rfl⟩:=Al.mp hc;exact Oz ..
def ah {F:zu}(ok:F.Ok) (last:List Bd) (p:Nat):Gd F.A F.B (yS F last p):=by
 unfold yS;have h1:Gd F.A F.B (uR (xM F last p)):=mq _ _ Gd.nil (jg F last p);split
 .split
  .exact h1
  .rename_i s e;exact Py (ok.ss s (List.mem_of_find?_eq_some e)) h1
 .exact jc _ _ (Gd.xl ok.a0 ok.b0) (jg F last p)
def SM (F:zu) {l m:List Bd}(p:Nat) (h:∀ w∈F.ws,w.f=p->xb (l.getD w.t []) (m.getD w.t [])):xb (yS F l p) (yS F m p):=by
 have h1:xb (uR (xM F l p)) (uR (xM F m p)):=λ q hq=>by
  unfold uR at hq ⊢;rw[fB] at hq ⊢;rcases hq with x | ⟨c,hc,x⟩
  .exact .inl x
  .obtain⟨w,hw,rfl⟩:=Al.mp hc;obtain⟨w1,w2⟩:=AU.mp hw;exact .inr ⟨_,Al.mpr ⟨w,hw,rfl⟩,Y1 _ _ _ _ (h w w1 (by simpa using w2)) q x⟩
 unfold yS;split
 .split
  .exact h1
  .exact Px F _ h1
 .intro q hq;unfold qG at hq ⊢;rw[fP] at hq ⊢;refine⟨hq.1,λ c hc=>?_⟩;obtain⟨w,hw,rfl⟩:=Al.mp hc;obtain⟨w1,w2⟩:=AU.mp hw;exact Y1 _ _ _ _ (h w w1 (by simpa using w2)) q (hq.2 _ (Al.mpr ⟨w,hw,rfl⟩))
def SJ (F:zu) {l m:List Bd}(p:Nat) (h:∀ w∈F.ws,w.f=p->l.getD w.t []=m.getD w.t []):yS F l p=yS F m p:=by
 have:xM F l p=xM F m p:=by
  unfold xM;refine CK λ w hw=>?_;obtain⟨w1,w2⟩:=AU.mp hw;rw[h w w1 (by simpa using w2)]
 unfold yS;rw[this]
noncomputable def box:List (Int×Int):=(List.range 13).flatMap λ(i:Nat)=>(List.range 13).map λ(j:Nat)=>((i:Int),(j:Int))
noncomputable def mu (b:Bd):Nat:=box.countP (yh b)
def Og {p:Int×Int}(h:(0<=p.1/\p.1<=12)/\0<=p.2/\p.2<=12):p∈box:=by
 obtain⟨x,y⟩:=p;dsimp only at h;refine Cm.mpr ⟨x.toNat,AH.mpr (by lia),Al.mpr ⟨y.toNat,AH.mpr (by lia),?_⟩⟩;rw[CN h.1.1,CN h.2.1]
theorem Yd {α:Type}{p q:α->Bool}:∀ {l:List α},(∀ x,q x=true->p x=true)->(∃ x∈l,p x=true/\q x=false)->l.countP q<l.countP p
 | [],_,⟨x,hx,_⟩=>by cases hx
 | a::l,h,⟨x,hx,h1,h2⟩=>by
  have hle:l.countP q<=l.countP p:=List.countP_mono_left λ y _=>h y;rw[List.countP_cons,List.countP_cons];rcases Ah.mp hx with e | e
  .subst e;rw[if_neg (by rw[h2];decide),if_pos h1];lia
  .have:=Yd h ⟨x,e,h1,h2⟩;by_cases c:q a=true
   .rw[if_pos c,if_pos (h a c)];lia
   .rw[if_neg c];split <;> lia
def SX {A B:Int}(hA:A<=12) (hB:B<=12) {b c:Bd}(hb:Gd A B b) (hc:Gd A B c) (h:xb b c) (Ai:b≠c):mu b<mu c:=by
 refine Yd h ?_;by_cases x:∃ p∈c,yh b p=false
 .obtain⟨p,hp,e⟩:=x;have q:=hc.uj p hp;exact⟨p,Og ⟨⟨q.1.1,by lia⟩,q.2.1,by lia⟩,xk.mpr ⟨p,hp,AF _,AF _⟩,e⟩
 .exact absurd (hb.eq hc h (xb.of λ p hp=>by
   cases e:yh b p with
   | true=>exact xk.mp e
   | false=>exact absurd ⟨p,hp,e⟩ x)) Ai
def SY (b:Bd):mu b<=169:=by
 have:box.length=169:=by decide
 rw[<- this];exact List.countP_le_length
noncomputable def vO (l:List Bd):Nat:=(l.map mu).sum
theorem au:∀ (l:List Bd),vO l<=169*l.length
 | []=>by simp[vO]
 | b::l=>by
  have h1:=au l;have h2:=SY b;unfold vO at h1 ⊢;rw[Au,List.sum_cons,AR];lia
theorem gs {A B:Int}(hA:A<=12) (hB:B<=12):∀ {l m:List Bd},l.length=m.length->(∀ b∈l,Gd A B b)->(∀ b∈m,Gd A B b)->(∀ i,xb (l.getD i []) (m.getD i []))->l≠m->vO l<vO m
 | [],[],_,_,_,_,h=>absurd rfl h
 | [],_::_,h,_,_,_,_=>by simp at h
 | _::_,[],h,_,_,_,_=>by simp at h
 | b::l,c::m,hl,gb,gc,h,Ai=>by
  have hl':l.length=m.length:=by simpa using hl
  have h0:xb b c:=h 0;have hs:∀ i,xb (l.getD i []) (m.getD i []):=λ i=>by simpa using h (i+1)
  have key:vO l<=vO m:=by
   by_cases e:l=m
   .rw[e];exact Ag _
   .exact BC (gs hA hB hl' (λ x hx=>gb x (Ar _ hx)) (λ x hx=>gc x (Ar _ hx)) hs e)
  show (List.map mu (b::l)).sum<(List.map mu (c::m)).sum;rw[Au,List.sum_cons,Au,List.sum_cons];by_cases e:b=c
  .subst e;have:l≠m:=λ q=>Ai (by rw[q]);have:=gs hA hB hl' (λ x hx=>gb x (Ar _ hx)) (λ x hx=>gc x (Ar _ hx)) hs this;unfold vO at this;lia
  .have:=SX hA hB (gb b Am) (gc c Am) h0 e;unfold vO at key;lia
noncomputable def uN (F:zu) (fresh:List Nat) (p:Nat):Bool:=F.ws.any λ w=>decide (w.f=p)&&fresh.contains w.t
noncomputable def yd (F:zu) (last:List Bd) (fresh:List Nat):List Bd:=(List.range last.length).map λ p=>if uN F fresh p=true then yS F last p else last.getD p []
noncomputable def x8 (last following:List Bd):List Nat:=(List.range following.length).filter λ p=>decide (following.getD p []≠last.getD p [])
noncomputable def s_ (F:zu):Nat->List (List Bd)->List Bd->List Nat->Option (List (List Bd))
 | 0,_,_,_=>none
 | n+1,told,last,fresh=>if fresh=[] then some (told++[last]) else
   let fo:=yd F last fresh
   let fr:=x8 last fo
   if fr=[] then some (told++[last]) else s_ F n (told++[last]) fo fr
structure St (F:zu) (last:List Bd) (fresh:List Nat):Prop where
 len:last.length=F.os.length
 gd:∀ b∈last,Gd F.A F.B b
 fr:∀ p<F.os.length,uN F fresh p=false->(∃ w∈F.ws,w.f=p)->yS F last p=last.getD p []
 le:∀ p<F.os.length,(∃ w∈F.ws,w.f=p)->xb (yS F last p) (last.getD p [])
def kP {α:Type}(f:Nat->α) (n p:Nat) (d:α) (h:p<n):((List.range n).map f).getD p d=f p:=by
 rw[AW,Az,List.getElem?_range h];rfl
def rq (F:zu) (last:List Bd) (fresh:List Nat):(yd F last fresh).length=last.length:=by unfold yd;simp
def St.at {F:zu}{last:List Bd}{fresh:List Nat}(s:St F last fresh) {p:Nat}(hp:p<F.os.length) (hw:∃ w∈F.ws,w.f=p):(yd F last fresh).getD p []=yS F last p:=by
 unfold yd;rw[kP _ _ _ _ (by rw[s.len];exact hp)];split
 .rfl
 .rename_i h;exact (s.fr p hp (by simpa using h) hw).symm
def Qp {F:zu}{fresh:List Nat}{p:Nat}(h:uN F fresh p=true):∃ w∈F.ws,w.f=p:=by
 unfold uN at h;obtain⟨w,h1,h2⟩:=Bf.mp h;exact⟨w,h1,by simp at h2;exact h2.1⟩
def St.no {F:zu}{last:List Bd}{fresh:List Nat}(s:St F last fresh) {p:Nat}(hp:p<F.os.length) (hw:¬ ∃ w∈F.ws,w.f=p):(yd F last fresh).getD p []=last.getD p []:=by
 unfold yd;rw[kP _ _ _ _ (by rw[s.len];exact hp),if_neg (λ h=>hw (Qp h))]
def St.Yg {F:zu}{last:List Bd}{fresh:List Nat}(s:St F last fresh) (p:Nat):xb ((yd F last fresh).getD p []) (last.getD p []):=by
 by_cases hp:p<F.os.length
 .by_cases hw:∃ w∈F.ws,w.f=p
  .rw[s.at hp hw];exact s.le p hp hw
  .rw[s.no hp hw];exact xb.refl _
 .have h1:(yd F last fresh).getD p []=[]:=by
   rw[AW,DF (by rw[rq,s.len];lia)];rfl
  rw[h1];intro q x;cases x
def St.next {F:zu}(ok:F.Ok) {last:List Bd}{fresh:List Nat}(s:St F last fresh):St F (yd F last fresh) (x8 last (yd F last fresh)) where
 len:=by rw[rq,s.len]
 gd:=λ b hb=>by
  unfold yd at hb;obtain⟨p,hp,rfl⟩:=Al.mp hb;split
  .exact ah ok last p
  .have An:=AH.mp hp;rw[AW,AX An];exact s.gd _ (Ds An)
 fr:=λ p hp hn hw=>by
  rw[s.at hp hw];refine SJ F p λ w w1 w2=>?_;have hwt:=(ok.ws w w1).2;by_cases e:(yd F last fresh).getD w.t []=last.getD w.t []
  .exact e
  .have:uN F (x8 last (yd F last fresh)) p=true:=by
    unfold uN;refine Bf.mpr ⟨w,w1,?_⟩;have:w.t∈x8 last (yd F last fresh):=by
     unfold x8;exact AU.mpr ⟨AH.mpr (by rw[rq,s.len];exact hwt),by simpa using e⟩
    simp[w2,this]
   rw[this] at hn;cases hn
 le:=λ p hp hw=>by
  rw[s.at hp hw];exact SM F p λ w w1 w2=>s.Yg w.t
def Q5 {last fo:List Bd}(hl:fo.length=last.length) (h:x8 last fo≠[]):fo≠last:=λ e=>h (by
 subst e;unfold x8;simp)
noncomputable def start (F:zu):List Bd:=List.replicate F.os.length xl
theorem St.start {F:zu}(ok:F.Ok):St F (start F) (List.range F.os.length) where
 len:=by unfold RN.start;simp
 gd:=λ b hb=>by rw[List.eq_of_mem_replicate hb];exact Gd.xl ok.a0 ok.b0
 fr:=λ p hp hn ⟨w,w1,w2⟩=>by
  have:uN F (List.range F.os.length) p=true:=by
   unfold uN;refine Bf.mpr ⟨w,w1,?_⟩;have:=(ok.ws w w1).2;simp[w2,this]
  rw[this] at hn;cases hn
 le:=λ p hp hw=>by
  have e:(RN.start F).getD p []=xl:=by
   unfold RN.start;rw[AW,CM,if_pos hp];rfl
  rw[e];exact (ah ok _ p).Ry
theorem cR {F:zu}(ok:F.Ok):∀ (n:Nat) (told:List (List Bd)) (last:List Bd) (fresh:List Nat),St F last fresh->vO last<n->
  ∃ more last',s_ F n told last fresh=some (told++last::more)/\(∀ r∈last::more,r.length=F.os.length/\∀ b∈r,Gd F.A F.B b)/\(last::more).getLast?=some last'/\more.length<=vO last
 | 0,_,_,_,_,h=>by lia
 | n+1,told,last,fresh,s,h=>by
  unfold s_;split
  .exact⟨[],last,rfl,λ r hr=>by cases AJ.mp hr;exact⟨s.len,s.gd⟩,rfl,AN _⟩
  .dsimp only;split
   .exact⟨[],last,rfl,λ r hr=>by cases AJ.mp hr;exact⟨s.len,s.gd⟩,rfl,AN _⟩
   .rename_i hf;have s':=s.next ok;have An:vO (yd F last fresh)<vO last:=gs ok.a1 ok.b1 (rq ..) s'.gd s.gd s.Yg (Q5 (rq ..) hf);obtain⟨more,last',e1,e2,e3,e4⟩:=cR ok n (told++[last]) _ _ s' (by lia);refine⟨yd F last fresh::more,last',by rw[e1];simp,λ r hr=>?_,by rw[List.getLast?_cons_cons];exact e3,by rw[AR];lia⟩;rcases Ah.mp hr with e | e
    .subst e;exact⟨s.len,s.gd⟩
    .exact e2 r e
def kO {pu:Bool}{p q:Int×Int}:(p.1<=q.1/\p.2<=q.2)↔xy pu p<=xy pu q/\vj pu p<=vj pu q:=by
 cases pu
 .exact Iff.rfl
 .exact And.comm
noncomputable def y9 (F:zu):Nat->List Bd
 | 0=>start F
 | k+1=>(List.range F.os.length).map λ p=>yS F (y9 F k) p
theorem nV (F:zu):∀ k,(y9 F k).length=F.os.length
 | 0=>by unfold y9 start;simp
 | k+1=>by unfold y9;simp
def SH {F:zu}{last:List Bd}{fresh:List Nat}(s:St F last fresh) (hw:∀ p<F.os.length,∃ w∈F.ws,w.f=p):yd F last fresh=(List.range F.os.length).map λ p=>yS F last p:=by
 refine Bs (by rw[rq,s.len];simp) λ i h1 h2=>?_;have hi:i<F.os.length:=by simpa using h2
 have e:=s.at hi (hw i hi);rw[AW,AX h1] at e;simpa using e
def Q6 {last fo:List Bd}(hl:fo.length=last.length) (h:x8 last fo=[]):fo=last:=by
 refine Bs hl λ i h1 h2=>?_;have:i∉x8 last fo:=by rw[h];simp
 unfold x8 at this;rw[AU] at this;have e:fo.getD i []=last.getD i []:=Classical.byContradiction λ Ai=>this ⟨AH.mpr h1,by simpa using Ai⟩;rw[AW,AX h1,AW,AX h2] at e;simpa using e
theorem cT {F:zu}(ok:F.Ok) (hw:∀ p<F.os.length,∃ w∈F.ws,w.f=p):∀ (n:Nat) (told:List (List Bd)) (k:Nat) (fresh:List Nat) (res:List (List Bd)),St F (y9 F k) fresh->fresh≠[]->told=(List.range k).map (y9 F)->
  s_ F n told (y9 F k) fresh=some res->∃ m,res=(List.range (m+1)).map (y9 F)/\y9 F (m+1)=y9 F m
 | 0,_,_,_,_,_,_,_,h=>by cases h
 | n+1,told,k,fresh,res,s,hf,ht,h=>by
  unfold s_ at h;rw[if_neg hf] at h;dsimp only at h;have e:yd F (y9 F k) fresh=y9 F (k+1):=SH s hw;have et:told++[y9 F k]=(List.range (k+1)).map (y9 F):=by rw[ht,List.range_succ,Bk];rfl
  rw[e,et] at h;split at h
  .rename_i Bg;cases h;exact⟨k,rfl,Q6 (by rw[nV,nV]) Bg⟩
  .rename_i Bg;have s':=s.next ok;rw[e] at s';exact cT ok hw n _ (k+1) _ res s' Bg rfl h
noncomputable def wQ (pu:Bool) (w:Wy):Int:=if pu=true then w.b else w.a
def aq {x:Int}(h:x<=0):yt x=0:=by unfold yt;rw[if_neg (by lia)]
def SF {F:zu}(h:F.ss=[]) (p:Nat):F.stall p=none:=by unfold zu.stall;rw[h];rfl
def SN {F:zu}(h:F.ss=[]) (last:List Bd) (p:Nat):yS F last p=if F.os.getD p false=true then uR (xM F last p) else qG (xM F last p):=by
 unfold yS;rw[SF h]
def RT (F:zu) (k:Nat) {t:Nat}(h:t<F.os.length):(y9 F (k+1)).getD t []=yS F (y9 F k) t:=kP _ _ _ _ h
def RS (F:zu) (k:Nat) {t:Nat}(h:¬ t<F.os.length):(y9 F k).getD t []=[]:=by
 rw[AW,DF (by rw[nV];lia)];rfl
def RU (F:zu) {t:Nat}(h:t<F.os.length):(y9 F 0).getD t []=xl:=by
 show (List.replicate F.os.length xl).getD t []=xl;rw[AW,CM,if_pos h];rfl
noncomputable def wI (pu:Bool) (w:Wy):Wy:=if pu=true then ⟨w.f,w.t,0,w.b⟩ else ⟨w.f,w.t,w.a,0⟩
def oq (pu:Bool) (w:Wy):(wI pu w).f=w.f/\(wI pu w).t=w.t:=by cases pu <;> exact⟨rfl,rfl⟩
structure j5 (pu:Bool) (F G:zu):Prop where
 A:G.A=F.A
 B:G.B=F.B
 os:G.os=F.os
 s1:F.ss=[]
 s2:G.ss=[]
 to:∀ w∈F.ws,wI pu w∈G.ws
 Q4:∀ v∈G.ws,∃ w∈F.ws,v=wI pu w
section
variable {pu:Bool}{F G:zu}
end
noncomputable def sG (pu:Bool) (b:Bd):Option Int:=b.head?.map (xy pu)
noncomputable def vp (pu:Bool):Option Int->Bd
 | none=>[]
 | some x=>[xG pu x 0]
def nX (pu:Bool) (x y:Int):xy pu (xG pu x y)=x:=by cases pu <;> rfl
def kK (pu:Bool) (x y:Int):vj pu (xG pu x y)=y:=by cases pu <;> rfl
def Oy (pu:Bool) (o:Option Int):sG pu (vp pu o)=o:=by
 cases o with
 | none=>rfl
 | some x=>show some (xy pu (xG pu x 0))=some x;rw[nX]
def Oo (pu:Bool) (o:Option Int):w9 (vp pu o):=by cases o <;> simp[vp,w9]
def mQ {pu:Bool}{o:Option Int}{q:Int×Int}:yh (vp pu o) q=true↔∃ x,o=some x/\x<=xy pu q/\0<=vj pu q:=by
 rw[xk];constructor
 .rintro⟨p,hp,h⟩;cases o with
  | none=>cases hp
  | some x=>
   cases AJ.mp hp;refine⟨x,rfl,?_⟩;have:=kO (pu:=pu).mp h;rw[nX,kK] at this;exact this
 .rintro⟨x,rfl,h⟩;exact⟨xG pu x 0,AJ.mpr rfl,kO (pu:=pu).mpr (by rw[nX,kK];exact h)⟩
def fS {pu:Bool}{b:Bd}{o:Option Int}(hb:w9 b) (h:∀ q,yh b q=true↔∃ x,o=some x/\x<=xy pu q/\0<=vj pu q):b=vp pu o:=
 w9.eq hb (Oo pu o) λ q=>by rw[BD,h,mQ]
noncomputable def wH (F:zu) (pu:Bool) (o:Option Int) (w:Wy):Option Int:=match o with
 | none=>none
 | some x=>if x-wQ pu w<=F.zB pu then some (yt (x-wQ pu w)) else none
def Pk {F:zu}{pu:Bool}{o:Option Int}{w:Wy}{x:Int}(h:wH F pu o w=some x):0<=x:=by
 unfold wH at h;split at h
 .cases h
 .split at h
  .cases h;exact k5 _
  .cases h
def ar {x y:Int}(h:0<=y):yt x<=y↔x<=y:=by unfold yt;split <;> lia
def Y0 {F:zu}{pu:Bool}(hA:0<=F.A) (hB:0<=F.B) (o:Option Int) (w:Wy):qJ F.A F.B (wI pu w).a (wI pu w).b (vp pu o)=vp pu (wH F pu o w):=by
 refine fS (kC _) λ q=>?_;unfold qJ;rw[nR,xk];have CH:0<=F.zB pu:=by unfold zu.zB;cases pu <;> assumption
 have bk:∀ x,xU (wI pu w).a (wI pu w).b (xG pu x 0)=xG pu (yt (x-wQ pu w)) 0:=λ x=>by
  cases pu
  .show (yt (x-w.a),yt (0-0))=(yt (x-w.a),0)
   rw[aq (x:=0-0) (by decide)]
  .show (yt (0-0),yt (x-w.b))=(0,yt (x-w.b))
   rw[aq (x:=0-0) (by decide)]
 have ft:∀ x,vm F.A F.B (xG pu x 0)=true↔x<=F.zB pu:=λ x=>by
  unfold vm zu.zB;cases pu
  .simp[xG,hB]
  .simp[xG,hA]
 cases o with
 | none=>simp[vp,wH]
 | some x=>
  constructor
  .rintro⟨p,hp,h⟩;obtain⟨h1,h2⟩:=AU.mp hp;obtain⟨r,hr,rfl⟩:=Al.mp h1;cases AJ.mp hr;rw[bk] at h2 h;have h3:=(ft _).mp h2;have h4:=kO (pu:=pu).mp h;rw[nX,kK] at h4;exact⟨_,by show (if _ then _ else _)=_;rw[if_pos ((ar CH).mp h3)],h4⟩
  .rintro⟨y,hy,h⟩;have hy':(if x-wQ pu w<=F.zB pu then some (yt (x-wQ pu w)) else none)=some y:=hy;split at hy'
   .rename_i hc;cases hy';exact⟨xG pu (yt (x-wQ pu w)) 0,AU.mpr ⟨Al.mpr ⟨xG pu x 0,AJ.mpr rfl,bk x⟩,(ft _).mpr ((ar CH).mpr hc)⟩,kO (pu:=pu).mpr (by rw[nX,kK];exact h)⟩
   .cases hy'
noncomputable def yf (F:zu) (pu:Bool) (ns:List (Option Int)) (p:Nat):List (Option Int):=(F.ws.filter λ w=>decide (w.f=p)).map λ w=>wH F pu (ns.getD w.t none) w
noncomputable def t9 (F:zu) (pu:Bool) (ns:List (Option Int)) (p:Nat):Option Int:=
 if F.os.getD p false=true then uK ((yf F pu ns p).filterMap id) else if ((yf F pu ns p).filterMap id).length<(yf F pu ns p).length then none else tE ((yf F pu ns p).filterMap id)
def qu {ks:List (Option Int)}{x:Int}:x∈ks.filterMap id↔some x∈ks:=by simp
theorem aP:∀ {ks:List (Option Int)},¬ (ks.filterMap id).length<ks.length->∀ o∈ks,∃ x,o=some x
 | [],_,o,ho=>by cases ho
 | none::ks,h,_,_=>by
  have:=List.length_filterMap_le id ks;exact absurd (by simp only[BM,id,AR];lia) h
 | some y::ks,h,o,ho=>by
  rcases Ah.mp ho with rfl | ho
  .exact⟨y,rfl⟩
  .exact aP (λ z=>h (by simp only[BM,id,AR] at z ⊢;lia)) o ho
theorem aO:∀ {ks:List (Option Int)},(ks.filterMap id).length<ks.length->none∈ks
 | [],h=>by simp at h
 | none::ks,_=>Am
 | some y::ks,h=>Ar _ (aO (by simp only[BM,id,AR] at h;lia))
def SK {pu:Bool}{F G:zu}(a:j5 pu F G) (hA:0<=F.A) (hB:0<=F.B) {l:List Bd}{ns:List (Option Int)}(hl:∀ t,l.getD t []=vp pu (ns.getD t none)) (p:Nat) (hw:∃ w∈F.ws,w.f=p):yS G l p=vp pu (t9 F pu ns p):=by
 have ha:∀ c,c∈xM G l p↔∃ o∈yf F pu ns p,c=vp pu o:=λ c=>by
  unfold xM yf;constructor
  .intro hc;obtain⟨v,hv,rfl⟩:=Al.mp hc;obtain⟨hv1,hv2⟩:=AU.mp hv;obtain⟨w,hw,rfl⟩:=a.Q4 v hv1;refine⟨_,Al.mpr ⟨w,AU.mpr ⟨hw,by rw[<- (oq pu w).1];exact hv2⟩,rfl⟩,?_⟩;rw[a.A,a.B,hl,Y0 hA hB,(oq pu w).2]
  .rintro⟨o,ho,rfl⟩;obtain⟨w,hw,rfl⟩:=Al.mp ho;obtain⟨hw1,hw2⟩:=AU.mp hw;refine Al.mpr ⟨wI pu w,AU.mpr ⟨a.to w hw1,by rw[(oq pu w).1];exact hw2⟩,?_⟩;rw[a.A,a.B,hl,Y0 hA hB,(oq pu w).2]
 have hnn:∀ x,some x∈yf F pu ns p->0<=x:=λ x hx=>by
  obtain⟨w,_,e⟩:=Al.mp hx;exact Pk e
 have Ai:yf F pu ns p≠[]:=λ e=>by
  obtain⟨w,hw1,hw2⟩:=hw;have:wH F pu (ns.getD w.t none) w∈yf F pu ns p:=Al.mpr ⟨w,AU.mpr ⟨hw1,by simpa using hw2⟩,rfl⟩;rw[e] at this;cases this
 rw[SN a.s2,a.os];unfold t9;generalize yf F pu ns p=ks at *;have ag:∀ c∈xM G l p,Gd G.A G.B c:=jg G l p;split
 .refine fS (mq _ _ Gd.nil ag).pN λ q=>?_;rw[uR,fB];constructor
  .rintro (h | ⟨c,hc,h⟩)
   .cases h
   .obtain⟨o,ho,rfl⟩:=(ha c).mp hc;obtain⟨x,rfl,h1,h2⟩:=mQ.mp h;cases e:uK (ks.filterMap id) with
    | none=>have:=qu.mpr ho;rw[gu e] at this;cases this
    | some m=>exact⟨m,rfl,Int.le_trans ((k6 e).2 x (qu.mpr ho)) h1,h2⟩
  .rintro⟨x,e,h⟩;exact .inr ⟨_,(ha _).mpr ⟨some x,qu.mp (k6 e).1,rfl⟩,mQ.mpr ⟨x,rfl,h⟩⟩
 .have hgd:Gd G.A G.B (qG (xM G l p)):=jc _ _ (Gd.xl (by rw[a.A];exact hA) (by rw[a.B];exact hB)) ag;refine fS hgd.pN λ q=>?_;rw[qG,fP,Pn];split
  .rename_i hc;constructor
   .rintro⟨_,h⟩;have:=h _ ((ha _).mpr ⟨none,aO hc,rfl⟩);cases this
   .rintro⟨x,e,_⟩;cases e
  .rename_i hc;have Ax:=aP hc;constructor
   .rintro⟨_,h⟩;cases e:tE (ks.filterMap id) with
    | none=>
     exfalso;cases ks with
     | nil=>exact Ai rfl
     | cons o ks=>
      obtain⟨x,rfl⟩:=Ax o Am;have:x∈(some x::ks).filterMap id:=qu.mpr Am;rw[gy e] at this;cases this
    | some m=>
     obtain⟨x,e2,h2⟩:=mQ.mp (h _ ((ha _).mpr ⟨some m,qu.mp (nP e).1,rfl⟩));cases e2;exact⟨m,rfl,h2⟩
   .rintro⟨m,e,h1,h2⟩;have m0:=hnn m (qu.mp (nP e).1);refine⟨?_,λ c hc'=>?_⟩
    .unfold xy at h1;unfold vj at h2;cases pu <;> simp at h1 h2 <;> lia
    .obtain⟨o,ho,rfl⟩:=(ha c).mp hc';obtain⟨x,rfl⟩:=Ax o ho;exact mQ.mpr ⟨x,rfl,Int.le_trans ((nP e).2 x (qu.mpr ho)) h1,h2⟩
noncomputable def zX (F:zu) (pu:Bool):Nat->List (Option Int)
 | 0=>List.replicate F.os.length (some 0)
 | k+1=>(List.range F.os.length).map λ p=>t9 F pu (zX F pu k) p
theorem k0 (F:zu) (pu:Bool):∀ k,(zX F pu k).length=F.os.length
 | 0=>by unfold zX;simp
 | k+1=>by unfold zX;simp
theorem aY {pu:Bool}{F G:zu}(a:j5 pu F G) (hA:0<=F.A) (hB:0<=F.B) (hw:∀ p<F.os.length,∃ w∈F.ws,w.f=p):∀ (k t:Nat),(y9 G k).getD t []=vp pu ((zX F pu k).getD t none)
 | k,t=>by
  by_cases h:t<F.os.length
  .have h':t<G.os.length:=by rw[a.os];exact h
   cases k with
   | zero=>
    rw[RU G h'];show _=vp pu ((List.replicate F.os.length (some 0)).getD t none);rw[AW,CM,if_pos h];cases pu <;> rfl
   | succ k=>
    rw[RT G k h'];show _=vp pu (((List.range F.os.length).map λ p=>t9 F pu (zX F pu k) p).getD t none);rw[kP _ _ _ _ h];exact SK a hA hB (aY a hA hB hw k) t (hw t h)
  .rw[RS G k (by rw[a.os];exact h),AW,DF (by rw[k0];lia)];rfl
def Ox {pu:Bool}{F G:zu}(a:j5 pu F G) (hA:0<=F.A) (hB:0<=F.B) (hw:∀ p<F.os.length,∃ w∈F.ws,w.f=p) (k:Nat):(y9 G k).map (sG pu)=zX F pu k:=by
 refine Bs (by rw[Ay,nV,k0,a.os]) λ i h1 h2=>?_;have h3:=aY a hA hB hw k i;have hi:i<(y9 G k).length:=by simpa using h1
 rw[AW,AX hi,AW,AX h2] at h3;rw[List.getElem_map];have h4:(y9 G k)[i]=vp pu ((zX F pu k)[i]):=h3;rw[h4,Oy]
theorem aj {F:zu}{pu:Bool}{m:Nat}(h:zX F pu (m+1)=zX F pu m):∀ k,zX F pu (m+k)=zX F pu m
 | 0=>rfl
 | k+1=>by
  have ih:=aj h k;show (List.range F.os.length).map (λ p=>t9 F pu (zX F pu (m+k)) p)=_;rw[ih];exact h
end RN
namespace y4
open PySem L2 L3 L5
def dG:Sm:=
 (retS (jf (instS "int" (zf 0)) (bW (instS "bool" (zf 0)))))
def jy:List T->Option T:=yo ["thing"] 1 dG
def dn:Sm:=
 (retS (zv xi (zc (zb zo (zf 0) (cS (.int 1))) zj)))
def qS:List T->Option T:=yo ["floor"] 1 dn
def dS:Sm:=
 (retS (jf (zb fk (zb zo (zf 0) (cS (.int 0))) (zb zo (zf 1) (cS (.int 0)))) (zb fk (zb zo (zf 0) (cS (.int 1))) (zb zo (zf 1) (cS (.int 1))))))
def lD:List T->Option T:=yo ["pair","other"] 2 dS
def om:Sm:=
 (xj (qA (rO (xq (zf 1))) (yv (zb uh (zb zo (zf 2) (cS (.int 1))) (zb zo (zb zo (zf 1) (kz (cS (.int 1)))) (cS (.int 1)))))) (wc 1 (zp 2)) xm)
def dw:Sm:=
 (zr (uz 1 (xI zj))
 (zr (wD [2] (xt (zv qX (zc (zf 0) zj))) (zA 2) om)
 (retS (zv tf (zc (zf 1) zj)))))
def sP:List T->Option T:=yo ["pairs","least","pair"] 1 dw
def rS:Sm:=
 (zr (wc 4 (gL (yv (zb (zS false) (zf 3) (cS (.int 0)))) (tupS (zc (zp 5) (zc (zp 6) zj))) (tupS (zc (zp 6) (zc (zp 5) zj)))))
 (zr (zU 5 (zb yi (zf 5) (zb zo (zf 1) (cS (.int 2)))))
 (zU 6 (zv tD (zc (cS (.int 0)) (zc (zb xW (zf 6) (zb zo (zf 1) (cS (.int 3)))) zj))))))
def dq:Sm:=
 (zr (zU 3 (zb zo (zf 1) (cS (.int 1))))
 (zr (uz 4 (xI zj))
 (zr (zU 5 (zb zo (zf 2) (zf 3)))
 (zr (zU 6 (zb zo (zf 2) (zb xW (cS (.int 1)) (zf 3))))
 (zr (qc 1000000 [] (yv (zb rC (zf 5) (zb zo (zf 0) (zf 3)))) rS)
 (qj 4))))))
def lu:List T->Option T:=yo ["brims","stall","pair","purse","pairs","given","got"] 3 dq
def j0:Sm:=
 (zr (xj (yv (zb (zS false) (zf 1) (cS (.int 0)))) (retS (tupS (zc (zb zo (zf 0) (cS (.int 0))) (zc (zb zo (zf 0) (cS (.int 1))) (zc (zb zo (zf 0) (cS (.int 2))) (zc (cS (.int 0)) zj)))))) xm)
 (retS (tupS (zc (zb zo (zf 0) (cS (.int 0))) (zc (zb zo (zf 0) (cS (.int 1))) (zc (cS (.int 0)) (zc (zb zo (zf 0) (cS (.int 3))) zj)))))))
def o3:List T->Option T:=yo ["way","purse"] 2 j0
def dD:Sm:=
 (zr (xj (yv (zb uh (zf 1) (zv xi (zc (zf 0) zj)))) (retS (zb zo (zf 0) (zf 1))) xm)
 (retS (cS (.int 0))))
def uV:List T->Option T:=yo ["_law_script","_law_k"] 2 dD
def Yt:Sm:=
 (zr (wc 2 (zb ye (zf 3) (zb xP (cS (.int 10)) (cS (.int 6)))))
 (zU 3 (zb wy (zf 3) (zb xP (cS (.int 10)) (cS (.int 6))))))
def Ys:Sm:=
 (zr (zU 3 (zb ye (zb yi (zb yi (zb vN (zf 3) (cS (.int 52027))) (zb wy (zf 3) (zb xP (cS (.int 10)) (cS (.int 22))))) (zb vN (cS (.int 13)) (zf 4))) (zb yi (zb xP (cS (.int 10)) (cS (.int 45))) (cS (.int 9)))))
 (wc 2 (zb wy (zb vN (zf 3) (zb yi (zb wy (zf 3) (zb xP (cS (.int 10)) (cS (.int 23)))) (cS (.int 7)))) (zb xP (cS (.int 10)) (cS (.int 9))))))
def Xl:Sm:=
 (zr (uz 2 (xI zj))
 (zr (zU 3 (zv f_ (zc (zb wy (zf 0) (cS (.int 2))) zj)))
 (zr (xj (yv (zb (zS false) (zb ye (zf 0) (cS (.int 2))) (cS (.int 1)))) (zr (wD [4] (wq uF (zc (zf 1) zj)) (zA 4) Yt)
 (qj 2)) xm)
 (zr (zU 3 (zb yi (zb ye (zf 3) (zb yi (zb xP (cS (.int 10)) (cS (.int 45))) (cS (.int 9)))) (cS (.int 77003))))
 (zr (wD [4] (wq uF (zc (zf 1) zj)) (zA 4) Ys)
 (qj 2))))))
def sQ:List T->Option T:=yo ["_law_cell","_law_count","_law_found","_law_number","_law_k"] 2 Xl
def dE:Sm:=
 (retS (zv nK (zc (cS (.int 12)) (zc (zb yi (zb xW (zb ye (zb ye (zf 0) (cS (.int 25))) (zb yi (zb ve (cS (.int 2)) (zf 1)) (cS (.int 1)))) (zf 1)) (zb ye (zb wx (zf 0) (cS (.int 25))) (cS (.int 2)))) zj))))
def oB:List T->Option T:=yo ["_law_number","_law_most"] 2 dE
def d7:Sm:=
 (retS (zb zo (xI (zc (tupS (zc (cS (.int 4)) (zc (cS (.int 5)) zj))) (zc (tupS (zc (cS (.int 3)) (zc (cS (.int 5)) zj))) (zc (tupS (zc (cS (.int 4)) (zc (cS (.int 4)) zj))) (zc (tupS (zc (cS (.int 2)) (zc (cS (.int 6)) zj))) (zc (tupS (zc (cS (.int 5)) (zc (cS (.int 3)) zj))) (zc (tupS (zc (cS (.int 3)) (zc (cS (.int 4)) zj))) (zc (tupS (zc (cS (.int 1)) (zc (cS (.int 8)) zj))) (zc (tupS (zc (cS (.int 4)) (zc (cS (.int 3)) zj))) (zc (tupS (zc (cS (.int 8)) (zc (cS (.int 2)) zj))) (zc (tupS (zc (cS (.int 2)) (zc (cS (.int 5)) zj))) zj))))))))))) (zb ye (zf 0) (cS (.int 10)))))
def ly:List T->Option T:=yo ["_law_number"] 1 d7
def rV:Sm:=
 (xj (yv (zb (zS false) (zf 6) (zf 2))) (zr (zU 10 (cS .zi))
 (zr (xj (fC (yv (zb (xS true) (zb zo (zf 3) (zf 7)) (cS .zi))) (yv (zb rC (zb xW (zb zo (zf 3) (zf 7)) (zb zo (tupS (zc (zp 8) (zc (zp 9) zj))) (zf 1))) (zf 4)))) (zU 10 (zv tD (zc (cS (.int 0)) (zc (zb xW (zb zo (zf 3) (zf 7)) (zb zo (tupS (zc (zp 8) (zc (zp 9) zj))) (zf 1))) zj)))) xm)
 (wc 5 (zp 10)))) xm)
def jb:Ev->Option T:=
 xR [none] (xt (zf 5)) (zA 0) (yv (zb (xS true) (zf 0) (cS .zi))) (zp 0)
def Xn:Sm:=
 (zr (zU 4 (zb zo (zb zo (zf 0) (cS (.int 0))) (zf 1)))
 (zr (uz 5 (xI zj))
 (zr (wD [6,7,8,9] (xt (zb zo (zf 0) (cS (.int 2)))) (wL 4 (y6 (zA 6) (y6 (zA 7) (y6 (zA 8) (y6 (zA 9) vz))))) rV)
 (zr (zU 11 jb)
 (zr (xj (yv (zb (zS false) (zb zo (zb zo (zf 0) (cS (.int 1))) (zf 2)) (cS (.str "taker")))) (zr (xj (yv (zb uh (zv xi (zc (zf 11) zj)) (zv xi (zc (zf 5) zj)))) (retS (cS .zi)) xm)
 (retS (zv nN (zc (zf 11) zj)))) xm)
 (retS (zv nL (zc (zf 11) zj))))))))
def l5:List T->Option T:=yo ["_law_floor_here","_law_purse","_law_place","_law_need_here","_law_brim","_law_some","_law_start","_law_end","_law_first","_law_second","_law_coins","_law_known"] 4 Xn
def mU:Sm:=
 (xj (qA (yv (zb (xS false) (zf 2) (cS .zi))) (yv (zb (xS false) (zf 3) (cS .zi)))) (xj (qA (yv (zb (xS true) (zf 2) (cS .zi))) (yv (zb (xS true) (zf 3) (cS .zi)))) (retS (cS (.bl false))) xm) (xj (qA (rO (xq (instS "int" (zf 2)))) (qA (xq (instS "bool" (zf 2))) (yv (zb (zS true) (zf 2) (zf 3))))) (retS (cS (.bl false))) xm))
def dA:Sm:=
 (zr (xj (qA (rO (xq (instS "tuple" (zf 0)))) (yv (zb (zS true) (zv xi (zc (zf 0) zj)) (zv xi (zc (zf 1) zj))))) (retS (cS (.bl false))) xm)
 (zr (wD [2,3] (wq oJ (zc (zp 0) (zc (zp 1) zj))) (wL 2 (y6 (zA 2) (y6 (zA 3) vz))) mU)
 (retS (cS (.bl true)))))
def o7:List T->Option T:=yo ["_law_found","_law_due","_law_one","_law_other"] 2 dA
def dF:Sm:=
 (retS (jf (zv jy (zc (zp 0) zj)) (Yj rC rC (zf 1) (zf 0) (zf 2))))
def qT:List T->Option T:=yo ["thing","least","most"] 3 dF
def fO:Ev->Option T:=
 xR [none] (xt (zf 0)) (zA 0) uw (tupS (zc (zb zo (zf 0) (cS (.int 0))) (zc (cS (.int 0)) (zc (zb zo (zf 0) (cS (.int 1))) zj))))
def fN:Ev->Option T:=
 xR [none] (xt (zf 1)) (zA 0) uw (tupS (zc (zb zo (zf 0) (cS (.int 0))) (zc (cS (.int 1)) (zc (zb zo (zf 0) (cS (.int 1))) zj))))
def mW:Sm:=
 (zr (ZK 3 (zf 6) (zv nK (zc (zf 7) (zc (ZN 3 (zf 6) (zp 7)) zj))))
 (xj (yv (zb (zS false) (fE 3) (cS (.int 2)))) (wc 4 (tupS (zc (zp 5) (zc (zv tD (zc (fF 3 (cS (.int 0))) (zc (fF 3 (cS (.int 1))) zj))) zj)))) xm))
def dM:Sm:=
 (zr (zU 2 (zb yi fO fN))
 (zr (ZM 3)
 (zr (uz 4 (xI zj))
 (zr (wD [5,6,7] (xt (zv qX (zc (zf 2) zj))) (wL 3 (y6 (zA 5) (y6 (zA 6) (y6 (zA 7) vz)))) mW)
 (fm 4 (retS (zv sP (zc (zp 4) zj))))))))
def l9:List T->Option T:=yo ["border","other","steps","lows","shared","first","side","second"] 2 dM
def dI:Sm:=
 (retS (zv sP (zc (zb yi (zv listS (zc (zf 0) zj)) (zv listS (zc (zf 1) zj))) zj)))
def l7:List T->Option T:=yo ["border","other"] 2 dI
def mO:Ev->Option T:=
 xR [none,some 1] (xt (zf 2)) (zA 0) uw (tupS (zc (zv tD (zc (cS (.int 0)) (zc (zb xW (zb zo (zf 0) (cS (.int 0))) (zb zo (zf 1) (cS (.int 2)))) zj))) (zc (zv tD (zc (cS (.int 0)) (zc (zb xW (zb zo (zf 0) (cS (.int 1))) (zb zo (zf 1) (cS (.int 3)))) zj))) zj)))
def mI:Ev->Option T:=
 xR [none,some 0] (xt (zf 3)) (zA 0) (xq (zv lD (zc (zp 1) (zc (zp 0) zj)))) (zp 0)
def dR:Sm:=
 (zr (zU 3 mO)
 (retS (zv sP (zc mI zj))))
def lC:List T->Option T:=yo ["brims","way","border","pairs"] 3 dR
def mN:Ev->Option T:=
 xR [none,some 1] (xt (zb zo (zf 0) (cS (.int 2)))) (zA 0) uw (zv o3 (zc (zp 0) (zc (zp 1) zj)))
def dH:Sm:=
 (zr (zU 2 (zv vu (zc mN zj)))
 (retS (tupS (zc (zb zo (zf 0) (cS (.int 0))) (zc (zb zo (zf 0) (cS (.int 1))) (zc (zv tf (zc (zf 2) zj)) (zc (tupS zj) zj)))))))
def l6:List T->Option T:=yo ["floor","purse","ways"] 2 dH
def d5:Sm:=
 (retS (tupS (zc (zp 0) (zc (zb ye (zb ye (zf 2) (cS (.int 8))) (zf 1)) (zc (zv oB (zc (zb ye (zb wx (zf 2) (cS (.int 8))) (cS (.int 50))) (zc (zp 3) zj))) (zc (zv oB (zc (zb ye (zb wx (zf 2) (cS (.int 400))) (cS (.int 50))) (zc (zp 3) zj))) zj))))))
def rZ:List T->Option T:=yo ["_law_place","_law_many","_law_number","_law_size"] 4 d5
def mM:Ev->Option T:=
 xR [none,some 0,some 1,some 2] (wq uF (zc (zv xi (zc (zf 2) zj)) zj)) (zA 0) uw (zv l5 (zc (zp 1) (zc (zp 2) (zc (zp 0) (zc (zp 3) zj)))))
def oo:Sm:=
 (zr (zU 3 mM)
 (zr (xj (yv (zb (zS false) (zf 3) (zf 2))) (retS (zp 2)) xm)
 (zU 2 (zp 3))))
def Xo:Sm:=
 (zr (zU 2 (zb ve (xI (zc (cS (.int 0)) zj)) (zv xi (zc (zb zo (zf 0) (cS (.int 1))) zj))))
 (qc 1000000 [3] (xq (cS (.bl true))) oo))
def o8:List T->Option T:=yo ["_law_floor_here","_law_purse","_law_need_here","_law_more"] 2 Xo
def ja:Ev->Option T:=
 xR [none,some 1] (wq uF (zc (zf 2) zj)) (zA 0) uw (zb zo (xI (zc (cS (.str "keeper")) (zc (cS (.str "taker")) zj))) (zb ye (zb wx (zb zo (zf 1) (cS (.int 1))) (zb yi (cS (.int 1)) (zb ve (zf 0) (zf 0)))) (cS (.int 2))))
def k_:Ev->Option T:=
 xR [none,some 2] (wq uF (zc (zb xW (zf 2) (cS (.int 1))) zj)) (zA 0) uw (tupS (zc (zp 0) (zc (zb ye (zb yi (zf 0) (cS (.int 1))) (zf 1)) (zc (zb xW (cS (.int 0)) (cS (.int 1))) (zc (zb xW (zb xW (cS (.int 0)) (cS (.int 1))) (zb ye (zf 0) (cS (.int 2)))) zj)))))
def Xm:Sm:=
 (zr (zU 1 (zv sQ (zc (zp 0) (zc (cS (.int 4)) zj))))
 (zr (zU 2 (zb yi (cS (.int 1)) (zb ye (zb zo (zf 1) (cS (.int 0))) (cS (.int 8)))))
 (zr (zU 3 (zv tf (zc ja zj)))
 (zr (zU 4 k_)
 (zr (zU 4 (zb yi (zf 4) (xI (zc (tupS (zc (zb xW (zf 2) (cS (.int 1))) (zc (cS (.int 0)) (zc (zb ye (zb zo (zf 1) (cS (.int 2))) (cS (.int 9))) (zc (zb ye (zb zo (zf 1) (cS (.int 3))) (cS (.int 13))) zj))))) (zc (tupS (zc (cS (.int 0)) (zc (cS (.int 0)) (zc (zb xW (cS (.int 0)) (cS (.int 1))) (zc (zb xW (cS (.int 0)) (cS (.int 2))) zj))))) zj)))))
 (retS (tupS (zc (tupS (zc (cS (.int 12)) (zc (zb xW (cS (.int 12)) (zb ye (zb zo (zf 1) (cS (.int 2))) (cS (.int 2)))) zj))) (zc (zp 3) (zc (zv tf (zc (zv vu (zc (zf 4) zj)) zj)) (zc (tupS zj) zj)))))))))))
def l4:List T->Option T:=yo ["_law_cell","_law_xs","_law_many","_law_owners","_law_ways"] 1 Xm
def dJ:Sm:=
 (xj (rO (xq (zv qT (zc (zp 1) (zc (cS (.int 0)) (zc (zb xW (zv qS (zc (zp 0) zj)) (cS (.int 1))) zj)))))) gj xm)
def l8:List T->Option T:=yo ["floor","place"] 2 dJ
def mX:Sm:=
 (zU 1 (zv l7 (zc (zp 1) (zc (zp 2) zj))))
def dP:Sm:=
 (zr (zU 1 (tupS zj))
 (zr (wD [2] (xt (zp 0)) (zA 2) mX)
 (retS (zp 1))))
def lA:List T->Option T:=yo ["borders","joined","border"] 1 dP
def mY:Sm:=
 (zU 1 (zv l9 (zc (zp 1) (zc (zp 2) zj))))
def dQ:Sm:=
 (zr (zU 1 (tupS (zc (tupS (zc (cS (.int 0)) (zc (cS (.int 0)) zj))) zj)))
 (zr (wD [2] (xt (zp 0)) (zA 2) mY)
 (retS (zp 1))))
def lB:List T->Option T:=yo ["borders","joined","border"] 1 dQ
def mV:Sm:=
 (wc 6 (zv rZ (zc (zp 8) (zc (zp 4) (zc (zb zo (zf 3) (zb yi (zb yi (cS (.int 3)) (zb ve (cS (.int 4)) (zf 8))) (zf 11))) (zc (zp 10) zj))))))
def qH:Sm:=
 (zr (zU 9 (zb zo (zf 3) (zb yi (cS (.int 2)) (zb ve (cS (.int 4)) (zf 8)))))
 (zr (wc 5 (zb zo (xI (zc (cS (.str "keeper")) (zc (cS (.str "taker")) zj))) (zb ye (zf 9) (cS (.int 2)))))
 (zr (zU 10 (zb zo (xI (zc (cS (.int 2)) (zc (cS (.int 3)) (zc (cS (.int 3)) (zc (cS (.int 12)) zj))))) (zb ye (zb wx (zf 9) (cS (.int 2))) (cS (.int 4)))))
 (zr (wD [11] (wq uF (zc (zb yi (cS (.int 1)) (zb ye (zb wx (zf 9) (cS (.int 8))) (cS (.int 3)))) zj)) (zA 11) mV)
 (xj (fC (yv (zb (zS false) (zb zo (zf 5) (zf 8)) (cS (.str "keeper")))) (yv (zb (zS false) (zb ye (zb wx (zf 9) (cS (.int 24))) (cS (.int 3))) (cS (.int 0))))) (wc 7 (tupS (zc (zp 8) (zc (zb ye (zb wx (zf 9) (cS (.int 72))) (cS (.int 2))) (zc (zb yi (cS (.int 1)) (zb ye (zb wx (zf 9) (cS (.int 144))) (cS (.int 4)))) (zc (zb ye (zb wx (zf 9) (cS (.int 576))) (cS (.int 5))) zj)))))) xm)))))
def mR:Sm:=
 (wc 6 (zv rZ (zc (zb ye (zb ye (zb wx (zb zo (zf 3) (cS (.int 0))) (cS (.int 64))) (cS (.int 8))) (zf 4)) (zc (zp 4) (zc (zb zo (zf 3) (zb yi (cS (.int 34)) (zf 11))) (zc (cS (.int 3)) zj))))))
def dB:Sm:=
 (zr (zU 3 (zv sQ (zc (zp 0) (zc (cS (.int 43)) zj))))
 (zr (zU 4 (zb yi (cS (.int 1)) (zb ye (zb zo (zf 3) (cS (.int 0))) (zf 1))))
 (zr (uz 5 (xI zj))
 (zr (uz 6 (xI zj))
 (zr (uz 7 (xI zj))
 (zr (wD [8,9,10,11] (wq uF (zc (zf 4) zj)) (zA 8) qH)
 (zr (xj (yv (zb (zS false) (zb ye (zb wx (zb zo (zf 3) (cS (.int 0))) (cS (.int 8))) (cS (.int 8))) (cS (.int 1)))) (wD [11] (wq uF (zc (zv nK (zc (cS (.int 9)) (zc (zb xW (cS (.int 24)) (zv xi (zc (zf 6) zj))) zj))) zj)) (zA 11) mR) xm)
 (zr (zU 12 (tupS (zc (zb ye (zb zo (zf 3) (cS (.int 1))) (zb yi (zf 2) (cS (.int 1)))) (zc (zb ye (zb wx (zb zo (zf 3) (cS (.int 1))) (cS (.int 13))) (zb yi (zf 2) (cS (.int 1)))) zj))))
 (retS (tupS (zc (zp 12) (zc (zv tf (zc (zf 5) zj)) (zc (zv tf (zc (zv vu (zc (zf 6) zj)) zj)) (zc (zv tf (zc (zf 7) zj)) zj))))))))))))))
def oA:List T->Option T:=yo ["_law_cell","_law_most","_law_brim","_law_xs","_law_many","_law_owners","_law_ways","_law_stalls","_law_place","_law_number","_law_size","_law_k","_law_brims"] 3 dB
def mJ:Ev->Option T:=
 xR [none,none,some 1] (wq rN (zc (zb zo (zf 0) (cS (.int 2))) zj)) (wL 2 (y6 (zA 0) (y6 (zA 1) vz))) (yv (zb (zS false) (zb zo (zf 1) (cS (.int 0))) (zf 2))) (zp 0)
def di:Sm:=
 (zr (fD (zv l8 (zc (zp 0) (zc (zp 1) zj))))
 (retS mJ))
def lq:List T->Option T:=yo ["floor","place"] 2 di
def oj:Sm:=
 (xj (yv (zb (zS false) (zb zo (zf 2) (cS (.int 0))) (zf 1))) (retS (zp 2)) xm)
def dk:Sm:=
 (zr (fD (zv l8 (zc (zp 0) (zc (zp 1) zj))))
 (zr (wD [2] (xt (zb zo (zf 0) (cS (.int 3)))) (zA 2) oj)
 (retS (cS .zi))))
def qR:List T->Option T:=yo ["floor","place","stall"] 2 dk
def mZ:Sm:=
 (f6 4 (zv lu (zc (zb zo (zf 0) (cS (.int 0))) (zc (zp 3) (zc (zp 5) zj)))))
def j4:Sm:=
 (zr (zU 3 (zv qR (zc (zp 0) (zc (zp 1) zj))))
 (zr (xj (yv (zb (xS false) (zf 3) (cS .zi))) (retS (zp 2)) xm)
 (zr (uz 4 (xI zj))
 (zr (wD [5] (xt (zp 2)) (zA 5) mZ)
 (fm 4 (retS (zv sP (zc (zp 4) zj))))))))
def oG:List T->Option T:=yo ["floor","place","border","stall","pairs","pair"] 3 j4
def mL:Ev->Option T:=
 xR [none,some 0] (xt (zv lq (zc (zp 0) (zc (zp 1) zj)))) (zA 0) uw (zb zo (zb zo (zf 1) (cS (.int 2))) (zf 0))
def mH:Ev->Option T:=
 xR [none,some 0,some 2] (xt (zf 3)) (zA 0) uw (zv lC (zc (zb zo (zf 1) (cS (.int 0))) (zc (zp 0) (zc (zb zo (zf 2) (zb zo (zf 0) (cS (.int 1)))) zj))))
def du:Sm:=
 (zr (zU 3 mL)
 (zr (zU 4 mH)
 (zr (xj (yv (zb (zS false) (zb zo (zb zo (zf 0) (cS (.int 1))) (zf 1)) (cS (.str "keeper")))) (retS (zv oG (zc (zp 0) (zc (zp 1) (zc (zv lA (zc (zp 4) zj)) zj))))) xm)
 (retS (zv lB (zc (zp 4) zj))))))
def lx:List T->Option T:=yo ["floor","place","last","ways","ahead"] 3 du
def mK:Ev->Option T:=
 xR [none,some 2] (xt (zb zo (zf 0) (cS (.int 2)))) (zA 0) (yv (zb (pO false) (zb zo (zf 0) (cS (.int 1))) (zf 1))) (zb zo (zf 0) (cS (.int 0)))
def mT:Sm:=
 (az 3 (zf 4) (zv lx (zc (zp 0) (zc (zp 4) (zc (zp 1) zj)))))
def dr:Sm:=
 (zr (uz 3 (zv listS (zc (zf 1) zj)))
 (zr (wD [4] (xt (zv vu (zc mK zj))) (zA 4) mT)
 (qj 3)))
def o5:List T->Option T:=yo ["floor","last","fresh","following","place"] 3 dr
def og:Ev->Option T:=
 xR [none,none,some 3] (wq rN (zc (zf 4) zj)) (wL 2 (y6 (zA 0) (y6 (zA 1) vz))) (yv (zb (zS true) (zf 1) (zb zo (zf 2) (zf 0)))) (zp 0)
def uS:Sm:=
 (zr (zU 3 (zb zo (zf 1) (kz (cS (.int 1)))))
 (zr (zU 4 (zv o5 (zc (zp 0) (zc (zp 3) (zc (zp 2) zj)))))
 (zr (zU 2 og)
 (xj (xq (zf 2)) (wc 1 (zp 4)) xm))))
def dm:Sm:=
 (zr (uz 1 (xI (zc (zb ve (xI (zc (tupS (zc (tupS (zc (cS (.int 0)) (zc (cS (.int 0)) zj))) zj)) zj)) (zv qS (zc (zp 0) zj))) zj)))
 (zr (zU 2 (zv nQ (zc (zv qS (zc (zp 0) zj)) zj)))
 (zr (qc 1000000 [3,4] (xq (zf 2)) uS)
 (qj 1))))
def o4:List T->Option T:=yo ["floor","told","fresh","last","following"] 1 dm
def dN:Sm:=
 (retS (zb zo (zv o4 (zc (zp 0) zj)) (kz (cS (.int 1)))))
def oE:List T->Option T:=yo ["floor"] 1 dN
def mP:Ev->Option T:=
 xR [none,some 1] (xt (zv oE (zc (zv l6 (zc (zp 0) (zc (zp 1) zj))) zj))) (zA 0) uw (gL (xq (zf 0)) (zb zo (zb zo (zf 0) (cS (.int 0))) (zf 1)) (cS .zi))
def dU:Sm:=
 (zr (xj (rO (xq (zv qT (zc (zp 1) (zc (cS (.int 0)) (zc (cS (.int 1)) zj)))))) gj xm)
 (retS (zv tf (zc mP zj))))
def oH:List T->Option T:=yo ["floor","purse"] 2 dU
def je:Sm:=
 (xj (rO (xq (zv o7 (zc (zv oH (zc (zp 7) (zc (zp 8) zj))) (zc (zv o8 (zc (zp 7) (zc (zp 8) zj))) zj))))) (retS (cS (.bl false))) xm)
def mS:Sm:=
 (zr (zU 5 (zv uV (zc (zp 0) (zc (zp 4) zj))))
 (zr (zU 6 (zv uV (zc (zp 0) (zc (zb yi (zf 4) (cS (.int 1))) zj))))
 (zr (zU 7 (zv oA (zc (zp 5) (zc (zp 2) (zc (zb zo (xI (zc (zp 3) (zc (cS (.int 12)) zj))) (zb ye (zf 6) (cS (.int 2)))) zj)))))
 (zr (xj (yv (zb (zS false) (zb ye (zb wx (zf 6) (cS (.int 2))) (cS (.int 8))) (cS (.int 1)))) (zU 7 (zv l4 (zc (zp 5) zj))) xm)
 (wD [8] (xt (xI (zc (zb ye (zb wx (zf 1) (cS (.int 10))) (cS (.int 2))) (zc (zb xW (cS (.int 1)) (zb ye (zb wx (zf 1) (cS (.int 10))) (cS (.int 2)))) zj)))) (zA 8) je)))))
def Xp:Sm:=
 (zr (zU 1 (zv uV (zc (zp 0) (zc (cS (.int 0)) zj))))
 (zr (cw (zv ly (zc (zp 1) zj)) (wL 2 (y6 (zA 2) (y6 (zA 3) vz))))
 (zr (wD [4,5,6,7,8] (wq oZ (zc (cS (.int 1)) (zc (zv tD (zc (cS (.int 2)) (zc (zv nK (zc (zv xi (zc (zf 0) zj)) (zc (cS (.int 60)) zj))) zj))) (zc (cS (.int 20)) zj)))) (zA 4) mS)
 (retS (cS (.bl true))))))
def oD:List T->Option T:=yo ["_law_script","_law_cell","_law_most","_law_brim","_law_k","_law_number","_law_shape","_law_floor_here","_law_purse"] 1 Xp
def Wq (ps:List (Int×Int)) (h:ps.length<64):qX [.lst (ps.map zt)]=some (.lst ((sa ps).map zt)):=by
 show (v_ (ps.map zt)).bind _=_;rw[WK,Bn,if_pos ⟨by simpa using h,λ r hr=>by obtain⟨p,_,rfl⟩:=Al.mp hr;simp[vK]⟩,<- cA,AG];rfl
def Qq {qs p:List (Int×Int)}{x:Int×Int}(hr:∀ r,qs++yN r (qs.getLast?.map (·.2))=yN (p++r) none) (hb:tQ (qs.getLast?.map (·.2)) x.2=true) (r:List (Int×Int)):
  (qs++[x])++yN r ((qs++[x]).getLast?.map (·.2))=yN (p++[x]++r) none:=by
 have:=hr (x::r);rw[show yN (x::r) (qs.getLast?.map (·.2))=x::yN r (some x.2) by rw[yN,if_pos hb]] at this;simpa using this
def Qr {qs p:List (Int×Int)}{x:Int×Int}(hr:∀ r,qs++yN r (qs.getLast?.map (·.2))=yN (p++r) none) (hb:tQ (qs.getLast?.map (·.2)) x.2=false) (r:List (Int×Int)):
  qs++yN r (qs.getLast?.map (·.2))=yN (p++[x]++r) none:=by
 have:=hr (x::r);rw[show yN (x::r) (qs.getLast?.map (·.2))=yN r (qs.getLast?.map (·.2)) by rw[yN,if_neg (by rw[hb];nofun)]] at this;simpa using this
def jw (ps:List (Int×Int)) (hl:ps.length<64):sP [.lst (ps.map zt)]=some (.tup ((vf ps).map zt)):=by
 obtain⟨J',h1,qs,h2,h3,h4⟩:=uL (is:=[2]) (g:=zA 2) (b:=om) zt (λ p J=>∃ qs:List (Int×Int),J=[some (.im (.lst (ps.map zt))),some (.own (.lst (qs.map zt))),none]/\qs.length<=p.length/\
   ∀ r,qs++yN r (qs.getLast?.map (·.2))=yN (p++r) none) (sa ps) [some (.im (.lst (ps.map zt))),some (.own (.lst [])),none] ⟨[],by simp,by simp,λ r=>by simp⟩ (by
  rintro p x q e J ⟨qs,rfl,hq,hr⟩;have hlen:p.length<64:=by
   have:=congrArg List.length e;rw[(jQ ps).length_eq] at this;simp at this;lia
  have app:tQ (qs.getLast?.map (·.2)) x.2=true->∃ qs':List (Int×Int),yI [2] [some (.im (.lst (ps.map zt))),some (.own (.lst (qs.map zt++[zt x]))),some (.im (zt x))]=[some (.im (.lst (ps.map zt))),some (.own (.lst (qs'.map zt))),none]/\qs'.length<=(p++[x]).length/\∀ r,qs'++yN r (qs'.getLast?.map (·.2))=yN (p++[x]++r) none:=λ hb=>
   ⟨qs++[x],by simp,by simp;lia,Qq hr hb⟩
  rcases List.eq_nil_or_concat qs with rfl | ⟨init,l,rfl⟩
  .refine⟨_,?_,app (by simp[tQ])⟩;simp[turn,om]
  .simp only[List.concat_eq_append] at *;by_cases hb:x.2<l.2
   .refine⟨_,?_,app (by simp[tQ,hb])⟩;simp at hq;simp[turn,om,zt,hb,uh];lia
   .refine⟨[some (.im (.lst (ps.map zt))),some (.own (.lst ((init++[l]).map zt))),some (.im (zt x))],?_,init++[l],by simp,by simp at hq ⊢;lia,Qr hr (by simp[tQ];lia)⟩;simp[turn,om,zt,hb,uh])
 have h5:=h4 [];simp[yN] at h5;unfold sP dw;simp[Wq ps hl,h1,h2,h5,vf]
def OS (b o:List (Int×Int)) (hl:b.length+o.length<64):l7 [.tup (b.map zt),.tup (o.map zt)]=some (.tup ((vf (b++o)).map zt)):=by
 have h:=jw (b++o) (by simpa using hl);rw[Bk] at h;have:b.length+o.length<=16777216:=by lia
 unfold l7 dI;simp[h,this]
noncomputable def r0 (p:Int×Int):List Int:=[p.1,0,p.2]
noncomputable def r1 (p:Int×Int):List Int:=[p.1,1,p.2]
noncomputable def xf (l:Option Int) (v:Int):Int:=match l with
 | none=>v
 | some m=>if m<v then m else v
noncomputable def uc (l:Option Int) (sh:List (Int×Int)) (f:Int->Int×Int):List (Int×Int):=match l with
 | some m=>sh++[f m]
 | none=>sh
structure Sw (b o:List (Int×Int)) (p:List (List Int)) (l0 l1:Option Int) (sh:List (Int×Int)):Prop where
 gB:∀ x,r0 x∈p->∃ m,l0=some m/\m<=x.2
 gA:∀ x,r1 x∈p->∃ m,l1=some m/\m<=x.2
 fW:∀ m,l0=some m->∃ x,r0 x∈p/\x.2=m
 fV:∀ m,l1=some m->∃ x,r1 x∈p/\x.2=m
 len:sh.length<=p.length
 snd:∀ s∈sh,(∃ x,r0 x∈p/\x.1<=s.1/\x.2<=s.2)/\∃ x,r1 x∈p/\x.1<=s.1/\x.2<=s.2
 all:∀ x y,r0 x∈p->r1 y∈p->∃ s∈sh,(s.1<=x.1\/s.1<=y.1)/\(s.2<=x.2\/s.2<=y.2)
def kg {x y:Int×Int}(h:r0 x=r0 y):x=y:=by
 unfold r0 at h;injection h with h1 h2;injection h2 with _ h2;injection h2 with h2 _;exact Prod.ext h1 h2
def kf {x y:Int×Int}(h:r1 x=r1 y):x=y:=by
 unfold r1 at h;injection h with h1 h2;injection h2 with _ h2;injection h2 with h2 _;exact Prod.ext h1 h2
def pq {x y:Int×Int}(h:r0 x=r1 y):False:=by
 unfold r0 r1 at h;injection h with h1 h2;injection h2 with h2 _;lia
def tB {p:List (List Int)}{a x:List Int}(h:a∈p++[x]):a∈p\/a=x:=by simpa using h
def Sw.Wh {b o:List (Int×Int)}{p:List (List Int)}{l0 l1:Option Int}{sh:List (Int×Int)}(h:Sw b o p l0 l1 sh) (x:Int×Int) (hx:∀ y,r0 y∈p->y.1<=x.1) (hy:∀ y,r1 y∈p->y.1<=x.1):
  Sw b o (p++[r0 x]) (some (xf l0 x.2)) l1 (uc l1 sh λ m=>(x.1,if m>xf l0 x.2 then m else xf l0 x.2)):=by
 have lo:xf l0 x.2<=x.2/\∀ m,l0=some m->xf l0 x.2<=m:=by
  unfold xf;cases l0 with
  | none=>exact⟨AF _,nofun⟩
  | some m=>dsimp only;split <;> refine⟨by lia,λ m' e=>?_⟩ <;> cases e <;> lia
 have la:∃ y,r0 y∈p++[r0 x]/\y.2=xf l0 x.2:=by
  unfold xf;cases l0 with
  | none=>exact⟨x,by simp,rfl⟩
  | some m=>
   dsimp only;split
   .obtain⟨y,h1,h2⟩:=h.fW m rfl;exact⟨y,by simp[h1],h2⟩
   .exact⟨x,by simp,rfl⟩
 have snd':∀ s∈sh,(∃ x',r0 x'∈p++[r0 x]/\x'.1<=s.1/\x'.2<=s.2)/\∃ x',r1 x'∈p++[r0 x]/\x'.1<=s.1/\x'.2<=s.2:=λ s hs=>by
  obtain⟨⟨a,a1,a2⟩,c,c1,c2⟩:=h.snd s hs;exact⟨⟨a,by simp[a1],a2⟩,c,by simp[c1],c2⟩
 refine⟨λ y hm=>?_,λ y hm=>?_,λ m e=>?_,λ m e=>?_,?_,λ s hs=>?_,λ y z hm hz=>?_⟩
 .rcases tB hm with q | q
  .obtain⟨m,e,q2⟩:=h.gB y q;exact⟨_,rfl,by have:=lo.2 m e;lia⟩
  .cases kg q;exact⟨_,rfl,lo.1⟩
 .rcases tB hm with q | q
  .exact h.gA y q
  .exact (pq q.symm).elim
 .cases e;exact la
 .obtain⟨y,q1,q2⟩:=h.fV m e;exact⟨y,by simp[q1],q2⟩
 .have:=h.len;cases l1 <;> simp[uc] <;> lia
 .cases l1 with
  | none=>exact snd' s hs
  | some m=>
   rcases AZ.mp hs with q | q
   .exact snd' s q
   .obtain rfl:s=_:=by simpa using q
    obtain⟨y,y1,y2⟩:=la;obtain⟨z,z1,z2⟩:=h.fV m rfl;have DV:=hy z z1;refine⟨⟨y,y1,?_,by dsimp only;split <;> lia⟩,z,by simp[z1],DV,by dsimp only;split <;> lia⟩;rcases tB y1 with w | w
    .exact hx y w
    .cases kg w;exact AF _
 .have hz':r1 z∈p:=by
   rcases tB hz with q | q
   .exact q
   .exact (pq q.symm).elim
  rcases tB hm with q | q
  .obtain⟨s,s1,s2⟩:=h.all y z q hz';refine⟨s,?_,s2⟩;cases l1 <;> simp[uc,s1]
  .cases kg q;obtain⟨m,e,hm⟩:=h.gA z hz';subst e;refine⟨_,AV _ Am,.inl (AF _),?_⟩;have:=lo.1;dsimp only;split <;> lia
def Sw.swap {b o:List (Int×Int)}{p:List (List Int)}{l0 l1:Option Int}{sh:List (Int×Int)}(x:Int×Int) (h:Sw b o p l0 l1 sh) (hx:∀ y,r0 y∈p->y.1<=x.1) (hy:∀ y,r1 y∈p->y.1<=x.1):
  Sw b o (p++[r1 x]) l0 (some (xf l1 x.2)) (uc l0 sh λ m=>(x.1,if xf l1 x.2>m then xf l1 x.2 else m)):=by
 have lo:xf l1 x.2<=x.2/\∀ m,l1=some m->xf l1 x.2<=m:=by
  unfold xf;cases l1 with
  | none=>exact⟨AF _,nofun⟩
  | some m=>dsimp only;split <;> refine⟨by lia,λ m' e=>?_⟩ <;> cases e <;> lia
 have la:∃ y,r1 y∈p++[r1 x]/\y.2=xf l1 x.2:=by
  unfold xf;cases l1 with
  | none=>exact⟨x,by simp,rfl⟩
  | some m=>
   dsimp only;split
   .obtain⟨y,h1,h2⟩:=h.fV m rfl;exact⟨y,by simp[h1],h2⟩
   .exact⟨x,by simp,rfl⟩
 have snd':∀ s∈sh,(∃ x',r0 x'∈p++[r1 x]/\x'.1<=s.1/\x'.2<=s.2)/\∃ x',r1 x'∈p++[r1 x]/\x'.1<=s.1/\x'.2<=s.2:=λ s hs=>by
  obtain⟨⟨a,a1,a2⟩,c,c1,c2⟩:=h.snd s hs;exact⟨⟨a,by simp[a1],a2⟩,c,by simp[c1],c2⟩
 refine⟨λ y hm=>?_,λ y hm=>?_,λ m e=>?_,λ m e=>?_,?_,λ s hs=>?_,λ y z hm hz=>?_⟩
 .rcases tB hm with q | q
  .exact h.gB y q
  .exact (pq q).elim
 .rcases tB hm with q | q
  .obtain⟨m,e,q2⟩:=h.gA y q;exact⟨_,rfl,by have:=lo.2 m e;lia⟩
  .cases kf q;exact⟨_,rfl,lo.1⟩
 .obtain⟨y,q1,q2⟩:=h.fW m e;exact⟨y,by simp[q1],q2⟩
 .cases e;exact la
 .have:=h.len;cases l0 <;> simp[uc] <;> lia
 .cases l0 with
  | none=>exact snd' s hs
  | some m=>
   rcases AZ.mp hs with q | q
   .exact snd' s q
   .obtain rfl:s=_:=by simpa using q
    obtain⟨y,y1,y2⟩:=la;obtain⟨z,z1,z2⟩:=h.fW m rfl;have DV:=hx z z1;refine⟨⟨z,by simp[z1],DV,by dsimp only;split <;> lia⟩,y,y1,?_,by dsimp only;split <;> lia⟩;rcases tB y1 with w | w
    .exact hy y w
    .cases kf w;exact AF _
 .have hm':r0 y∈p:=by
   rcases tB hm with q | q
   .exact q
   .exact (pq q).elim
  rcases tB hz with q | q
  .obtain⟨s,s1,s2⟩:=h.all y z hm' q;refine⟨s,?_,s2⟩;cases l0 <;> simp[uc,s1]
  .cases kf q;obtain⟨m,e,hm⟩:=h.gB y hm';subst e;refine⟨_,AV _ Am,.inr (AF _),?_⟩;have:=lo.1;dsimp only;split <;> lia
structure Lw (d:List (Key×T)) (l0 l1:Option Int):Prop where
 v0:xp d (.inl 0)=l0.map T.int
 v1:xp d (.inl 1)=l1.map T.int
 len:d.length=(if l0.isSome then 1 else 0)+if l1.isSome then 1 else 0
def Lw.Vj {d:List (Key×T)}{l0 l1:Option Int}(h:Lw d l0 l1) (v:Int):Lw (ua d (.inl 0) (.int v)) (some v) l1:=by
 refine⟨by rw[lG];simp,by rw[lG];simpa using h.v1,?_⟩;rw[aG,h.v0,h.len];cases l0 <;> cases l1 <;> simp
def Lw.Vi {d:List (Key×T)}{l0 l1:Option Int}(h:Lw d l0 l1) (v:Int):Lw (ua d (.inl 1) (.int v)) l0 (some v):=by
 refine⟨by rw[lG];simpa using h.v0,by rw[lG];simp,?_⟩;rw[aG,h.v1,h.len];cases l0 <;> cases l1 <;> simp
def kR {rows p q:List (List Int)}{x:List Int}(e:L4.xO rows=p++x::q) {a:List Int}(ha:a∈p) {i j:Int}{as xs:List Int}(h1:a=i::as) (h2:x=j::xs):i<=j:=by
 have h:=L4.jP rows;rw[e,List.pairwise_append] at h;have:=h.2.2 a ha x Am;subst h1 h2;rw[HT.rB] at this;by_cases c:j=i
 .omega
 .rw[if_neg c] at this;have:=of_decide_eq_false this;lia
def OY (b o:List (Int×Int)) (hl:b.length+o.length<64):∃ sh:List (Int×Int),l9 [.tup (b.map zt),.tup (o.map zt)]=some (.tup ((vf sh).map zt))/\sh.length<64/\∀ q,yh sh q=(yh b q&&yh o q):=by
 let a0:W:=.im (.tup (b.map zt))
 let a1:W:=.im (.tup (o.map zt))
 let rows:=b.map r0++o.map r1
 let a2:W:=.im (.lst (rows.map zM))
 have hlen:rows.length<64:=by simp[rows];exact hl
 have hs:qX [.lst (rows.map zM)]=some (.lst ((L4.xO rows).map zM)):=by
  show ((v_ (rows.map zM)).bind λ rs=>_)=_;rw[i8,Bn,if_pos ⟨hlen,λ r hr=>by
   rcases AZ.mp hr with h | h <;> obtain⟨_,_,rfl⟩:=Al.mp h <;> simp[r0,r1]⟩]
 have plen:(L4.xO rows).length=rows.length:=(L4.t_ rows).length_eq;obtain⟨J1,h1,d,l0,l1,sh,e1,w1,s1⟩:=uL (is:=[5,6,7]) (g:=wL 3 (y6 (zA 5) (y6 (zA 6) (y6 (zA 7) vz)))) (b:=mW) zM (λ p J=>∃ d l0 l1 sh,J=[some a0,some a1,some a2,some (.own (.yg d)),some (.own (.lst (sh.map zt))),none,none,none]/\Lw d l0 l1/\Sw b o p l0 l1 sh) (L4.xO rows) [some a0,some a1,some a2,some (.own (.yg [])),some (.own (.lst [])),none,none,none]
  ⟨[],none,none,[],by simp,⟨rfl,rfl,rfl⟩,⟨nofun,nofun,nofun,nofun,by simp,nofun,nofun⟩⟩ (by
  rintro p x q e J ⟨d,l0,l1,sh,rfl,hw,Cy⟩;have hx:x∈rows:=(L4.t_ rows).mem_iff.mp (by rw[e];simp);have Aq:p.length<64:=by
   have:=congrArg List.length e;rw[plen] at this;simp at this;lia
  have Bz:sh.length<16777216:=by have:=Cy.len;lia
  have Ck:d.length<16777216:=by rw[hw.len];split <;> split <;> lia
  rcases AZ.mp hx with hm | hm
  .obtain⟨y,_,rfl⟩:=Al.mp hm;have st:=Cy.Wh y (λ z hz=>kR e hz rfl rfl) (λ z hz=>kR e hz rfl rfl);have hw':=hw.Vj (xf l0 y.2);refine⟨[some a0,some a1,some a2,some (.own (.yg (ua d (.inl 0) (.int (xf l0 y.2))))),some (.own (.lst ((uc l1 sh λ m=>(y.1,if m>xf l0 y.2 then m else xf l0 y.2)).map zt))),some (.im (.int y.1)),some (.im (.int 0)),some (.im (.int y.2))],?_,_,_,_,_,(by simp),hw',st⟩;have hr:zM (r0 y)=.tup [.int y.1,.int 0,.int y.2]:=rfl;have v0:=hw'.v0;have v1:=hw'.v1;have ln:=hw'.len;cases l0 <;> cases l1 <;> simp[turn,mW,hr,hw.v0,Ck,Bz,xf,uc,zS,dep,eqT] at v0 v1 ln ⊢ <;> simp[v0,v1,ln,zt,uc]
  .obtain⟨y,_,rfl⟩:=Al.mp hm;have st:=Cy.swap y (λ z hz=>kR e hz rfl rfl) (λ z hz=>kR e hz rfl rfl);have hw':=hw.Vi (xf l1 y.2);refine⟨[some a0,some a1,some a2,some (.own (.yg (ua d (.inl 1) (.int (xf l1 y.2))))),some (.own (.lst ((uc l0 sh λ m=>(y.1,if xf l1 y.2>m then xf l1 y.2 else m)).map zt))),some (.im (.int y.1)),some (.im (.int 1)),some (.im (.int y.2))],?_,_,_,_,_,(by simp),hw',st⟩;have hr:zM (r1 y)=.tup [.int y.1,.int 1,.int y.2]:=rfl;have v0:=hw'.v0;have v1:=hw'.v1;have ln:=hw'.len;cases l0 <;> cases l1 <;> simp[turn,mW,hr,hw.v1,Ck,Bz,xf,uc,zS,dep,eqT] at v0 v1 ln ⊢ <;> simp[v0,v1,ln,zt,uc])
 have DB:sh.length<64:=by have:=s1.len;lia
 refine⟨sh,?_,DB,λ q=>?_⟩
 .subst e1;have hc1:fO [some a0,some a1,none,none,none,none,none,none]=some (.lst ((b.map r0).map zM)):=by
   rw[AG];exact tF zt (zM ∘ r0) b (by simp[a0]) (by lia) λ y _=>by simp[zt,zM,r0]
  have hc2:fN [some a0,some a1,none,none,none,none,none,none]=some (.lst ((o.map r1).map zM)):=by
   rw[AG];exact tF zt (zM ∘ r1) o (by simp[a1]) (by lia) λ y _=>by simp[zt,zM,r1]
  have hF:=jw sh DB;have z:b.length+o.length<=16777216:=by lia
  simp only[a0,a1,a2,rows,Bk] at hc1 hc2 hs h1;unfold l9 dM;simp[hc1,hc2,z,hs,h1,hF] at hc1 hc2 hs h1 ⊢;simp[hc1,hc2,z,hs,h1,hF]
 .have m0:∀ x,r0 x∈L4.xO rows↔x∈b:=λ x=>by
   rw[(L4.t_ rows).mem_iff];constructor
   .intro h;rcases AZ.mp h with h | h <;> obtain⟨y,hy,e⟩:=Al.mp h
    .cases kg e;exact hy
    .exact (pq e.symm).elim
   .exact λ h=>Cb _ (List.mem_map_of_mem h)
  have m1:∀ x,r1 x∈L4.xO rows↔x∈o:=λ x=>by
   rw[(L4.t_ rows).mem_iff];constructor
   .intro h;rcases AZ.mp h with h | h <;> obtain⟨y,hy,e⟩:=Al.mp h
    .exact (pq e).elim
    .cases kf e;exact hy
   .exact λ h=>AV _ (List.mem_map_of_mem h)
  rw[BD,BN,xk,xk,xk];constructor
  .rintro⟨s,hs,g1,g2⟩;obtain⟨⟨x,x1,x2,x3⟩,y,y1,y2,y3⟩:=s1.snd s hs;exact⟨⟨x,(m0 x).mp x1,by lia,by lia⟩,y,(m1 y).mp y1,by lia,by lia⟩
  .rintro⟨⟨x,x1,x2,x3⟩,y,y1,y2,y3⟩;obtain⟨s,s1,g1,g2⟩:=s1.all x y ((m0 x).mpr x1) ((m1 y).mpr y1);exact⟨s,s1,by lia,by lia⟩
theorem kX {α:Type}(enc:α->T) (n:Nat) (h:∀ x,dep (enc x)<=n):∀ xs:List α,yC (xs.map enc)<=n
 | []=>by simp[yC]
 | x::xs=>by
  have:=h x;have:=kX enc n h xs;simp only[Au,yC];lia
def Pd (p:Int×Int):dep (zt p)<=1:=by simp[zt,dep,yC]
def ZR (ps:List (Int×Int)):dep (.tup (ps.map zt))<=60:=by
 have:=kX zt 1 Pd ps;simp only[dep];lia
end y4
namespace y4
open PySem L2 L3 L5 RN
noncomputable def bT (b:Bd):T:=.tup (b.map zt)
noncomputable def rT (r:List Bd):T:=.lst (r.map bT)
noncomputable def kt (b:Bool):T:=if b=true then .str "keeper" else .str "taker"
noncomputable def zR (w:Wy):T:=.tup [.int w.f,.int w.t,.int w.a,.int w.b]
noncomputable def yr (b:Bool):Int:=if b=true then 1 else 0
noncomputable def xY (s:Sl):T:=.tup [.int s.p,.int (yr s.pu),.int s.gv,.int s.gt]
noncomputable def zF (F:zu):T:=.tup [.tup [.int F.A,.int F.B],.tup (F.os.map kt),.tup (F.ws.map zR),.tup (F.ss.map xY)]
def eq_int (i j:Int) (neg:Bool):zS neg (.int i) (.int j)=some (.bl (cond neg (!decide (i=j)) (decide (i=j)))):=by
 simp[zS,dep,eqT];cases neg <;> simp[Bool.beq_eq_decide_eq]
def YG (F:zu):qS [zF F]=some (.int F.os.length):=by
 simp[qS,dn,zF]
def Nc (q p:Int×Int):lD [zt q,zt p]=some (.bl (vl q p)):=by
 by_cases h1:p.1<=q.1 <;> by_cases h2:p.2<=q.2 <;> simp[lD,dS,zt,vl,h1,h2]
def Nb (A B:Int) (w:Wy) (bd:Bd) (hl:bd.length<64):lC [.tup [.int A,.int B],zR w,bT bd]=some (bT (qJ A B w.a w.b bd)):=by
 have h1:mO [some (.im (.tup [.int A,.int B])),some (.im (zR w)),some (.im (bT bd)),none]=some (.lst ((bd.map (xU w.a w.b)).map zt)):=by
  rw[AG];unfold mO;refine tF zt _ bd (by simp[bT]) (by lia) λ p _=>?_;simp[zt,zR,xU,yt,pP]
 have h2:mI [some (.im (.tup [.int A,.int B])),some (.im (zR w)),some (.im (bT bd)),some (.im (.lst ((bd.map (xU w.a w.b)).map zt)))]=some (.lst (((bd.map (xU w.a w.b)).filter (vm A B)).map zt)):=by
  have:=nS zt (λ p=>if vm A B p=true then some (zt p) else none) (pick:=[none,some 0]) (it:=xt (zf 3)) (g:=zA 0) (c:=xq (zv lD (zc (zp 1) (zc (zp 0) zj)))) (f:=zp 0) (J:=[some (.im (.tup [.int A,.int B])),some (.im (zR w)),some (.im (bT bd)),some (.im (.lst ((bd.map (xU w.a w.b)).map zt)))]) (bd.map (xU w.a w.b)) (by simp) (by simp;lia) (λ p _=>by
   have e:T.tup [.int A,.int B]=zt (A,B):=rfl;have ga:vl (A,B) p=vm A B p:=rfl;simp only[vg,e];simp[Nc,ga];cases vm A B p <;> simp)
  unfold mI;rw[this,show ∀ l:List (Int×Int),l.filterMap (λ p=>if vm A B p=true then some (zt p) else none)=(l.filter (vm A B)).map zt from λ l=>by
   induction l with
   | nil=>rfl
   | cons a l ih=>by_cases h:vm A B a=true <;> simp[BM,h,ih]]
 have h3:=jw ((bd.map (xU w.a w.b)).filter (vm A B)) (Nat.lt_of_le_of_lt (CI _ _) (by simpa using hl));unfold lC dR;generalize mO=d1 at h1 ⊢;generalize mI=d2 at h2 ⊢;generalize sP=ff at h3 ⊢;generalize (bd.map (xU w.a w.b)).map zt=L1 at h1 h2;generalize (((bd.map (xU w.a w.b)).filter (vm A B)).map zt)=L2 at h2 h3;simp[h1,h2,h3];rfl
def OQ (b c:Bd) (hl:b.length+c.length<64):l7 [bT b,bT c]=some (bT (uu b c)):=OS b c hl
def OX (b c:Bd) (hl:b.length+c.length<64):l9 [bT b,bT c]=some (bT (vU b c)):=by
 obtain⟨sh,h1,_,h2⟩:=OY b c hl;have:vf sh=vU b c:=w9.eq (kC _) (kC _) λ q=>by
  rw[nR,h2,<- Yl]
 rw[<- this];exact h1
def OP {A B:Int}(hA:0<=A/\A<=12) (bs:List Bd) (h:∀ b∈bs,Gd A B b):lA [.lst (bs.map bT)]=some (bT (uR bs)):=by
 obtain⟨J',h1,h2⟩:=uL (is:=[2]) (g:=zA 2) (b:=mX) bT (λ p J=>J=[some (.im (.lst (bs.map bT))),some (.im (bT (p.foldl uu []))),none]) bs [some (.im (.lst (bs.map bT))),some (.im (bT [])),none] rfl (by
  rintro p x q e J rfl;have g1:Gd A B (p.foldl uu []):=mq p [] Gd.nil λ c hc=>h c (by rw[e];simp[hc]);have g2:Gd A B x:=h x (by rw[e];simp);have l1:=g1.pH hA.1;have l2:=g2.pH hA.1;refine⟨[some (.im (.lst (bs.map bT))),some (.im (bT (uu (p.foldl uu []) x))),some (.im (bT x))],?_,by simp⟩;simp[turn,mX,OQ (p.foldl uu []) x (by lia)])
 subst h2;unfold lA dP;generalize mX=bb at h1 ⊢;have e:bT []=.tup []:=rfl;rw[e] at h1;simp[h1,uR]
def OW {A B:Int}(hA:0<=A/\A<=12) (hB:0<=B) (bs:List Bd) (h:∀ b∈bs,Gd A B b):lB [.lst (bs.map bT)]=some (bT (qG bs)):=by
 obtain⟨J',h1,h2⟩:=uL (is:=[2]) (g:=zA 2) (b:=mY) bT (λ p J=>J=[some (.im (.lst (bs.map bT))),some (.im (bT (p.foldl vU xl))),none]) bs [some (.im (.lst (bs.map bT))),some (.im (bT xl)),none] rfl (by
  rintro p x q e J rfl;have g1:Gd A B (p.foldl vU xl):=jc p xl (Gd.xl hA.1 hB) λ c hc=>h c (by rw[e];simp[hc]);have g2:Gd A B x:=h x (by rw[e];simp);have l1:=g1.pH hA.1;have l2:=g2.pH hA.1;refine⟨[some (.im (.lst (bs.map bT))),some (.im (bT (vU (p.foldl vU xl) x))),some (.im (bT x))],?_,by simp⟩;simp[turn,mY,OX (p.foldl vU xl) x (by lia)])
 subst h2;unfold lB dQ;generalize mY=bb at h1 ⊢;have e:bT xl=.tup [.tup [.int 0,.int 0]]:=rfl;rw[e] at h1;simp[h1,qG]
theorem aA {α:Type}{is:List Nat}{g:T->Ev->Option Ev}{b:Sm}(enc ret:α->T) (test:α->Bool) (J0:Ev):∀ (xs:List α) (J:Ev),yI is J=J0->
  (∀ x∈xs,∃ J',yI is J'=J0/\turn g b (enc x) J0=some (if test x=true then .rt (ret x) else .nx J'))->
  xQ is g b (xs.map enc) J=some (match xs.find? test with | some x=>.rt (ret x) | none=>.nx J0)
 | [],J,h,_=>by rw[Bj,List.find?_nil,xQ,h]
 | x::xs,J,h,ht=>by
  rw[Au,gC,h];obtain⟨J',h1,h2⟩:=ht x Am;rw[h2,Cq];by_cases c:test x=true
  .rw[if_pos c,c];rfl
  .rw[if_neg c];rw[Bool.not_eq_true] at c;rw[c];exact aA enc ret test J0 xs J' h1 λ y hy=>ht y (Ar _ hy)
def YD (i a b:Int):qT [.int i,.int a,.int b]=some (.bl (decide (a<=i)&&decide (i<=b))):=by
 have h:jy [.int i]=some (.bl true):=by simp[jy,dG,ui]
 by_cases h1:a<=i <;> by_cases h2:i<=b <;> simp[qT,dF,h,h1,h2]
def YH (F:zu) (p:Nat) (h:p<F.os.length):l8 [zF F,.int p]=some .zi:=by
 have h1:=YD p 0 ((F.os.length:Int)-1);rw[show decide ((0:Int)<=p)=true from decide_eq_true (by lia),show decide ((p:Int)<=(F.os.length:Int)-1)=true from decide_eq_true (by lia)] at h1;have h2:=YG F;unfold l8 dJ;generalize zF F=fl at *;simp[h1,h2]
def Pu (pu:Bool) (A B:Int) (sp gv gt:Int) (x y:Int) (hg:1<=gv) (b0 b1:T) (hb:zo b0 (.int (yr pu))=some (.int (if pu=true then B else A))) (hs2:zo b1 (.int 2)=some (.int gv)) (hs3:zo b1 (.int 3)=some (.int gt)) (pr:T):
  ∀ (n m:Nat) (g t:Int) (acc:Bd),(if pu=true then B else A)+1-g<=n->n<m->acc.length+n<=1000->
  ∃ g' t',xJ [] (yv (zb rC (zf 5) (zb zo (zf 0) (zf 3)))) rS m [some (.im b0),some (.im b1),some (.im pr),some (.im (.int (yr pu))),some (.own (.lst (acc.map zt))),some (.im (.int g)),some (.im (.int t))]
   = some (.nx [some (.im b0),some (.im b1),some (.im pr),some (.im (.int (yr pu))),some (.own (.lst ((acc++wz pu (if pu=true then B else A) gv gt n g t).map zt))),some (.im (.int g')),some (.im (.int t'))]):=by
 have Be:∀ (m:Nat) (g t:Int) (acc:Bd),¬ g<=(if pu=true then B else A)->xJ [] (yv (zb rC (zf 5) (zb zo (zf 0) (zf 3)))) rS (m+1) [some (.im b0),some (.im b1),some (.im pr),some (.im (.int (yr pu))),some (.own (.lst (acc.map zt))),some (.im (.int g)),some (.im (.int t))]
   = some (.nx [some (.im b0),some (.im b1),some (.im pr),some (.im (.int (yr pu))),some (.own (.lst (acc.map zt))),some (.im (.int g)),some (.im (.int t))]):=λ m g t acc hn=>by
  unfold xJ;simp only[zo] at hb;simp[hb,hn]
 intro n
 induction n with
 | zero=>
  intro m g t acc h1 h2 h3;obtain⟨m,rfl⟩:∃ k,m=k+1:=⟨m-1,by lia⟩
  refine⟨g,t,?_⟩;rw[Be m g t acc (by lia)];simp[wz]
 | succ n ih=>
  intro m g t acc h1 h2 h3;obtain⟨m,rfl⟩:∃ k,m=k+1:=⟨m-1,by lia⟩
  by_cases hc:g<=(if pu=true then B else A)
  .obtain⟨g',t',e⟩:=ih m (g+gv) (yt (t-gt)) (acc++[xG pu g t]) (by lia) (by lia) (by simp;lia);refine⟨g',t',?_⟩;have hb1:rS [some (.im b0),some (.im b1),some (.im pr),some (.im (.int (yr pu))),some (.own (.lst (acc.map zt))),some (.im (.int g)),some (.im (.int t))]=some (.nx [some (.im b0),some (.im b1),some (.im pr),some (.im (.int (yr pu))),some (.own (.lst ((acc++[xG pu g t]).map zt))),some (.im (.int (g+gv))),some (.im (.int (yt (t-gt))))]):=by
    simp only[zo] at hs2 hs3;have hl:acc.length<16777216:=by lia
    unfold rS;cases pu <;> simp[yr,eq_int,hs2,hs3,hl,pP,yt,xG,zt]
   unfold xJ;simp only[zo] at hb;generalize rS=bb at *;have e2:wz pu (if pu=true then B else A) gv gt (n+1) g t=xG pu g t::wz pu (if pu=true then B else A) gv gt n (g+gv) (yt (t-gt)):=by
    rw[wz,if_pos hc]
   rw[e2];simp only[List.append_assoc,List.singleton_append] at e;simp[hb,hc,hb1];simpa using e
  .refine⟨g,t,?_⟩;rw[Be m g t acc hc,wz,if_neg hc,C0]
def OV {F:zu}(ok:F.Ok) (s:Sl) (hs:1<=s.gv/\0<=s.gt) (p:Int×Int) (h0:0<=p.1/\0<=p.2):lu [.tup [.int F.A,.int F.B],xY s,zt p]=some (.lst ((y_ F s p).map zt)):=by
 obtain⟨sp,pu,gv,gt⟩:=s;have a1:=ok.a1;have b1:=ok.b1;obtain⟨g',t',h⟩:=Pu pu F.A F.B sp gv gt p.1 p.2 hs.1 (.tup [.int F.A,.int F.B]) (xY ⟨sp,pu,gv,gt⟩) (by cases pu <;> simp[yr]) (by simp[xY]) (by simp[xY]) (zt p) 100 1000000 (xy pu p) (vj pu p) [] (by cases pu <;> simp[xy] <;> lia) (by decide) (by simp);unfold lu dq qc;generalize hb:rS=bb at h ⊢;unfold y_ zu.zB;simp only[Bj,List.nil_append] at h;cases pu <;> simp[xY,yr,zt,xy,vj] at h ⊢ <;> simp[h]
def OB (F:zu) (p:Nat) (h:p<F.os.length) (hl:F.ss.length<=60):qR [zF F,.int p]=some (match F.stall p with | some s=>xY s | none=>.zi):=by
 have hl':=aA (is:=[2]) (g:=zA 2) (b:=oj) xY xY (λ s=>decide (s.p=p)) [some (.im (zF F)),some (.im (.int p)),none] F.ss [some (.im (zF F)),some (.im (.int p)),none] (by simp) λ s _=>⟨[some (.im (zF F)),some (.im (.int p)),some (.im (xY s))],by simp,by
  by_cases c:s.p=p
  .simp[turn,oj,xY,eq_int,c]
  .have c':¬ ((s.p:Int)=(p:Int)):=by lia
   simp[turn,oj,xY,eq_int,c,c']⟩
 have h1:=YH F p h;have h2:zo (zF F) (.int 3)=some (.tup (F.ss.map xY)):=by simp[zF]
 unfold qR dk;generalize oj=bb,zF F=fl at *;simp only[zo] at h2;unfold zu.stall;generalize F.ss.find? _=o at *;simp[h1,h2,hl'];cases o <;> simp
theorem ZE:∀ (ws:List Wy) (k:Nat),rM k (ws.map zR)=(ws.zipIdx k).map λ wi=>T.tup [.int (wi.2:Int),zR wi.1]
 | [],k=>rfl
 | w::ws,k=>by
  rw[Au,rM,ZE ws (k+1),Di,Au]
theorem j6 (f:Wy->Bool):∀ (ws:List Wy) (k:Nat),((ws.zipIdx k).filter λ wi=>f wi.1).map (λ wi=>wi.1)=ws.filter f
 | [],k=>rfl
 | w::ws,k=>by
  rw[Di,List.filter_cons,List.filter_cons];by_cases c:f w=true
  .rw[if_pos (by exact c),if_pos c,Au,j6 f ws]
  .rw[if_neg (by exact c),if_neg c,j6 f ws]
def O9 (F:zu) (p:Nat) (h:p<F.os.length) (hl:F.ws.length<=60):lq [zF F,.int p]=some (.lst (((F.ws.zipIdx).filter λ wi=>decide (wi.1.f=p)).map λ wi=>T.int (wi.2:Int))):=by
 have hc:mJ [some (.im (zF F)),some (.im (.int p))]=some (.lst (((F.ws.zipIdx).filter λ wi=>decide (wi.1.f=p)).map λ wi=>T.int (wi.2:Int))):=by
  have:=nS (λ wi:Wy×Nat=>T.tup [.int (wi.2:Int),zR wi.1]) (λ wi=>if wi.1.f=p then some (T.int (wi.2:Int)) else none) (pick:=[none,none,some 1]) (it:=wq rN (zc (zb zo (zf 0) (cS (.int 2))) zj)) (g:=wL 2 (y6 (zA 0) (y6 (zA 1) vz))) (c:=yv (zb (zS false) (zb zo (zf 1) (cS (.int 0))) (zf 2))) (f:=zp 0) (J:=[some (.im (zF F)),some (.im (.int p))]) (F.ws.zipIdx) (by
   rw[<- ZE];simp[zF]) (by simp;lia) (λ wi _=>by
   by_cases c:wi.1.f=p
   .simp[zR,eq_int,c]
   .have c':¬ ((wi.1.f:Int)=(p:Int)):=by lia
    simp[zR,eq_int,c,c'])
  unfold mJ;rw[this];congr 2
  induction F.ws.zipIdx with
  | nil=>rfl
  | cons a l ih=>by_cases c:a.1.f=p <;> simp[BM,c,ih]
 have h1:=YH F p h;unfold lq di;generalize mJ=cc,zF F=fl at *;generalize List.map (λ wi:Wy×Nat=>T.int (wi.2:Int)) _=LL at *;simp[h1,hc]
theorem ZA:∀ (b c:Bd),xv (b.map zt) (c.map zt)=decide (b=c)
 | [],[]=>by simp[xv]
 | [],_::_=>by simp[xv]
 | _::_,[]=>by simp[xv]
 | p::b,q::c=>by
  have h:=ZA b c;have e:eqT (zt p) (zt q)=decide (p=q):=by
   obtain⟨p1,p2⟩:=p;obtain⟨q1,q2⟩:=q;by_cases h1:p1=q1 <;> by_cases h2:p2=q2 <;> simp[zt,eqT,xv,h1,h2]
  rw[Au,Au,xv,e,h];by_cases h1:p=q <;> by_cases h2:b=c <;> simp[h1,h2]
def SR (b c:Bd):zS true (bT b) (bT c)=some (.bl (decide (b≠c))):=by
 have h1:dep (bT b)<=60:=ZR b;have h2:dep (bT c)<=60:=ZR c;unfold zS;rw[if_pos ⟨h1,h2⟩];show some (T.bl (!(xv (b.map zt) (c.map zt))))=_;rw[ZA];by_cases h:b=c <;> simp[h]
def aW (l:List Bd) (p:Nat) (h:p<l.length):zo (rT l) (.int p)=some (bT (l.getD p [])):=by
 show L2.zN (l.map bT) (p:Int)=_;refine ux ?_;rw[Az,AX h,AW,AX h];rfl
def OU {F:zu}(ok:F.Ok) (p:Nat) (hp:p<F.os.length) (b:Bd) (hb:Gd F.A F.B b):oG [zF F,.int p,bT b]=some (bT (match F.stall p with | none=>b | some s=>mF F s b)):=by
 have h1:=OB F p hp ok.s8;cases hs:F.stall p with
 | none=>
  rw[hs] at h1;unfold oG j4;generalize qR=f1 at h1 ⊢;generalize zF F=fl,bT b=bb at *;have is1:xS false .zi .zi=some (.bl true):=rfl;simp[h1,is1]
 | some s=>
  rw[hs] at h1;replace h1:qR [zF F,.int p]=some (xY s):=h1;have A2:s∈F.ss:=List.mem_of_find?_eq_some hs;have hsz:=ok.ss s A2;have h64:(F.A+1)*(F.B+1)<64:=by
   rcases ok.sl with x | x
   .rw[x] at A2;cases A2
   .exact x
  have a0:=ok.a0;have b0:=ok.b0;have Ea:∀ x∈b,((y_ F s x).length:Int)<=F.zB s.pu+1:=λ x hx=>by
   have q:=hb.uj x hx;have:=Yi s.pu (F.zB s.pu) s.gv s.gt hsz.1 100 (xy s.pu x) (vj s.pu x) (by unfold zu.zB xy;split <;> lia);have g0:0<=xy s.pu x:=by unfold xy;split <;> lia
   unfold y_;lia
  have Ax:∀ q:Bd,(∀ x∈q,x∈b)->((q.flatMap (y_ F s)).length:Int)<=q.length*(F.zB s.pu+1):=λ q=>by
   induction q with
   | nil=>intro _;simp
   | cons x q ih=>
    intro hq;have i1:=ih λ y hy=>hq y (Ar _ hy);have i2:=Ea x (hq x Am);rw[List.flatMap_cons,Cc,AR,Int.natCast_add,Int.natCast_add,Int.add_mul];lia
  have hlen:(b.flatMap (y_ F s)).length<64:=by
   have h2:=Ax b λ _ h=>h;have l1:=hb.pH a0;have l2:=hb.Rv b0;have:((b.flatMap (y_ F s)).length:Int)<64:=by
    refine Int.lt_of_le_of_lt h2 (Int.lt_of_le_of_lt ?_ h64);unfold zu.zB;split
    .exact DG l1 (by lia)
    .rw[Int.mul_comm (F.A+1)];exact DG l2 (by lia)
   lia
  have Dg:zo (zF F) (.int 0)=some (.tup [.int F.A,.int F.B]):=by simp[zF]
  obtain⟨J',h2,h3⟩:=uL (is:=[5]) (g:=zA 5) (b:=mZ) zt (λ q J=>J=[some (.im (zF F)),some (.im (.int p)),some (.im (bT b)),some (.im (xY s)),some (.own (.lst ((q.flatMap (y_ F s)).map zt))),none]) b [some (.im (zF F)),some (.im (.int p)),some (.im (bT b)),some (.im (xY s)),some (.own (.lst [])),none] rfl (by
   rintro q x r e J rfl;have hx:x∈b:=by rw[e];simp
   have q1:=hb.uj x hx;have hF:=OV ok s hsz x ⟨q1.1.1,q1.2.1⟩;have hl2:(q.flatMap (y_ F s)).length+(y_ F s x).length<=16777216:=by
    have e2:(b.flatMap (y_ F s)).length=(q.flatMap (y_ F s)).length+((y_ F s x).length+(r.flatMap (y_ F s)).length):=by rw[e];simp
    lia
   refine⟨[some (.im (zF F)),some (.im (.int p)),some (.im (bT b)),some (.im (xY s)),some (.own (.lst (((q++[x]).flatMap (y_ F s)).map zt))),some (.im (zt x))],?_,by simp⟩;have e3:((q++[x]).flatMap (y_ F s)).map zt=(q.flatMap (y_ F s)).map zt++(y_ F s x).map zt:=by simp
   rw[e3];unfold turn mZ;have l3:((q.flatMap (y_ F s)).map zt).length+((y_ F s x).map zt).length<=16777216:=by simpa using hl2
   generalize lu=ff,(q.flatMap (y_ F s)).map zt=L1,(y_ F s x).map zt=L2,zF F=fl at *;simp only[zo] at Dg;simp[Dg,hF,l3])
  subst h3;have hF:=jw (b.flatMap (y_ F s)) hlen;have nn:xS false (xY s) .zi=some (.bl false):=rfl;unfold oG j4;generalize mZ=bb,sP=ff,qR=f1,(b.flatMap (y_ F s)).map zt=L1 at *;have hbT:xF (bT b)=some (b.map zt):=rfl;generalize bT b=bt,zF F=fl,xY s=st at *;simp[h1,nn,hbT,h2,hF];rfl
def OJ {F:zu}(ok:F.Ok) (p:Nat) (hp:p<F.os.length) (l:List Bd) (hl:l.length=F.os.length) (hg:∀ b∈l,Gd F.A F.B b):lx [zF F,.int p,rT l]=some (bT (yS F l p)):=by
 have h1:=O9 F p hp ok.uZ;have hw2:zo (zF F) (.int 2)=some (.tup (F.ws.map zR)):=by simp[zF]
 have hw0:zo (zF F) (.int 0)=some (.tup [.int F.A,.int F.B]):=by simp[zF]
 have hw1:zo (zF F) (.int 1)=some (.tup (F.os.map kt)):=by simp[zF]
 have c1:mL [some (.im (zF F)),some (.im (.int p)),some (.im (rT l)),none,none]=some (.lst ((F.ws.filter λ w=>decide (w.f=p)).map zR)):=by
  rw[<- j6 (λ w=>decide (w.f=p)) F.ws 0,AG];unfold mL;refine tF (λ wi:Wy×Nat=>T.int (wi.2:Int)) _ ((F.ws.zipIdx).filter λ wi=>decide (wi.1.f=p)) ?_ (Bl (CI _ _) (by rw[List.length_zipIdx];have:=ok.uZ;lia)) λ wi Cd=>?_
  .generalize lq=ff at *;simp[h1]
  .have hm:=(AU.mp Cd).1;have hg:=List.mem_zipIdx_iff_getElem?.mp hm;have:L2.zN (F.ws.map zR) (wi.2:Int)=some (zR wi.1):=by
    exact ux (by rw[Az,hg];rfl)
   generalize zF F=fl at *;simp only[zo] at hw2;simp[hw2,this]
 have c2:mH [some (.im (zF F)),some (.im (.int p)),some (.im (rT l)),some (.im (.lst ((F.ws.filter λ w=>decide (w.f=p)).map zR))),none]=some (.lst ((xM F l p).map bT)):=by
  unfold xM;rw[AG];unfold mH;refine tF zR _ (F.ws.filter λ w=>decide (w.f=p)) (by simp) (Bl (CI _ _) (by have:=ok.uZ;lia)) λ w hw=>?_;have hm:=(AU.mp hw).1;have ht:w.t<l.length:=by rw[hl];exact (ok.ws w hm).2
  have e1:=aW l w.t ht;have gb:Gd F.A F.B (l.getD w.t []):=by
   rw[AW,AX ht];exact hg _ (Ds ht)
  have l13:=gb.pH ok.a0;have a12:=ok.a1;have hF:=Nb F.A F.B w (l.getD w.t []) (by lia);have e2:zo (zR w) (.int 1)=some (.int (w.t:Int)):=by simp[zR]
  obtain⟨bd,hbd⟩:∃ bd,l.getD w.t []=bd:=⟨_,rfl⟩
  rw[hbd] at e1 gb hF;have Ex:(l[w.t]?).getD []=bd:=by rw[<- hbd,AW]
  generalize lC=ff,zF F=fl,rT l=rt,zR w=wt at *;simp only[zo] at hw0 e1 e2;simp[hw0,e1,e2,hF,Ex]
 have gah:=jg F l p;have c3:=OP ⟨ok.a0,ok.a1⟩ (xM F l p) gah;have c4:=OW ⟨ok.a0,ok.a1⟩ ok.b0 (xM F l p) gah;have c5:=OU ok p hp (uR (xM F l p)) (mq _ _ Gd.nil gah);have ho:L2.zN (F.os.map kt) (p:Int)=some (kt (F.os.getD p false)):=by
  refine ux ?_;rw[Az,AX hp,AW,AX hp];rfl
 have hk:∀ b:Bool,zS false (kt b) (.str "keeper")=some (.bl b):=λ b=>by cases b <;> rfl
 unfold lx du;generalize mL=d1,mH=d2,lA=f1,lB=f2,oG=f3,((F.ws.filter λ w=>decide (w.f=p)).map zR)=L1,zF F=fl,rT l=rt at *;unfold yS;have hk':=hk (F.os.getD p false);generalize F.os.getD p false=kb at *;generalize kt kb=ktb at *;generalize (T.str "keeper")=ks at *;simp only[zo] at hw1;cases kb with
 | true=>
  simp[c1,c2,hw1,ho,hk',c3,c5]
  all_goals (cases F.stall p <;> rfl)
 | false=>simp[c1,c2,hw1,ho,hk',c4]
theorem fx {α β:Type}(c:α->Bool) (g:α->β):∀ l:List α,l.filterMap (λ x=>if c x=true then some (g x) else none)=(l.filter c).map g
 | []=>rfl
 | a::l=>by by_cases h:c a=true <;> simp[BM,h,fx c g l]
def Qf (t:Nat) (fr:List Nat):pO false (.int t) (.lst (fr.map λ(k:Nat)=>T.int (k:Int)))=some (.bl (fr.contains t)):=by
 have d1:yC (fr.map λ(k:Nat)=>T.int (k:Int))<=60:=by
  refine kX _ 60 (λ x=>?_) fr;simp[dep]
 have d0:dep (.int (t:Int))<=60:=by simp[dep]
 unfold pO;show (if dep (.int (t:Int))<=60/\yC (fr.map λ(k:Nat)=>T.int (k:Int))<=60 then _ else _)=_;rw[if_pos ⟨d0,d1⟩];show some (T.bl ((fr.map λ(k:Nat)=>T.int (k:Int)).any λ x=>eqT x (.int t)))=_;congr 2;rw[BD,Bf,List.contains_iff_mem];constructor
 .rintro⟨x,hx,h⟩;obtain⟨k,hk,rfl⟩:=Al.mp hx;have:(k:Int)=(t:Int):=by simpa [eqT] using h
  have:k=t:=by lia
  subst this;exact hk
 .intro h;exact⟨_,Al.mpr ⟨t,h,rfl⟩,by simp[eqT]⟩
def OI {F:zu}(ok:F.Ok) (last:List Bd) (fr:List Nat) (hl:last.length=F.os.length) (hg:∀ b∈last,Gd F.A F.B b):
  o5 [zF F,rT last,.lst (fr.map λ(k:Nat)=>T.int (k:Int))]=some (rT (yd F last fr)):=by
 have hw2:zo (zF F) (.int 2)=some (.tup (F.ws.map zR)):=by simp[zF]
 have c1:mK [some (.im (zF F)),some (.im (rT last)),some (.im (.lst (fr.map λ(k:Nat)=>T.int (k:Int)))),some (.own (.lst (last.map bT))),none]=some (.lst (((F.ws.filter λ w=>fr.contains w.t).map λ w=>(w.f:Int)).map T.int)):=by
  have:=nS zR (λ w=>if fr.contains w.t=true then some (T.int (w.f:Int)) else none) (pick:=[none,some 2]) (it:=xt (zb zo (zf 0) (cS (.int 2)))) (g:=zA 0) (c:=yv (zb (pO false) (zb zo (zf 0) (cS (.int 1))) (zf 1))) (f:=zb zo (zf 0) (cS (.int 0))) (J:=[some (.im (zF F)),some (.im (rT last)),some (.im (.lst (fr.map λ(k:Nat)=>T.int (k:Int)))),some (.own (.lst (last.map bT))),none]) F.ws (by
    generalize zF F=fl at *;simp only[zo] at hw2;simp[hw2]) (by have:=ok.uZ;lia) (λ w _=>by
   have hi:=Qf w.t fr;generalize (T.lst (fr.map λ(k:Nat)=>T.int (k:Int)))=ft,fr.contains w.t=cb at *;cases cb <;> simp[zR,hi])
  unfold mK;rw[this];rw[fx (λ w:Wy=>fr.contains w.t) (λ w:Wy=>T.int (w.f:Int)),AG];rfl
 have hss:vu [.lst (((F.ws.filter λ w=>fr.contains w.t).map λ w=>(w.f:Int)).map T.int)]=some (.lst ((wK ((F.ws.filter λ w=>fr.contains w.t).map λ w=>(w.f:Int))).map T.int)):=by
  show (match wW (((F.ws.filter λ w=>fr.contains w.t).map λ w=>(w.f:Int)).map T.int) with | some ns=>_ | none=>_)=_;rw[kF];refine if_pos ?_;have:=CI (λ w:Wy=>fr.contains w.t) F.ws;have:=ok.uZ;simp only[Ay];lia
 have A2:∀ k∈wK ((F.ws.filter λ w=>fr.contains w.t).map λ w=>(w.f:Int)),∃ p:Nat,k=(p:Int)/\p<F.os.length/\uN F fr p=true:=λ k hk=>by
  obtain⟨w,hw,rfl⟩:=Al.mp (k7.mp hk);obtain⟨w1,w2⟩:=AU.mp hw;exact⟨w.f,rfl,(ok.ws w w1).1,Bf.mpr ⟨w,w1,by simpa using w2⟩⟩
 have DZ:∀ p:Nat,uN F fr p=true->(p:Int)∈wK ((F.ws.filter λ w=>fr.contains w.t).map λ w=>(w.f:Int)):=λ p h=>by
  obtain⟨w,w1,w2⟩:=Bf.mp h;have w3:w.f=p/\fr.contains w.t=true:=by simpa using w2
  exact k7.mpr (Al.mpr ⟨w,AU.mpr ⟨w1,w3.2⟩,by rw[w3.1]⟩)
 generalize wK ((F.ws.filter λ w=>fr.contains w.t).map λ w=>(w.f:Int))=up at *;have ft:∃ t,(T.lst (fr.map λ(k:Nat)=>T.int (k:Int)))=t:=⟨_,rfl⟩
 obtain⟨J',h1,h2⟩:=uL (is:=[4]) (g:=zA 4) (b:=mT) T.int (λ pre J=>J=[some (.im (zF F)),some (.im (rT last)),some (.im (.lst (fr.map λ(k:Nat)=>T.int (k:Int)))),some (.own (.lst (((List.range last.length).map λ(p:Nat)=>if (p:Int)∈pre then yS F last p else last.getD p []).map bT))),none]) up
   [some (.im (zF F)),some (.im (rT last)),some (.im (.lst (fr.map λ(k:Nat)=>T.int (k:Int)))),some (.own (.lst (last.map bT))),none] (by
  have e:(List.range last.length).map (λ(p:Nat)=>if (p:Int)∈([]:List Int) then yS F last p else last.getD p [])=last:=by
   refine Bs (by simp) λ i h1 h2=>?_;simp[h2]
  rw[e];rfl) (by
  rintro pre k q e J rfl;obtain⟨p,rfl,hp,hw⟩:=A2 k (by rw[e];simp);have hF:=OJ ok p hp last hl hg;refine⟨[some (.im (zF F)),some (.im (rT last)),some (.im (.lst (fr.map λ(k:Nat)=>T.int (k:Int)))),some (.own (.lst (((List.range last.length).map λ(i:Nat)=>if (i:Int)∈pre++[(p:Int)] then yS F last i else last.getD i []).map bT))),some (.im (.int p))],?_,by simp⟩;have D5:(((List.range last.length).map λ(i:Nat)=>if (i:Int)∈pre then yS F last i else last.getD i []).map bT).set p (bT (yS F last p))=((List.range last.length).map λ(i:Nat)=>if (i:Int)∈pre++[(p:Int)] then yS F last i else last.getD i []).map bT:=by
   refine Bs (by simp) λ i h1 h2=>?_;rw[List.getElem_set];simp only[List.getElem_map,Dv,AZ,AJ];by_cases c:p=i
   .subst c;simp
   .have c':¬ ((i:Int)=(p:Int)):=by lia
    simp[c,c']
  have A9:vh (((List.range last.length).map λ(i:Nat)=>if (i:Int)∈pre then yS F last i else last.getD i []).map bT).length (p:Int)=some p:=by
   unfold vh;simp only[Ay,BP];rw[if_pos (by lia),if_pos (by lia),Co]
  rw[<- D5];unfold turn mT;generalize lx=ff,(((List.range last.length).map λ(i:Nat)=>if (i:Int)∈pre then yS F last i else last.getD i []).map bT)=LL,zF F=fl,rT last=rl,(T.lst (fr.map λ(k:Nat)=>T.int (k:Int)))=ftt at *;simp[hF,A9])
 subst h2;have fin:((List.range last.length).map λ(p:Nat)=>if (p:Int)∈up then yS F last p else last.getD p [])=yd F last fr:=by
  unfold yd;refine CK λ p hp=>?_;by_cases c:uN F fr p=true
  .rw[if_pos c,if_pos (DZ p c)]
  .rw[if_neg c,if_neg λ h=>c (by obtain⟨p',e,_,h'⟩:=A2 _ h;exact (show p'=p by lia)▸h')]
 rw[fin] at h1;have hlist:listS [rT last]=some (.lst (last.map bT)):=rfl;unfold o5 dr;generalize mK=cc,mT=bb,(((F.ws.filter λ w=>fr.contains w.t).map λ w=>(w.f:Int)).map T.int)=L1 at *;generalize hup:up.map T.int=L2 at *;generalize last.map bT=L3,zF F=fl at *;have Ce:xF (rT last)=some L3:=by simpa using hlist
 generalize rT last=rl,(T.lst (fr.map λ(k:Nat)=>T.int (k:Int)))=ftt at *;simp[Ce,c1,hss,h1,rT]
theorem ZF {α:Type}(enc:α->T) (d:α) (fo:List α):∀ (l:List α) (k:Nat),(∀ i,l.getD i d=fo.getD (k+i) d)->rM k (l.map enc)=(List.range l.length).map λ(p:Nat)=>T.tup [.int ((k+p:Nat):Int),enc (fo.getD (k+p) d)]
 | [],k,_=>rfl
 | b::l,k,h=>by
  have h0:=h 0;rw[Au,rM,ZF enc d fo l (k+1) λ i=>by have:=h (i+1);rw[show k+1+i=k+(i+1) from by lia];simpa using this];rw[AR,CV,Au,AG];have e:b=fo.getD k d:=by simpa using h0
  congr 1
  .rw[e];rfl
  .refine CK λ p _=>?_;simp only[Function.comp];rw[show k+1+p=k+Nat.succ p from by lia]
noncomputable def xu (fr:List Nat):T:=.lst (fr.map λ(k:Nat)=>T.int (k:Int))
def Oe (a:T) (b c:Option L5.W) (last fo:List Bd) (hl:fo.length=last.length) (h16:fo.length<=10000):og [some (.im a),b,c,some (.im (rT last)),some (.im (rT fo))]=some (xu (x8 last fo)):=by
 have:=nS (λ p:Nat=>T.tup [.int (p:Int),bT (fo.getD p [])]) (λ p=>if decide (fo.getD p []≠last.getD p [])=true then some (T.int (p:Int)) else none) (pick:=[none,none,some 3]) (it:=wq rN (zc (zf 4) zj)) (g:=wL 2 (y6 (zA 0) (y6 (zA 1) vz))) (c:=yv (zb (zS true) (zf 1) (zb zo (zf 2) (zf 0)))) (f:=zp 0) (J:=[some (.im a),b,c,some (.im (rT last)),some (.im (rT fo))]) (List.range fo.length) (by
   have:=ZF bT [] fo fo 0 λ i=>by rw[Nat.zero_add]
   simp only[Nat.zero_add] at this;have e:rN [rT fo]=some (rM 0 (fo.map bT)):=rfl;rw[<- this];generalize rN=en at *;simp[e]) (by simp;lia) (λ p hp=>by
  have hp':p<last.length:=by rw[<- hl];exact AH.mp hp
  have h1:=aW last p hp';have h2:=SR (fo.getD p []) (last.getD p []);generalize fo.getD p []=x,last.getD p []=y,rT last=rl at *;generalize decide (x≠y)=d at *;simp only[zo] at h1;cases d <;> simp[h1,h2])
 unfold og;rw[this,fx (λ p:Nat=>decide (fo.getD p []≠last.getD p [])) (λ p:Nat=>T.int (p:Int))];rfl
theorem cQ {F:zu}(ok:F.Ok):∀ (n:Nat) (pre:List (List Bd)) (last:List Bd) (fr:List Nat) (res:List (List Bd)),St F last fr->s_ F n pre last fr=some res->pre.length+n<=10000->∀ (m:Nat),n<m->∀ x3 x4:Option L5.W,
  ∃ fr',xJ [3,4] (xq (zf 2)) uS m [some (.im (zF F)),some (.own (.lst ((pre++[last]).map rT))),some (.im (xu fr)),x3,x4]=some (.nx [some (.im (zF F)),some (.own (.lst (res.map rT))),some (.im fr'),none,none])
 | 0,_,_,_,_,_,h,_,_,_,_,_=>by cases h
 | n+1,pre,last,fr,res,s,h,hn,m,hm,x3,x4=>by
  have Be:∀ (m:Nat) (told:List (List Bd)) (x3 x4:Option L5.W),xJ [3,4] (xq (zf 2)) uS (m+1) [some (.im (zF F)),some (.own (.lst (told.map rT))),some (.im (xu [])),x3,x4]=some (.nx [some (.im (zF F)),some (.own (.lst (told.map rT))),some (.im (xu [])),none,none]):=λ m told x3 x4=>by
   unfold xJ;simp[xu]
  obtain⟨m,rfl⟩:∃ k,m=k+1:=⟨m-1,by lia⟩
  unfold s_ at h;by_cases Bg:fr=[]
  .rw[if_pos Bg] at h;cases h;subst Bg;exact⟨_,Be m _ x3 x4⟩
  .rw[if_neg Bg] at h;dsimp only at h;have hlen:=s.len;have n8:=ok.n8;have hF:=OI ok last fr s.len s.gd;have hlast:zo (.lst ((pre++[last]).map rT)) (.int (-1))=some (rT last):=by
    show L2.zN ((pre++[last]).map rT) (-1)=_;rw[Bk];exact fT _ _
   have hc:=λ b c=>Oe (zF F) b c last (yd F last fr) (rq ..) (by rw[rq,s.len];lia);have Ai:sX (xu fr)=some true:=by
    cases fr with
    | nil=>exact absurd rfl Bg
    | cons a l=>rfl
   have hb:∃ told',uS [some (.im (zF F)),some (.own (.lst ((pre++[last]).map rT))),some (.im (xu fr)),none,none]=some (.nx [some (.im (zF F)),some (.own (.lst (told'.map rT))),some (.im (xu (x8 last (yd F last fr)))),some (.im (rT last)),some (.im (rT (yd F last fr)))])/\told'=if x8 last (yd F last fr)=[] then pre++[last] else pre++[last]++[yd F last fr]:=by
    have hl2:((pre++[last]).map rT).length<16777216:=by simp;lia
    by_cases hf:x8 last (yd F last fr)=[]
    .refine⟨pre++[last],?_,by rw[if_pos hf]⟩;have ht:sX (xu (x8 last (yd F last fr)))=some false:=by rw[hf];rfl
     unfold uS;generalize og=cc,o5=ff,(pre++[last]).map rT=L1,xu (x8 last (yd F last fr))=f2 at *;unfold xu at *;simp only[zo] at hlast;generalize (T.lst (fr.map λ(k:Nat)=>T.int (k:Int)))=f1,rT (yd F last fr)=r2,rT last=r1 at *;simp only[xF] at hlast;simp[-sX,hlast,hF,hc,ht]
    .refine⟨pre++[last]++[yd F last fr],?_,by rw[if_neg hf]⟩;have ht:sX (xu (x8 last (yd F last fr)))=some true:=by
      cases e:x8 last (yd F last fr) with
      | nil=>exact absurd e hf
      | cons a l=>rfl
     have e2:(pre++[last]++[yd F last fr]).map rT=(pre++[last]).map rT++[rT (yd F last fr)]:=by simp
     rw[e2];unfold uS;generalize og=cc,o5=ff,(pre++[last]).map rT=L1,xu (x8 last (yd F last fr))=f2 at *;unfold xu at *;simp only[zo] at hlast;generalize (T.lst (fr.map λ(k:Nat)=>T.int (k:Int)))=f1,rT (yd F last fr)=r2,rT last=r1 at *;simp only[xF] at hlast;simp[-sX,hlast,hF,hc,ht,hl2]
   obtain⟨told',hb1,hb2⟩:=hb;have key:∀ R,xJ [3,4] (xq (zf 2)) uS m [some (.im (zF F)),some (.own (.lst (told'.map rT))),some (.im (xu (x8 last (yd F last fr)))),some (.im (rT last)),some (.im (rT (yd F last fr)))]=R->xJ [3,4] (xq (zf 2)) uS (m+1) [some (.im (zF F)),some (.own (.lst ((pre++[last]).map rT))),some (.im (xu fr)),x3,x4]=R:=λ R e=>by
    rw[xJ];generalize DE:uS=bb at *;generalize Cg:xJ [3,4] (xq (zf 2)) bb m=lw at *;have hf:yI [3,4] [some (.im (zF F)),some (.own (.lst ((pre++[last]).map rT))),some (.im (xu fr)),x3,x4]=[some (.im (zF F)),some (.own (.lst ((pre++[last]).map rT))),some (.im (xu fr)),none,none]:=rfl;rw[hf];have ht:xq (zf 2) [some (.im (zF F)),some (.own (.lst ((pre++[last]).map rT))),some (.im (xu fr)),none,none]=some true:=by
     generalize xu fr=f1 at *;simp[-sX,Ai]
    rw[ht,Bn,if_pos rfl,hb1,Bn];exact e
   by_cases hf:x8 last (yd F last fr)=[]
   .rw[if_pos hf] at h hb2;cases h;subst hb2;rw[hf] at key;obtain⟨m,rfl⟩:∃ k,m=k+1:=⟨m-1,by lia⟩
    exact⟨_,key _ (Be m _ _ _)⟩
   .rw[if_neg hf] at h hb2;subst hb2;obtain⟨fr',e⟩:=cQ ok n (pre++[last]) (yd F last fr) (x8 last (yd F last fr)) res (s.next ok) h (by simp;lia) m (by lia) (some (.im (rT last))) (some (.im (rT (yd F last fr))));exact⟨fr',key _ e⟩
def OD {F:zu}(ok:F.Ok):∃ more,o4 [zF F]=some (.lst ((RN.start F::more).map rT))/\(∀ r∈RN.start F::more,r.length=F.os.length/\∀ b∈r,Gd F.A F.B b)/\more.length<=2000/\s_ F 2000 [] (RN.start F) (List.range F.os.length)=some (RN.start F::more):=by
 have hmu:=au (RN.start F);have Bz:(RN.start F).length=F.os.length:=by unfold RN.start;simp
 have n8:=ok.n8;have n1:=ok.n1;obtain⟨more,last',e1,e2,_,e4⟩:=cR ok 2000 [] (RN.start F) (List.range F.os.length) (St.start ok) (by lia);obtain⟨fr',e⟩:=cQ ok 2000 [] (RN.start F) (List.range F.os.length) _ (St.start ok) e1 (by simp) 1000000 (by decide) none none;refine⟨more,?_,e2,by lia,e1⟩;have hp:=YG F;have AO:rT (RN.start F)=.lst (List.replicate F.os.length (.tup [.tup [.int 0,.int 0]])):=by
  unfold rT RN.start;rw[List.map_replicate];rfl
 have hmul:ve (.lst [.tup [.tup [.int 0,.int 0]]]) (.int F.os.length)=some (rT (RN.start F)):=by
  rw[AO];unfold ve;dsimp only;rw[if_pos ⟨by simp,by lia,by lia,Rq (by simp;lia)⟩];have:∀ n:Nat,(List.replicate n [T.tup [.tup [.int 0,.int 0]]]).flatten=List.replicate n (.tup [.tup [.int 0,.int 0]]):=λ n=>by
   induction n with
   | zero=>rfl
   | succ n ih=>rw[BK,BK,Ca,ih];rfl
  rw[Co,this]
 have Bo:nQ [.int F.os.length]=some (xu (List.range F.os.length)):=by
  show (if 0<=(F.os.length:Int)/\(F.os.length:Int)<=16777216 then some (T.lst (rangeT 0 (F.os.length:Int).toNat)) else none)=_;rw[if_pos ⟨by lia,by lia⟩];show some (T.lst ((List.range (F.os.length:Int).toNat).map λ(k:Nat)=>T.int (0+(k:Int))))=_;rw[Co];unfold xu;simp
 unfold o4 dm qc;generalize uS=bb,qS=ff,nQ=lr at *;simp only[List.nil_append,Au,Bj] at e;generalize xu (List.range F.os.length)=f1 at *;rw[Au];generalize rT (RN.start F)=r0,zF F=fl at *;generalize Cg:xJ [3,4] (xq (zf 2)) bb 1000000=lw at *;generalize ve=mw at *;simp[hp,hmul,Bo,e]
def pG (i j:Int):ve (.int i) (.int j)=if vH i j then some (.int (i*j)) else none:=rfl
def Qd {r:List Int}{rs:List (List Int)}:wW ((r::rs).map zM)=none:=rfl
def Wk (rs:List (List Int)) (h0:rs≠[]) (hl:rs.length<64) (hn:∀ r∈rs,r≠[]):vu [.lst (rs.map zM)]=some (.lst ((L4.xO (wU rs)).map zM)):=by
 cases rs with
 | nil=>exact absurd rfl h0
 | cons r rs=>
  show (match wW ((r::rs).map zM) with
   | some ns=>if ns.length<64 then some (T.lst ((wK ns).map T.int)) else none
   | none=>lQ [T.lst ((r::rs).map zM)])=_
  rw[Qd];show (v_ ((r::rs).map zM)).bind _=_;rw[i8,Bn,if_pos ⟨hl,hn⟩]
def bK {f:T->T->Option T}{fa fb:Ev->Option T}{J:Ev}{x y:T}{r:Option T}(h1:fa J=some x) (h2:fb J=some y) (h:f x y=r):zb f fa fb J=r:=by
 show (fa J).bind _=r;rw[h1];show (fb J).bind _=r;rw[h2];exact h
def V0 (n:Nat) (h:n<=1000):xP (.int 10) (.int (n:Int))=some (.int (10 ^ n)):=by
 have hc:qb 10 (n:Int):=⟨by lia,by lia,by decide⟩
 show (if qb 10 (n:Int) then some (T.int (10 ^ (n:Int).toNat)) else none)=_;rw[if_pos hc,Co]
def nh (n:Nat) (h:n<=1000) (J:Ev):zb xP (cS (.int 10)) (cS (.int (n:Int))) J=some (.int (10 ^ n)):=bK rfl rfl (V0 n h)
def Wg (c:Int) (n:Nat) (hn:n<=100) (o6:Ev->Option T) (q6:Int) (h6:∀ J,o6 J=some (.int q6)) (g6:0<q6/\q6<2 ^ 200) (num0:Int):
  ∃ (v:Int) (xs:List Int),xQ [4] (zA 4) (zr (wc 2 (zb ye (zf 3) o6)) (zU 3 (zb wy (zf 3) o6))) ((List.range n).map λ(k:Nat)=>T.int (0+(k:Int))) [some (.im (.int c)),some (.im (.int n)),some (.own (.lst [])),some (.im (.int num0)),none]
   = some (.nx [some (.im (.int c)),some (.im (.int n)),some (.own (.lst (xs.map T.int))),some (.im (.int v)),none])/\xs.length=n:=by
 obtain⟨J',h1,v,xs,h2,h3⟩:=uL (is:=[4]) (g:=zA 4) (b:=(zr (wc 2 (zb ye (zf 3) o6)) (zU 3 (zb wy (zf 3) o6)))) (λ k:Nat=>T.int (0+(k:Int))) (λ p J=>∃ (v:Int) (xs:List Int),J=[some (.im (.int c)),some (.im (.int n)),some (.own (.lst (xs.map T.int))),some (.im (.int v)),none]/\xs.length=p.length)
   (List.range n) [some (.im (.int c)),some (.im (.int n)),some (.own (.lst [])),some (.im (.int num0)),none] ⟨num0,[],rfl,rfl⟩ (by
  rintro p k q e J ⟨v,xs,rfl,r1⟩;have hp:p.length<n:=by have:=congrArg List.length e;simp at this;lia
  have hl:(xs.map T.int).length<16777216:=by simp;lia
  have d6:uX v q6:=g6;have p6:=g6.1;refine⟨[some (.im (.int c)),some (.im (.int n)),some (.own (.lst ((xs++[v%q6]).map T.int))),some (.im (.int (v/q6))),some (.im (.int (0+(k:Int))))],?_,v/q6,xs++[v%q6],by simp,by simp[r1]⟩;have e2:(xs++[v%q6]).map T.int=xs.map T.int++[.int (v%q6)]:=by simp
  rw[e2];generalize xs.map T.int=L,(0+(k:Int))=kk at *;simp[turn,h6,hl,d6,p6])
 subst h2;exact⟨v,xs,h1,by simpa using h3⟩
def Wf (c:Int) (n:Nat) (hn:n<=100) (oM o22 o23 o9:Ev->Option T) (M q22 q23 q9:Int) (hM:∀ J,oM J=some (.int M)) (h22:∀ J,o22 J=some (.int q22)) (h23:∀ J,o23 J=some (.int q23)) (h9:∀ J,o9 J=some (.int q9))
  (gM:0<M/\M<2 ^ 180) (g22:0<q22/\q22<2 ^ 200) (g23:0<q23/\q23<2 ^ 200) (g9:0<q9/\q9<2 ^ 200) (num0:Int) (Ee:0<=num0/\num0<2 ^ 181):
  ∃ (v:Int) (xs:List Int),xQ [4] (zA 4) (zr (zU 3 (zb ye (zb yi (zb yi (zb vN (zf 3) (cS (.int 52027))) (zb wy (zf 3) o22)) (zb vN (cS (.int 13)) (zf 4))) oM)) (wc 2 (zb wy (zb vN (zf 3) (zb yi (zb wy (zf 3) o23) (cS (.int 7)))) o9))) ((List.range n).map λ(k:Nat)=>T.int (0+(k:Int))) [some (.im (.int c)),some (.im (.int n)),some (.own (.lst [])),some (.im (.int num0)),none]
   = some (.nx [some (.im (.int c)),some (.im (.int n)),some (.own (.lst (xs.map T.int))),some (.im (.int v)),none])/\xs.length=n:=by
 obtain⟨J',h1,v,xs,h2,h3,h4⟩:=uL (is:=[4]) (g:=zA 4) (b:=(zr (zU 3 (zb ye (zb yi (zb yi (zb vN (zf 3) (cS (.int 52027))) (zb wy (zf 3) o22)) (zb vN (cS (.int 13)) (zf 4))) oM)) (wc 2 (zb wy (zb vN (zf 3) (zb yi (zb wy (zf 3) o23) (cS (.int 7)))) o9)))) (λ k:Nat=>T.int (0+(k:Int)))
   (λ p J=>∃ (v:Int) (xs:List Int),J=[some (.im (.int c)),some (.im (.int n)),some (.own (.lst (xs.map T.int))),some (.im (.int v)),none]/\xs.length=p.length/\0<=v/\v<2 ^ 181)
   (List.range n) [some (.im (.int c)),some (.im (.int n)),some (.own (.lst [])),some (.im (.int num0)),none] ⟨num0,[],rfl,rfl,Ee⟩ (by
  rintro p k q e J ⟨v,xs,rfl,r1,r2,r3⟩;have hp:p.length<n:=by have:=congrArg List.length e;simp at this;lia
  have hk:k<n:=AH.mp (by rw[e];simp);have hl:(xs.map T.int).length<16777216:=by simp;lia
  generalize hu:(v*52027+v/q22+13*(0+(k:Int)))%M=u;have u0:0<=u:=by rw[<- hu];exact Bw _ (by lia)
  have u1:u<M:=by rw[<- hu];exact BB _ gM.1
  have d22:uX v q22:=g22;have m1:sS v 52027:=⟨by lia,by decide⟩
  have m2:sS 13 (0+(k:Int)):=⟨by decide,by lia⟩
  have pM:=gM.1;have d23:uX u q23:=g23;have w0:0<=u/q23:=Int.ediv_nonneg u0 (by lia);have w1:u/q23<=u:=Int.ediv_le_self _ u0;have m3:sS u (u/q23+7):=⟨by lia,by lia⟩
  have d9:uX (u*(u/q23+7)) q9:=g9;refine⟨[some (.im (.int c)),some (.im (.int n)),some (.own (.lst ((xs++[u*(u/q23+7)/q9]).map T.int))),some (.im (.int u)),some (.im (.int (0+(k:Int))))],?_,u,xs++[u*(u/q23+7)/q9],by simp,by simp[r1],u0,by lia⟩;have e2:(xs++[u*(u/q23+7)/q9]).map T.int=xs.map T.int++[.int (u*(u/q23+7)/q9)]:=by simp
  rw[e2];generalize xs.map T.int=L,(0+(k:Int))=kk at *;simp[turn,hM,h22,h23,h9,hl,d22,m1,m2,pM,hu,d23,m3,d9])
 subst h2;exact⟨v,xs,h1,by simpa using h3⟩
def O3 (i:Int):0<=(if i<0 then -i else i):=by split <;> lia
def YF (c:Int) (n:Nat) (hn:n<=100):∃ xs:List Int,sQ [.int c,.int n]=some (.lst (xs.map T.int))/\xs.length=n:=by
 obtain⟨q6,h6,g6⟩:∃ q:Int,(∀ J,zb xP (cS (.int 10)) (cS (.int 6)) J=some (.int q))/\0<q/\q<2 ^ 200:=⟨_,nh 6 (by decide),by decide +kernel⟩
 obtain⟨q9,h9,g9⟩:∃ q:Int,(∀ J,zb xP (cS (.int 10)) (cS (.int 9)) J=some (.int q))/\0<q/\q<2 ^ 200:=⟨_,nh 9 (by decide),by decide +kernel⟩
 obtain⟨q22,h22,g22⟩:∃ q:Int,(∀ J,zb xP (cS (.int 10)) (cS (.int 22)) J=some (.int q))/\0<q/\q<2 ^ 200:=⟨_,nh 22 (by decide),by decide +kernel⟩
 obtain⟨q23,h23,g23⟩:∃ q:Int,(∀ J,zb xP (cS (.int 10)) (cS (.int 23)) J=some (.int q))/\0<q/\q<2 ^ 200:=⟨_,nh 23 (by decide),by decide +kernel⟩
 obtain⟨M,hM,gM⟩:∃ q:Int,(∀ J,zb yi (zb xP (cS (.int 10)) (cS (.int 45))) (cS (.int 9)) J=some (.int q))/\0<q/\q<2 ^ 180:=⟨10 ^ 45+9,fun J=>bK (nh 45 (by decide) J) rfl rfl,by decide +kernel⟩
 have hr:=qh n (by lia);unfold sQ Xl Yt Ys;have a0:=O3 (c/2);generalize ha:(if c/2<0 then -(c/2) else c/2)=num at *;have hnm0:0<=num%M:=Bw _ (by lia);have hnm1:num%M<M:=BB _ gM.1;have pM:=gM.1;have d2:uX c 2:=⟨by decide,by decide⟩
 obtain⟨v1,xs1,e1,l1⟩:=Wg c n hn _ q6 h6 g6 num;obtain⟨v2,xs2,e2,l2⟩:=Wf c n hn _ _ _ _ M q22 q23 q9 hM h22 h23 h9 gM g22 g23 g9 (num%M+77003) ⟨by lia,by lia⟩;generalize zb yi (zb xP (cS (.int 10)) (cS (.int 45))) (cS (.int 9))=oM,zb xP (cS (.int 10)) (cS (.int 6))=o6,zb xP (cS (.int 10)) (cS (.int 9))=o9,zb xP (cS (.int 10)) (cS (.int 22))=o22,zb xP (cS (.int 10)) (cS (.int 23))=o23 at *;generalize hb1:(zr (wc 2 (zb ye (zf 3) o6)) (zU 3 (zb wy (zf 3) o6)))=b1 at *;generalize hb2:(zr (zU 3 (zb ye (zb yi (zb yi (zb vN (zf 3) (cS (.int 52027))) (zb wy (zf 3) o22)) (zb vN (cS (.int 13)) (zf 4))) oM)) (wc 2 (zb wy (zb vN (zf 3) (zb yi (zb wy (zf 3) o23) (cS (.int 7)))) o9)))=b2 at *;by_cases h:c%2=1
 .refine⟨xs1,?_,l1⟩;generalize xs1.map T.int=L1,(List.range n).map (λ(k:Nat)=>T.int (0+(k:Int)))=R at *;simp[d2,ha,h,hr,e1,eq_int]
 .refine⟨xs2,?_,l2⟩;generalize xs2.map T.int=L2',(List.range n).map (λ(k:Nat)=>T.int (0+(k:Int)))=R at *;simp[d2,ha,h,hr,hM,pM,e2,eq_int]
def YI (x:Int) (m:Nat) (h:m<=100):∃ y,oB [.int x,.int m]=some (.int y):=by
 have m1:vH 2 (m:Int):=.inl ⟨by decide,by decide⟩;have m2:(0:Int)<2*(m:Int)+1:=by lia
 have d:xE x 25:=⟨by decide,by decide⟩
 exact⟨_,by simp[oB,dE,pG,m1,m2,d];rfl⟩
def uD (many:Nat) (r:List Int):Prop:=∃ (f t:Nat) (a b:Int),r=[(f:Int),(t:Int),a,b]/\f<many/\t<many
def YE (place many:Nat) (num:Int) (sz:Nat) (hp:place<many) (hs:sz<=100):∃ r,(uD many r/\r.head?=some (place:Int))/\rZ [.int place,.int many,.int num,.int sz]=some (zM r):=by
 have d8:xE num 8:=⟨by decide,by decide⟩
 have d400:xE num 400:=⟨by decide,by decide⟩
 obtain⟨a,ha⟩:=YI (num/8%50) sz hs;obtain⟨b,hb⟩:=YI (num/400%50) sz hs;have BX:(0:Int)<many:=by lia
 have t0:0<=num%8%many:=Bw _ (by lia);have t1:num%8%many<many:=BB _ BX;have hm':0<many:=by lia
 refine⟨[(place:Int),((num%8%many).toNat:Int),a,b],⟨⟨place,(num%8%many).toNat,a,b,rfl,hp,by lia⟩,rfl⟩,?_⟩;rw[CN t0];have hr:zM [(place:Int),num%8%many,a,b]=.tup [.int place,.int (num%8%many),.int a,.int b]:=rfl;rw[hr];unfold rZ d5;generalize oB=fa at *;simp[d8,d400,ha,hb,hm']
def su {xs:List Int}{j:Nat}(h:j<xs.length):∃ v,L2.zN (xs.map T.int) (j:Int)=some (.int v):=⟨xs.getD j 0,ux (by simp[h])⟩
def RA (b:Bool):zS false (kt b) (.str "keeper")=some (.bl b):=by
 have h:(("taker":Str) == ("keeper":Str))=false:=by decide
 cases b
 .show zS false (.str "taker") (.str "keeper")=_;simp[zS,dep,eqT,h]
 .show zS false (.str "keeper") (.str "keeper")=_;simp[zS,dep,eqT]
def Yw (b:Sm) (n many pl:Nat) (E:List T->Option L5.W->Ev) (hE:∀ r x,yI [11] (E r x)=E r none) (hn:n<=100)
  (ht:∀ k<n,∀ rows:List T,rows.length<=1000->∃ r,(uD many r/\r.head?=some (pl:Int))/\turn (zA 11) b (.int (0+(k:Int))) (E rows none)=some (.nx (E (rows++[zM r]) (some (.im (.int (0+(k:Int))))))))
  (rows:List (List Int)) (hl:rows.length<=100) (hr:∀ r∈rows,uD many r):
  ∃ rows':List (List Int),xQ [11] (zA 11) b ((List.range n).map λ(k:Nat)=>T.int (0+(k:Int))) (E (rows.map zM) none)=some (.nx (E (rows'.map zM) none))/\rows'.length=rows.length+n/\(∀ r∈rows',uD many r)/\(∀ r∈rows,r∈rows')/\(0<n->∃ r∈rows',r.head?=some (pl:Int)):=by
 obtain⟨J',h1,rows',h2,h3,h4,h5,h6⟩:=uL (is:=[11]) (g:=zA 11) (b:=b) (λ k:Nat=>T.int (0+(k:Int))) (λ p J=>∃ rows':List (List Int),J=E (rows'.map zM) none/\rows'.length=rows.length+p.length/\(∀ r∈rows',uD many r)/\(∀ r∈rows,r∈rows')/\(0<p.length->∃ r∈rows',r.head?=some (pl:Int)))
   (List.range n) (E (rows.map zM) none) ⟨rows,hE _ _,rfl,hr,λ _ h=>h,λ h=>absurd h (by simp)⟩ (by
  rintro p k q e J ⟨rows',rfl,u1,u2,u3,u4⟩;have hp:p.length<n:=by have:=congrArg List.length e;simp at this;lia
  have hk:k<n:=AH.mp (by rw[e];simp);obtain⟨r,⟨v1,v3⟩,v2⟩:=ht k hk (rows'.map zM) (by simp;lia);refine⟨_,v2,rows'++[r],by rw[hE];simp,by simp only[Cc,List.length_singleton,u1];lia,λ r' hr'=>?_,λ r' h=>Cb _ (u3 r' h),λ _=>⟨r,by simp,v3⟩⟩;rcases AZ.mp hr' with h | h
  .exact u2 r' h
  .cases AJ.mp h;exact v1)
 subst h2;exact⟨rows',h1,by simpa using h3,h4,h5,λ h=>h6 (by simpa using h)⟩
def V2 (c mo br:T) (xs:List Int) (hx:xs.length=43) (many:Nat) (hm:many<=8) (os:List Bool) (rows:List (List Int)) (sts:List T) (k:Nat) (hk:k<many) (ho:os.length=k) (hrl:rows.length<=3*k) (hr:∀ r∈rows,uD many r) (hs:sts.length<=k):
  ∃ (b:Bool) (rows':List (List Int)) (sts':List T) (nu sz:Int),turn (zA 8) qH (.int (0+(k:Int))) [some (.im c),some (.im mo),some (.im br),some (.im (.lst (xs.map T.int))),some (.im (.int many)),some (.own (.lst (os.map kt))),some (.own (.lst (rows.map zM))),some (.own (.lst sts)),none,none,none,none,none]
   = some (.nx [some (.im c),some (.im mo),some (.im br),some (.im (.lst (xs.map T.int))),some (.im (.int many)),some (.own (.lst ((os++[b]).map kt))),some (.own (.lst (rows'.map zM))),some (.own (.lst sts')),some (.im (.int (0+(k:Int)))),some (.im (.int nu)),some (.im (.int sz)),none,none])
   /\ rows'.length<=3*(k+1)/\(∀ r∈rows',uD many r)/\(∀ r∈rows,r∈rows')/\(∃ r∈rows',r.head?=some (k:Int))/\sts'.length<=k+1:=by
 obtain⟨v,hv⟩:=su (xs:=xs) (j:=2+4*k) (by lia);have hv':L2.zN (xs.map T.int) (2+4*(k:Int))=some (.int v):=hv;obtain⟨b,hb⟩:∃ b:Bool,L2.zN [T.str "keeper",T.str "taker"] (v%2)=some (kt b):=by
  rcases Dh v with h | h <;> rw[h]
  .exact⟨true,rfl⟩
  .exact⟨false,rfl⟩
 obtain⟨sz,hsz,sz1⟩:∃ sz:Nat,L2.zN [T.int 2,T.int 3,T.int 3,T.int 12] (v/2%4)=some (.int (sz:Int))/\sz<=12:=by
  have h0:0<=v/2%4:=Bw _ (by decide);have h1:v/2%4<4:=BB _ (by decide);generalize v/2%4=z at *;obtain h | h | h | h:z=0\/z=1\/z=2\/z=3:=by lia
  all_goals subst h
  .exact⟨2,rfl,by decide⟩
  .exact⟨3,rfl,by decide⟩
  .exact⟨3,rfl,by decide⟩
  .exact⟨12,rfl,by decide⟩
 obtain⟨n1,hn1,n0,n3⟩:∃ n:Nat,1+v/8%3=(n:Int)/\0<n/\n<=3:=⟨(1+v/8%3).toNat,by lia,by lia,by lia⟩
 obtain⟨rows',g1,g2,g3,g4,g5⟩:=Yw mV n1 many k (λ rs x=>[some (.im c),some (.im mo),some (.im br),some (.im (.lst (xs.map T.int))),some (.im (.int many)),some (.own (.lst ((os++[b]).map kt))),some (.own (.lst rs)),some (.own (.lst sts)),some (.im (.int (k:Int))),some (.im (.int v)),some (.im (.int sz)),x,none]) (λ _ _=>rfl) (by lia)
  (λ k' hk' rs hrs=>by
   obtain⟨v2,hv2⟩:=su (xs:=xs) (j:=3+4*k+k') (by lia);have hv2':L2.zN (xs.map T.int) (3+4*(k:Int)+(0+(k':Int)))=some (.int v2):=by rw[<- hv2];congr 1;lia
   obtain⟨r,hr1,hr2⟩:=YE k many v2 sz hk (by lia);refine⟨r,hr1,?_⟩;have m1:vH 4 (k:Int):=.inl ⟨by decide,by decide⟩;have Cz:rs.length<16777216:=by lia
   unfold turn mV;generalize rZ=fw,xs.map T.int=XL,(os++[b]).map kt=OL,zM r=rr,(0+(k':Int))=kk at *;generalize hk4:(k:Int)=kI at *;simp[pG,m1,hv2',hr2,Cz])
  rows (by lia) hr
 have Bo:=qh n1 (by lia);have D_:(os.map kt).length<16777216:=by simp;lia
 have A9:L2.zN ((os++[b]).map kt) (k:Int)=some (kt b):=ux (by rw[Bk,Cu (by simp;lia)];simp[ho]);have AO:sts.length<16777216:=by lia
 have Em:=RA b;have m1:vH 4 (k:Int):=.inl ⟨by decide,by decide⟩;have d2:xE v 2:=⟨by decide,by decide⟩
 have d8:xE v 8:=⟨by decide,by decide⟩
 have d24:xE v 24:=⟨by decide,by decide⟩
 have d72:xE v 72:=⟨by decide,by decide⟩
 have d144:xE v 144:=⟨by decide,by decide⟩
 have d576:xE v 576:=⟨by decide,by decide⟩
 have fin:∀ sts':List T,(if b=true/\v/24%3=0 then sts++[.tup [.int k,.int (v/72%2),.int (1+v/144%4),.int (v/576%5)]] else sts)=sts'->turn (zA 8) qH (.int (0+(k:Int))) [some (.im c),some (.im mo),some (.im br),some (.im (.lst (xs.map T.int))),some (.im (.int many)),some (.own (.lst (os.map kt))),some (.own (.lst (rows.map zM))),some (.own (.lst sts)),none,none,none,none,none]
   = some (.nx [some (.im c),some (.im mo),some (.im br),some (.im (.lst (xs.map T.int))),some (.im (.int many)),some (.own (.lst ((os++[b]).map kt))),some (.own (.lst (rows'.map zM))),some (.own (.lst sts')),some (.im (.int (0+(k:Int)))),some (.im (.int v)),some (.im (.int sz)),none,none]):=λ sts' he=>by
  have e2:(os++[b]).map kt=os.map kt++[kt b]:=by simp
  unfold turn qH;rw[e2] at g1 A9 ⊢;simp only[Int.zero_add] at g1 Bo ⊢;generalize mV=bb,(List.range n1).map (λ(k:Nat)=>T.int (k:Int))=RR,rows'.map zM=L2',rows.map zM=L1',xs.map T.int=XL,os.map kt=OL,(T.str "taker")=s2 at *;generalize hs1:(T.str "keeper")=s1 at *;generalize kt b=kb at *;generalize hkI:(k:Int)=kI at *;generalize hee:zS=ee at *;have hee0:ee false (.int (v/24%3)) (.int 0)=some (.bl (decide (v/24%3=0))):=by rw[<- hee];exact eq_int _ _ _
  by_cases hb1:b=true
  .subst hb1;by_cases hz:v/24%3=0
   .rw[if_pos ⟨rfl,hz⟩] at he;subst he;rw[hz] at hee0;simp[pG,m1,hv',hb,D_,d2,hsz,d8,hn1,Bo,g1,A9,Em,d24,hee0,hz,AO,d72,d144,d576]
   .rw[if_neg (λ h=>hz h.2)] at he;subst he;simp[pG,m1,hv',hb,D_,d2,hsz,d8,hn1,Bo,g1,A9,Em,d24,hee0,hz]
  .have hb2:b=false:=by simpa using hb1
   subst hb2;rw[if_neg (λ h=>hb1 h.1)] at he;subst he;simp[pG,m1,hv',hb,D_,d2,hsz,d8,hn1,Bo,g1,A9,Em]
 refine⟨b,rows',_,v,sz,fin _ rfl,by lia,g3,g4,g5 n0,?_⟩;split
 .simp;lia
 .omega
noncomputable def sT (w:Wy):List Int:=[(w.f:Int),(w.t:Int),w.a,w.b]
def dW {w v:Wy}(h:sT w=sT v):w=v:=by
 obtain⟨f,t,a,b⟩:=w;obtain⟨f',t',a',b'⟩:=v;simp only[sT,List.cons.injEq,and_true] at h;obtain⟨h1,h2,rfl,rfl⟩:=h;have e1:f=f':=by lia
 have e2:t=t':=by lia
 subst e1 e2;rfl
theorem cP {many:Nat}:∀ l:List (List Int),(∀ r∈l,uD many r)->∃ ws:List Wy,l=ws.map sT/\∀ w∈ws,w.f<many/\w.t<many
 | [],_=>⟨[],rfl,nofun⟩
 | r::l,h=>by
  obtain⟨ws,e1,e2⟩:=cP l λ x hx=>h x (Ar _ hx);obtain⟨f,t,a,b,rfl,hf,ht⟩:=h r Am;refine⟨⟨f,t,a,b⟩::ws,by rw[e1];rfl,λ w hw=>?_⟩;rcases Ah.mp hw with x | x
  .subst x;exact⟨hf,ht⟩
  .exact e2 w x
def jO {many:Nat}(rs:List (List Int)) (h0:rs≠[]) (hl:rs.length<64) (hw:∀ r∈rs,uD many r):
  ∃ ws:List Wy,vu [.lst (rs.map zM)]=some (.lst (ws.map zR))/\ws.length<=rs.length/\(∀ w∈ws,w.f<many/\w.t<many)/\∀ w:Wy,w∈ws↔sT w∈rs:=by
 have hn:∀ r∈rs,r≠[]:=λ r hr=>by obtain⟨f,t,a,b,rfl,_⟩:=hw r hr;simp
 have hm:∀ r,r∈L4.xO (wU rs)↔r∈rs:=λ r=>by rw[(L4.t_ _).mem_iff,nM]
 obtain⟨ws,e1,e2⟩:=cP (many:=many) (L4.xO (wU rs)) λ r hr=>hw r ((hm r).mp hr);refine⟨ws,?_,?_,e2,λ w=>?_⟩
 .rw[Wk rs h0 hl hn,e1,AG];rfl
 .have:=congrArg List.length e1;rw[(L4.t_ _).length_eq,Ay] at this;have:=gm rs;lia
 .rw[<- hm,e1];constructor
  .exact λ h=>Al.mpr ⟨w,h,rfl⟩
  .intro h;obtain⟨v,hv,e⟩:=Al.mp h;rw[<- dW e];exact hv
def Wl {many:Nat}(ws:List Wy) (φ:Wy->Wy) (h0:ws≠[]) (hl:ws.length<64) (hb:∀ w∈ws,w.f<many/\w.t<many) (hφ:∀ w,(φ w).f=w.f/\(φ w).t=w.t):
  ∃ ws':List Wy,vu [.lst (ws.map λ w=>zR (φ w))]=some (.lst (ws'.map zR))/\ws'.length<=ws.length/\(∀ w∈ws',w.f<many/\w.t<many)/\∀ w:Wy,w∈ws'↔∃ v∈ws,φ v=w:=by
 obtain⟨ws',e1,e2,e3,e4⟩:=jO (many:=many) (ws.map λ w=>sT (φ w)) (by simpa using h0) (by simpa using hl) λ r hr=>by
  obtain⟨w,hw,rfl⟩:=Al.mp hr;have:=hb w hw;have:=hφ w;exact⟨(φ w).f,(φ w).t,(φ w).a,(φ w).b,rfl,by lia,by lia⟩
 refine⟨ws',?_,by simpa using e2,e3,λ w=>?_⟩
 .rw[<- e1,AG];rfl
 .rw[e4];constructor
  .intro h;obtain⟨v,hv,e⟩:=Al.mp h;exact⟨v,hv,dW e⟩
  .rintro⟨v,hv,rfl⟩;exact Al.mpr ⟨v,hv,rfl⟩
structure vF (F:zu):Prop where
 ok:F.Ok
 ss:F.ss=[]
 way:∀ x<F.os.length,∃ w∈F.ws,w.f=x
def vF.ne {F:zu}(h:vF F):F.ws≠[]:=λ e=>by
 obtain⟨w,hw,_⟩:=h.way 0 h.ok.n1;rw[e] at hw;cases hw
def OM (c:Int) (most zB:Nat) (h1:1<=most) (h8:most<=8) (hb:zB<=12):
  ∃ (F:zu) (st:T),oA [.int c,.int most,.int zB]=some (.tup [.tup [.int F.A,.int F.B],.tup (F.os.map kt),.tup (F.ws.map zR),st])/\vF F:=by
 obtain⟨xs,DW,hx⟩:=YF c 43 (by decide);have BS:sQ [.int c,.int 43]=some (.lst (xs.map T.int)):=DW;obtain⟨v0,hv0⟩:=su (xs:=xs) (j:=0) (by lia);obtain⟨v1,hv1⟩:=su (xs:=xs) (j:=1) (by lia);have hv0':L2.zN (xs.map T.int) 0=some (.int v0):=hv0;have hv1':L2.zN (xs.map T.int) 1=some (.int v1):=hv1;have Eg:(0:Int)<most:=by lia
 have hmoN:0<most:=h1;obtain⟨many,hmany,m1,m8⟩:∃ n:Nat,1+v0%most=(n:Int)/\1<=n/\n<=8:=by
  have:=Bw v0 (b:=(most:Int)) (by lia);have:=BB v0 Eg;exact⟨(1+v0%most).toNat,by lia,by lia,by lia⟩
 obtain⟨J',g1,os,rows,sts,g2,g3,g4,g5,g6,g7⟩:=uL (is:=[8,9,10,11]) (g:=zA 8) (b:=qH) (λ k:Nat=>T.int (0+(k:Int)))
   (λ p J=>∃ (os:List Bool) (rows:List (List Int)) (sts:List T),J=[some (.im (.int c)),some (.im (.int most)),some (.im (.int zB)),some (.im (.lst (xs.map T.int))),some (.im (.int many)),some (.own (.lst (os.map kt))),some (.own (.lst (rows.map zM))),some (.own (.lst sts)),none,none,none,none,none]
    /\ os.length=p.length/\rows.length<=3*p.length/\(∀ r∈rows,uD many r)/\(∀ x∈p,∃ r∈rows,r.head?=some (x:Int))/\sts.length<=p.length)
   (List.range many) [some (.im (.int c)),some (.im (.int most)),some (.im (.int zB)),some (.im (.lst (xs.map T.int))),some (.im (.int many)),some (.own (.lst [])),some (.own (.lst [])),some (.own (.lst [])),none,none,none,none,none] ⟨[],[],[],rfl,rfl,by simp,nofun,nofun,by simp⟩ (by
  rintro p k q e J ⟨os,rows,sts,rfl,r1,r2,r3,r4,r5⟩;have hk:k<many:=AH.mp (by rw[e];simp);have hpk:p.length=k:=by
   have h2:=congrArg (λ l=>l[p.length]?) e;simp only[Cu (Ag _),Nat.sub_self,List.getElem?_cons_zero] at h2;obtain⟨h3,h4⟩:=AK.mp h2;simpa using h4
  obtain⟨b,rows',sts',nu,sz,t1,t2,t3,t4,t5,t6⟩:=V2 (.int c) (.int most) (.int zB) xs hx many m8 os rows sts k hk (by lia) (by lia) r3 (by lia);refine⟨_,t1,os++[b],rows',sts',rfl,by simp[r1],by simp;lia,t3,λ x hx=>?_,by simp;lia⟩;rcases AZ.mp hx with h | h
  .obtain⟨r,y1,y2⟩:=r4 x h;exact⟨r,t4 r y1,y2⟩
  .cases AJ.mp h;exact t5)
 subst g2;rw[BP] at g3 g4 g7;obtain⟨n9,hn9,n9'⟩:∃ n:Nat,(if 24-(rows.length:Int)<9 then 24-(rows.length:Int) else 9)=(n:Int)/\n<=9:=by
  split
  .exact⟨24-rows.length,by lia,by lia⟩
  .exact⟨9,rfl,by lia⟩
 obtain⟨pl,Aq,pl1⟩:∃ n:Nat,v0/64%8%many=(n:Int)/\n<many:=by
  have:=Bw (v0/64%8) (b:=(many:Int)) (by lia);have:=BB (v0/64%8) (b:=(many:Int)) (by lia);exact⟨(v0/64%8%many).toNat,by lia,by lia⟩
 have d64:xE v0 64:=⟨by decide,by decide⟩
 have BX:0<many:=m1;obtain⟨rows2,k1,k2,k3,k4,_⟩:=Yw mR n9 many pl (λ rs x=>[some (.im (.int c)),some (.im (.int most)),some (.im (.int zB)),some (.im (.lst (xs.map T.int))),some (.im (.int many)),some (.own (.lst (os.map kt))),some (.own (.lst rs)),some (.own (.lst sts)),none,none,none,x,none]) (λ _ _=>rfl) (by lia)
  (λ k' hk' rs hrs=>by
   obtain⟨v2,hv2⟩:=su (xs:=xs) (j:=34+k') (by lia);have hv2':L2.zN (xs.map T.int) (34+(0+(k':Int)))=some (.int v2):=by rw[<- hv2];congr 1;lia
   obtain⟨r,hr1,hr2⟩:=YE pl many v2 3 pl1 (by lia);have hr2':rZ [.int pl,.int many,.int v2,.int 3]=some (zM r):=hr2;refine⟨r,hr1,?_⟩;have Cz:rs.length<16777216:=by lia
   unfold turn mR;generalize rZ=fw,xs.map T.int=XL,os.map kt=OL,zM r=rr,(0+(k':Int))=kk at *;simp[hv0',d64,BX,Aq,hv2',hr2',Cz])
  rows (by lia) g5
 have fin:∃ rows3:List (List Int),(if v0/8%8=1 then rows2 else rows)=rows3/\rows3≠[]/\rows3.length<=60/\(∀ r∈rows3,uD many r)/\∀ x<many,∃ r∈rows3,r.head?=some (x:Int):=by
  refine⟨_,rfl,?_⟩;have hx:∀ x<many,∃ r∈rows,r.head?=some (x:Int):=λ x hx=>g6 x (AH.mpr hx);have hx2:∀ x<many,∃ r∈rows2,r.head?=some (x:Int):=λ x hh=>by
   obtain⟨r,y1,y2⟩:=hx x hh;exact⟨r,k4 r y1,y2⟩
  split
  .refine⟨λ e=>?_,by lia,k3,hx2⟩;obtain⟨r,y,_⟩:=hx2 0 BX;rw[e] at y;cases y
  .refine⟨λ e=>?_,by lia,g5,hx⟩;obtain⟨r,y,_⟩:=hx 0 BX;rw[e] at y;cases y
 obtain⟨rows3,e3,r0,r1,r2,r3⟩:=fin;obtain⟨ws,w1,w2,w3,w4⟩:=jO rows3 r0 (by lia) r2;have CH:(0:Int)<(zB:Int)+1:=by lia
 have A0:=Bw v1 (b:=(zB:Int)+1) (by lia);have A1:=BB v1 CH;have B0:=Bw (v1/13) (b:=(zB:Int)+1) (by lia);have B1:=BB (v1/13) CH;refine⟨⟨v1%((zB:Int)+1),v1/13%((zB:Int)+1),os,ws,[]⟩,.tup sts,?_,⟨⟨A0,by dsimp only;lia,B0,by dsimp only;lia,by dsimp only;lia,by dsimp only;lia,λ w hw=>by dsimp only;rw[g3];exact w3 w hw,by dsimp only;lia,nofun,.inl rfl,by simp⟩,rfl,λ x hx=>?_⟩⟩
 .have Bo:=qh many (by lia);have hrg9:=qh n9 (by lia);have d8:xE v0 8:=⟨by decide,by decide⟩
  have d13:xE v1 13:=⟨by decide,by decide⟩
  have hlen:xi [.lst (rows.map zM)]=some (.int rows.length):=by simp
  have C6:(os.map kt).length<=16777216:=by simp;lia
  have hls:sts.length<=16777216:=by lia
  have Cg:(ws.map zR).length<=16777216:=by simp;lia
  have hq:=eq_int (v0/8%8) 1 false;unfold oA dB;dsimp only;generalize qH=bb2,mR=bb3,sQ=fs,xs.map T.int=XL,(List.range many).map (λ(k:Nat)=>T.int (0+(k:Int)))=R1,(List.range n9).map (λ(k:Nat)=>T.int (0+(k:Int)))=R9,os.map kt=OL at *;by_cases h:v0/8%8=1
  .rw[if_pos h] at e3;subst e3;rw[h] at hq;generalize ws.map zR=WL at *;generalize hrr:rows.map zM=RR at *;generalize rows2.map zM=RR2 at *;have BQ:RR.length=rows.length:=by rw[<- hrr,Ay]
   generalize zS=ee,vu=sv at *;simp[BS,hv0',Eg,hmoN,hmany,Bo,g1,d8,hq,h,BQ,hn9,hrg9,k1,hv1',CH,d13,w1,C6,hls,Cg]
  .rw[if_neg h] at e3;subst e3;generalize ws.map zR=WL,rows.map zM=RR,zS=ee,vu=sv at *;simp[BS,hv0',Eg,hmoN,hmany,Bo,g1,d8,hq,h,hv1',CH,d13,w1,C6,hls,Cg]
 .dsimp only at hx;rw[g3] at hx;obtain⟨r,y1,y2⟩:=r3 x hx;obtain⟨f,t,a,b,rfl,hf,ht⟩:=r2 r y1;refine⟨⟨f,t,a,b⟩,(w4 _).mpr y1,?_⟩;have:(f:Int)=(x:Int):=by simpa using y2
  dsimp only;lia
noncomputable def zV (F:zu) (st:T):T:=.tup [.tup [.int F.A,.int F.B],.tup (F.os.map kt),.tup (F.ws.map zR),st]
def OZ {F:zu}{pre:List (List Bd)}{lst:List Bd}(hr:o4 [zF F]=some (.lst ((pre++[lst]).map rT))):oE [zF F]=some (rT lst):=by
 have A9:L2.zN ((pre++[lst]).map rT) (-1)=some (rT lst):=by
  rw[Bk];exact fT
 unfold oE dN;generalize (pre++[lst]).map rT=L,o4=f1,zF F=fl at *;simp[hr,A9]
def O_ {F:zu}(h:vF F):∃ m,oE [zF F]=some (rT (y9 F m))/\y9 F (m+1)=y9 F m/\m<=2000:=by
 have ok:=h.ok;obtain⟨more,hr,hn,hm,hR⟩:=OD ok;have n1:=ok.n1;have Ai:List.range F.os.length≠[]:=λ h=>by
  have h2:=congrArg List.length h;rw[BP] at h2;rw[h2] at n1;exact absurd n1 (by decide)
 obtain⟨m,e,AO⟩:=cT ok h.way 2000 [] 0 (List.range F.os.length) _ (St.start ok) Ai rfl hR;have e':RN.start F::more=(List.range m).map (y9 F)++[y9 F m]:=by rw[e,List.range_succ,Bk];rfl
 have hl:=congrArg List.length e;rw[e'] at hr;refine⟨m,OZ hr,AO,?_⟩;simp at hl;lia
def OA (pu:Bool) (w:Wy):o3 [zR w,.int (yr pu)]=some (zR (wI pu w)):=by
 cases pu
 .simp[o3,j0,zR,wI,yr,eq_int]
 .simp[o3,j0,zR,wI,yr,eq_int]
def OO {F:zu}(h:vF F) (st:T) (pu:Bool):∃ G:zu,l6 [zV F st,.int (yr pu)]=some (zF G)/\vF G/\j5 pu F G:=by
 have ok:=h.ok;have uZ:=ok.uZ;obtain⟨ws',e1,e2,e3,e4⟩:=Wl (many:=F.os.length) F.ws (wI pu) h.ne (by lia) ok.ws (oq pu);refine⟨⟨F.A,F.B,F.os,ws',[]⟩,?_,⟨⟨ok.a0,ok.a1,ok.b0,ok.b1,ok.n1,ok.n8,e3,by dsimp only;lia,nofun,.inl rfl,by simp⟩,rfl,λ x hx=>?_⟩,⟨rfl,rfl,rfl,h.ss,rfl,λ w hw=>(e4 _).mpr ⟨w,hw,rfl⟩,λ v hv=>by
  obtain⟨w,hw,rfl⟩:=(e4 v).mp hv;exact⟨w,hw,rfl⟩⟩⟩
 .have hc:mN [some (.im (zV F st)),some (.im (.int (yr pu))),none]=some (.lst (F.ws.map λ w=>zR (wI pu w))):=by
   unfold mN;refine tF zR (λ w=>zR (wI pu w)) F.ws (by simp[zV]) (by lia) λ w _=>?_;have:=OA pu w;generalize o3=fw,zV F st=fl at *;simp[vg,this]
  have i0:zo (zV F st) (.int 0)=some (.tup [.int F.A,.int F.B]):=rfl;have i1:zo (zV F st) (.int 1)=some (.tup (F.os.map kt)):=rfl;have Cg:(ws'.map zR).length<=16777216:=by simp;lia
  unfold l6 dH;rw[show zF ⟨F.A,F.B,F.os,ws',[]⟩=.tup [.tup [.int F.A,.int F.B],.tup (F.os.map kt),.tup (ws'.map zR),.tup []] from rfl];generalize mN=cc,ws'.map zR=WL,(F.ws.map λ w=>zR (wI pu w))=SL,F.os.map kt=OL,zV F st=fl,zo=ix,vu=sv at *;simp[i0,i1,hc,e1,Cg]
 .obtain⟨w,hw,hf⟩:=h.way x hx;exact⟨wI pu w,(e4 _).mpr ⟨w,hw,rfl⟩,by rw[(oq pu w).1];exact hf⟩
noncomputable def nT:Option Int->T
 | none=>.zi
 | some x=>.int x
def Na {F:zu}(h:vF F) (st:T) (pu:Bool):∃ m,oH [zV F st,.int (yr pu)]=some (.tup ((zX F pu m).map nT))/\zX F pu (m+1)=zX F pu m/\m<=2000:=by
 obtain⟨G,g1,g2,g3⟩:=OO h st pu;obtain⟨m,b1,b2,b3⟩:=O_ g2;have Ez:=Ox g3 h.ok.a0 h.ok.b0 h.way;refine⟨m,?_,by rw[<- Ez,<- Ez,b2],b3⟩;have e:(zX F pu m).map nT=(y9 G m).map λ b=>nT (sG pu b):=by rw[<- Ez,AG];rfl
 rw[e];have hlen:(y9 G m).length<=16777216:=by rw[nV];have:=g2.ok.n8;lia
 have hc:mP [some (.im (zV F st)),some (.im (.int (yr pu)))]=some (.lst ((y9 G m).map λ b=>nT (sG pu b))):=by
  unfold mP;refine tF bT (λ b=>nT (sG pu b)) (y9 G m) ?_ hlen λ b _=>?_
  .generalize oE=fb,l6=ff,zV F st=fl,zF G=gl at *;simp[g1,b1,rT]
  .cases b with
   | nil=>
    generalize zV F st=fl at *;simp[vg,bT,nT,sG]
   | cons p b=>
    generalize zV F st=fl at *;cases pu <;> simp[vg,bT,nT,sG,zt,yr,xy]
 have Cd:qT [.int (yr pu),.int 0,.int 1]=some (.bl true):=by rw[YD];cases pu <;> rfl
 have hl2:((y9 G m).map λ b=>nT (sG pu b)).length<=16777216:=by simpa using hlen
 unfold oH dU;generalize mP=cc,qT=fi,((y9 G m).map λ b=>nT (sG pu b))=AL,zV F st=fl at *;simp[Cd,hc,hl2]
def R8 (b:Bool):zS false (kt b) (.str "taker")=some (.bl (!b)):=by
 have h:(("keeper":Str) == ("taker":Str))=false:=by decide
 cases b
 .show zS false (.str "taker") (.str "taker")=_;simp[zS,dep,eqT]
 .show zS false (.str "keeper") (.str "taker")=_;simp[zS,dep,eqT,h]
def RP (ns:List (Option Int)) (k:Nat) (h:k<ns.length):zo (.lst (ns.map nT)) (.int k)=some (nT (ns.getD k none)):=by
 show L2.zN (ns.map nT) (k:Int)=_;exact ux (by rw[Az,AW,AX h];rfl)
def UB (pu:Bool) (w:Wy):zo (.tup [.int w.a,.int w.b]) (.int (yr pu))=some (.int (wQ pu w)):=by cases pu <;> rfl
def Rh (x:Int):tD [.int 0,.int x]=some (.int (yt x)):=rfl
def Va (F:zu) (fl:T) (pu:Bool) (p:Nat) (ns:List (Option Int)) (w:Wy) (hw:w.t<ns.length) (ks:List T) (hk:ks.length<=1000) (x:Option L5.W):
  ∃ x',turn (wL 4 (y6 (zA 6) (y6 (zA 7) (y6 (zA 8) (y6 (zA 9) vz))))) rV (zR w) [some (.im fl),some (.im (.int (yr pu))),some (.im (.int p)),some (.im (.lst (ns.map nT))),some (.im (.int (F.zB pu))),some (.own (.lst ks)),none,none,none,none,x,none]
   = some (.nx [some (.im fl),some (.im (.int (yr pu))),some (.im (.int p)),some (.im (.lst (ns.map nT))),some (.im (.int (F.zB pu))),some (.own (.lst (if decide (w.f=p)=true then ks++[nT (wH F pu (ns.getD w.t none) w)] else ks))),some (.im (.int w.f)),some (.im (.int w.t)),some (.im (.int w.a)),some (.im (.int w.b)),x',none]):=by
 have A9:=RP ns w.t hw;have how:=UB pu w;have hk':ks.length<16777216:=by lia
 have q:=eq_int (w.f:Int) (p:Int) false;by_cases hf:w.f=p
 .subst hf;rw[if_pos (by simp)];cases ho:ns.getD w.t none with
  | none=>
   rw[ho] at A9;have BZ:zo (.lst (ns.map nT)) (.int w.t)=some .zi:=A9;have is0:xS true .zi .zi=some (.bl false):=rfl;refine⟨some (.im .zi),?_⟩;rw[show nT (wH F pu none w)=.zi from rfl];unfold turn rV zR;generalize ns.map nT=NL,zS=ee,xS=is',zo=ix at *;simp[q,BZ,is0,hk']
  | some x0=>
   rw[ho] at A9;have BZ:zo (.lst (ns.map nT)) (.int w.t)=some (.int x0):=A9;have is1:xS true (.int x0) .zi=some (.bl true):=rfl;have mx:=Rh (x0-wQ pu w);rw[show wH F pu (some x0) w=if x0-wQ pu w<=F.zB pu then some (yt (x0-wQ pu w)) else none from rfl];by_cases hc:x0-wQ pu w<=F.zB pu
   .refine⟨some (.im (.int (yt (x0-wQ pu w)))),?_⟩;rw[if_pos hc,show nT (some (yt (x0-wQ pu w)))=.int (yt (x0-wQ pu w)) from rfl];unfold turn rV zR;generalize wQ pu w=oc at *;generalize yt (x0-oc)=mm at *;generalize F.zB pu=br,ns.map nT=NL,zS=ee,xS=is',zo=ix,tD=ms at *;simp[q,BZ,is1,how,hc,mx,hk']
   .refine⟨some (.im .zi),?_⟩;rw[if_neg hc,show nT none=.zi from rfl];unfold turn rV zR;generalize wQ pu w=oc,F.zB pu=br,ns.map nT=NL,zS=ee,xS=is',zo=ix,tD=ms at *;simp[q,BZ,is1,how,hc,hk']
 .have hf':¬ ((w.f:Int)=(p:Int)):=by lia
  rw[if_neg (by simpa using hf)];refine⟨x,?_⟩;unfold turn rV zR;generalize ns.map nT=NL,zS=ee at *;simp[q,hf']
def RB (F:zu) (pu:Bool) (ns:List (Option Int)) (p:Nat) (ws:List Wy) (w:Wy):
  (((ws++[w]).filter λ w=>decide (w.f=p)).map λ w=>nT (wH F pu (ns.getD w.t none) w))=if decide (w.f=p)=true then (ws.filter λ w=>decide (w.f=p)).map (λ w=>nT (wH F pu (ns.getD w.t none) w))++[nT (wH F pu (ns.getD w.t none) w)] else (ws.filter λ w=>decide (w.f=p)).map λ w=>nT (wH F pu (ns.getD w.t none) w):=by
 rw[List.filter_append,Bk];by_cases h:decide (w.f=p)=true
 .rw[if_pos h,List.filter_cons_of_pos (by simpa using h)];rfl
 .rw[if_neg h,List.filter_cons_of_neg (by simpa using h)];simp
def OH {F:zu}(h:vF F) (st:T) (pu:Bool) (ns:List (Option Int)) (hn:ns.length=F.os.length) (p:Nat) (hp:p<F.os.length):
  l5 [zV F st,.int (yr pu),.int p,.lst (ns.map nT)]=some (nT (t9 F pu ns p)):=by
 have ok:=h.ok;have uZ:=ok.uZ;obtain⟨J',g1,x,g2⟩:=uL (is:=[6,7,8,9]) (g:=wL 4 (y6 (zA 6) (y6 (zA 7) (y6 (zA 8) (y6 (zA 9) vz))))) (b:=rV) zR
   (λ ws J=>∃ x,J=[some (.im (zV F st)),some (.im (.int (yr pu))),some (.im (.int p)),some (.im (.lst (ns.map nT))),some (.im (.int (F.zB pu))),some (.own (.lst ((ws.filter λ w=>decide (w.f=p)).map λ w=>nT (wH F pu (ns.getD w.t none) w)))),none,none,none,none,x,none])
   F.ws [some (.im (zV F st)),some (.im (.int (yr pu))),some (.im (.int p)),some (.im (.lst (ns.map nT))),some (.im (.int (F.zB pu))),some (.own (.lst [])),none,none,none,none,none,none] ⟨none,rfl⟩ (by
  rintro ws w q e J ⟨x,rfl⟩;have hw:=ok.ws w (by rw[e];simp);have hl:ws.length<=F.ws.length:=by rw[e];simp
  have hl2:=CI (λ w:Wy=>decide (w.f=p)) ws;obtain⟨x',hx'⟩:=Va F (zV F st) pu p ns w (by lia) ((ws.filter λ w=>decide (w.f=p)).map λ w=>nT (wH F pu (ns.getD w.t none) w)) (by simp only[Ay];lia) x;refine⟨_,hx',x',?_⟩;rw[RB];rfl)
 subst g2;have ek:((F.ws.filter λ w=>decide (w.f=p)).map λ w=>nT (wH F pu (ns.getD w.t none) w))=(yf F pu ns p).map nT:=by unfold yf;rw[AG];rfl
 rw[ek] at g1;have hkl:(yf F pu ns p).length<=60:=by
  unfold yf;rw[Ay];exact Bl (CI _ _) uZ
 have El:yf F pu ns p≠[]:=λ e=>by
  obtain⟨w,hw1,hw2⟩:=h.way p hp;have:wH F pu (ns.getD w.t none) w∈yf F pu ns p:=Al.mpr ⟨w,AU.mpr ⟨hw1,by simpa using hw2⟩,rfl⟩;rw[e] at this;cases this
 have hc:∀ x,jb [some (.im (zV F st)),some (.im (.int (yr pu))),some (.im (.int p)),some (.im (.lst (ns.map nT))),some (.im (.int (F.zB pu))),some (.own (.lst ((yf F pu ns p).map nT))),none,none,none,none,x,none]=some (.lst (((yf F pu ns p).filterMap id).map T.int)):=λ x=>by
  have e2:((yf F pu ns p).filterMap id).map T.int=(yf F pu ns p).filterMap λ o=>o.map T.int:=by rw[DI];rfl
  rw[e2];unfold jb;refine nS nT (λ o=>o.map T.int) (yf F pu ns p) ?_ (by lia) λ o _=>?_
  .generalize zV F st=fl,(yf F pu ns p).map nT=KL at *;simp
  .generalize zV F st=fl,ns.map nT=NL at *;cases o with
   | none=>simp[vg,nT,xS,isNone]
   | some y=>simp[vg,nT,xS,isNone]
 have Ek:zo (.tup (F.os.map kt)) (.int p)=some (kt (F.os.getD p false)):=by
  show L2.zN (F.os.map kt) (p:Int)=_;exact ux (by rw[Az,AW,AX hp];rfl)
 have Ej:=R8 (F.os.getD p false);have i0:zo (zV F st) (.int 0)=some (.tup [.int F.A,.int F.B]):=rfl;have i1:zo (zV F st) (.int 1)=some (.tup (F.os.map kt)):=rfl;have i2:zo (zV F st) (.int 2)=some (.tup (F.ws.map zR)):=rfl;have ib:zo (.tup [.int F.A,.int F.B]) (.int (yr pu))=some (.int (F.zB pu)):=by cases pu <;> rfl
 have l1:xi [.lst (((yf F pu ns p).filterMap id).map T.int)]=some (.int ((yf F pu ns p).filterMap id).length):=by simp
 have l2:xi [.lst ((yf F pu ns p).map nT)]=some (.int (yf F pu ns p).length):=by simp
 have lt:uh (.int ((yf F pu ns p).filterMap id).length) (.int (yf F pu ns p).length)=some (.bl (decide (((yf F pu ns p).filterMap id).length<(yf F pu ns p).length))):=by simp[uh]
 have mx:¬ ((yf F pu ns p).filterMap id).length<(yf F pu ns p).length->nN [.lst (((yf F pu ns p).filterMap id).map T.int)]=some (nT (tE ((yf F pu ns p).filterMap id))):=λ hc=>by
  show (wW (((yf F pu ns p).filterMap id).map T.int)).bind _=_;rw[kF,Bn];cases e:tE ((yf F pu ns p).filterMap id) with
  | some m=>rfl
  | none=>
   have e0:=gy e;rw[e0] at hc;exact absurd (List.length_pos_iff.mpr El) hc
 have mn:nL [.lst (((yf F pu ns p).filterMap id).map T.int)]=some (nT (uK ((yf F pu ns p).filterMap id))):=by
  show (wW (((yf F pu ns p).filterMap id).map T.int)).map _=_;rw[kF,Option.map_some];cases e:uK ((yf F pu ns p).filterMap id) <;> rfl
 unfold l5 Xn t9;generalize rV=bb,jb=cc,F.os.getD p false=b at *;generalize hkn:(T.lst (((yf F pu ns p).filterMap id).map T.int))=KN at *;generalize ((yf F pu ns p).filterMap id)=kn,(yf F pu ns p).map nT=KS,(yf F pu ns p).length=kl,ns.map nT=NL,F.ws.map zR=WL,(T.tup (F.os.map kt))=OT,(T.tup [.int F.A,.int F.B])=BT,zV F st=fl,kt b=kb,F.zB pu=br,zo=ix,zS=ee,xi=ll,uh=tt,nN=ml,nL=md at *;cases b with
 | true=>
  simp[i0,i1,i2,ib,g1,hc,Ek,Ej,mn]
 | false=>
  by_cases An:kn.length<kl
  .simp[i0,i1,i2,ib,g1,hc,Ek,Ej,l1,l2,lt,An,nT]
  .have mx':=mx An;simp[i0,i1,i2,ib,g1,hc,Ek,Ej,l1,l2,lt,An,mx']
def ak (ns:List (Option Int)):dep (.lst (ns.map nT))<=60:=by
 have:∀ ns:List (Option Int),yC (ns.map nT)<=1:=λ ns=>kX nT 1 (λ o=>by cases o <;> simp[nT,dep]) ns;have h:=this ns;simp only[dep];lia
theorem Z9:∀ ns ms:List (Option Int),xv (ns.map nT) (ms.map nT)=decide (ns=ms)
 | [],[]=>by simp[xv]
 | [],m::ms=>by simp[xv]
 | n::ns,[]=>by simp[xv]
 | n::ns,m::ms=>by
  have ih:=Z9 ns ms;cases n <;> cases m <;> simp[xv,eqT,nT,ih] <;> rfl
def QL (ns ms:List (Option Int)):zS false (.lst (ns.map nT)) (.lst (ms.map nT))=some (.bl (decide (ns=ms))):=by
 have h1:=ak ns;have h2:=ak ms;have h3:=Z9 ns ms;simp[zS,eqT,h3,h1,h2]
def SO {F:zu}(h:vF F) (st:T) (pu:Bool) (k:Nat) (x:Option L5.W):
  mM [some (.im (zV F st)),some (.im (.int (yr pu))),some (.im (.lst ((zX F pu k).map nT))),x]=some (.lst ((zX F pu (k+1)).map nT)):=by
 have n8:=h.ok.n8;have hl:=k0 F pu k;have e:(zX F pu (k+1)).map nT=(List.range F.os.length).map λ p=>nT (t9 F pu (zX F pu k) p):=by
  show ((List.range F.os.length).map λ p=>t9 F pu (zX F pu k) p).map nT=_;rw[AG];rfl
 rw[e];unfold mM;refine tF (λ(k:Nat)=>T.int (0+(k:Int))) (λ p=>nT (t9 F pu (zX F pu k) p)) (List.range F.os.length) ?_ (by simp;lia) λ p hp=>?_
 .have Bo:=qh F.os.length (by lia);have hln:xi [.lst ((zX F pu k).map nT)]=some (.int (F.os.length:Int)):=by simp[hl]
  generalize (zX F pu k).map nT=NL,zV F st=fl,xi=ll,(List.range F.os.length).map (λ(k:Nat)=>T.int (0+(k:Int)))=RR at *;simp[hln,Bo]
 .have hr:=OH h st pu (zX F pu k) hl p (AH.mp hp);generalize (zX F pu k).map nT=NL,zV F st=fl,l5=fr at *;simp[vg,hr]
theorem ai {F:zu}(h:vF F) (st:T) (pu:Bool) {m:Nat}(hm:zX F pu (m+1)=zX F pu m):∀ (d k:Nat),k+d=m->∀ (n:Nat),d<n->∀ (x:Option L5.W),
  xJ [3] (xq (cS (.bl true))) oo n [some (.im (zV F st)),some (.im (.int (yr pu))),some (.im (.lst ((zX F pu k).map nT))),x]=some (.rt (.lst ((zX F pu m).map nT)))
 | d,k,hk,0,hn,x=>by lia
 | d,k,hk,n+1,hn,x=>by
  have ht:=SO h st pu k none;have he:=QL (zX F pu (k+1)) (zX F pu k);by_cases hs:zX F pu (k+1)=zX F pu k
  .have e:zX F pu m=zX F pu k:=by rw[<- hk];exact aj hs d
   rw[e];rw[decide_eq_true hs] at he;unfold xJ oo;generalize mM=cc,(zX F pu (k+1)).map nT=N1,(zX F pu k).map nT=N0,zV F st=fl,zS=ee at *;simp[ht,he]
  .cases d with
   | zero=>
    exfalso;apply hs;have:k=m:=by lia
    rw[this];exact hm
   | succ d=>
    have ih:=ai h st pu hm d (k+1) (by lia) n (by lia) (some (.im (.lst ((zX F pu (k+1)).map nT))));rw[decide_eq_false hs] at he;unfold xJ;generalize hb:oo=bb at *;have DE:bb [some (.im (zV F st)),some (.im (.int (yr pu))),some (.im (.lst ((zX F pu k).map nT))),none]=some (.nx [some (.im (zV F st)),some (.im (.int (yr pu))),some (.im (.lst ((zX F pu (k+1)).map nT))),some (.im (.lst ((zX F pu (k+1)).map nT)))]):=by
     rw[<- hb];unfold oo;clear ih;generalize mM=cc,(zX F pu (k+1)).map nT=N1,(zX F pu k).map nT=N0,zV F st=fl,zS=ee at *;simp[ht,he]
    simp[DE,ih]
def OK {F:zu}(h:vF F) (st:T) (pu:Bool) {m:Nat}(hm:zX F pu (m+1)=zX F pu m) (hb:m<=2000):o8 [zV F st,.int (yr pu)]=some (.lst ((zX F pu m).map nT)):=by
 have hl:=ai h st pu hm m 0 (by lia) 1000000 (by lia) none;have n8:=h.ok.n8;have i1:zo (zV F st) (.int 1)=some (.tup (F.os.map kt)):=rfl;have k2:xi [.tup (F.os.map kt)]=some (.int (F.os.length:Int)):=by simp
 have e0:(zX F pu 0).map nT=List.replicate F.os.length (.int 0):=by
  show (List.replicate F.os.length (some (0:Int))).map nT=_;rw[List.map_replicate];rfl
 rw[e0] at hl;have hmul:ve (.lst [.int 0]) (.int (F.os.length:Int))=some (.lst (List.replicate F.os.length (.int 0))):=by
  show (if _ then _ else _)=_;rw[if_pos ⟨by simp,by lia,by lia,by simp[sizeLine];lia⟩];simp
 unfold o8 Xo qc;generalize xJ [3] (xq (cS (.bl true))) oo 1000000=ww,(List.replicate F.os.length (T.int 0))=N0,(zX F pu m).map nT=NM,(T.tup (F.os.map kt))=OT,zV F st=fl,zo=ix,xi=ll,ve=mw at *;simp[i1,k2,hmul,hl]
def OG (ns:List (Option Int)) (hn:ns.length<=1000):o7 [.tup (ns.map nT),.lst (ns.map nT)]=some (.bl true):=by
 have hz:oJ [.tup (ns.map nT),.lst (ns.map nT)]=some (ns.map λ o=>T.tup [nT o,nT o]):=by
  show ((xF (.tup (ns.map nT))).bind λ xs=>(xF (.lst (ns.map nT))).map λ ys=>List.zipWith (λ a b=>T.tup [a,b]) xs ys)=_;simp only[xF,Bn,Option.map_some];congr 1
  induction ns with
  | nil=>rfl
  | cons o ns ih=>rw[Au,Au,List.zipWith_cons_cons,ih (by simp at hn;lia)]
 have hloop:=kB (is:=[2,3]) (g:=wL 2 (y6 (zA 2) (y6 (zA 3) vz))) (b:=mU) (λ o=>T.tup [nT o,nT o]) (λ _=>false) (.bl false)
  [some (.im (.tup (ns.map nT))),some (.im (.lst (ns.map nT))),none,none] ns [some (.im (.tup (ns.map nT))),some (.im (.lst (ns.map nT))),none,none] rfl λ o _=>by
   refine⟨[some (.im (.tup (ns.map nT))),some (.im (.lst (ns.map nT))),some (.im (nT o)),some (.im (nT o))],rfl,?_⟩;unfold turn mU;generalize ns.map nT=NL at *;cases o with
   | none=>simp[nT,xS,isNone]
   | some y=>
    have e:=eq_int y y true;have j1:ui "int" "int"=true:=by decide
    have j2:ui "int" "bool"=false:=by decide
    simp[nT,xS,isNone,e,instS,j1,j2]
 have BJ:ns.any (λ _=>false)=false:=by simp
 rw[BJ,if_neg (by decide)] at hloop;have l1:xi [.tup (ns.map nT)]=some (.int (ns.length:Int)):=by simp
 have l2:xi [.lst (ns.map nT)]=some (.int (ns.length:Int)):=by simp
 have e:=eq_int (ns.length:Int) (ns.length:Int) true;have jt:ui "tuple" "tuple"=true:=by decide
 unfold o7 dA;generalize mU=bb,(ns.map λ o=>T.tup [nT o,nT o])=ZL,ns.map nT=NL,zS=ee,xi=ll,oJ=zz at *;simp[l1,l2,e,hz,hloop,instS,jt]
def O2 (L:List T) (a b:T) (h:L.length<=1000):yi (.lst L) (.lst [a,b])=some (.lst (L++[a,b])):=by
 have:L.length + [a,b].length<=sizeLine:=by
  have:1002<=sizeLine:=by decide
  simp only[AR,CL];lia
 show (if L.length + [a,b].length<=sizeLine then _ else _)=_;rw[if_pos this]
def UC (mf:T->T->Option T) (XL:List T) (c:Int) (many:Nat) (x3 x4:Option L5.W) (kk sq v1:Int) (hmf:mf (.int kk) (.int kk)=some (.int sq)) (hv1:L2.zN XL 1=some (.int v1)) (d:xE v1 (1+sq)):
  vg [none,some 1] (zA 0) uw (zb zo (xI (zc (cS (.str "keeper")) (zc (cS (.str "taker")) zj))) (zb ye (zb wx (zb zo (zf 1) (cS (.int 1))) (zb yi (cS (.int 1)) (zb mf (zf 0) (zf 0)))) (cS (.int 2)))) [some (.im (.int c)),some (.im (.lst XL)),some (.im (.int many)),x3,x4] (.int kk)
   = some (some (kt (decide (v1/(1+sq)%2=0)))):=by
 have pk:L2.zN [T.str "keeper",T.str "taker"] (v1/(1+sq)%2)=some (kt (decide (v1/(1+sq)%2=0))):=by
  rcases Dh (v1/(1+sq)) with h | h <;> rw[h] <;> rfl
 generalize kt (decide (v1/(1+sq)%2=0))=kb,(T.str "keeper")=s1,(T.str "taker")=s2 at *;simp[vg,hv1,hmf,d,pk]
def OE (c:Int):∃ F:zu,l4 [.int c]=some (zV F (.tup []))/\vF F:=by
 obtain⟨xs,DW,hx⟩:=YF c 4 (by decide);have BS:sQ [.int c,.int 4]=some (.lst (xs.map T.int)):=DW;obtain⟨v0,hv0⟩:=su (xs:=xs) (j:=0) (by lia);obtain⟨v1,hv1⟩:=su (xs:=xs) (j:=1) (by lia);obtain⟨v2,hv2⟩:=su (xs:=xs) (j:=2) (by lia);obtain⟨v3,hv3⟩:=su (xs:=xs) (j:=3) (by lia);have hv0':L2.zN (xs.map T.int) 0=some (.int v0):=hv0;have hv1':L2.zN (xs.map T.int) 1=some (.int v1):=hv1;have hv2':L2.zN (xs.map T.int) 2=some (.int v2):=hv2;have hv3':L2.zN (xs.map T.int) 3=some (.int v3):=hv3;obtain⟨many,hmany,m1,m8⟩:∃ n:Nat,1+v0%8=(n:Int)/\1<=n/\n<=8:=⟨(1+v0%8).toNat,by lia,by lia,by lia⟩
 have Bo:=qh many (by lia);have hrg1:=qh (many-1) (by lia);have hm1:((many-1:Nat):Int)=(many:Int)-1:=by lia
 rw[hm1] at hrg1;have c1:∀ x3 x4,ja [some (.im (.int c)),some (.im (.lst (xs.map T.int))),some (.im (.int many)),x3,x4]=some (.lst ((List.range many).map λ(k:Nat)=>kt (decide (v1/(1+(0+(k:Int))*(0+(k:Int)))%2=0)))):=λ x3 x4=>by
  unfold ja;refine tF (λ(k:Nat)=>T.int (0+(k:Int))) _ (List.range many) ?_ (by simp;lia) λ k hk=>?_
  .generalize xs.map T.int=XL,(List.range many).map (λ(k:Nat)=>T.int (0+(k:Int)))=RR at *;simp[Bo]
  .have hk':=AH.mp hk;have m1:vH (0+(k:Int)) (0+(k:Int)):=.inl ⟨by lia,by lia⟩;have Ce:(0+(k:Int))*(0+(k:Int))<=7*7:=Int.mul_le_mul (by lia) (by lia) (by lia) (by lia);have hsq0:0<=(0+(k:Int))*(0+(k:Int)):=Int.mul_nonneg (by lia) (by lia);have d:xE v1 (1+(0+(k:Int))*(0+(k:Int))):=⟨by lia,by lia⟩
   exact UC ve (xs.map T.int) c many x3 x4 (0+(k:Int)) _ v1 (by rw[pG,if_pos m1]) hv1' d
 have c2:∀ x3 x4,k_ [some (.im (.int c)),some (.im (.lst (xs.map T.int))),some (.im (.int many)),x3,x4]=some (.lst ((List.range (many-1)).map λ(k:Nat)=>zM [(k:Int),((k:Int)+1)%many,-1,-1-(k:Int)%2])):=λ x3 x4=>by
  unfold k_;refine tF (λ(k:Nat)=>T.int (0+(k:Int))) _ (List.range (many-1)) ?_ (by simp;lia) λ k hk=>?_
  .generalize xs.map T.int=XL,(List.range (many-1)).map (λ(k:Nat)=>T.int (0+(k:Int)))=RR at *;simp[hrg1]
  .have BX:0<many:=m1;rw[show zM [(k:Int),((k:Int)+1)%many,-1,-1-(k:Int)%2]=.tup [.int k,.int (((k:Int)+1)%many),.int (-1),.int (-1-(k:Int)%2)] from rfl];generalize xs.map T.int=XL at *;simp[vg,BX]
 obtain⟨ws,w1,w2,w3,w4⟩:=jO (many:=many) (((List.range (many-1)).map λ(k:Nat)=>[(k:Int),((k:Int)+1)%many,-1,-1-(k:Int)%2])++[[(many:Int)-1,0,v2%9,v3%13],[0,0,-1,-2]]) (by simp) (by simp;lia) λ r hr=>by
  have BX:(0:Int)<many:=by lia
  rcases AZ.mp hr with hr | hr
  .obtain⟨k,hk,rfl⟩:=Al.mp hr;have hk':=AH.mp hk;have t0:=Bw ((k:Int)+1) (b:=(many:Int)) (by lia);have t1:=BB ((k:Int)+1) BX;refine⟨k,(((k:Int)+1)%many).toNat,-1,-1-(k:Int)%2,?_,by lia,by lia⟩;rw[CN t0]
  .simp only[Ah,AY,or_false] at hr;rcases hr with rfl | rfl
   .exact⟨many-1,0,v2%9,v3%13,by rw[hm1];rfl,by lia,by lia⟩
   .exact⟨0,0,-1,-2,rfl,by lia,by lia⟩
 have rl:((((List.range (many-1)).map λ(k:Nat)=>[(k:Int),((k:Int)+1)%many,-1,-1-(k:Int)%2])++[[(many:Int)-1,0,v2%9,v3%13],[0,0,-1,-2]]).map zM)=((List.range (many-1)).map λ(k:Nat)=>zM [(k:Int),((k:Int)+1)%many,-1,-1-(k:Int)%2])++[.tup [.int ((many:Int)-1),.int 0,.int (v2%9),.int (v3%13)],.tup [.int 0,.int 0,.int (-1),.int (-2)]]:=by
  rw[Bk,AG];rfl
 rw[rl] at w1;have w2':ws.length<=many+1:=by simp at w2;lia
 refine⟨⟨12,12-v2%2,(List.range many).map λ(k:Nat)=>decide (v1/(1+(0+(k:Int))*(0+(k:Int)))%2=0),ws,[]⟩,?_,⟨⟨by dsimp only;lia,by dsimp only;lia,by dsimp only;lia,by dsimp only;lia,by simp;lia,by simp;lia,λ w hw=>by simp;exact w3 w hw,by dsimp only;lia,nofun,.inl rfl,by simp⟩,rfl,λ x hx=>?_⟩⟩
 .unfold zV;dsimp only;rw[AG];rw[show (kt ∘ λ(k:Nat)=>decide (v1/(1+(0+(k:Int))*(0+(k:Int)))%2=0))=λ(k:Nat)=>kt (decide (v1/(1+(0+(k:Int))*(0+(k:Int)))%2=0)) from rfl];have C6:((List.range many).map λ(k:Nat)=>kt (decide (v1/(1+(0+(k:Int))*(0+(k:Int)))%2=0))).length<=16777216:=by simp;lia
  have Cg:(ws.map zR).length<=16777216:=by simp;lia
  have a1:yi (.int 1) (.int (v0%8))=some (.int (many:Int)):=by rw[<- hmany];rfl
  have a2:yi (.lst ((List.range (many-1)).map λ(k:Nat)=>zM [(k:Int),((k:Int)+1)%many,-1,-1-(k:Int)%2])) (.lst [.tup [.int ((many:Int)-1),.int 0,.int (v2%9),.int (v3%13)],.tup [.int 0,.int 0,.int (-1),.int (-2)]])
    = some (.lst (((List.range (many-1)).map λ(k:Nat)=>zM [(k:Int),((k:Int)+1)%many,-1,-1-(k:Int)%2])++[.tup [.int ((many:Int)-1),.int 0,.int (v2%9),.int (v3%13)],.tup [.int 0,.int 0,.int (-1),.int (-2)]])):=O2 _ _ _ (by simp;lia)
  unfold l4 Xm;generalize ja=cc1,k_=cc2,sQ=fs at *;generalize ((List.range many).map λ(k:Nat)=>kt (decide (v1/(1+(0+(k:Int))*(0+(k:Int)))%2=0)))=OL at *;generalize ((List.range (many-1)).map λ(k:Nat)=>zM [(k:Int),((k:Int)+1)%many,-1,-1-(k:Int)%2])=RL at *;generalize ws.map zR=WL at *;generalize xs.map T.int=XL,vu=sv,yi=aa at *;simp[BS,hv0',a1,c1,c2,hv2',hv3',C6,Cg,a2,w1]
 .have hx':x<many:=by simpa using hx
  by_cases h:x<many-1
  .refine⟨⟨x,(((x:Int)+1)%many).toNat,-1,-1-(x:Int)%2⟩,(w4 _).mpr ?_,rfl⟩;have t0:=Bw ((x:Int)+1) (b:=(many:Int)) (by lia);refine Cb _ (Al.mpr ⟨x,AH.mpr h,?_⟩);unfold sT;dsimp only;rw[CN t0]
  .refine⟨⟨many-1,0,v2%9,v3%13⟩,(w4 _).mpr ?_,by dsimp only;lia⟩;refine AV _ ?_;unfold sT;dsimp only;rw[hm1];simp
def e_ (ns:List Int) (k:Nat):∃ v,uV [xZ ns,.int (k:Int)]=some (.int v):=by
 unfold uV dD xZ;by_cases h:k<ns.length
 .have e:L2.zN (ns.map T.int) (k:Int)=some (.int (ns.getD k 0)):=ux (by simp[h]);exact⟨_,by simp[h,e,uh];rfl⟩
 .exact⟨0,by simp[h,uh]⟩
def OC (c:Int):∃ most zB:Nat,ly [.int c]=some (.tup [.int most,.int zB])/\(1<=most/\most<=8)/\zB<=12:=by
 have h0:0<=c%10:=Bw _ (by decide);have h1:c%10<10:=BB _ (by decide);have key:∀ z:Int,0<=z->z<10->∃ most zB:Nat,L2.zN [T.tup [.int 4,.int 5],T.tup [.int 3,.int 5],T.tup [.int 4,.int 4],T.tup [.int 2,.int 6],T.tup [.int 5,.int 3],T.tup [.int 3,.int 4],T.tup [.int 1,.int 8],T.tup [.int 4,.int 3],T.tup [.int 8,.int 2],T.tup [.int 2,.int 5]] z=some (.tup [.int most,.int zB])/\(1<=most/\most<=8)/\zB<=12:=λ z a b=>by
  obtain h | h | h | h | h | h | h | h | h | h:z=0\/z=1\/z=2\/z=3\/z=4\/z=5\/z=6\/z=7\/z=8\/z=9:=by lia
  all_goals subst h
  .exact⟨4,5,rfl,by decide,by decide⟩
  .exact⟨3,5,rfl,by decide,by decide⟩
  .exact⟨4,4,rfl,by decide,by decide⟩
  .exact⟨2,6,rfl,by decide,by decide⟩
  .exact⟨5,3,rfl,by decide,by decide⟩
  .exact⟨3,4,rfl,by decide,by decide⟩
  .exact⟨1,8,rfl,by decide,by decide⟩
  .exact⟨4,3,rfl,by decide,by decide⟩
  .exact⟨8,2,rfl,by decide,by decide⟩
  .exact⟨2,5,rfl,by decide,by decide⟩
 obtain⟨most,zB,e,r⟩:=key _ h0 h1;refine⟨most,zB,?_,r⟩;unfold ly d7;simp[e]
def Ot {F:zu}(h:vF F) (st:T) (pu:Bool):∃ a b,oH [zV F st,.int (yr pu)]=some a/\o8 [zV F st,.int (yr pu)]=some b/\o7 [a,b]=some (.bl true):=by
 obtain⟨m,h1,h2,h3⟩:=Na h st pu;refine⟨_,_,h1,OK h st pu h2 h3,OG _ ?_⟩;rw[k0];have:=h.ok.n8;lia
def R4 (ns:List Int) (c:Int) (most zB:Nat) (hm:1<=most/\most<=8) (hb:zB<=12) (k:Nat):
  ∃ J',yI [4,5,6,7,8] J'=[some (.im (xZ ns)),some (.im (.int c)),some (.im (.int most)),some (.im (.int zB)),none,none,none,none,none]
   /\ turn (zA 4) mS (.int (1+(k:Int)*20)) [some (.im (xZ ns)),some (.im (.int c)),some (.im (.int most)),some (.im (.int zB)),none,none,none,none,none]=some (.nx J'):=by
 obtain⟨v,hv⟩:=e_ ns (1+k*20);obtain⟨u,hu⟩:=e_ ns (1+k*20+1);have hv':uV [xZ ns,.int (1+(k:Int)*20)]=some (.int v):=by rw[<- hv];congr 3
 have hu':uV [xZ ns,.int (1+(k:Int)*20+1)]=some (.int u):=by rw[<- hu];congr 3
 obtain⟨br,Dg,br12⟩:∃ br:Nat,L2.zN [T.int (zB:Int),T.int 12] (u%2)=some (.int (br:Int))/\br<=12:=by
  rcases Dh u with h | h <;> rw[h]
  .exact⟨zB,rfl,hb⟩
  .exact⟨12,rfl,by decide⟩
 obtain⟨F0,st0,f1,f2⟩:=OM v most br hm.1 hm.2 br12;have f1':oA [.int v,.int most,.int br]=some (zV F0 st0):=f1;obtain⟨F1,r1,r2⟩:=OE v;obtain⟨F,st,hF,Cj⟩:∃ (F:zu) (st:T),vF F/\(if u/2%8=1 then zV F1 (.tup []) else zV F0 st0)=zV F st:=by
  split
  .exact⟨F1,_,r2,rfl⟩
  .exact⟨F0,st0,f2,rfl⟩
 obtain⟨pu,hpu,D6⟩:∃ pu:Bool,c/10%2=yr pu/\1-c/10%2=yr (!pu):=by
  rcases Dh (c/10) with h | h <;> rw[h]
  .exact⟨false,rfl,rfl⟩
  .exact⟨true,rfl,rfl⟩
 have hloop:=kB (is:=[8]) (g:=zA 8) (b:=je) (λ q:Bool=>T.int (yr q)) (λ _=>false) (.bl false)
  [some (.im (xZ ns)),some (.im (.int c)),some (.im (.int most)),some (.im (.int zB)),some (.im (.int (1+(k:Int)*20))),some (.im (.int v)),some (.im (.int u)),some (.im (zV F st)),none] [pu,!pu]
  [some (.im (xZ ns)),some (.im (.int c)),some (.im (.int most)),some (.im (.int zB)),some (.im (.int (1+(k:Int)*20))),some (.im (.int v)),some (.im (.int u)),some (.im (zV F st)),none] rfl λ q _=>by
   obtain⟨a,b,a1,a2,a3⟩:=Ot hF st q;refine⟨[some (.im (xZ ns)),some (.im (.int c)),some (.im (.int most)),some (.im (.int zB)),some (.im (.int (1+(k:Int)*20))),some (.im (.int v)),some (.im (.int u)),some (.im (zV F st)),some (.im (.int (yr q)))],rfl,?_⟩;rw[if_neg (by decide)];unfold turn je;generalize oH=fa,o8=fn,o7=fr,zV F st=fl,xZ ns=sc,(1+(k:Int)*20)=kk at *;simp[a1,a2,a3]
 have BJ:[pu,!pu].any (λ _=>false)=false:=by simp
 rw[BJ,if_neg (by decide),Au,Au,Bj] at hloop;rw[<- hpu,<- D6] at hloop;have d10:xE c 10:=⟨by decide,by decide⟩
 have d2:xE u 2:=⟨by decide,by decide⟩
 have q:=eq_int (u/2%8) 1 false;refine⟨[some (.im (xZ ns)),some (.im (.int c)),some (.im (.int most)),some (.im (.int zB)),some (.im (.int (1+(k:Int)*20))),some (.im (.int v)),some (.im (.int u)),some (.im (zV F st)),none],rfl,?_⟩;unfold turn mS;generalize je=bb,uV=fc,oA=ff,l4=fg,xZ ns=sc,(1+(k:Int)*20)=kk,zS=ee at *;by_cases h:u/2%8=1
 .rw[if_pos h] at Cj;rw[h] at q;rw[Cj] at r1;generalize zV F st=fl,zV F0 st0=fl0 at *;simp[hv',hu',Dg,f1',d2,q,h,r1,d10,hloop]
 .rw[if_neg h] at Cj;rw[Cj] at f1';generalize zV F st=fl at *;simp[hv',hu',Dg,f1',d2,q,h,d10,hloop]
def R5 (ns:List Int) (CD:ns.length<=63):oD [xZ ns]=some (.bl true):=by
 obtain⟨v,hv⟩:=e_ ns 0;have hv':uV [xZ ns,.int 0]=some (.int v):=hv;obtain⟨most,zB,hs,hm,hb⟩:=OC v;obtain⟨n,hn⟩:∃ n:Nat,oZ [.int 1,.int (if (if (60:Int)<ns.length then 60 else (ns.length:Int))>2 then (if (60:Int)<ns.length then 60 else (ns.length:Int)) else 2),.int 20]=some ((List.range n).map λ(k:Nat)=>T.int (1+(k:Int)*20)):=by
  generalize hz:(if (if (60:Int)<ns.length then 60 else (ns.length:Int))>2 then (if (60:Int)<ns.length then 60 else (ns.length:Int)) else 2)=z;have hz1:0<=z/\z<=60:=by rw[<- hz];split <;> split <;> lia
  refine⟨uJ 1 z 20,?_⟩;show (if (rF 1=true/\rF z=true)/\rF 20=true/\(0:Int)<20 then some (ke 1 20 (uJ 1 z 20)) else none)=_;rw[if_pos ⟨⟨by decide,by simp[rF];lia⟩,by decide,by decide⟩];rfl
 have hloop:=kB (is:=[4,5,6,7,8]) (g:=zA 4) (b:=mS) (λ k:Nat=>T.int (1+(k:Int)*20)) (λ _=>false) (.bl false)
  [some (.im (xZ ns)),some (.im (.int v)),some (.im (.int most)),some (.im (.int zB)),none,none,none,none,none] (List.range n)
  [some (.im (xZ ns)),some (.im (.int v)),some (.im (.int most)),some (.im (.int zB)),none,none,none,none,none] rfl λ k _=>by
   obtain⟨J',r1,r2⟩:=R4 ns v most zB hm hb k;exact⟨J',r1,by rw[if_neg (by decide)];exact r2⟩
 have BJ:(List.range n).any (λ _=>false)=false:=by simp
 rw[BJ,if_neg (by decide)] at hloop;have hlen:xi [xZ ns]=some (.int (ns.length:Int)):=by simp[xZ]
 unfold oD Xp;generalize mS=bb,uV=fc,ly=fz,(List.range n).map (λ(k:Nat)=>T.int (1+(k:Int)*20))=RR,xZ ns=sc,xi=ll,oZ=rr at *;simp[hv',hs,hlen,hn,hloop]
end y4
namespace PySem.W.Fast
def te12629232414688156328:=0
def tw6055525696672457950:=0
def tw135620104901573594:=0
def tw7807322898666378400:=0
def tw1896742185017403815:=0
def tw15819073872201727672:=0
def tw8825963387015556076:=0
def tw18188537054608628255:=0
def tw10299774778974181516:=0
def tw11123275775832810723:=0
def tw16641081864029428049:=0
def tw11344044429633939097:=0
def tw16894888835602368411:=0
def tw17159517852356480274:=0
def tw9385299268830559363:=0
def tw3903179163973241419:=0
def tw15786738094734112028:=0
def tw8870849208531135289:=0
def tw17488369176372474595:=0
def tw15759360320186113821:=0
def tw15185864213746637625:=0
def tw1036371084858947565:=0
def tw3274574694906829228:=0
def tw9306181724528192607:=0
def tw6577285451815337714:=0
def tw13482856582344075592:=0
def tw14847011169763072290:=0
def tw7316387994237872114:=0
def tw9851835840584535613:=0
def tw14520251800515316061:=0
def tw4177981549767510607:=0
def tw16040200750863007701:=0
def tw2497345972898410449:=0
def tw1569633178376582874:=0
def tw15047468745244664529:=0
def tw11052500534323329261:=0
def tw780303918560525463:=0
def tw4213891672013230467:=0
def tw13831956999459839556:=0
def tw387445549459824712:=0
def tw9374105366741965186:=0
def tw473750417957182140:=0
def tw14585402565579965980:=0
def tw7186531857968788698:=0
def tw10335162588056542694:=0
def tw7622350582772281295:=0
def tw10463790271140970193:=0
def tw9454030976000538880:=0
def tw15898622422407104989:=0
def tw5811425710149572597:=0
def tw12964405037907701814:=0
def tw15337229096518750836:=0
def tw4762661236432667385:=0
def tw15710088678445346068:=0
def tw9568160953784693707:=0
def tw16726335310298467224:=0
def tw9328301563350930892:=0
def tw16341184914429041692:=0
def tw16035694565004844048:=0
def tw18908415768804979:=0
def tw7154637947786887432:=0
def tw789337945369531860:=0
def tw21973625213277213:=0
def tw5656417068776683134:=0
def tw8382898793973863653:=0
def tw9919319202405534941:=0
def tw1300610009950430956:=0
def tw6254422839289160555:=0
def tw18255163797257546859:=0
def tw14664177791891023778:=0
def tw15806164422451645040:=0
def tw2452406066965851710:=0
def tw10372430576471152097:=0
def tw13124660073334180741:=0
def tw10564471449658950880:=0
def tw14395888135287960373:=0
def tw4263931790964331475:=0
def tw9296829759771731616:=0
def tw5057618493233831523:=0
def tw10477054592678625734:=0
def tw17213820859815481108:=0
def tw14373880213479928180:=0
def tw16005905211621496590:=0
def tw2125982901158715924:=0
def tw15559599827848873767:=0
def tw17148847982064577898:=0
def tw6845546565129951180:=0
def tw11383365598654159370:=0
def tw8132724573389889368:=0
def tw8761689863423018581:=0
def tw13196618673921940092:=0
def tw17344167106912965467:=0
def tw11433766954603168794:=0
def tw16107295909604125480:=0
def tw15102612165101491185:=0
def tw6377580434577025304:=0
def tw9636695694253572171:=0
def tw4606556421392728193:=0
def tw11346420400638641277:=0
def tw10877116412269743501:=0
def tw15289339212441414358:=0
def tw998525007145078923:=0
def tw7591031529957849595:=0
def tw3964164018412370507:=0
def tw16304851445132219281:=0
def tw2007907172545673299:=0
def tw13409202590850347710:=0
def tw17951505085082718055:=0
def tw7883224144236728978:=0
def tw8807781260819928202:=0
def tw7422151150258723313:=0
def tw11007336773753759302:=0
def tw611028213575282708:=0
def tw7184639661998745518:=0
def tw6254894489895720497:=0
def tw4235138535154370966:=0
def tw18351592353034726310:=0
def tw16417571153440926460:=0
def tw14288842999345044285:=0
def tw18157314532961257237:=0
def tw9396269671581438564:=0
def tw10879692461419845077:=0
def tw12938336728744227517:=0
def tw13711699252565336326:=0
def tw7865750103478349021:=0
def tw8145314420244868955:=0
def tw4740703566261228043:=0
def tw10539340162934671935:=0
def tw12575695867759360730:=0
def tw2925045728239261113:=0
def tw11063397235576797111:=0
def tw5553218611388680567:=0
def tw13118631311093676859:=0
def tw8378511662379254692:=0
def tw1646825013681855005:=0
def tw15456468217828231000:=0
def tw7101415421998965663:=0
def tw9213677973011075420:=0
def tw11737902398991475580:=0
def tw4679154172579919540:=0
def tw1961111898878197053:=0
def tw13437205767763509587:=0
def tw13640792195878838575:=0
def tw5980437305328547119:=0
def tw8387571858818548176:=0
def tw17826876279742611231:=0
def tw5897535094142364437:=0
def tw2562009234379752127:=0
def tw12619581312358094544:=0
def tw15018679342732883600:=0
end PySem.W.Fast
namespace y4
open PySem L2 L3 L5
open PyProof.Rows hiding St
def yw (i:Nat):Stmt:=PySem.Challenge.pw_purseborder_k51_one_purse.main.body.getD i (.Pass ⟨0,0,0,0⟩)
abbrev ir:Stmt:=yw 6
abbrev iq:Stmt:=yw 7
abbrev jY:Stmt:=yw 8
abbrev iw:Stmt:=yw 9
abbrev lW:Stmt:=yw 10
abbrev jX:Stmt:=yw 11
abbrev i5:Stmt:=yw 13
abbrev j_:Stmt:=yw 14
abbrev oV:Stmt:=yw 15
abbrev iu:Stmt:=yw 16
abbrev oW:Stmt:=yw 18
abbrev jZ:Stmt:=yw 19
abbrev i4:Stmt:=yw 20
abbrev iz:Stmt:=yw 21
abbrev i3:Stmt:=yw 22
abbrev oT:Stmt:=yw 23
abbrev lY:Stmt:=yw 24
abbrev lX:Stmt:=yw 25
abbrev iy:Stmt:=yw 27
abbrev jW:Stmt:=yw 29
abbrev ka:Stmt:=yw 30
abbrev kc:Stmt:=yw 31
abbrev ik:Stmt:=yw 33
abbrev ic:Stmt:=yw 34
abbrev il:Stmt:=yw 35
abbrev ia:Stmt:=yw 36
abbrev ij:Stmt:=yw 37
abbrev ie:Stmt:=yw 38
abbrev lZ:Stmt:=yw 39
abbrev l_:Stmt:=yw 40
abbrev ig:Stmt:=yw 41
abbrev oU:Stmt:=yw 42
abbrev ip:Stmt:=yw 43
def WA:yq ["thing"] ["thing"] (zE ir):=⟨rfl,rfl,rfl,by decide +kernel,rfl,by decide +kernel,by decide +kernel⟩
def W4:yq ["floor"] ["floor"] (zE jY):=⟨rfl,rfl,rfl,by decide +kernel,rfl,by decide +kernel,by decide +kernel⟩
def WE:yq ["pair","other"] ["pair","other"] (zE i5):=⟨rfl,rfl,rfl,by decide +kernel,rfl,by decide +kernel,by decide +kernel⟩
def jU:yq ["pairs","least","pair"] ["pairs"] (zE j_):=⟨rfl,rfl,rfl,by decide +kernel,rfl,by decide +kernel,by decide +kernel⟩
def qf:yq ["brims","stall","pair","purse","pairs","given","got"] ["brims","stall","pair"] (zE jZ):=⟨rfl,rfl,rfl,by decide +kernel,rfl,by decide +kernel,by decide +kernel⟩
def W3:yq ["way","purse"] ["way","purse"] (zE jW):=⟨rfl,rfl,rfl,by decide +kernel,rfl,by decide +kernel,by decide +kernel⟩
def W7:yq ["_law_script","_law_k"] ["_law_script","_law_k"] (zE ik):=⟨rfl,rfl,rfl,by decide +kernel,rfl,by decide +kernel,by decide +kernel⟩
def sZ:yq ["_law_cell","_law_count","_law_found","_law_number","_law_k"] ["_law_cell","_law_count"] (zE ic):=⟨rfl,rfl,rfl,by decide +kernel,rfl,by decide +kernel,by decide +kernel⟩
def W8:yq ["_law_number","_law_most"] ["_law_number","_law_most"] (zE il):=⟨rfl,rfl,rfl,by decide +kernel,rfl,by decide +kernel,by decide +kernel⟩
def W6:yq ["_law_number"] ["_law_number"] (zE ie):=⟨rfl,rfl,rfl,by decide +kernel,rfl,by decide +kernel,by decide +kernel⟩
def tm:yq ["_law_floor_here","_law_purse","_law_place","_law_need_here","_law_brim","_law_some","_law_start","_law_end","_law_first","_law_second","_law_coins","_law_known"] ["_law_floor_here","_law_purse","_law_place","_law_need_here"] (zE lZ):=⟨rfl,rfl,rfl,by decide +kernel,rfl,by decide +kernel,by decide +kernel⟩
def jV:yq ["_law_found","_law_due","_law_one","_law_other"] ["_law_found","_law_due"] (zE ig):=⟨rfl,rfl,rfl,by decide +kernel,rfl,by decide +kernel,by decide +kernel⟩
def W9:yq ["thing","least","most"] ["thing","least","most"] (zE iq):=⟨rfl,rfl,rfl,by decide +kernel,rfl,by decide +kernel,by decide +kernel⟩
def qg:yq ["border","other","steps","lows","shared","first","side","second"] ["border","other"] (zE oV):=⟨rfl,rfl,rfl,by decide +kernel,rfl,by decide +kernel,by decide +kernel⟩
def WB:yq ["border","other"] ["border","other"] (zE iu):=⟨rfl,rfl,rfl,by decide +kernel,rfl,by decide +kernel,by decide +kernel⟩
def cM:yq ["brims","way","border","pairs"] ["brims","way","border"] (zE oW):=⟨rfl,rfl,rfl,by decide +kernel,rfl,by decide +kernel,by decide +kernel⟩
def cL:yq ["floor","purse","ways"] ["floor","purse"] (zE ka):=⟨rfl,rfl,rfl,by decide +kernel,rfl,by decide +kernel,by decide +kernel⟩
def W5:yq ["_law_place","_law_many","_law_number","_law_size"] ["_law_place","_law_many","_law_number","_law_size"] (zE ia):=⟨rfl,rfl,rfl,by decide +kernel,rfl,by decide +kernel,by decide +kernel⟩
def lS:yq ["_law_floor_here","_law_purse","_law_need_here","_law_more"] ["_law_floor_here","_law_purse"] (zE l_):=⟨rfl,rfl,rfl,by decide +kernel,rfl,by decide +kernel,by decide +kernel⟩
def ph:yq ["_law_cell","_law_xs","_law_many","_law_owners","_law_ways"] ["_law_cell"] (zE oU):=⟨rfl,rfl,rfl,by decide +kernel,rfl,by decide +kernel,by decide +kernel⟩
def WC:yq ["floor","place"] ["floor","place"] (zE iw):=⟨rfl,rfl,rfl,by decide +kernel,rfl,by decide +kernel,by decide +kernel⟩
def lT:yq ["borders","joined","border"] ["borders"] (zE iz):=⟨rfl,rfl,rfl,by decide +kernel,rfl,by decide +kernel,by decide +kernel⟩
def lU:yq ["borders","joined","border"] ["borders"] (zE i3):=⟨rfl,rfl,rfl,by decide +kernel,rfl,by decide +kernel,by decide +kernel⟩
def vZ:yq ["_law_cell","_law_most","_law_brim","_law_xs","_law_many","_law_owners","_law_ways","_law_stalls","_law_place","_law_number","_law_size","_law_k","_law_brims"] ["_law_cell","_law_most","_law_brim"] (zE ij):=⟨rfl,rfl,rfl,by decide +kernel,rfl,by decide +kernel,by decide +kernel⟩
def W2:yq ["floor","place"] ["floor","place"] (zE lW):=⟨rfl,rfl,rfl,by decide +kernel,rfl,by decide +kernel,by decide +kernel⟩
def cK:yq ["floor","place","stall"] ["floor","place"] (zE jX):=⟨rfl,rfl,rfl,by decide +kernel,rfl,by decide +kernel,by decide +kernel⟩
def lV:yq ["floor","place","border","stall","pairs","pair"] ["floor","place","border"] (zE i4):=⟨rfl,rfl,rfl,by decide +kernel,rfl,by decide +kernel,by decide +kernel⟩
def jT:yq ["floor","place","last","ways","ahead"] ["floor","place","last"] (zE oT):=⟨rfl,rfl,rfl,by decide +kernel,rfl,by decide +kernel,by decide +kernel⟩
def jS:yq ["floor","last","fresh","following","place"] ["floor","last","fresh"] (zE lY):=⟨rfl,rfl,rfl,by decide +kernel,rfl,by decide +kernel,by decide +kernel⟩
def pd:yq ["floor","told","fresh","last","following"] ["floor"] (zE lX):=⟨rfl,rfl,rfl,by decide +kernel,rfl,by decide +kernel,by decide +kernel⟩
def WD:yq ["floor"] ["floor"] (zE iy):=⟨rfl,rfl,rfl,by decide +kernel,rfl,by decide +kernel,by decide +kernel⟩
def WG:yq ["floor","purse"] ["floor","purse"] (zE kc):=⟨rfl,rfl,rfl,by decide +kernel,rfl,by decide +kernel,by decide +kernel⟩
def tp:yq ["_law_script","_law_cell","_law_most","_law_brim","_law_k","_law_number","_law_shape","_law_floor_here","_law_purse"] ["_law_script"] (zE ip):=⟨rfl,rfl,rfl,by decide +kernel,rfl,by decide +kernel,by decide +kernel⟩
section
variable (P:Program) (w:World) (K:Ac) (mg:Str->Option Value) (base:Heap)
abbrev Y_:=FD P w K mg base "is_whole" 1 ["thing"] (ya zH jy)
abbrev da:=FD P w K mg base "places_of" 1 ["floor"] (ya zH qS)
abbrev Xi:=FD P w K mg base "at_or_above" 1 ["pair","other"] (ya zH lD)
abbrev lE:=FD P w K mg base "least_pairs" 1 ["pairs"] (ya zH sP)
abbrev YN:=FD P w K mg base "pairs_ahead_of_changes" 1 ["brims","stall","pair"] (ya zH lu)
abbrev YK:=FD P w K mg base "way_alone" 1 ["way","purse"] (ya zH o3)
abbrev YY:=FD P w K mg base "_law_cell_at" 1 ["_law_script","_law_k"] (ya we uV)
abbrev de:=FD P w K mg base "_law_stirred" 1 ["_law_cell","_law_count"] (ya zH sQ)
abbrev YZ:=FD P w K mg base "_law_amount" 1 ["_law_number","_law_most"] (ya zH oB)
abbrev YS:=FD P w K mg base "_law_sized" 1 ["_law_number"] (ya we ly)
abbrev YV:=FD P w K mg base "_law_raised" 1 ["_law_floor_here","_law_purse","_law_place","_law_need_here"] (ya zH l5)
abbrev YU:=FD P w K mg base "_law_right" 1 ["_law_found","_law_due"] (ya zH o7)
abbrev df:=FD P w K mg base "is_whole_within" 2 ["thing","least","most"] (ya zH qT)
abbrev Xc:=FD P w K mg base "both" 2 ["border","other"] (ya zH l9)
abbrev Xb:=FD P w K mg base "either" 2 ["border","other"] (ya zH l7)
abbrev Xg:=FD P w K mg base "border_ahead_of_way" 2 ["brims","way","border"] (ya zH lC)
abbrev Xa:=FD P w K mg base "floor_alone" 2 ["floor","purse"] (ya zH l6)
abbrev YR:=FD P w K mg base "_law_way" 2 ["_law_place","_law_many","_law_number","_law_size"] (ya zH rZ)
abbrev YW:=FD P w K mg base "_law_need" 2 ["_law_floor_here","_law_purse"] (ya we o8)
abbrev YT:=FD P w K mg base "_law_ring" 2 ["_law_cell"] (ya zH l4)
abbrev dg:=FD P w K mg base "check_place" 3 ["floor","place"] (ya zH l8)
abbrev Xe:=FD P w K mg base "border_of_either" 3 ["borders"] (ya we lA)
abbrev Xf:=FD P w K mg base "border_of_all" 3 ["borders"] (ya we lB)
abbrev YX:=FD P w K mg base "_law_floor" 3 ["_law_cell","_law_most","_law_brim"] (ya zH oA)
abbrev YJ:=FD P w K mg base "ways_from" 4 ["floor","place"] (ya zH lq)
abbrev YL:=FD P w K mg base "stall_at" 4 ["floor","place"] (ya we qR)
abbrev Xh:=FD P w K mg base "border_ahead_of_changes" 5 ["floor","place","border"] (ya we oG)
abbrev YQ:=FD P w K mg base "next_border" 6 ["floor","place","last"] (ya we lx)
abbrev YO:=FD P w K mg base "next_round" 7 ["floor","last","fresh"] (ya zH o5)
abbrev YM:=FD P w K mg base "rounds" 8 ["floor"] (ya zH o4)
abbrev Xd:=FD P w K mg base "borders" 9 ["floor"] (ya we oE)
abbrev Xj:=FD P w K mg base "alone" 10 ["floor","purse"] (ya zH oH)
variable {K mg} (T:Bt mg) (U:Xk mg)
include T U
theorem TZ (F:Fy K mg "is_whole" ir):Y_ P w K mg base:=
 yB (k:=0) F WA rfl (λ _ _ _ _ _ _=>sF λ _=>rfl) λ f Af A outer s H E hr=>⟨_,
  (zC (yb (iY (bD T (za 0 (pv 0))) (iT (Ut (bE T (za 0 (pv 0)))))))),
  (by unfold dG;exact okA)⟩
theorem T4 (F:Fy K mg "places_of" jY):da P w K mg base:=
 yB (k:=0) F W4 rfl (λ _ _ _ _ _ _=>sF λ _=>rfl) λ f Af A outer s H E hr=>⟨_,
  (zC (yb (t7 T.len (ze (zy (za 0 (pv 0)) zh) zk)))),
  (by unfold dn;exact okA)⟩
theorem Sv (F:Fy K mg "at_or_above" i5):Xi P w K mg base:=
 yB (k:=0) F WE rfl (λ _ _ _ _ _ _=>v8 λ _ _=>rfl) λ f Af A outer s H E hr=>⟨_,
  (zC (yb (iY (bG (zy (za 0 (pv 0)) zh) (zy (za 1 (pv 1)) zh)) (iT (bG (zy (za 0 (pv 0)) zh) (zy (za 1 (pv 1)) zh)))))),
  (by unfold dS;exact okA)⟩
theorem TC (F:Fy K mg "least_pairs" j_):lE P w K mg base:=
 yB (k:=0) F jU rfl (λ _ _ _ _ _ _=>sF λ _=>rfl) λ f Af A outer s H E hr=>⟨_,
  (zw (zW 1 jU.nd (wa zk))
  (zw (wN PassesOwn.never rfl (x_ (bC T.sorted (ze (za 0 (pv 0)) zk))) (yk 2 jU.nd) (zC (xn (vq.pt (pz (p0 (uf (za 1 (pv 1)))) (nq (iP hr (zy (za 2 (pv 2)) zh) (zy (zy (za 1 (pv 1)) (iU zh)) zh))))) (zC (vx (uH (za 1 (pv 1)) (za 2 (pv 2))))) xr)))
  (zC (yb (rf T.tuple (ze (za 1 (pv 1)) zk)))))),
  (by unfold dw om;exact okA)⟩
theorem T5 (F:Fy K mg "pairs_ahead_of_changes" jZ):YN P w K mg base:=
 yB (k:=0) F qf rfl (λ _ _ _ _ _ _=>qI λ _ _ _=>rfl) λ f Af A outer s H E hr=>⟨_,
  (zw (zW 3 qf.nd (zy (za 1 (pv 1)) zh))
  (zw (zW 4 qf.nd (wa zk))
  (zw (zW 5 qf.nd (zy (za 2 (pv 2)) (za 3 (pv 3))))
  (zw (zW 6 qf.nd (zy (za 2 (pv 2)) (wo zh (za 3 (pv 3)))))
  (zw (iR PassesOwn.never (b9 (za 5 (pv 5)) (zy (za 0 (pv 0)) (za 3 (pv 3)))) (zw (vx (uH (za 4 (pv 4)) (bF (vw hr (za 3 (pv 3)) zh) (yu (ze (za 5 (pv 5)) (ze (za 6 (pv 6)) zk))) (yu (ze (za 6 (pv 6)) (ze (za 5 (pv 5)) zk))))))
  (zw (zW 5 qf.nd (xh (za 5 (pv 5)) (zy (za 1 (pv 1)) zh)))
  (zC (zW 6 qf.nd (pB T.max (ze zh (ze (wo (za 6 (pv 6)) (zy (za 1 (pv 1)) zh)) zk))))))))
  (zC (yb (za 4 (pv 4))))))))),
  (by unfold dq rS;exact okA)⟩
theorem Tz (F:Fy K mg "way_alone" jW):YK P w K mg base:=
 yB (k:=0) F W3 rfl (λ _ _ _ _ _ _=>v8 λ _ _=>rfl) λ f Af A outer s H E hr=>⟨_,
  (zw (xn (vw hr (za 1 (pv 1)) zh) (zC (yb (yu (ze (zy (za 0 (pv 0)) zh) (ze (zy (za 0 (pv 0)) zh) (ze (zy (za 0 (pv 0)) zh) (ze zh zk))))))) xr)
  (zC (yb (yu (ze (zy (za 0 (pv 0)) zh) (ze (zy (za 0 (pv 0)) zh) (ze zh (ze (zy (za 0 (pv 0)) zh) zk)))))))),
  (by unfold j0;exact okA)⟩
theorem TU (F:Fy K mg "_law_cell_at" ik):YY P w K mg base:=
 yB (k:=0) F W7 rfl (λ _ _ _ _ _ _=>v8 λ _ _=>rfl) λ f Af A outer s H E hr=>⟨_,
  (zw (xn (iP hr (za 1 (pv 1)) (t7 T.len (ze (za 0 (pv 0)) zk))) (zC (yb (zy (za 0 (pv 0)) (za 1 (pv 1))))) xr)
  (zC (yb zh))),
  (by unfold dD;exact okA)⟩
theorem TH (F:Fy K mg "_law_stirred" ic):de P w K mg base:=
 yB (k:=0) F sZ rfl (λ _ _ _ _ _ _=>v8 λ _ _=>rfl) λ f Af A outer s H E hr=>⟨_,
  (zw (zW 2 sZ.nd (wa zk))
  (zw (zW 3 sZ.nd (U9 U.abs (ze (nv (za 0 (pv 0)) zh) zk)))
  (zw (xn (vw hr (yx (za 0 (pv 0)) zh) zh) (zw (wN PassesOwn.never rfl (rb T.range (ze (za 1 (pv 1)) zk)) (yk 4 sZ.nd) (zw (vx (uH (za 2 (pv 2)) (yx (za 3 (pv 3)) (qm zh zh))))
  (zC (zW 3 sZ.nd (nv (za 3 (pv 3)) (qm zh zh))))))
  (zC (yb (za 2 (pv 2))))) xr)
  (zw (zW 3 sZ.nd (xh (yx (za 3 (pv 3)) (xh (qm zh zh) zh)) zh))
  (zw (wN PassesOwn.never rfl (rb T.range (ze (za 1 (pv 1)) zk)) (yk 4 sZ.nd) (zw (zW 3 sZ.nd (yx (xh (xh (iV (za 3 (pv 3)) zh) (nv (za 3 (pv 3)) (qm zh zh))) (iV zh (za 4 (pv 4)))) (xh (qm zh zh) zh)))
  (zC (vx (uH (za 2 (pv 2)) (nv (iV (za 3 (pv 3)) (xh (nv (za 3 (pv 3)) (qm zh zh)) zh)) (qm zh zh)))))))
  (zC (yb (za 2 (pv 2))))))))),
  (yA (hX 2 (rn yZ))
  (yA (xx 3 ((vd Qz (xc ((nF (zI 0) ((zD _)).fr)).fr xH))).fe)
  (yA (sj (t8 (zZ pV ((wR (zI 0) ((zD _)).fr)).fr ((zD _)).fr).fr) (yA (pE (pF (b:=true) (xc (zI 1) xH)) (uI 4) (yA (kr 2 ((wR (zI 3) ((rm ((zD _)).fr ((zD _)).fr)).fr)).fe)
  (xx 3 ((nF (zI 3) ((rm ((zD _)).fr ((zD _)).fr)).fr)).fe)))
  (kq 2)) sg)
  (yA (xx 3 ((zZ good_add ((wR (zI 3) ((zZ good_add ((rm ((zD _)).fr ((zD _)).fr)).fr ((zD _)).fr)).fr)).fr ((zD _)).fr)).fe)
  (yA (pE (pF (b:=true) (xc (zI 1) xH)) (uI 4) (yA (xx 3 ((wR ((zZ good_add ((zZ good_add ((gh (zI 3) ((zD _)).fr)).fr ((nF (zI 3) ((rm ((zD _)).fr ((zD _)).fr)).fr)).fr)).fr ((gh ((zD _)).fr (zI 4))).fr)).fr ((zZ good_add ((rm ((zD _)).fr ((zD _)).fr)).fr ((zD _)).fr)).fr)).fe)
  (kr 2 ((nF ((gh (zI 3) ((zZ good_add ((nF (zI 3) ((rm ((zD _)).fr ((zD _)).fr)).fr)).fr ((zD _)).fr)).fr)).fr ((rm ((zD _)).fr ((zD _)).fr)).fr)).fe)))
  (kq 2))))))⟩
theorem TV (F:Fy K mg "_law_amount" il):YZ P w K mg base:=
 yB (k:=0) F W8 rfl (λ _ _ _ _ _ _=>v8 λ _ _=>rfl) λ f Af A outer s H E hr=>⟨_,
  (zC (yb (km T.min (ze zh (ze (xh (wo (yx (yx (za 0 (pv 0)) zh) (xh (pA zh (za 1 (pv 1))) zh)) (za 1 (pv 1))) (yx (wO (za 0 (pv 0)) zh) zh)) zk))))),
  (by unfold dE;exact okA)⟩
theorem TJ (F:Fy K mg "_law_sized" ie):YS P w K mg base:=
 yB (k:=0) F W6 rfl (λ _ _ _ _ _ _=>sF λ _=>rfl) λ f Af A outer s H E hr=>⟨_,
  (zC (yb (zy (wa (ze (yu (ze zh (ze zh zk))) (ze (yu (ze zh (ze zh zk))) (ze (yu (ze zh (ze zh zk))) (ze (yu (ze zh (ze zh zk))) (ze (yu (ze zh (ze zh zk))) (ze (yu (ze zh (ze zh zk))) (ze (yu (ze zh (ze zh zk))) (ze (yu (ze zh (ze zh zk))) (ze (yu (ze zh (ze zh zk))) (ze (yu (ze zh (ze zh zk))) zk))))))))))) (yx (za 0 (pv 0)) zh)))),
  (by unfold d7;exact okA)⟩
theorem TN (F:Fy K mg "_law_raised" lZ):YV P w K mg base:=
 yB (k:=0) F tm rfl (λ _ _ _ _ _ _=>Yv λ _ _ _ _=>rfl) λ f Af A outer s H E hr=>⟨_,
  (zw (zW 4 tm.nd (zy (zy (za 0 (pv 0)) zh) (za 1 (pv 1))))
  (zw (zW 5 tm.nd (wa zk))
  (zw (wN PassesOwn.never rfl (x_ (zy (za 0 (pv 0)) zh)) (p8 (n:=4) (vc (yk 6 tm.nd) (vc (yk 7 tm.nd) (vc (yk 8 tm.nd) (vc (yk 9 tm.nd) p7))))) (zC (xn (vw hr (za 6 (pv 6)) (za 2 (pv 2))) (zw (zW 10 tm.nd uG)
  (zw (xn (vq.pt (b8 (ki (zy (za 3 (pv 3)) (za 7 (pv 7))) uG) (b7 (b9 (wo (zy (za 3 (pv 3)) (za 7 (pv 7))) (zy (yu (ze (za 8 (pv 8)) (ze (za 9 (pv 9)) zk))) (za 1 (pv 1)))) (za 4 (pv 4)))))) (zC (zW 10 tm.nd (pB T.max (ze zh (ze (wo (zy (za 3 (pv 3)) (za 7 (pv 7))) (zy (yu (ze (za 8 (pv 8)) (ze (za 9 (pv 9)) zk))) (za 1 (pv 1)))) zk))))) xr)
  (zC (vx (uH (za 5 (pv 5)) (za 10 (pv 10))))))) xr)))
  (zw (ql (i:=11) (N':=["_law_coins"]) (pick:=[none]) (vo (N:=["_law_floor_here","_law_purse","_law_place","_law_need_here","_law_brim","_law_some","_law_start","_law_end","_law_first","_law_second","_law_coins","_law_known"]) (esc:=zE lZ)) rfl (x_ (za 5 (pv 5))) (λ _ _ _ _ _=>(yk 0 (by decide +kernel:List.Nodup (α:=Str) ["_law_coins"]))) (λ _ _ _ _ _=>nr (ki (za 0 (pv 0)) uG)) (λ _ _ _ _ _=>(za 0 (pv 0))) tm.nd rfl (by first | exact Or.inl rfl | exact Or.inr rfl))
  (zw (xn (vw hr (zy (zy (za 0 (pv 0)) zh) (za 2 (pv 2))) p9) (zw (xn (iP hr (t7 T.len (ze (za 11 (pv 11)) zk)) (t7 T.len (ze (za 5 (pv 5)) zk))) (zC (yb uG)) xr)
  (zC (yb (Uv T.max (ze (za 11 (pv 11)) zk))))) xr)
  (zC (yb (Uu T.min (ze (za 11 (pv 11)) zk))))))))),
  (yA (xx 4 (zZ xT ((zZ xT (zI 0) ((zD _)).fr)).er (zI 1)))
  (yA (hX 5 (rn yZ))
  (yA (pE (hZ (zZ xT (zI 0) ((zD _)).fr)) (gf (qq (uI 6) (qq (uI 7) (qq (uI 8) (qq (uI 9) h_))))) (sj (t8 (zZ pV (zI 6) (zI 2)).fr) (yA (xx 10 (nD).fe)
  (yA (sj (bR (t8 (zZ gY ((zZ xT (zI 3) (zI 7))).er (nD).fr).fr) (t8 (bP ((ug ((zZ xT (zI 3) (zI 7))).er ((zZ xT ((sk (zQ (yM 8) (zQ (yM 9) yZ)))).fr (zI 1))).er)).fr (zI 4)).fr)) (xx 10 ((vd gW (xc ((zD _)).fr (xc ((ug ((zZ xT (zI 3) (zI 7))).er ((zZ xT ((sk (zQ (yM 8) (zQ (yM 9) yZ)))).fr (zI 1))).er)).fr xH)))).fe) sg)
  (kr 5 (yM 10)))) sg))
  (yA (xx 11 ((nE (bO (zI 5)) (nC 0) (t8 (zZ gY (zI 0) (nD).fr).fr) (yM 0))).fe)
  (yA (sj (t8 (zZ pV ((zZ xT ((zZ xT (zI 0) ((zD _)).fr)).er (zI 2))).er ((kx _)).fr).fr) (yA (sj (t8 (zZ kL ((vd pU (xc (zI 11) xH))).fr ((vd pU (xc (zI 5) xH))).fr).fr) (rj nD) sg)
  (rj (vd Qv (xc (zI 11) xH)))) sg)
  (rj (vd Qu (xc (zI 11) xH))))))))⟩
theorem TL (F:Fy K mg "_law_right" ig):YU P w K mg base:=
 yB (k:=0) F jV rfl (λ _ _ _ _ _ _=>v8 λ _ _=>rfl) λ f Af A outer s H E hr=>⟨_,
  (zw (xn (vq.pt (pz (p0 (uf (Uy T (za 0 (pv 0))))) (nq (iO hr (t7 T.len (ze (za 0 (pv 0)) zk)) (t7 T.len (ze (za 1 (pv 1)) zk)))))) (zC (yb qo)) xr)
  (zw (wN PassesOwn.never rfl (Um U.zip (ze (za 0 (pv 0)) (ze (za 1 (pv 1)) zk))) (p8 (n:=2) (vc (yk 2 jV.nd) (vc (yk 3 jV.nd) p7))) (zC (xn (vq.pt (pz (iQ (za 2 (pv 2)) uG) (nq (iQ (za 3 (pv 3)) uG)))) (zC (xn (vq.pt (pz (ki (za 2 (pv 2)) uG) (nq (ki (za 3 (pv 3)) uG)))) (zC (yb qo)) xr)) (zC (xn (vq.pt (pz (p0 (uf (bD T (za 2 (pv 2))))) (pz (uf (bE T (za 2 (pv 2)))) (nq (iO hr (za 2 (pv 2)) (za 3 (pv 3))))))) (zC (yb qo)) xr)))))
  (zC (yb qo)))),
  (by unfold dA mU;exact okA)⟩
theorem TY (F:Fy K mg "is_whole_within" iq) (eO:Y_ P w K mg base):df P w K mg base:=
 yB (k:=1) F W9 rfl (λ _ _ _ _ _ _=>qI λ _ _ _=>rfl) λ f Af A outer s H E hr=>⟨_,
  (zC (yb (iY (yc eO (hr.mono (by decide)) (ze (za 0 (pv 0)) zk)) (iT (U6 hG hG fit_le fit_le wb.mo wb.mo (za 1 (pv 1)) (za 0 (pv 0)) (za 2 (pv 2))))))),
  (by unfold dF;exact okA)⟩
theorem Sj (F:Fy K mg "both" oV) (uA:lE P w K mg base):Xc P w K mg base:=
 yB (k:=1) F qg rfl (λ _ _ _ _ _ _=>v8 λ _ _=>rfl) λ f Af A outer s H E hr=>⟨_,
  (zw (zW 2 qg.nd (xh (rh (N':=["pair"]) (pick:=[none]) (vo (N:=["border","other","steps","lows","shared","first","side","second"]) (esc:=zE oV)) rfl (x_ (za 0 (pv 0))) (λ _ _ _ _ _=>(yk 0 (by decide +kernel:List.Nodup (α:=Str) ["pair"]))) (λ _ _ _ _ _=>tu) (λ _ _ _ _ _=>(yu (ze (zy (za 0 (pv 0)) zh) (ze zh (ze (zy (za 0 (pv 0)) zh) zk)))))) (rh (N':=["pair"]) (pick:=[none]) (vo (N:=["border","other","steps","lows","shared","first","side","second"]) (esc:=zE oV)) rfl (x_ (za 1 (pv 1))) (λ _ _ _ _ _=>(yk 0 (by decide +kernel:List.Nodup (α:=Str) ["pair"]))) (λ _ _ _ _ _=>tu) (λ _ _ _ _ _=>(yu (ze (zy (za 0 (pv 0)) zh) (ze zh (ze (zy (za 0 (pv 0)) zh) zk))))))))
  (zw (zW 3 qg.nd U3)
  (zw (zW 4 qg.nd (wa zk))
  (zw (wN PassesOwn.never rfl (x_ (bC T.sorted (ze (za 2 (pv 2)) zk))) (p8 (n:=3) (vc (yk 5 qg.nd) (vc (yk 6 qg.nd) (vc (yk 7 qg.nd) p7)))) (zw (Uk hr (za 3 (pv 3)) (za 6 (pv 6)) (km T.min (ze (za 7 (pv 7)) (ze (U4 hr (za 3 (pv 3)) (za 6 (pv 6)) (za 7 (pv 7))) zk))))
  (zC (xn (vw hr (U1 T.len (ze (za 3 (pv 3)) zk)) zh) (zC (vx (uH (za 4 (pv 4)) (yu (ze (za 5 (pv 5)) (ze (pB T.max (ze (bH hr (za 3 (pv 3)) zh) (ze (bH hr (za 3 (pv 3)) zh) zk))) zk)))))) xr))))
  (zC (yb (yc uA (hr.mono (by decide)) (ze (za 4 (pv 4)) zk)))))))),
  (by unfold dM mW fN fO;exact okA)⟩
theorem Sf (F:Fy K mg "either" iu) (uA:lE P w K mg base):Xb P w K mg base:=
 yB (k:=1) F WB rfl (λ _ _ _ _ _ _=>v8 λ _ _=>rfl) λ f Af A outer s H E hr=>⟨_,
  (zC (yb (yc uA (hr.mono (by decide)) (ze (xh (iW T.list (ze (za 0 (pv 0)) zk)) (iW T.list (ze (za 1 (pv 1)) zk))) zk)))),
  (by unfold dI;exact okA)⟩
theorem Ss (F:Fy K mg "border_ahead_of_way" oW) (uA:lE P w K mg base) (eX:Xi P w K mg base):Xg P w K mg base:=
 yB (k:=1) F cM rfl (λ _ _ _ _ _ _=>qI λ _ _ _=>rfl) λ f Af A outer s H E hr=>⟨_,
  (zw (ql (i:=3) (N':=["pair","way"]) (pick:=[none,some 1]) (vo (N:=["brims","way","border","pairs"]) (esc:=zE oW)) rfl (x_ (za 2 (pv 2))) (λ _ _ _ _ _=>(yk 0 (by decide +kernel:List.Nodup (α:=Str) ["pair","way"]))) (λ _ _ _ _ _=>tu) (λ _ _ _ _ _=>(yu (ze (pB T.max (ze zh (ze (wo (zy (za 0 (pv 0)) zh) (zy (za 1 (pv 1)) zh)) zk))) (ze (pB T.max (ze zh (ze (wo (zy (za 0 (pv 0)) zh) (zy (za 1 (pv 1)) zh)) zk))) zk)))) cM.nd rfl (by first | exact Or.inl rfl | exact Or.inr rfl))
  (zC (yb (yc uA (hr.mono (by decide)) (ze (rh (N':=["pair","brims"]) (pick:=[none,some 0]) (vo (N:=["brims","way","border","pairs"]) (esc:=zE oW)) rfl (x_ (za 3 (pv 3))) (λ _ _ _ _ _=>(yk 0 (by decide +kernel:List.Nodup (α:=Str) ["pair","brims"]))) (λ _ _ _ _ _=>nr (uf (yc eX (hr.mono (by decide)) (ze (za 1 (pv 1)) (ze (za 0 (pv 0)) zk))))) (λ _ _ _ _ _=>(za 0 (pv 0)))) zk))))),
  (by unfold dR mI mO;exact okA)⟩
theorem Sd (F:Fy K mg "floor_alone" ka) (eB:YK P w K mg base):Xa P w K mg base:=
 yB (k:=1) F cL rfl (λ _ _ _ _ _ _=>v8 λ _ _=>rfl) λ f Af A outer s H E hr=>⟨_,
  (zw (zW 2 cL.nd (kj hr T.sorted U.set (ze (rh (N':=["way","purse"]) (pick:=[none,some 1]) (vo (N:=["floor","purse","ways"]) (esc:=zE ka)) rfl (x_ (zy (za 0 (pv 0)) zh)) (λ _ _ _ _ _=>(yk 0 (by decide +kernel:List.Nodup (α:=Str) ["way","purse"]))) (λ _ _ _ _ _=>tu) (λ _ _ _ _ _=>(yc eB (hr.mono (by decide)) (ze (za 0 (pv 0)) (ze (za 1 (pv 1)) zk))))) zk)))
  (zC (yb (yu (ze (zy (za 0 (pv 0)) zh) (ze (zy (za 0 (pv 0)) zh) (ze (rf T.tuple (ze (za 2 (pv 2)) zk)) (ze (yu zk) zk)))))))),
  (by unfold dH mN;exact okA)⟩
theorem TF (F:Fy K mg "_law_way" ia) (ju:YZ P w K mg base):YR P w K mg base:=
 yB (k:=1) F W5 rfl (λ _ _ _ _ _ _=>Yv λ _ _ _ _=>rfl) λ f Af A outer s H E hr=>⟨_,
  (zC (yb (yu (ze (za 0 (pv 0)) (ze (yx (yx (za 2 (pv 2)) zh) (za 1 (pv 1))) (ze (yc ju (hr.mono (by decide)) (ze (yx (wO (za 2 (pv 2)) zh) zh) (ze (za 3 (pv 3)) zk))) (ze (yc ju (hr.mono (by decide)) (ze (yx (wO (za 2 (pv 2)) zh) zh) (ze (za 3 (pv 3)) zk))) zk))))))),
  (by unfold d5;exact okA)⟩
theorem TQ (F:Fy K mg "_law_need" l_) (eL:YV P w K mg base):YW P w K mg base:=
 yB (k:=1) F lS rfl (λ _ _ _ _ _ _=>v8 λ _ _=>rfl) λ f Af A outer s H E hr=>⟨_,
  (zw (zW 2 lS.nd (pA (wa (ze zh zk)) (t7 T.len (ze (zy (za 0 (pv 0)) zh) zk))))
  (zC (iR PassesOwn.never (uf qo) (zw (ql (i:=3) (N':=["_law_place","_law_floor_here","_law_purse","_law_need_here"]) (pick:=[none,some 0,some 1,some 2]) (vo (N:=["_law_floor_here","_law_purse","_law_need_here","_law_more"]) (esc:=zE l_)) rfl (rb T.range (ze (t7 T.len (ze (za 2 (pv 2)) zk)) zk)) (λ _ _ _ _ _=>(yk 0 (by decide +kernel:List.Nodup (α:=Str) ["_law_place","_law_floor_here","_law_purse","_law_need_here"]))) (λ _ _ _ _ _=>tu) (λ _ _ _ _ _=>(yc eL (hr.mono (by decide)) (ze (za 1 (pv 1)) (ze (za 2 (pv 2)) (ze (za 0 (pv 0)) (ze (za 3 (pv 3)) zk)))))) lS.nd rfl (by first | exact Or.inl rfl | exact Or.inr rfl))
  (zw (xn (vw hr (za 3 (pv 3)) (za 2 (pv 2))) (zC (yb (za 2 (pv 2)))) xr)
  (zC (zW 2 lS.nd (za 3 (pv 3))))))))),
  (yA (xx 2 ((zZ gU ((rn (zQ ((zD _)).fe yZ))).fr ((vd pU (xc ((zZ xT (zI 0) ((zD _)).fr)).er xH))).fr)).fe)
  (bM (gg ((ky _)).fr) (yA (xx 3 ((nE (pF (b:=false) (xc ((vd pU (xc (zI 2) xH))).fr xH)) (nC 0) ku ((vy (zQ (yM 1) (zQ (yM 2) (zQ (yM 0) (zQ (yM 3) yZ)))))).fe)).fe)
  (yA (sj (t8 (zZ pV (zI 3) (zI 2)).fr) (rj (yM 2)) sg)
  (xx 2 (yM 3))))))⟩
theorem TK (F:Fy K mg "_law_ring" oU) (ox:de P w K mg base):YT P w K mg base:=
 yB (k:=1) F ph rfl (λ _ _ _ _ _ _=>sF λ _=>rfl) λ f Af A outer s H E hr=>⟨_,
  (zw (zW 1 ph.nd (yc ox (hr.mono (by decide)) (ze (za 0 (pv 0)) (ze zh zk))))
  (zw (zW 2 ph.nd (xh zh (yx (zy (za 1 (pv 1)) zh) zh)))
  (zw (zW 3 ph.nd (rf T.tuple (ze (rh (N':=["_law_place","_law_xs"]) (pick:=[none,some 1]) (vo (N:=["_law_cell","_law_xs","_law_many","_law_owners","_law_ways"]) (esc:=zE oU)) rfl (rb T.range (ze (za 2 (pv 2)) zk)) (λ _ _ _ _ _=>(yk 0 (by decide +kernel:List.Nodup (α:=Str) ["_law_place","_law_xs"]))) (λ _ _ _ _ _=>tu) (λ _ _ _ _ _=>(zy (wa (ze p9 (ze p9 zk))) (yx (wO (zy (za 1 (pv 1)) zh) (xh zh (pA (za 0 (pv 0)) (za 0 (pv 0))))) zh)))) zk)))
  (zw (ql (i:=4) (N':=["_law_place","_law_many"]) (pick:=[none,some 2]) (vo (N:=["_law_cell","_law_xs","_law_many","_law_owners","_law_ways"]) (esc:=zE oU)) rfl (rb T.range (ze (wo (za 2 (pv 2)) zh) zk)) (λ _ _ _ _ _=>(yk 0 (by decide +kernel:List.Nodup (α:=Str) ["_law_place","_law_many"]))) (λ _ _ _ _ _=>tu) (λ _ _ _ _ _=>(yu (ze (za 0 (pv 0)) (ze (yx (xh (za 0 (pv 0)) zh) (za 1 (pv 1))) (ze (wo zh zh) (ze (wo (wo zh zh) (yx (za 0 (pv 0)) zh)) zk)))))) ph.nd rfl (by first | exact Or.inl rfl | exact Or.inr rfl))
  (zw (zW 4 ph.nd (xh (za 4 (pv 4)) (wa (ze (yu (ze (wo (za 2 (pv 2)) zh) (ze zh (ze (yx (zy (za 1 (pv 1)) zh) zh) (ze (yx (zy (za 1 (pv 1)) zh) zh) zk))))) (ze (yu (ze zh (ze zh (ze (wo zh zh) (ze (wo zh zh) zk))))) zk)))))
  (zC (yb (yu (ze (yu (ze zh (ze (wo zh (yx (zy (za 1 (pv 1)) zh) zh)) zk))) (ze (za 3 (pv 3)) (ze (rf T.tuple (ze (kj hr T.sorted U.set (ze (za 4 (pv 4)) zk)) zk)) (ze (yu zk) zk)))))))))))),
  (yA (xx 1 ((vy (zQ (yM 0) (zQ ((zD _)).fe yZ)))).fe)
  (yA (xx 2 ((zZ good_add ((zD _)).fr ((wR ((zZ xT (zI 1) ((zD _)).fr)).er ((zD _)).fr)).fr)).fe)
  (yA (xx 3 ((vd gT (xc ((nE (pF (b:=false) (xc (zI 2) xH)) (nC 0) ku (zZ xT ((rn (zQ ((kx _)).fe (zQ ((kx _)).fe yZ)))).fr ((wR ((nG ((zZ xT (zI 1) ((zD _)).fr)).er ((zZ good_add ((zD _)).fr ((zZ gU (zI 0) (zI 0))).fr)).fr)).fr ((zD _)).fr)).fr))).fr xH))).fe)
  (yA (xx 4 ((nE (pF (b:=false) (xc ((ug (zI 2) ((zD _)).fr)).fr xH)) (nC 0) ku ((sk (zQ (yM 0) (zQ ((wR ((zZ good_add (zI 0) ((zD _)).fr)).fr (zI 1))).fe (zQ ((ug ((zD _)).fr ((zD _)).fr)).fe (zQ ((ug ((ug ((zD _)).fr ((zD _)).fr)).fr ((wR (zI 0) ((zD _)).fr)).fr)).fe yZ)))))).fe)).fe)
  (yA (xx 4 ((zZ good_add (zI 4) ((rn (zQ ((sk (zQ ((ug (zI 2) ((zD _)).fr)).fe (zQ ((zD _)).fe (zQ ((wR ((zZ xT (zI 1) ((zD _)).fr)).er ((zD _)).fr)).fe (zQ ((wR ((zZ xT (zI 1) ((zD _)).fr)).er ((zD _)).fr)).fe yZ)))))).fe (zQ ((sk (zQ ((zD _)).fe (zQ ((zD _)).fe (zQ ((ug ((zD _)).fr ((zD _)).fr)).fe (zQ ((ug ((zD _)).fr ((zD _)).fr)).fe yZ)))))).fe yZ)))).fr)).fe)
  (rj (sk (zQ ((sk (zQ ((zD _)).fe (zQ ((ug ((zD _)).fr ((wR ((zZ xT (zI 1) ((zD _)).fr)).er ((zD _)).fr)).fr)).fe yZ)))).fe (zQ (yM 3) (zQ ((vd gT (xc ((vd Zp (xc (zI 4) xH))).fr xH))).fe (zQ ((sk yZ)).fe yZ)))))))))))⟩
theorem Sh (F:Fy K mg "check_place" iw) (oy:df P w K mg base) (qQ:da P w K mg base):dg P w K mg base:=
 yB (k:=2) F WC rfl (λ _ _ _ _ _ _=>v8 λ _ _=>rfl) λ f Af A outer s H E hr=>⟨_,
  (zC (xn (p0 (uf (yc oy (hr.mono (by decide)) (ze (za 1 (pv 1)) (ze zh (ze (wo (yc qQ (hr.mono (by decide)) (ze (za 0 (pv 0)) zk)) zh) zk)))))) (zC bA) xr)),
  (by unfold dJ;exact okA)⟩
theorem So (F:Fy K mg "border_of_either" iz) (eQ:Xb P w K mg base):Xe P w K mg base:=
 yB (k:=2) F lT rfl (λ _ _ _ _ _ _=>sF λ _=>rfl) λ f Af A outer s H E hr=>⟨_,
  (zw (zW 1 lT.nd (yu zk))
  (zw (wN PassesOwn.never rfl (x_ (za 0 (pv 0))) (yk 2 lT.nd) (zC (zW 1 lT.nd (yc eQ (hr.mono (by decide)) (ze (za 1 (pv 1)) (ze (za 2 (pv 2)) zk))))))
  (zC (yb (za 1 (pv 1)))))),
  (by unfold dP mX;exact okA)⟩
theorem Sq (F:Fy K mg "border_of_all" i3) (eR:Xc P w K mg base):Xf P w K mg base:=
 yB (k:=2) F lU rfl (λ _ _ _ _ _ _=>sF λ _=>rfl) λ f Af A outer s H E hr=>⟨_,
  (zw (zW 1 lU.nd (yu (ze (yu (ze zh (ze zh zk))) zk)))
  (zw (wN PassesOwn.never rfl (x_ (za 0 (pv 0))) (yk 2 lU.nd) (zC (zW 1 lU.nd (yc eR (hr.mono (by decide)) (ze (za 1 (pv 1)) (ze (za 2 (pv 2)) zk))))))
  (zC (yb (za 1 (pv 1)))))),
  (by unfold dQ mY;exact okA)⟩
theorem TR (F:Fy K mg "_law_floor" ij) (ox:de P w K mg base) (js:YR P w K mg base):YX P w K mg base:=
 yB (k:=2) F vZ rfl (λ _ _ _ _ _ _=>qI λ _ _ _=>rfl) λ f Af A outer s H E hr=>⟨_,
  (zw (zW 3 vZ.nd (yc ox (hr.mono (by decide)) (ze (za 0 (pv 0)) (ze zh zk))))
  (zw (zW 4 vZ.nd (xh zh (yx (zy (za 3 (pv 3)) zh) (za 1 (pv 1)))))
  (zw (zW 5 vZ.nd (wa zk))
  (zw (zW 6 vZ.nd (wa zk))
  (zw (zW 7 vZ.nd (wa zk))
  (zw (wN PassesOwn.never rfl (rb T.range (ze (za 4 (pv 4)) zk)) (yk 8 vZ.nd) (zw (zW 9 vZ.nd (zy (za 3 (pv 3)) (xh zh (pA zh (za 8 (pv 8))))))
  (zw (vx (uH (za 5 (pv 5)) (zy (wa (ze p9 (ze p9 zk))) (yx (za 9 (pv 9)) zh))))
  (zw (zW 10 vZ.nd (zy (wa (ze zh (ze zh (ze zh (ze zh zk))))) (yx (wO (za 9 (pv 9)) zh) zh)))
  (zw (wN PassesOwn.never rfl (rb T.range (ze (xh zh (yx (wO (za 9 (pv 9)) zh) zh)) zk)) (yk 11 vZ.nd) (zC (vx (uH (za 6 (pv 6)) (yc js (hr.mono (by decide)) (ze (za 8 (pv 8)) (ze (za 4 (pv 4)) (ze (zy (za 3 (pv 3)) (xh (xh zh (pA zh (za 8 (pv 8)))) (za 11 (pv 11)))) (ze (za 10 (pv 10)) zk)))))))))
  (zC (xn (vq.pt (b8 (vw hr (zy (za 5 (pv 5)) (za 8 (pv 8))) p9) (b7 (vw hr (yx (wO (za 9 (pv 9)) zh) zh) zh)))) (zC (vx (uH (za 7 (pv 7)) (yu (ze (za 8 (pv 8)) (ze (yx (wO (za 9 (pv 9)) zh) zh) (ze (xh zh (yx (wO (za 9 (pv 9)) zh) zh)) (ze (yx (wO (za 9 (pv 9)) zh) zh) zk)))))))) xr)))))))
  (zw (xn (vw hr (yx (wO (zy (za 3 (pv 3)) zh) zh) zh) zh) (zC (wN PassesOwn.never rfl (rb T.range (ze (km T.min (ze zh (ze (wo zh (t7 T.len (ze (za 6 (pv 6)) zk))) zk))) zk)) (yk 11 vZ.nd) (zC (vx (uH (za 6 (pv 6)) (yc js (hr.mono (by decide)) (ze (yx (yx (wO (zy (za 3 (pv 3)) zh) zh) zh) (za 4 (pv 4))) (ze (za 4 (pv 4)) (ze (zy (za 3 (pv 3)) (xh zh (za 11 (pv 11)))) (ze zh zk)))))))))) xr)
  (zw (zW 12 vZ.nd (yu (ze (yx (zy (za 3 (pv 3)) zh) (xh (za 2 (pv 2)) zh)) (ze (yx (wO (zy (za 3 (pv 3)) zh) zh) (xh (za 2 (pv 2)) zh)) zk))))
  (zC (yb (yu (ze (za 12 (pv 12)) (ze (rf T.tuple (ze (za 5 (pv 5)) zk)) (ze (rf T.tuple (ze (kj hr T.sorted U.set (ze (za 6 (pv 6)) zk)) zk)) (ze (rf T.tuple (ze (za 7 (pv 7)) zk)) zk))))))))))))))),
  (by unfold dB mR qH mV;exact okA)⟩
theorem Tx (F:Fy K mg "ways_from" lW) (oz:dg P w K mg base):YJ P w K mg base:=
 yB (k:=3) F W2 rfl (λ _ _ _ _ _ _=>v8 λ _ _=>rfl) λ f Af A outer s H E hr=>⟨_,
  (zw (vx (yc oz (hr.mono (by decide)) (ze (za 0 (pv 0)) (ze (za 1 (pv 1)) zk))))
  (zC (yb (rh (N':=["number","way","place"]) (pick:=[none,none,some 1]) (vo (N:=["floor","place"]) (esc:=zE lW)) rfl (bB U.enumerate (ze (zy (za 0 (pv 0)) zh) zk)) (λ _ _ _ _ _=>(p8 (n:=2) (vc (yk 0 (by decide +kernel:List.Nodup (α:=Str) ["number","way","place"])) (vc (yk 1 (by decide +kernel:List.Nodup (α:=Str) ["number","way","place"])) p7)))) (λ _ _ _ _ _=>nr (vw hr (zy (za 1 (pv 1)) zh) (za 2 (pv 2)))) (λ _ _ _ _ _=>(za 0 (pv 0))))))),
  (by unfold di mJ;exact okA)⟩
theorem T2 (F:Fy K mg "stall_at" jX) (oz:dg P w K mg base):YL P w K mg base:=
 yB (k:=3) F cK rfl (λ _ _ _ _ _ _=>v8 λ _ _=>rfl) λ f Af A outer s H E hr=>⟨_,
  (zw (vx (yc oz (hr.mono (by decide)) (ze (za 0 (pv 0)) (ze (za 1 (pv 1)) zk))))
  (zw (wN PassesOwn.never rfl (x_ (zy (za 0 (pv 0)) zh)) (yk 2 cK.nd) (zC (xn (vw hr (zy (za 2 (pv 2)) zh) (za 1 (pv 1))) (zC (yb (za 2 (pv 2)))) xr)))
  (zC (yb uG)))),
  (by unfold dk oj;exact okA)⟩
theorem Su (F:Fy K mg "border_ahead_of_changes" i4) (eC:YL P w K mg base) (uA:lE P w K mg base) (eE:YN P w K mg base):Xh P w K mg base:=
 yB (k:=4) F lV rfl (λ _ _ _ _ _ _=>qI λ _ _ _=>rfl) λ f Af A outer s H E hr=>⟨_,
  (zw (zW 3 lV.nd (yc eC (hr.mono (by decide)) (ze (za 0 (pv 0)) (ze (za 1 (pv 1)) zk))))
  (zw (xn (iQ (za 3 (pv 3)) uG) (zC (yb (za 2 (pv 2)))) xr)
  (zw (zW 4 lV.nd (wa zk))
  (zw (wN PassesOwn.never rfl (x_ (za 2 (pv 2))) (yk 5 lV.nd) (zC (vx (Uw (za 4 (pv 4)) (yc eE (hr.mono (by decide)) (ze (zy (za 0 (pv 0)) zh) (ze (za 3 (pv 3)) (ze (za 5 (pv 5)) zk))))))))
  (zC (yb (yc uA (hr.mono (by decide)) (ze (za 4 (pv 4)) zk)))))))),
  (by unfold j4 mZ;exact okA)⟩
theorem T9 {jE:Value}(F:Fy K mg "next_border" oT) (ma:mg "KEEPER"=some jE) (iD:L2.RelV (.str "keeper") jE) (eU:Xf P w K mg base) (eV:Xg P w K mg base) (eW:Xh P w K mg base) (eA:YJ P w K mg base) (eT:Xe P w K mg base):YQ P w K mg base:=
 yB (k:=5) F jT rfl (λ _ _ _ _ _ _=>qI λ _ _ _=>rfl) λ f Af A outer s H E hr=>⟨_,
  (zw (ql (i:=3) (N':=["number","floor"]) (pick:=[none,some 0]) (vo (N:=["floor","place","last","ways","ahead"]) (esc:=zE oT)) rfl (x_ (yc eA (hr.mono (by decide)) (ze (za 0 (pv 0)) (ze (za 1 (pv 1)) zk)))) (λ _ _ _ _ _=>(yk 0 (by decide +kernel:List.Nodup (α:=Str) ["number","floor"]))) (λ _ _ _ _ _=>tu) (λ _ _ _ _ _=>(zy (zy (za 1 (pv 1)) zh) (za 0 (pv 0)))) jT.nd rfl (by first | exact Or.inl rfl | exact Or.inr rfl))
  (zw (ql (i:=4) (N':=["way","floor","last"]) (pick:=[none,some 0,some 2]) (vo (N:=["floor","place","last","ways","ahead"]) (esc:=zE oT)) rfl (x_ (za 3 (pv 3))) (λ _ _ _ _ _=>(yk 0 (by decide +kernel:List.Nodup (α:=Str) ["way","floor","last"]))) (λ _ _ _ _ _=>tu) (λ _ _ _ _ _=>(yc eV (hr.mono (by decide)) (ze (zy (za 1 (pv 1)) zh) (ze (za 0 (pv 0)) (ze (zy (za 2 (pv 2)) (zy (za 0 (pv 0)) zh)) zk))))) jT.nd rfl (by first | exact Or.inl rfl | exact Or.inr rfl))
  (zw (xn (vw hr (zy (zy (za 0 (pv 0)) zh) (za 1 (pv 1))) (Uz ma iD)) (zC (yb (yc eW (hr.mono (by decide)) (ze (za 0 (pv 0)) (ze (za 1 (pv 1)) (ze (yc eT (hr.mono (by decide)) (ze (za 4 (pv 4)) zk)) zk)))))) xr)
  (zC (yb (yc eU (hr.mono (by decide)) (ze (za 4 (pv 4)) zk))))))),
  (by unfold du mH mL;exact okA)⟩
theorem T7 (F:Fy K mg "next_round" lY) (eG:YQ P w K mg base):YO P w K mg base:=
 yB (k:=6) F jS rfl (λ _ _ _ _ _ _=>qI λ _ _ _=>rfl) λ f Af A outer s H E hr=>⟨_,
  (zw (zW 3 jS.nd (iW T.list (ze (za 1 (pv 1)) zk)))
  (zw (wN PassesOwn.never rfl (x_ (kj hr T.sorted U.set (ze (rh (N':=["way","fresh"]) (pick:=[none,some 2]) (vo (N:=["floor","last","fresh","following","place"]) (esc:=zE lY)) rfl (x_ (zy (za 0 (pv 0)) zh)) (λ _ _ _ _ _=>(yk 0 (by decide +kernel:List.Nodup (α:=Str) ["way","fresh"]))) (λ _ _ _ _ _=>nr (Uh hr (zy (za 0 (pv 0)) zh) (za 1 (pv 1)))) (λ _ _ _ _ _=>(zy (za 0 (pv 0)) zh))) zk))) (yk 4 jS.nd) (zC (Uj (za 3 (pv 3)) (za 4 (pv 4)) (yc eG (hr.mono (by decide)) (ze (za 0 (pv 0)) (ze (za 4 (pv 4)) (ze (za 1 (pv 1)) zk)))))))
  (zC (yb (za 3 (pv 3)))))),
  (by unfold dr mT mK;exact okA)⟩
theorem T3 (F:Fy K mg "rounds" lX) (eF:YO P w K mg base) (qQ:da P w K mg base):YM P w K mg base:=
 yB (k:=7) F pd rfl (λ _ _ _ _ _ _=>sF λ _=>rfl) λ f Af A outer s H E hr=>⟨_,
  (zw (zW 1 pd.nd (wa (ze (pA (wa (ze (yu (ze (yu (ze zh (ze zh zk))) zk)) zk)) (yc qQ (hr.mono (by decide)) (ze (za 0 (pv 0)) zk))) zk)))
  (zw (zW 2 pd.nd (Ux T.list T.range (ze (yc qQ (hr.mono (by decide)) (ze (za 0 (pv 0)) zk)) zk)))
  (zw (iR PassesOwn.never (uf (za 2 (pv 2))) (zw (zW 3 pd.nd (zy (za 1 (pv 1)) (iU zh)))
  (zw (zW 4 pd.nd (yc eF (hr.mono (by decide)) (ze (za 0 (pv 0)) (ze (za 3 (pv 3)) (ze (za 2 (pv 2)) zk)))))
  (zw (ql (i:=2) (N':=["place","border","last"]) (pick:=[none,none,some 3]) (vo (N:=["floor","told","fresh","last","following"]) (esc:=zE lX)) rfl (bB U.enumerate (ze (za 4 (pv 4)) zk)) (λ _ _ _ _ _=>(p8 (n:=2) (vc (yk 0 (by decide +kernel:List.Nodup (α:=Str) ["place","border","last"])) (vc (yk 1 (by decide +kernel:List.Nodup (α:=Str) ["place","border","last"])) p7)))) (λ _ _ _ _ _=>nr (iO hr (za 1 (pv 1)) (zy (za 2 (pv 2)) (za 0 (pv 0))))) (λ _ _ _ _ _=>(za 0 (pv 0))) pd.nd rfl (by first | exact Or.inl rfl | exact Or.inr rfl))
  (zC (xn (uf (za 2 (pv 2))) (zC (vx (uH (za 1 (pv 1)) (za 4 (pv 4))))) xr))))))
  (zC (yb (za 1 (pv 1))))))),
  (by unfold dm uS og;exact okA)⟩
theorem Sk (F:Fy K mg "borders" iy) (eD:YM P w K mg base):Xd P w K mg base:=
 yB (k:=8) F WD rfl (λ _ _ _ _ _ _=>sF λ _=>rfl) λ f Af A outer s H E hr=>⟨_,
  (zC (yb (zy (yc eD (hr.mono (by decide)) (ze (za 0 (pv 0)) zk)) (iU zh)))),
  (by unfold dN;exact okA)⟩
theorem Sz (F:Fy K mg "alone" kc) (oy:df P w K mg base) (eS:Xd P w K mg base) (eP:Xa P w K mg base):Xj P w K mg base:=
 yB (k:=9) F WG rfl (λ _ _ _ _ _ _=>v8 λ _ _=>rfl) λ f Af A outer s H E hr=>⟨_,
  (zw (xn (p0 (uf (yc oy (hr.mono (by decide)) (ze (za 1 (pv 1)) (ze zh (ze zh zk)))))) (zC bA) xr)
  (zC (yb (rf T.tuple (ze (rh (N':=["border","purse"]) (pick:=[none,some 1]) (vo (N:=["floor","purse"]) (esc:=zE kc)) rfl (x_ (yc eS (hr.mono (by decide)) (ze (yc eP (hr.mono (by decide)) (ze (za 0 (pv 0)) (ze (za 1 (pv 1)) zk))) zk))) (λ _ _ _ _ _=>(yk 0 (by decide +kernel:List.Nodup (α:=Str) ["border","purse"]))) (λ _ _ _ _ _=>tu) (λ _ _ _ _ _=>(bF (uf (za 0 (pv 0))) (zy (zy (za 0 (pv 0)) zh) (za 1 (pv 1))) uG))) zk))))),
  (by unfold dU mP;exact okA)⟩
theorem TX {f:Addr}{fd:FuncData}(F:uU K "law" "law" ip f fd) (lp:YY P w K mg base) (eI:YS P w K mg base) (eN:YX P w K mg base) (eJ:YT P w K mg base) (eK:YU P w K mg base) (eY:Xj P w K mg base) (eM:YW P w K mg base):uB P w K mg base vG 11 f fd ["_law_script"] (tX K (ya zH oD)):=
 Zz (k:=10) F tp rfl λ Af A outer s H E hr=>⟨_,
  (zw (zW 1 tp.nd (yc lp (hr.mono (by decide)) (ze (za 0 (pv 0)) (ze zh zk))))
  (zw (Ul (yc eI (hr.mono (by decide)) (ze (za 1 (pv 1)) zk)) (p8 (n:=2) (vc (yk 2 tp.nd) (vc (yk 3 tp.nd) p7))))
  (zw (wN PassesOwn.never rfl (Uo T.range (ze zh (ze (pB T.max (ze zh (ze (km T.min (ze (t7 T.len (ze (za 0 (pv 0)) zk)) (ze zh zk))) zk))) (ze zh zk)))) (yk 4 tp.nd) (zw (zW 5 tp.nd (yc lp (hr.mono (by decide)) (ze (za 0 (pv 0)) (ze (za 4 (pv 4)) zk))))
  (zw (zW 6 tp.nd (yc lp (hr.mono (by decide)) (ze (za 0 (pv 0)) (ze (xh (za 4 (pv 4)) zh) zk))))
  (zw (zW 7 tp.nd (yc eN (hr.mono (by decide)) (ze (za 5 (pv 5)) (ze (za 2 (pv 2)) (ze (zy (wa (ze (za 3 (pv 3)) (ze zh zk))) (yx (za 6 (pv 6)) zh)) zk)))))
  (zw (xn (vw hr (yx (wO (za 6 (pv 6)) zh) zh) zh) (zC (zW 7 tp.nd (yc eJ (hr.mono (by decide)) (ze (za 5 (pv 5)) zk)))) xr)
  (zC (wN PassesOwn.never rfl (x_ (wa (ze (yx (wO (za 1 (pv 1)) zh) zh) (ze (wo zh (yx (wO (za 1 (pv 1)) zh) zh)) zk)))) (yk 8 tp.nd) (zC (xn (p0 (uf (yc eK (hr.mono (by decide)) (ze (yc eY (hr.mono (by decide)) (ze (za 7 (pv 7)) (ze (za 8 (pv 8)) zk))) (ze (yc eM (hr.mono (by decide)) (ze (za 7 (pv 7)) (ze (za 8 (pv 8)) zk))) zk))))) (zC (yb qo)) xr)))))))))
  (zC (yb qo))))),
  (yA (xx 1 (vy (zQ (yM 0) (zQ ((zD _)).fe yZ))))
  (yA (bN (vy (zQ (yM 1) yZ)) (gf (qq (uI 2) (qq (uI 3) h_))))
  (yA (pE (Ts (b:=true) (xc ((zD _)).fr (xc ((vd gW (xc ((zD _)).fr (xc ((vd Zr (xc ((vd pU (xc (zI 0) xH))).fr (xc ((zD _)).fr xH)))).fr xH)))).fr (xc ((zD _)).fr xH)))) (uI 4) (yA (xx 5 (vy (zQ (yM 0) (zQ (yM 4) yZ))))
  (yA (xx 6 (vy (zQ (yM 0) (zQ ((zZ good_add (zI 4) ((zD _)).fr)).fe yZ))))
  (yA (xx 7 ((vy (zQ (yM 5) (zQ (yM 2) (zQ (zZ xT ((rn (zQ (yM 3) (zQ ((zD _)).fe yZ)))).fr ((wR (zI 6) ((zD _)).fr)).fr) yZ))))).fe)
  (yA (sj (t8 (zZ pV ((wR ((nG (zI 6) ((zD _)).fr)).fr ((zD _)).fr)).fr ((zD _)).fr).fr) (xx 7 ((vy (zQ (yM 5) yZ))).fe) sg)
  (pE (hZ ((rn (zQ ((wR ((nG (zI 1) ((zD _)).fr)).fr ((zD _)).fr)).fe (zQ ((ug ((zD _)).fr ((wR ((nG (zI 1) ((zD _)).fr)).fr ((zD _)).fr)).fr)).fe yZ)))).fe) (uI 8) (sj (bQ (gg ((vy (zQ ((vy (zQ (yM 7) (zQ (yM 8) yZ)))).fe (zQ (vy (zQ (yM 7) (zQ (yM 8) yZ))) yZ)))).fr)) (rj (ky _)) sg)))))))
  (rj (ky _)))))⟩
end
def Ow {l:PySem.W.OpenLaw}{w:World}{K:Ac}{h:Heap}{mg:Str->Option Value}{fa:Addr}(X:K.In h) (G:h.Ns mainGlobals mg) (Er:mg "law"=some (.ref fa))
  (h0:Fx K "is_whole" ir) (h1:Fx K "is_whole_within" iq) (h2:Fx K "places_of" jY) (h3:Fx K "check_place" iw) (h4:Fx K "ways_from" lW) (h5:Fx K "stall_at" jX) (h6:Fx K "at_or_above" i5) (h7:Fx K "least_pairs" j_) (h8:Fx K "both" oV) (h9:Fx K "either" iu) (h10:Fx K "border_ahead_of_way" oW) (h11:Fx K "pairs_ahead_of_changes" jZ) (h12:Fx K "border_ahead_of_changes" i4) (h13:Fx K "border_of_either" iz) (h14:Fx K "border_of_all" i3) (h15:Fx K "next_border" oT) (h16:Fx K "next_round" lY) (h17:Fx K "rounds" lX) (h18:Fx K "borders" iy) (h19:Fx K "way_alone" jW) (h20:Fx K "floor_alone" ka) (h21:Fx K "alone" kc) (h22:Fx K "_law_cell_at" ik) (h23:Fx K "_law_stirred" ic) (h24:Fx K "_law_amount" il) (h25:Fx K "_law_way" ia) (h26:Fx K "_law_floor" ij) (h27:Fx K "_law_sized" ie) (h28:Fx K "_law_raised" lZ) (h29:Fx K "_law_need" l_) (h30:Fx K "_law_right" ig) (h31:Fx K "_law_ring" oU) (h32:Fx K "law" ip)
  (ma:Cn K "KEEPER" (.str "keeper"))
  (y0:PySem.W.nsIn K mainGlobals "set"=some none) (y1:PySem.W.nsIn K mainGlobals "zip"=some none) (y2:PySem.W.nsIn K mainGlobals "enumerate"=some none) (y3:PySem.W.nsIn K mainGlobals "abs"=some none)
  (z0:PySem.W.nsIn K mainGlobals "len"=some none) (z1:PySem.W.nsIn K mainGlobals "range"=some none) (z2:PySem.W.nsIn K mainGlobals "any"=some none) (z3:PySem.W.nsIn K mainGlobals "all"=some none) (z4:PySem.W.nsIn K mainGlobals "sorted"=some none) (z5:PySem.W.nsIn K mainGlobals "isinstance"=some none) (z6:PySem.W.nsIn K mainGlobals "bool"=some none) (z7:PySem.W.nsIn K mainGlobals "int"=some none) (z8:PySem.W.nsIn K mainGlobals "str"=some none) (z9:PySem.W.nsIn K mainGlobals "list"=some none) (z10:PySem.W.nsIn K mainGlobals "tuple"=some none) (z11:PySem.W.nsIn K mainGlobals "max"=some none) (z12:PySem.W.nsIn K mainGlobals "min"=some none):
  ∃ fd:FuncData,(∀ (s:Shared) (v:Value),BindsTo s fd ⟨[v],[]⟩ [("_law_script",v)])/\∀ base:Heap,K.In base->base.Ns mainGlobals mg->uB l.prog w K mg base vG 11 fa fd ["_law_script"] (tX K (ya zH oD)):=by
 have T:Bt mg:=⟨A6 X G z0,A6 X G z1,A6 X G z2,A6 X G z3,A6 X G z4,A6 X G z5,A6 X G z6,A6 X G z7,A6 X G z8,A6 X G z9,A6 X G z10,A6 X G z11,A6 X G z12⟩
 have U:Xk mg:=⟨⟨A6 X G y0,A6 X G y1,A6 X G y2⟩,A6 X G y3⟩
 obtain⟨jE,ma,iD⟩:=ma.mk X G;obtain⟨fd,Fl,hb⟩:=h32.law X G Er λ _ _ _ _ _ _ _ _=>.of_eq rfl;refine⟨fd,hb,λ base _ _=>?_⟩;have eO:=TZ l.prog w base T U (h0.mk X G);have qQ:=T4 l.prog w base T U (h2.mk X G);have eX:=Sv l.prog w base T U (h6.mk X G);have uA:=TC l.prog w base T U (h7.mk X G);have eE:=T5 l.prog w base T U (h11.mk X G);have eB:=Tz l.prog w base T U (h19.mk X G);have lp:=TU l.prog w base T U (h22.mk X G);have ox:=TH l.prog w base T U (h23.mk X G);have ju:=TV l.prog w base T U (h24.mk X G);have eI:=TJ l.prog w base T U (h27.mk X G);have eL:=TN l.prog w base T U (h28.mk X G);have eK:=TL l.prog w base T U (h30.mk X G);have oy:=TY l.prog w base T U (h1.mk X G) eO;have eR:=Sj l.prog w base T U (h8.mk X G) uA;have eQ:=Sf l.prog w base T U (h9.mk X G) uA;have eV:=Ss l.prog w base T U (h10.mk X G) uA eX;have eP:=Sd l.prog w base T U (h20.mk X G) eB;have js:=TF l.prog w base T U (h25.mk X G) ju;have eM:=TQ l.prog w base T U (h29.mk X G) eL;have eJ:=TK l.prog w base T U (h31.mk X G) ox;have oz:=Sh l.prog w base T U (h3.mk X G) oy qQ;have eT:=So l.prog w base T U (h13.mk X G) eQ;have eU:=Sq l.prog w base T U (h14.mk X G) eR;have eN:=TR l.prog w base T U (h26.mk X G) ox js;have eA:=Tx l.prog w base T U (h4.mk X G) oz;have eC:=T2 l.prog w base T U (h5.mk X G) oz;have eW:=Su l.prog w base T U (h12.mk X G) eC uA eE;have eG:=T9 l.prog w base T U (h15.mk X G) ma iD eU eV eW eA eT;have eF:=T7 l.prog w base T U (h16.mk X G) eG;have eD:=T3 l.prog w base T U (h17.mk X G) eF qQ;have eS:=Sk l.prog w base T U (h18.mk X G) eD;have eY:=Sz l.prog w base T U (h21.mk X G) oy eS eP;exact TX l.prog w base T U Fl lp eI eN eJ eK eY eM
def Xu {l:PySem.W.OpenLaw}{q:Program}{loose:List Str}{XP:(Str->Option Value)->Heap->Prop}{YP:World->Heap->Prop}{d:DefRec}{K:Params->Ac}(hn:l.most=some 63) (Dd:d.params.defaults=[])
  (hY:∀ (w:World) (h:Heap),YP w h->(K w.params).In h)
  (F:∀ (w:World) (mg:Str->Option Value) (fa:Addr) (h:Heap),(K w.params).In h->h.Ns mainGlobals mg->mg d.name=some (.ref fa)->
   ∃ fd:FuncData,(∀ (s:Shared) (u:Value),BindsTo s fd ⟨[u],[]⟩ [("_law_script",u)])/\∀ base:Heap,(K w.params).In base->base.Ns mainGlobals mg->uB l.prog w (K w.params) mg base vG 11 fa fd ["_law_script"] (tX (K w.params) (ya zH oD))):
  PySem.W.WalkO q loose XP YP l.row.toRowW d [] (λ f vs=>PySem.call f vs):=
 L2.Xt (n:=63) (k:=11) (x:="_law_script") (CX:=λ _=>vG) (sp:=λ w=>tX (K w.params) (ya zH oD)) hn (by decide) Dd ⟨rfl,by decide,by decide⟩ hY F (λ _ _ a ns hl hO hS=>R7 R5 hO hS hl) λ _ _ _ _ _ z=>z
end y4
open PySem PySem.W PyProof.Rows
set_option maxRecDepth 100000 in
set_option maxHeartbeats 0 in
theorem PySem.Challenge.cw_purseborder_k51_one_purse_holds : PySem.Challenge.rw_purseborder_k51_one_purse.Holds := by
 w_on;o_law;k_head;(case hw=>w_witness2)
 k_fill
 refine y4.Xu (l:=PySem.Challenge.rw_purseborder_k51_one_purse) rfl rfl (λ w h Y=>PySem.W.kIn_of Y) ?F
 case F=>
  intro w mg fa h KX G C5;refine' y4.Ow KX G C5 ?_ ?_ ?_ ?_ ?_ ?_ ?_ ?_ ?_ ?_ ?_ ?_ ?_ ?_ ?_ ?_ ?_ ?_ ?_ ?_ ?_ ?_ ?_ ?_ ?_ ?_ ?_ ?_ ?_ ?_ ?_ ?_ ?_ ?_ ?_ ?_ ?_ ?_ ?_ ?_ ?_ ?_ ?_ ?_ ?_ ?_ ?_ ?_ ?_ ?_ ?_
  all_goals first | exact L5.Fx.i (by k_is) (by k_is) (by k_is) (by k_is) | k_is | exact L5.Cn.i (by k_is) (by exact⟨_,rfl⟩)
