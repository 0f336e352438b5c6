import PyProof.Rows.All
import Wide.All
import OpenK.AllK
import Wide.FinOn
import Lean
import PyProof.EqAt
import PyProof.EqKinds
import PyProof.TupleCall
import PySem.SetOps
import PyProof.SetScanFacts
import PyProof.TupleKey
import PyProof.SetKind
import PyProof.SetRoads
import PyProof.IsRules
import PyProof.ZipIter
import PyProof.TupleIter
import PyProof.ListMulRoad
import PyProof.FactsAll.tuple
import PyProof.ListRange
import PyProof.Draws
import PyProof.EnumFor
import PyProof.Rows.ListMul
import PyProof.AutoListH
import PySem.Challenge.RW_purseborder_k43_deeds_and_ways_told
set_option Elab.async false
set_option linter.all false
set_option maxRecDepth 100000
set_option genSizeOf false
noncomputable section
def A4:=@List.not_mem_nil
def A7:=@Nat.lt_or_ge
def A9:=@List.map_nil
def Bg:=@List.nodup_cons
def Bf:=@List.any_cons
def Br:=@List.filterMap_cons
def Bp:=@List.pairwise_cons
def Bw:=@List.lookup_cons
def Bv:=@Nat.lt_succ_of_lt
def BC:=@Bool.false_ne_true
def BB:=@List.ext_getElem
def BA:=@Int.natCast_succ
def BN:=@List.replicate_succ
def BW:=@Nat.ne_of_gt
def BV:=@List.mem_iff_getElem
def BU:=@List.find?_cons
def BS:=@List.mem_flatMap
def Cj:=@List.mem_append_left
def Ci:=@List.flatten_cons
def Cg:=@Bool.and_false
def Cf:=@List.pairwise_map
def Ce:=@Nat.le_add_right
def Cd:=@Int.add_mul
def Cv:=@List.getElem?_append_left
def Cu:=@List.pairwise_iff_getElem
def Ct:=@Array.getElem_toList
def Cs:=@Int.mul_nonneg
def Cr:=@List.mem_nil_iff
def CO:=@List.append_nil
def CN:=@List.map_congr_left
def CM:=@Array.getElem?_eq_none
def CL:=@Int.toNat_natCast
def CK:=@List.mem_of_find?_eq_some
def CJ:=@Int.natCast_add
def Dh:=@List.length_take
def Dg:=@List.getElem?_append_right
def Df:=@List.getElem?_replicate
def De:=@List.length_nil
def Dd:=@Nat.lt_trans
def Dc:=@List.getElem?_eq_none
def C_:=@Array.size_map
def C9:=@Nat.le_succ
def C8:=@List.range_succ_eq_map
def C7:=@Nat.mod_lt
def C6:=@List.getElem?_cons_succ
def C5:=@List.toList_toArray
def C4:=@Int.zero_add
def C3:=@Nat.zero_add
def C2:=@List.length_filter_le
def DV:=@List.getElem?_eq_none_iff
def DU:=@List.mem_filterMap
def DT:=@Option.isSome_iff_exists
def DS:=@List.length_set
def DR:=@List.forIn_cons
def DQ:=@List.getElem?_set
def DP:=@Array.getD_eq_getD_getElem?
def DN:=@Bool.and_self
def DM:=@Nat.mul_comm
def DL:=@List.nodup_range
def DJ:=@List.pairwise_append
def DI:=@Nat.lt_trichotomy
def DH:=@List.find?_eq_none
def DG:=@Array.getElem?_setIfInBounds
def DF:=@List.foldl_cons
def DE:=@List.mem_iff_getElem?
def DD:=@List.map_take
def DC:=@List.map_drop
def DB:=@List.zipIdx_cons
def DA:=@Bool.or_eq_true
def Dz:=@Bool.not_eq_true
def Ed:=@List.of_mem_zip
def Ec:=@List.length_drop
def Eb:=@List.getElem_range
def Ea:=@List.mem_erase_of_ne
def D_:=@List.length_erase_of_mem
def D9:=@List.length_pos_of_mem
def D8:=@List.take_append_drop
def D7:=@List.getElem?_range
def D6:=@List.perm_ext_iff_of_nodup
def D5:=@List.nodup_append
def D4:=@List.append_assoc
def D3:=@List.length_pos_iff
def D2:=@List.pairwise_singleton
def D1:=@List.range_succ
def zcC:=@Int.mul_le_mul_of_nonneg_right
def zcD:=@List.mem_zipIdx_iff_getElem?
def Aq:=@List.size_toArray
def AG:=@List.getElem?_eq_getElem
def AL:=@List.getElem?_eq_some_iff
def Aw:=@List.getElem?_map
def Ag:=@Nat.le_refl
def Ah:=@List.mem_cons
def Ar:=@List.map_cons
def Az:=@List.length_map
def Ao:=@PySem.Heap.lt_size
def AF:=@PySem.Heap.get?_push_size
def Ap:=@List.mem_map
def AK:=@List.getD_eq_getElem?_getD
def AD:=@Bool.not_false
def Ax:=@Nat.ne_of_lt
def AZ:=@List.mem_append_right
def AB:=@Bool.not_true
def AO:=@List.mem_singleton
def AX:=@List.mem_of_getElem?
def Bk:=@Array.getElem?_eq_getElem
def AU:=@List.mem_append
def AY:=@List.length_cons
def AE:=@List.mem_range
def Bc:=@PySem.W.mg_none_of
def Bb:=@Nat.lt_of_lt_of_le
def Ba:=@Bool.false_eq_true
def Bz:=@List.length_range
def AI:=@Int.le_refl
def A6:=@Bool.eq_iff_iff
def A0:=@List.mem_filter
def A_:=@Option.bind_some
def AR:=@List.any_eq_true
def Ac:=@PySem.wpAny_pure
def Bo:=@Array.length_toList
def Bx:=@Array.getElem?_toList
def AN:=@Nat.zero_le
def A5:=@Option.some.inj
def AW:=@List.map_map
def Ck:=@List.length_append
def Bj:=@List.getElem_mem
def Bi:=@Nat.le_trans
def BX:=@Nat.lt_irrefl
def Cz:=@Nat.lt_succ_self
def BE:=@Nat.le_of_lt
def BD:=@List.all_eq_true
def BP:=@Bool.and_eq_true
def Bh:=@List.map_append
def BO:=@Int.emod_nonneg
def Cy:=@Int.emod_lt_of_pos
def Cw:=@Int.toNat_of_nonneg
abbrev Ad:=PySem.W.Frag
noncomputable def Ab:=@PySem.wpAny_bind
noncomputable def An:=@PySem.Heap.get?_push_of_some
def Aj {α β:Type}{x:Option α}{f:α->Option β}{b:β} (h:x.bind f=some b):∃ a,x=some a/\f a=some b:=Option.bind_eq_some_iff.mp h
def AA {α β:Type}{x:Option α}{f:α->β}{b:β} (h:x.map f=some b):∃ a,x=some a/\f a=b:=Option.map_eq_some_iff.mp h
def Am {α:Type}{a:α}{l:List α}:a∈a::l:=List.mem_cons_self
def Av {α:Type} (y:α) {a:α}{l:List α} (h:a∈l):a∈y::l:=List.mem_cons_of_mem y h
namespace L2
open PySem PySem.Spec PyProof.Rows
abbrev Key:=Sum Int Str
noncomputable def o5:Key->Value->Bool
 | .inl k,v=>Value.isInt k v
 | .inr x,v=>Value.isStrOf x v
noncomputable def O6 (w:World):Key->Int
 | .inl k=>hashInt k
 | .inr x=>hashStr w x
theorem sQ:∀ {k:Key}{v:Value},o5 k v=true->(∃ i t,k=Sum.inl i/\v=Value.int i t)\/(∃ x t,k=Sum.inr x/\v=Value.str x t)
 | .inl i,v,h=>by
  obtain⟨t,e⟩:=Value.isInt_shape (k:=i) (v:=v) h;exact .inl ⟨i,t,rfl,e⟩
 | .inr x,v,h=>by
  obtain⟨t,e⟩:=Value.isStrOf_shape (x:=x) (v:=v) h;exact .inr ⟨x,t,rfl,e⟩
def O5 (i:Int) (t:Tok):o5 (.inl i) (.int i t)=true:=by simp[o5,Value.isInt]
def O4 (x:Str) (t:Tok):o5 (.inr x) (.str x t)=true:=by simp[o5,Value.isStrOf]
def O3 (a b:Int):decide ((Sum.inl a:Key)=Sum.inl b)=(a == b):=by
 by_cases e:a=b
 .subst e;simp
 .have h:¬ (Sum.inl a:Key)=Sum.inl b:=λ q=>e (Sum.inl.inj q);rw[decide_eq_false h];exact (beq_eq_false_iff_ne.mpr e).symm
def O0 (a b:Str):decide ((Sum.inr a:Key)=Sum.inr b)=decide (a=b):=by
 by_cases e:a=b
 .subst e;simp
 .have h:¬ (Sum.inr a:Key)=Sum.inr b:=λ q=>e (Sum.inr.inj q);rw[decide_eq_false h,decide_eq_false e]
def O2 (a:Int) (b:Str):decide ((Sum.inl a:Key)=Sum.inr b)=false:=decide_eq_false (λ q=>nomatch q)
def O1 (a:Str) (b:Int):decide ((Sum.inr a:Key)=Sum.inl b)=false:=decide_eq_false (λ q=>nomatch q)
def vf (prog:Program) (w:World):PySem.KeyKind prog w Key where
 is:=o5
 hash:=O6 w
 inj:=λ v a b ha hb=>by
  rcases sQ ha with ⟨i,t,rfl,rfl⟩ | ⟨x,t,rfl,rfl⟩
  .rcases sQ hb with ⟨j,u,rfl,e⟩ | ⟨y,u,rfl,e⟩
   .injection e with e1 _;rw[e1]
   .exact nomatch e
  .rcases sQ hb with ⟨j,u,rfl,e⟩ | ⟨y,u,rfl,e⟩
   .exact nomatch e
   .injection e with e1 _;rw[e1]
 byValue:=λ k v h=>by
  rcases sQ h with ⟨i,t,rfl,rfl⟩ | ⟨x,t,rfl,rfl⟩ <;> rfl
 pyHash:=λ hv h=>by
  rcases sQ hv with ⟨i,t,rfl,rfl⟩ | ⟨x,t,rfl,rfl⟩
  .exact wpAny_pyHash_int h
  .exact wpAny_pyHash_str h
 eqBool:=λ hu hv h=>by
  rcases sQ hu with ⟨i,t,rfl,rfl⟩ | ⟨x,t,rfl,rfl⟩
  .rcases sQ hv with ⟨j,u,rfl,rfl⟩ | ⟨y,u,rfl,rfl⟩
   .rw[O3] at h;exact wpAny_eqBool_int h
   .rw[O2] at h;exact SeqAt.EqAt.int_str i t y u _ _ _ _ h
  .rcases sQ hv with ⟨j,u,rfl,rfl⟩ | ⟨y,u,rfl,rfl⟩
   .rw[O1] at h;exact SeqAt.EqAt.str_int x t j u _ _ _ _ h
   .rw[O0] at h;exact wpAny_eqBool_str h
 «strs»:=λ k x t v h=>by
  rcases sQ h with ⟨i,u,rfl,e⟩ | ⟨y,u,rfl,e⟩
  .exact nomatch e
  .injection e with e1 _
   subst e1;cases v <;> rfl
def PN (prog:Program) (w:World) (i:Int) (t:Tok):(vf prog w).is (.inl i) (.int i t)=true:=O5 i t
def PM (prog:Program) (w:World) (x:Str) (t:Tok):(vf prog w).is (.inr x) (.str x t)=true:=O4 x t
inductive V where
 | zh | bl (b:Bool) | int (i:Int) | str (x:Str) | oP (b:Array UInt8) | jt (b:UInt64) | ref (a:Addr) | ty (n:String)
 deriving DecidableEq
noncomputable def RelV:V->Value->Prop
 | .zh,u=>u=Value.none
 | .bl b,u=>u=Value.bool b
 | .int i,u=>∃ t,u=Value.int i t
 | .str x,u=>∃ t,u=Value.str x t
 | .oP b,u=>∃ t,u=Value.bytes b t
 | .jt b,u=>∃ t,u=Value.float b t
 | .ref a,u=>u=Value.ref a
 | .ty n,u=>u=Value.type n
abbrev Vals:List V->List Value->Prop:=Paired RelV
theorem Vals.length {xs:List V}{us:List Value}(r:Vals xs us):xs.length=us.length:=Paired.length r
theorem Vals.get:∀ {xs:List V}{us:List Value}{i:Nat}{x:V},Vals xs us->xs[i]?=some x->∃ u,us[i]?=some u/\RelV x u
 | _,_,_,_,.nil,e=>by simp at e
 | _,_,0,_,.cons r _,e=>by simp at e;subst e;exact⟨_,rfl,r⟩
 | _,_,i+1,x,.cons _ t,e=>by
  obtain⟨u,h1,h2⟩:=Vals.get (i:=i) (x:=x) t (by simpa using e);exact⟨u,by simpa using h1,h2⟩
theorem Vals.set {x:V}{u:Value}(r:RelV x u):∀ {xs:List V}{us:List Value}(i:Nat),Vals xs us->Vals (xs.set i x) (us.set i u)
 | _,_,_,.nil=>.nil
 | _,_,0,.cons _ t=>.cons r t
 | _,_,i+1,.cons q t=>.cons q (Vals.set r i t)
theorem Vals.append:∀ {xs ys:List V}{us ws:List Value},Vals xs us->Vals ys ws->Vals (xs++ys) (us++ws)
 | _,_,_,_,.nil,s=>s
 | _,_,_,_,.cons r t,s=>.cons r (Vals.append t s)
theorem Vals.take:∀ {xs:List V}{us:List Value}(n:Nat),Vals xs us->Vals (xs.take n) (us.take n)
 | _,_,0,_=>.nil
 | _,_,_+1,.nil=>.nil
 | _,_,n+1,.cons r t=>.cons r (Vals.take n t)
theorem Vals.drop:∀ {xs:List V}{us:List Value}(n:Nat),Vals xs us->Vals (xs.drop n) (us.drop n)
 | _,_,0,r=>r
 | _,_,_+1,.nil=>.nil
 | _,_,n+1,.cons _ t=>Vals.drop n t
def Vals.none_of:∀ {xs:List V}{us:List Value}{i:Nat},Vals xs us->xs[i]?=none->us[i]?=none:=λ{xs us i} r e=>by
 have h1:=r.length;have h2:xs.length<=i:=DV.mp e;exact DV.mpr (by lia)
noncomputable def uH:Option V->Option Value->Prop
 | some v,some u=>RelV v u
 | none,none=>True
 | _,_=>False
def KV {κ:Type}:List (κ × V)->List (κ × Value)->Prop:=Paired λ(p:κ × V) (q:κ × Value)=>p.1=q.1/\RelV p.2 q.2
noncomputable def kV:Key->V
 | .inl i=>.int i
 | .inr x=>.str x
inductive HO where
  | lst (xs:List V)
  | tup (xs:List V)
  | dK (Aa:List (Key×V)) | dT (Aa:List (List Key×V))
  | set (S:Int->Bool) (n:Nat)
  | ins (C dx:Addr) (fs:List (Str×V))
  | own (x:Addr)
  | xd (fs:List (Str×V))
  | met (f x:Addr)
  | gK (lo hi:Int)
  | wK (o:Obj) (u:HO)
  | q8 (ps:Array Value)
  | ext (φ:Heap->Prop)
abbrev Hp:=Addr->Option HO
noncomputable def upd (H:Hp) (a:Addr) (o:HO):Hp:=λ b=>if b=a then some o else H b
def yK {H:Hp}{a:Addr}{o:HO}:upd H a o a=some o:=by unfold upd;rw[if_pos rfl]
def yV {H:Hp}{a b:Addr}{o:HO}(h:b≠a):upd H a o b=H b:=by unfold upd;rw[if_neg h]
def my {H:Hp}{a b:Addr}{o u:HO}(h:H a=some o) (h':H b=some u) (d:o≠u):a≠b:=by
 intro e;subst e;rw[h] at h';exact d (A5 h')
def rQ {H:Hp}{a b:Addr}{o:HO}(h:H a=some o) (h':H b=none):a≠b:=by
 intro e;subst e;rw[h] at h';cases h'
section
variable (P:Program) (w:World)
noncomputable def x8 (H:Hp) (h:Heap) (a:Addr):HO->Prop
 | .lst xs=>xs.length<=sizeLine/\∃ (its:List Value) (n:Nat),Vals xs its/\h.get? a=some { cls:=.type "list",data:=.seq its.toArray n }
 | .tup xs=>xs.length<=sizeLine/\∃ its:List Value,Vals xs its/\IsTup h a its.toArray
 | .dK Aa=>Aa.length<=sizeLine/\(a == sysModules)=false/\∃ vs,KV Aa vs/\h.DictOf (vf P w) a vs
 | .dT Aa=>Aa.length<=sizeLine/\(a == sysModules)=false/\∃ xs:List (List Key×Addr×Value),
   Paired (λ(p:List Key×V) (q:List Key×Addr×Value)=>p.1=q.1/\H q.2.1=some (.tup (p.1.map kV))/\RelV p.2 q.2.2) Aa xs/\
   ∃ o es ep,h.get? a=some o/\o.ExactDict/\o.data=.dict es ep/\es.toList=xs.map (entryOfKey (tupleKind (vf P w)))/\(xs.map (·.1)).Nodup
 | .set S n=>h.SetOf (intKind P w) a S n
 | .ins C dx fs=>H dx=some (.own a)/\fs.length<=1000/\dx≠a/\h.get? a=some (PySem.W.instObj C dx)/\
   ∃ mA,h.Ns1 dx mA/\(∀ f,uH (fs.lookup f) (mA f))/\PySem.Within mA (fs.map (·.1))
 | .own _=>∃ o,h.get? a=some o
 | .xd fs=>∃ mA,h.Ns1 a mA/\∀ f,uH (fs.lookup f) (mA f)
 | .gK lo hi=>∃ t u v,h.get? a=some { cls:=.type "range",data:=.fields #[.int lo t,.int hi u,.int 1 v] }
 | .wK o u=>h.get? a=some o/\x8 H h a u
 | .q8 ps=>h.get? a=some { cls:=.none,data:=.fields ps }
 | .met f x=>h.get? a=some (PySem.W.methodObj (.ref f) (.ref x))
 | .ext φ=>φ h/\(∃ o,h.get? a=some o)/\∀ h1 h2:Heap,φ h1->(∀ o,h1.get? a=some o->h2.get? a=some o)->φ h2
def xl (H:Hp) (h:Heap):Prop:=∀ a o,H a=some o->x8 P w H h a o
end
section
variable {P:Program}{w:World}{H H':Hp}{h h':Heap}{a:Addr}{o:HO}
theorem x8.lt (x:x8 P w H h a o):a<h.objs.size:=by
 cases o with
 | lst xs=>obtain⟨_,_,_,_,e⟩:=x;exact Ao e
 | tup xs=>obtain⟨_,_,_,p⟩:=x;exact p.lt
 | dK Aa=>obtain⟨_,_,_,_,o,_,_,e,_⟩:=x;exact Ao e
 | dT Aa=>obtain⟨_,_,_,_,o,_,_,e,_⟩:=x;exact Ao e
 | set S n=>obtain⟨o,_,_,_,e,_⟩:=x;exact Ao e
 | ins C dx fs=>obtain⟨_,_,_,e,_⟩:=x;exact Ao e
 | own y=>obtain⟨_,e⟩:=x;exact Ao e
 | xd fs=>obtain⟨_,⟨_,_,_,e,_⟩,_⟩:=x;exact Ao e
 | gK lo hi=>obtain⟨_,_,_,e⟩:=x;exact Ao e
 | wK ob u=>obtain⟨e,_⟩:=x;exact Ao e
 | q8 ps=>exact Ao (show h.get? a=some _ from x)
 | met f y=>exact Ao (show h.get? a=some _ from x)
 | ext φ=>obtain⟨_,⟨_,e⟩,_⟩:=x;exact Ao e
theorem Paired.jd {α β:Type}{F G:α->β->Prop}:∀ {l₁:List α}{l₂:List β},Paired F l₁ l₂->(∀ a b,F a b->G a b)->Paired G l₁ l₂
 | _,_,.nil,_=>.nil
 | _,_,.cons r t,f=>.cons (f _ _ r) (Paired.jd t f)
def x8.sk (x:x8 P w H h a o) (k:∀ b u,(b=a\/H b=some (.own a))->h.get? b=some u->h'.get? b=some u)
  (ho:∀ b,H b=some (.own a)->H' b=some (.own a)) (ht:∀ b xs,H b=some (.tup xs)->H' b=some (.tup xs)):x8 P w H' h' a o:=by
 induction o with
 | lst xs=>obtain⟨z,its,n,r,e⟩:=x;exact⟨z,its,n,r,k _ _ (.inl rfl) e⟩
 | tup xs=>obtain⟨z,its,r,ob,e,c⟩:=x;exact⟨z,its,r,ob,k _ _ (.inl rfl) e,c⟩
 | dK Aa=>obtain⟨z,y,vs,r,ob,es,ep,e,c⟩:=x;exact⟨z,y,vs,r,ob,es,ep,k _ _ (.inl rfl) e,c⟩
 | dT Aa=>
  obtain⟨z,y,xs,r,ob,es,ep,e,c⟩:=x;exact⟨z,y,xs,Paired.jd r λ p q z=>⟨z.1,ht _ _ z.2.1,z.2.2⟩,ob,es,ep,k _ _ (.inl rfl) e,c⟩
 | set S n=>obtain⟨ob,es,ep,t,e,c⟩:=x;exact⟨ob,es,ep,t,k _ _ (.inl rfl) e,c⟩
 | ins C dx fs=>
  obtain⟨d,z,ne,e,mA,⟨od,es,ep,e2,c⟩,r⟩:=x;exact⟨ho _ d,z,ne,k _ _ (.inl rfl) e,mA,⟨od,es,ep,k _ _ (.inr d) e2,c⟩,r⟩
 | own y=>obtain⟨ob,e⟩:=x;exact⟨ob,k _ _ (.inl rfl) e⟩
 | xd fs=>obtain⟨mA,⟨od,es,ep,e,c⟩,r⟩:=x;exact⟨mA,⟨od,es,ep,k _ _ (.inl rfl) e,c⟩,r⟩
 | gK lo hi=>obtain⟨t,u,v,e⟩:=x;exact⟨t,u,v,k _ _ (.inl rfl) e⟩
 | wK ob u ih=>obtain⟨e,q⟩:=x;exact⟨k _ _ (.inl rfl) e,ih q⟩
 | q8 ps=>
  have e:h.get? a=some { cls:=.none,data:=.fields ps }:=x;show h'.get? a=some { cls:=.none,data:=.fields ps };exact k a _ (.inl rfl) e
 | met f y=>
  have e:h.get? a=some (PySem.W.methodObj (.ref f) (.ref y)):=x;show h'.get? a=some (PySem.W.methodObj (.ref f) (.ref y));exact k a _ (.inl rfl) e
 | ext φ=>obtain⟨p,⟨o,e⟩,st⟩:=x;exact⟨st _ _ p λ o q=>k _ _ (.inl rfl) q,⟨o,k _ _ (.inl rfl) e⟩,st⟩
theorem xl.lt (x:xl P w H h) (e:H a=some o):a<h.objs.size:=(x a o e).lt
def xl.fresh (x:xl P w H h) (e:h.objs.size<=a):H a=none:=by
 cases q:H a with
 | none=>rfl
 | some u=>exact absurd (Bb (x.lt q) e) (BX _)
def xl.kept (x:xl P w H h) (k:∀ b u,h.get? b=some u->h'.get? b=some u):xl P w H h':=λ a o e=>
 (x a o e).sk (λ b u _ q=>k b u q) (λ _ q=>q) λ _ _ q=>q
def xl.laid (x:xl P w H h) (k:∀ b u,h.get? b=some u->h'.get? b=some u) (hp:h.objs.size<=a) (new:x8 P w (upd H a o) h' a o):xl P w (upd H a o) h':=λ b u e=>by
 have hn:=x.fresh hp;by_cases hb:b=a
 .subst hb;rw[yK] at e;cases e;exact new
 .rw[yV hb] at e;exact (x b u e).sk (λ c v _ q=>k c v q) (λ c q=>by rw[yV (rQ q hn)];exact q) λ c xs q=>by rw[yV (rQ q hn)];exact q
end
def Rd (H:Hp) (a:Addr) (u:HO):Prop:=H a=some u\/∃ o,H a=some (.wK o u)
def Rd.ok {P:Program}{w:World}{H:Hp}{h:Heap}{a:Addr}{u:HO}(r:Rd H a u) (x:xl P w H h):x8 P w H h a u:=by
 rcases r with r | ⟨o,r⟩
 .exact x a u r
 .obtain⟨_,q⟩:=x a _ r;exact q
noncomputable def lG:Option HO->Prop
 | some (.lst _)=>True
 | some (.dK _)=>True
 | some (.dT _)=>True
 | some (.set _ _)=>True
 | some (.ins _ _ _)=>True
 | some (.ext _)=>True
 | _=>False
section
variable {P:Program}{w:World}{H:Hp}{h h':Heap}{x e:Addr}{o':HO}
def xl.write (ok:xl P w H h) (mu:lG (H x)) (he:e=x\/H e=some (.own x)) (k:∀ b u,b≠e->h.get? b=some u->h'.get? b=some u) (CZ:∃ u,h'.get? e=some u)
  (new:x8 P w (upd H x o') h' x o'):xl P w (upd H x o') h':=λ b u q=>by
 have nown:∀ c y,H c=some (.own y)->c≠x:=λ c y r z=>by subst z;rw[r] at mu;exact mu
 have ntup:∀ c xs,H c=some (.tup xs)->c≠x:=λ c xs r z=>by subst z;rw[r] at mu;exact mu
 by_cases hb:b=x
 .subst hb;rw[yK] at q;cases q;exact new
 .rw[yV hb] at q;by_cases BM:b=e
  .have q':H b=some (.own x):=by
    rcases he with z | z
    .exact absurd (BM.trans z) hb
    .rw[BM];exact z
   rw[q] at q';cases q';obtain⟨v,hv⟩:=CZ;exact⟨v,by rw[BM];exact hv⟩
  .refine (ok b u q).sk (λ c v hc r=>k c v ?_ r) (λ c r=>by rw[yV (nown c b r)];exact r) λ c xs r=>by rw[yV (ntup c xs r)];exact r
   rcases hc with rfl | hc
   .exact BM
   .rintro rfl;rcases he with z | z
    .exact nown c b hc z
    .rw[hc] at z;cases z;exact hb rfl
end
structure Un (fs ex:List Addr) (H H':Hp) (h h':Heap):Prop where
 keep:∀ b o,h.get? b=some o->H b=none->b∉fs->b∉ex->h'.get? b=some o
 slot:∀ b o,h.get? b=some o->H b=none->b∈fs->b∉ex->∃ sl,h'.get? b=some { o with slots:=sl }
 free:∀ b o,h.get? b=some o->H b=none->b∉ex->H' b=none
 there:∀ b o,h.get? b=some o->b∉ex->∃ o',h'.get? b=some o'
 tu:∀ b xs,H b=some (.tup xs)->H' b=some (.tup xs)
 sT:∀ b o u,H b=some (.wK o u)->H' b=some (.wK o u)
 rH:∀ b ps,H b=some (.q8 ps)->∃ more,H' b=some (.q8 (ps++more))
section
variable {fs fs' ex ex':List Addr}{H H1 H2:Hp}{h h1 h2 h':Heap}{a x e:Addr}{o:HO}
def Un.any (u:Un fs ex H H1 h h1) {b:Addr}{ob:Obj}(q:h.get? b=some ob) (n:H b=none) (hx:b∉ex):∃ sl,h1.get? b=some { ob with slots:=sl }:=by
 by_cases hb:b∈fs
 .exact u.slot b ob q n hb hx
 .exact⟨ob.slots,u.keep b ob q n hb hx⟩
def Un.kept (k:∀ b u,h.get? b=some u->h'.get? b=some u):Un fs ex H H h h':=
 ⟨λ b ob q _ _ _=>k b ob q,λ b ob q _ _ _=>⟨ob.slots,k b ob q⟩,λ _ _ _ n _=>n,λ b ob q _=>⟨ob,k b ob q⟩,λ _ _ q=>q,λ _ _ _ q=>q,λ _ ps q=>⟨#[],by rw[q];simp⟩⟩
def Un.refl:Un fs ex H H h h:=Un.kept λ _ _ q=>q
def Un.laid (k:∀ b u,h.get? b=some u->h'.get? b=some u) (hp:h.objs.size<=a) (hn:H a=none):Un fs ex H (upd H a o) h h' where
 keep:=λ b u q _ _ _=>k b u q
 slot:=λ b u q _ _ _=>⟨u.slots,k b u q⟩
 free:=λ b u q n _=>by rw[yV (Ax (Bb (Ao q) hp))];exact n
 there:=λ b u q _=>⟨u,k b u q⟩
 tu:=λ b xs q=>by rw[yV (rQ q hn)];exact q
 sT:=λ b u xs q=>by rw[yV (rQ q hn)];exact q
 rH:=λ b ps q=>⟨#[],by rw[yV (rQ q hn),q];simp⟩
def Un.write (mu:lG (H x)) (he:e=x\/H e=some (.own x)) (k:∀ b u,b≠e->h.get? b=some u->h'.get? b=some u) (CZ:∃ u,h'.get? e=some u):Un fs ex H (upd H x o) h h':=by
 have hx:∀ b,H b=none->b≠x:=λ b n z=>by subst z;rw[n] at mu;exact mu
 have hb:∀ b,H b=none->b≠e:=λ b n z=>by
  subst z;rcases he with r | r
  .exact hx b n r
  .rw[n] at r;cases r
 have hm:∀ b u,H b=some u->¬ lG (some u)->b≠x:=λ b u q nm z=>by subst z;rw[q] at mu;exact nm mu
 refine⟨λ b u q n _ _=>k b u (hb b n) q,λ b u q n _ _=>⟨u.slots,k b u (hb b n) q⟩,λ b u q n _=>by rw[yV (hx b n)];exact n,λ b u q _=>?_,
  λ b xs q=>by rw[yV (hm b _ q λ z=>z)];exact q,λ b u xs q=>by rw[yV (hm b _ q λ z=>z)];exact q,λ b ps q=>⟨#[],by rw[yV (hm b _ q λ z=>z),q];simp⟩⟩
 by_cases BM:b=e
 .subst BM;exact CZ
 .exact⟨u,k b u BM q⟩
end
noncomputable def km (h:Heap) (H:Hp):List Addr:=(List.range h.objs.size).filter λ a=>(H a).isSome
def sR (h:Heap) (H:Hp):Heap:=PySem.W.hideAll h (km h H)
def OV (h:Heap) (H:Hp):(sR h H).objs.size=h.objs.size:=PySem.W.hideAll_size _ _
def OW {h:Heap}{H:Hp}{b:Addr}{o:Obj}(e:h.get? b=some o) (n:H b=none):(sR h H).get? b=some o:=
 PySem.W.hideAll_get _ e λ hm=>by
  have q:(H b).isSome=true:=(A0.mp hm).2;rw[n] at q;simp at q
def Po {h:Heap}{H:Hp}{b:Addr}{o:Obj}(e:(sR h H).get? b=some o):h.get? b=some o/\H b=none:=by
 have e':h.get? b=some o:=PySem.W.of_hideAll (km h H) e;refine⟨e',?_⟩;cases q:H b with
 | none=>rfl
 | some x=>
  have hm:b∈km h H:=A0.mpr ⟨AE.mpr (Ao e'),by simp[q]⟩;have z:(sR h H).get? b=none:=PySem.W.hideAll_none (km h H) hm;rw[z] at e;cases e
structure Mod (K:Ad) (mg:Str->Option Value) (base:Heap):Prop where
 fP:K.In base
 glob:base.Ns mainGlobals mg
 blt:∃ mb,base.Ns builtinsNs mb/\∀ x:Str,x≠"__name__"->mb x=bootBuiltins x
 nolimit:base.NoLimit
structure Cx where
 prog:Program
 w:World
 K:Ad
 mg:Str->Option Value
 base:Heap
 A:Around
 N:List Str
 s₀:Shared
 H₀:Hp
 env:Env
 outer:List Env
 stack:List Env
 ex:List Addr
 fn:Str->Bool
 calm:Bool
 pn:List (Addr×Obj)
 xe:Value->Shared->Prop
noncomputable def vZ (l:List Env):List Addr:=l.filterMap (·.frame)
abbrev Cx.fs (X:Cx):List Addr:=vZ X.outer
def d9 (sc:Scope) (x:Str):Prop:=sc.names.lookup x=some .local\/sc.names.lookup x=some .cell\/sc.names.lookup x=some .free
def Loc (sc:Scope) (x:Str):Prop:=sc.names.lookup x=some .local\/sc.names.lookup x=some .cell
def Look (env:Env) (h:Heap) (m:Str->Option Value) (x:Str) (u:Value):Prop:=
 (env.kindOf x=some .local/\m x=some u)\/((env.kindOf x=some .cell\/env.kindOf x=some .free)/\∃ c,env.cells.lookup x=some c/\h.IsCell c (some u))
structure Cx.Ok (X:Cx):Prop where
 mod:Mod X.K X.mg X.base
 kind:X.env.scope.kind=.function
 glob:X.env.globals=mainGlobals
 blt:X.env.builtins=builtinsNs
 above:X.s₀.heap.objs.size<=X.env.locals
 inj:∀ x y c,X.env.cells.lookup x=some c->X.env.cells.lookup y=some c->x=y
 has:∀ x,(X.env.kindOf x=some .cell\/X.env.kindOf x=some .free)->∃ c,X.env.cells.lookup x=some c
 lb:∀ x c,X.fn x=true->X.env.cells.lookup x=some c->X.s₀.heap.objs.size<=c
 hd:X.calm=true->X.A.handled=none
 frames:X.A.frames=some X.stack
 kx:X.stack=X.outer\/(X.stack=X.env::X.outer/\X.env.frame=some X.env.locals)
 eG:∀ b∈X.ex,b≠X.env.locals/\∀ x c,X.env.cells.lookup x=some c->c≠b
 bs:∀ b o,X.base.get? b=some o->X.s₀.heap.get? b=some o/\X.H₀ b=none
 qZ:X.base.objs.size<=X.s₀.heap.objs.size
 mv:∀ b o,X.base.get? b=some o->b∉X.ex
 mM:∀ b∈X.ex,b∉X.fs
 uT:X.s₀.heap.FunFrames X.base X.outer
 oG:∀ b∈X.fs,X.H₀ b=none
structure Inv (X:Cx) (pins:List (Addr×Obj)) (B:List (Option V)) (H:Hp) (s:Shared):Prop where
 ok:X.Ok
 os:s.os=X.s₀.os
 bare:AllBare s.gens
 base:Un X.fs X.ex X.H₀ H X.s₀.heap s.heap
 loc:∃ m,s.heap.Ns X.env.locals m/\∀ (i:Nat) (x:Str) (v:V),X.N[i]?=some x->B[i]?=some (some v)->d9 X.env.scope x->∃ u,RelV v u/\Look X.env s.heap m x u
 cell:∀ x c,X.env.cells.lookup x=some c->∃ v,s.heap.IsCell c v
 free:H X.env.locals=none
 tH:∀ x c,X.env.cells.lookup x=some c->H c=none
 pin:∀ p∈X.pn++pins,s.heap.get? p.1=some p.2/\H p.1=none/\p.1≠X.env.locals/\p.1∉X.fs/\∀ v,p.2.data≠.cell v
 zC:xl X.prog X.w H s.heap
 len:B.length=X.N.length
section
variable {X:Cx}{pins:List (Addr×Obj)}{B:List (Option V)}{H H':Hp}{s:Shared}{h':Heap}
def Cx.Ok.Pu (ok:X.Ok) {b:Addr}{o:Obj}(e:X.base.get? b=some o):b∉X.fs:=λ hb=>by
 have:=(ok.uT.mem hb).1;rw[e] at this;cases this
theorem Inv.bs (I:Inv X pins B H s):∀ b o,X.base.get? b=some o->s.heap.get? b=some o/\H b=none:=λ b o e=>
 ⟨I.base.keep b o (I.ok.bs b o e).1 (I.ok.bs b o e).2 (I.ok.Pu e) (I.ok.mv b o e),I.base.free b o (I.ok.bs b o e).1 (I.ok.bs b o e).2 (I.ok.mv b o e)⟩
def Inv.bk (I:Inv X pins B H s):∀ b o,X.base.get? b=some o->s.heap.get? b=some o:=λ b o e=>(I.bs b o e).1
theorem Inv.mod (I:Inv X pins B H s):Mod X.K X.mg X.base:=I.ok.mod
def Inv.vW (I:Inv X pins B H s):X.K.In s.heap:=I.ok.mod.fP.keeps I.bk
theorem Inv.lt (I:Inv X pins B H s):X.env.locals<s.heap.objs.size:=let ⟨_,hn,_⟩:=I.loc;hn.lt
def Inv.sz (I:Inv X pins B H s):X.s₀.heap.objs.size<=s.heap.objs.size:=Bi I.ok.above (BE I.lt)
def Inv.ZF (I:Inv X pins B H s) {a:Addr}(h:s.heap.objs.size<=a):a∉X.fs:=λ hb=>by
 obtain⟨_,o,ho,_⟩:=I.ok.uT.mem hb;exact absurd (Bb (Ao ho) (Bi I.sz h)) (BX _)
def Inv.qX (I:Inv X pins B H s):∀ x c,X.env.cells.lookup x=some c->c≠X.env.locals:=λ x c e z=>by
 obtain⟨v,o,ho,hd⟩:=I.cell x c e;obtain⟨m,⟨o',es,ep,ho',hd',_⟩,_⟩:=I.loc;rw[z,ho'] at ho;cases ho;rw[hd'] at hd;cases hd
theorem Inv.uT (I:Inv X pins B H s):s.heap.FunFrames X.base X.outer:=by
 have all:∀ (l:List Env),(∀ b∈vZ l,b∈X.fs)->X.s₀.heap.FunFrames X.base l->s.heap.FunFrames X.base l:=by
  intro l
  induction l with
  | nil=>intro _ _;trivial
  | cons env r ih=>
   intro hs hl;obtain⟨hk,⟨L,o,hf,hn,ho,hd⟩,hr⟩:=hl;have hL:L∈X.fs:=hs L (by unfold vZ;rw[Br,hf];exact Am);obtain⟨sl,e⟩:=I.base.slot L o ho (I.ok.oG L hL) hL λ z=>I.ok.mM L z hL;exact⟨hk,⟨L,_,hf,hn,e,hd⟩,ih (λ b hb=>hs b (by unfold vZ;rw[Br,hf];exact Av _ hb)) hr⟩
 exact all X.outer (λ _ hb=>hb) I.ok.uT
theorem Inv.stack (I:Inv X pins B H s):s.heap.FunFrames X.base X.stack:=by
 rcases I.ok.kx with e | ⟨e,hf⟩
 .rw[e];exact I.uT
 .rw[e];obtain⟨m,hn,_⟩:=I.loc;refine .cons (by rw[I.ok.kind];decide) hf hn ?_ I.uT;exact Heap.get?_none_of_le (Bi I.ok.qZ I.ok.above)
def Inv.i9 (I:Inv X pins B H s):∀ b∈vZ X.stack,b∈X.env.locals::X.fs:=λ b hb=>by
 rcases I.ok.kx with e | ⟨e,hf⟩
 .rw[e] at hb;exact Av _ hb
 .rw[e] at hb;unfold vZ at hb;rw[Br,hf] at hb;exact hb
def Inv.ae (I:Inv X pins B H s):∀ b∈vZ X.stack,H b=none:=λ b hb=>by
 rcases Ah.mp (I.i9 b hb) with e | hb
 .rw[e];exact I.free
 .obtain⟨_,o,ho,_⟩:=I.ok.uT.mem hb;exact I.base.free b o ho (I.ok.oG b hb) λ z=>I.ok.mM b z hb
def Inv.step {g':Array GenState}{t':Nat}{d':Drawn}{ch:List Addr}(I:Inv X pins B H s)
  (BR:∀ b∈ch,(b∈X.ex\/X.s₀.heap.objs.size<=b)/\b≠X.env.locals/\(∀ x c,X.env.cells.lookup x=some c->c≠b)/\∀ p∈X.pn++pins,p.1≠b)
  (keep:∀ b o,b≠X.env.locals->b∉X.fs->b∉ch->s.heap.get? b=some o->H b=none->h'.get? b=some o)
  (slot:∀ b o,b≠X.env.locals->b∈X.fs->b∉ch->s.heap.get? b=some o->H b=none->∃ sl,h'.get? b=some { o with slots:=sl }) (free:∀ b o,b∉ch->s.heap.get? b=some o->H b=none->H' b=none)
  (there:∀ b o,b∉ch->s.heap.get? b=some o->∃ o',h'.get? b=some o')
  (tu:∀ b xs,H b=some (.tup xs)->H' b=some (.tup xs)) (sT:∀ b o u,H b=some (.wK o u)->H' b=some (.wK o u)) (rH:∀ b ps,H b=some (.q8 ps)->∃ more,H' b=some (.q8 (ps++more)))
  (ns:∀ m,s.heap.Ns X.env.locals m->h'.Ns X.env.locals m) (zC:xl X.prog X.w H' h') (hg:AllBare g'):
  Inv X pins B H' { s with heap:=h',gens:=g',drawn:=d',toks:=t' }:=by
 have neL:∀ b o,X.s₀.heap.get? b=some o->b≠X.env.locals:=λ b o e=>Ax (Bb (Ao e) I.ok.above);have neC:∀ b o,X.s₀.heap.get? b=some o->b∉X.ex->b∉ch:=λ b o e hx hb=>by
  rcases (BR b hb).1 with z | z
  .exact hx z
  .exact absurd (Bb (Ao e) z) (BX _)
 have cellK:∀ x c,X.env.cells.lookup x=some c->∀ v,s.heap.IsCell c v->h'.IsCell c v:=λ x c e v ⟨o,ho,hd⟩=>by
  have nch:c∉ch:=λ z=>(BR c z).2.2.1 x c e rfl;by_cases hc:c∈X.fs
  .obtain⟨sl,q⟩:=slot c o (I.qX x c e) hc nch ho (I.tH x c e);exact⟨_,q,hd⟩
  .exact⟨o,keep c o (I.qX x c e) hc nch ho (I.tH x c e),hd⟩
 refine⟨I.ok,I.os,hg,⟨λ b o e n hb hx=>?_,λ b o e n hb hx=>?_,λ b o e n hx=>?_,λ b o e hx=>?_,λ b xs e=>tu b xs (I.base.tu b xs e),λ b o xs e=>sT b o xs (I.base.sT b o xs e),λ b ps e=>?_⟩,?_,λ x c e=>?_,?_,λ x c e=>?_,λ p hp=>?_,zC,I.len⟩
 .exact keep b o (neL b o e) hb (neC b o e hx) (I.base.keep b o e n hb hx) (I.base.free b o e n hx)
 .obtain⟨sl,e1⟩:=I.base.slot b o e n hb hx;obtain⟨sl',e2⟩:=slot b _ (neL b o e) hb (neC b o e hx) e1 (I.base.free b o e n hx);exact⟨sl',e2⟩
 .obtain⟨o',e1⟩:=I.base.there b o e hx;exact free b o' (neC b o e hx) e1 (I.base.free b o e n hx)
 .obtain⟨o',e1⟩:=I.base.there b o e hx;exact there b o' (neC b o e hx) e1
 .obtain⟨m1,e1⟩:=I.base.rH b ps e;obtain⟨m2,e2⟩:=rH b _ e1;exact⟨m1++m2,by rw[e2,Array.append_assoc]⟩
 .obtain⟨m,hn,hl⟩:=I.loc;refine⟨m,ns m hn,λ i x v e1 e2 e3=>?_⟩;obtain⟨u,r,l⟩:=hl i x v e1 e2 e3;refine⟨u,r,?_⟩;rcases l with l | ⟨k,c,e,z⟩
  .exact .inl l
  .exact .inr ⟨k,c,e,cellK x c e _ z⟩
 .obtain⟨v,z⟩:=I.cell x c e;exact⟨v,cellK x c e v z⟩
 .obtain⟨m,⟨o,_,_,ho,_⟩,_⟩:=I.loc;exact free _ o (λ z=>(BR _ z).2.1 rfl) ho I.free
 .obtain⟨v,o,ho,hd⟩:=I.cell x c e;exact free c o (λ z=>(BR c z).2.2.1 x c e rfl) ho (I.tH x c e)
 .obtain⟨e,n,ne,nf,d⟩:=I.pin p hp;have nch:p.1∉ch:=λ z=>(BR p.1 z).2.2.2 p hp rfl;exact⟨keep p.1 p.2 ne nf nch e n,free p.1 p.2 nch e n,ne,nf,d⟩
def Inv.un {t':Nat}(I:Inv X pins B H s) (u:Un X.fs [] H H' s.heap h') (zC:xl X.prog X.w H' h'):Inv X pins B H' { s with heap:=h',toks:=t' }:=by
 obtain⟨m,⟨o,es,ep,ho,r⟩,_⟩:=id I.loc;obtain⟨sl,hL⟩:=u.any ho I.free (by simp);exact I.step (g':=s.gens) (d':=s.drawn) (ch:=[]) (λ _ z=>nomatch z) (λ b o _ hb _ e n=>u.keep b o e n hb (by simp)) (λ b o _ hb _ e n=>u.slot b o e n hb (by simp)) (λ b o _ e n=>u.free b o e n (by simp)) (λ b o _ e=>u.there b o e (by simp)) u.tu u.sT u.rH (λ m' hm=>by
  obtain⟨o',es',ep',ho',r'⟩:=hm;rw[ho] at ho';cases ho';exact⟨_,es',ep',hL,r'⟩) zC I.bare
def Inv.call {g':Array GenState}{t':Nat}{d':Drawn}{ch:List Addr}(I:Inv X pins B H s) (u:Un (vZ X.stack) ch H H' s.heap h') (zC:xl X.prog X.w H' h') (hg:AllBare g')
  (BR:∀ b∈ch,(b∈X.ex\/X.s₀.heap.objs.size<=b)/\b≠X.env.locals/\(∀ x c,X.env.cells.lookup x=some c->c≠b)/\∀ p∈X.pn++pins,p.1≠b):
  Inv X pins B H' { s with heap:=h',gens:=g',drawn:=d',toks:=t' }:=by
 obtain⟨m,⟨o,es,ep,ho,r⟩,_⟩:=id I.loc;obtain⟨sl,hL⟩:=u.any ho I.free λ z=>(BR _ z).2.1 rfl;exact I.step (ch:=ch) BR (λ b o hL hb hc e n=>u.keep b o e n (λ z=>(Ah.mp (I.i9 b z)).elim hL hb) hc) (λ b o _ _ hc e n=>u.any e n hc) (λ b o hc e n=>u.free b o e n hc) (λ b o hc e=>u.there b o e hc) u.tu u.sT u.rH (λ m' hm=>by
  obtain⟨o',es',ep',ho',r'⟩:=hm;rw[ho] at ho';cases ho';exact⟨_,es',ep',hL,r'⟩) zC hg
def Inv.turned {t':Nat}{it:Addr}(I:Inv X pins B H s) (k:∀ b o,b≠it->s.heap.get? b=some o->h'.get? b=some o) (hn:H it=none) (hL:it≠X.env.locals)
  (h1:it∈X.ex\/X.s₀.heap.objs.size<=it) (h2:∀ x c,X.env.cells.lookup x=some c->c≠it) (h3:∀ p∈X.pn++pins,p.1≠it):Inv X pins B H { s with heap:=h',toks:=t' }:=by
 have nit:∀ b u,H b=some u->b≠it:=λ b u e z=>by rw[z,hn] at e;cases e
 refine I.step (g':=s.gens) (d':=s.drawn) (ch:=[it]) (λ b hb=>?_) (λ b o _ _ hc e _=>k b o (λ z=>hc (by simp[z])) e) (λ b o _ _ hc e _=>⟨o.slots,k b o (λ z=>hc (by simp[z])) e⟩) (λ _ _ _ _ n=>n)
  (λ b o hc e=>⟨o,k b o (λ z=>hc (by simp[z])) e⟩) (λ _ _ e=>e) (λ _ _ _ e=>e) (λ b ps e=>⟨#[],by rw[e];simp⟩) (λ m hm=>?_) (λ b u e=>?_) I.bare
 .have e:b=it:=by simpa using hb
  subst e;exact⟨h1,hL,h2,h3⟩
 .obtain⟨o,es,ep,ho,r⟩:=hm;exact⟨o,es,ep,k _ o (Ne.symm hL) ho,r⟩
 .refine (I.zC b u e).sk (λ c v hc q=>k c v ?_ q) (λ _ q=>q) λ _ _ q=>q;rcases hc with z | z
  .rw[z];exact nit b u e
  .exact nit c _ z
def Inv.tok (I:Inv X pins B H s) (t:Nat):Inv X pins B H { s with toks:=t }:=I.un (h':=s.heap) (t':=t) Un.refl I.zC
theorem Inv.kept {t':Nat}(I:Inv X pins B H s) (k:∀ b u,s.heap.get? b=some u->h'.get? b=some u):Inv X pins B H { s with heap:=h',toks:=t' }:=I.un (Un.kept k) (I.zC.kept k)
theorem Inv.laid {a:Addr}{o:HO}{t':Nat}(I:Inv X pins B H s) (k:∀ b u,s.heap.get? b=some u->h'.get? b=some u) (hp:s.heap.objs.size<=a) (new:x8 X.prog X.w (upd H a o) h' a o):
  Inv X pins B (upd H a o) { s with heap:=h',toks:=t' }:=I.un (Un.laid k hp (I.zC.fresh hp)) (I.zC.laid k hp new)
theorem Inv.write {x e:Addr}{o:HO}{t':Nat}(I:Inv X pins B H s) (mu:lG (H x)) (he:e=x\/H e=some (.own x)) (k:∀ b u,b≠e->s.heap.get? b=some u->h'.get? b=some u) (CZ:∃ u,h'.get? e=some u)
  (new:x8 X.prog X.w (upd H x o) h' x o):Inv X pins B (upd H x o) { s with heap:=h',toks:=t' }:=I.un (Un.write mu he k CZ) (I.zC.write mu he k CZ new)
def Inv.gS {pins':List (Addr×Obj)}(I:Inv X pins B H s) (h:∀ p∈pins',s.heap.get? p.1=some p.2/\H p.1=none/\p.1≠X.env.locals/\p.1∉X.fs/\∀ v,p.2.data≠.cell v):Inv X pins' B H s:=
 ⟨I.ok,I.os,I.bare,I.base,I.loc,I.cell,I.free,I.tH,λ p hp=>(AU.mp hp).elim (λ z=>I.pin p (Cj _ z)) (h p),I.zC,I.len⟩
def ZH {N:List Str}(hN:N.Nodup) {i j:Nat}{x:Str}(a:N[i]?=some x) (b:N[j]?=some x):i=j:=by
 obtain⟨h1,e1⟩:=AL.mp a;obtain⟨h2,e2⟩:=AL.mp b;exact (List.getElem_inj hN).mp (e1.trans e2.symm)
def VJ {M:Model}{A:Around}{E:Value->Shared->Prop}{i:Nat}{x:Str}{v:V}{u:Value}{Q:Unit->Shared->Prop}(I:Inv X pins B H s) (hN:X.N.Nodup) (hi:X.N[i]?=some x) (hx:Loc X.env.scope x) (r:RelV v u)
  (h:∀ s',Inv X pins (B.set i (some v)) H s'->(∃ a,Heap.SameBut a s.heap s'.heap/\(a=X.env.locals\/X.env.cells.lookup x=some a))->Q () s') (hf:X.fn x=true\/X.env.scope.names.lookup x=some .local:=by first | exact .inl rfl | exact .inr rfl | assumption):wpAny M A (storeName X.env x u) Q E s:=by
 obtain⟨m,hn,hl⟩:=id I.loc;have EN:(X.env.scope.kind == .class||(X.env.scope.kind == .module&&X.env.locals != X.env.globals))=false:=by rw[I.ok.kind];rfl
 have hiσ:i < B.length:=by rw[I.len];exact (AL.mp hi).1
 have qX:=I.qX;have tracked:∀ {a:Addr}{h':Heap},(∃ o,s.heap.get? a=some o/\H a=none)->Heap.SameBut a s.heap h'->xl X.prog X.w H h':=λ{a h'} ha hs b ob e=>by
  obtain⟨_,_,hfree⟩:=ha;refine (I.zC b ob e).sk (λ c w' hc q=>(hs.2 c ?_).trans q) (λ _ q=>q) λ _ _ q=>q;rintro rfl;rcases hc with rfl | hc
  .rw[hfree] at e;cases e
  .rw[hfree] at hc;cases hc
 rcases hx with hk | hk
 .refine wpAny_storeName_local hk hn (λ h' hn' hs=>?_) EN;obtain⟨oL,_,_,hoL,_⟩:=id hn;refine h _ ⟨I.ok,I.os,I.bare,⟨λ b o e n hb hx=>?_,λ b o e n hb hx=>?_,I.base.free,λ b o e hx=>?_,I.base.tu,I.base.sT,I.base.rH⟩,⟨_,hn',λ j y v' e1 e2 e3=>?_⟩,λ y c e=>?_,I.free,I.tH,λ p hp=>?_,tracked ⟨oL,hoL,I.free⟩ hs,by simpa using I.len⟩ ⟨_,hs,.inl rfl⟩
  .exact (hs.2 b (Ax (Bb (Ao e) I.ok.above))).trans (I.base.keep b o e n hb hx)
  .obtain⟨sl,e1⟩:=I.base.slot b o e n hb hx;exact⟨sl,(hs.2 b (Ax (Bb (Ao e) I.ok.above))).trans e1⟩
  .obtain⟨o',e1⟩:=I.base.there b o e hx;exact⟨o',(hs.2 b (Ax (Bb (Ao e) I.ok.above))).trans e1⟩
  .by_cases hj:j=i
   .subst hj;rw[hi] at e1;cases e1;rw[List.getElem?_set_self hiσ] at e2;cases e2;exact⟨u,r,.inl ⟨hk,by simp⟩⟩
   .rw[List.getElem?_set_ne (Ne.symm hj)] at e2;obtain⟨u',r',q⟩:=hl j y v' e1 e2 e3;refine⟨u',r',?_⟩;rcases q with ⟨k,e⟩ | ⟨k,c,e,z⟩
    .refine .inl ⟨k,?_⟩;have:y≠x:=λ e=>hj (ZH hN e1 (e▸hi));simp[this,e]
    .exact .inr ⟨k,c,e,z.sameBut hs (qX y c e)⟩
  .obtain⟨w',z⟩:=I.cell y c e;exact⟨w',z.sameBut hs (qX y c e)⟩
  .obtain⟨e,n,ne,nf,d⟩:=I.pin p hp;exact⟨(hs.2 p.1 ne).trans e,n,ne,nf,d⟩
 .have CH:X.fn x=true:=by
   rcases hf with z | z
   .exact z
   .rw[z] at hk;cases hk
  obtain⟨c,hc⟩:=I.ok.has x (.inl hk);obtain⟨w',z⟩:=I.cell x c hc;refine wpAny_storeName_cell I.ok.kind hk hc z (λ h' hc' hs=>?_);obtain⟨oc,hoc,Ey⟩:=id z;refine h { s with heap:=h' } ⟨I.ok,I.os,I.bare,⟨λ b o e n hb hx=>?_,λ b o e n hb hx=>?_,I.base.free,λ b o e hx=>?_,I.base.tu,I.base.sT,I.base.rH⟩,⟨m,hn.sameBut hs (Ne.symm (qX x c hc)),λ j y v' e1 e2 e3=>?_⟩,λ y c' e=>?_,I.free,I.tH,λ p hp=>?_,tracked ⟨oc,hoc,I.tH x c hc⟩ hs,by simpa using I.len⟩ ⟨c,hs,.inr hc⟩
  .exact (hs.2 b (Ax (Bb (Ao e) (I.ok.lb x c CH hc)))).trans (I.base.keep b o e n hb hx)
  .obtain⟨sl,e1⟩:=I.base.slot b o e n hb hx;exact⟨sl,(hs.2 b (Ax (Bb (Ao e) (I.ok.lb x c CH hc)))).trans e1⟩
  .obtain⟨o',e1⟩:=I.base.there b o e hx;exact⟨o',(hs.2 b (Ax (Bb (Ao e) (I.ok.lb x c CH hc)))).trans e1⟩
  .by_cases hj:j=i
   .subst hj;rw[hi] at e1;cases e1;rw[List.getElem?_set_self hiσ] at e2;cases e2;exact⟨u,r,.inr ⟨.inl hk,c,hc,hc'⟩⟩
   .rw[List.getElem?_set_ne (Ne.symm hj)] at e2;obtain⟨u',r',q⟩:=hl j y v' e1 e2 e3;refine⟨u',r',?_⟩;rcases q with q | ⟨k,c',e,z'⟩
    .exact .inl q
    .refine .inr ⟨k,c',e,z'.sameBut hs ?_⟩;rintro rfl;exact hj (ZH hN e1 (I.ok.inj _ _ _ e hc▸hi))
  .by_cases Dx:c'=c
   .subst Dx;exact⟨_,hc'⟩
   .obtain⟨w2,z2⟩:=I.cell y c' e;exact⟨w2,z2.sameBut hs Dx⟩
  .obtain⟨e,n,ne,nf,d⟩:=I.pin p hp;refine⟨(hs.2 p.1 ?_).trans e,n,ne,nf,d⟩;intro q;rw[q,hoc] at e;have q':oc=p.2:=A5 e;exact d w' (by rw[<- q'];exact Ey)
def i8 {M:Model}{A:Around}{E:Value->Shared->Prop}{i:Nat}{x:Str}{v:V}{u:Value}{Q:Unit->Shared->Prop}(I:Inv X pins B H s) (hN:X.N.Nodup) (hi:X.N[i]?=some x) (hx:Loc X.env.scope x) (r:RelV v u)
  (h:∀ s',Inv X pins (B.set i (some v)) H s'->Q () s') (hf:X.fn x=true\/X.env.scope.names.lookup x=some .local:=by first | exact .inl rfl | exact .inr rfl | assumption):wpAny M A (storeName X.env x u) Q E s:=
 VJ I hN hi hx r (λ s' I' _=>h s' I') hf
def Inv.MK {s':Shared}{ch:List Addr}(I:Inv X pins B H s) (ho:s'.os=s.os) (u:Un (vZ X.stack) ch H H' s.heap s'.heap) (zC:xl X.prog X.w H' s'.heap) (hg:AllBare s'.gens)
  (BR:∀ b∈ch,(b∈X.ex\/X.s₀.heap.objs.size<=b)/\b≠X.env.locals/\(∀ x c,X.env.cells.lookup x=some c->c≠b)/\∀ p∈X.pn++pins,p.1≠b):Inv X pins B H' s':=by
 obtain⟨h',g',d',t',o'⟩:=s';have e:o'=s.os:=ho;subst e;exact I.call (g':=g') (t':=t') (d':=d') u zC hg BR
end
abbrev XK:=Value->Option Addr->Hp->Prop
abbrev St:=List (Option V)
abbrev VK:=V->Hp->Prop
abbrev TE:=St->Hp->VK->Prop
abbrev TT:=St->Hp->(Bool->Hp->Prop)->Prop
abbrev TA:=St->Hp->(List V->Hp->Prop)->Prop
structure Ends where
 nx:St->Hp->Prop
 rt:VK
 bk:St->Hp->Prop:=λ _ _=>False
 ct:St->Hp->Prop:=λ _ _=>False
abbrev TS:=Ends->St->Hp->Prop
def EP (X:Cx) (pins:List (Addr×Obj)) (B:St) (Q:VK) (u:Value) (s':Shared):Prop:=∃ v H',Inv X pins B H' s'/\RelV v u/\Q v H'
def TP (X:Cx) (pins:List (Addr×Obj)) (B:St) (Q:Bool->Hp->Prop) (b:Bool) (s':Shared):Prop:=∃ H',Inv X pins B H' s'/\Q b H'
def AP (X:Cx) (pins:List (Addr×Obj)) (B:St) (Q:List V->Hp->Prop) (us:List Value) (s':Shared):Prop:=∃ vs H',Inv X pins B H' s'/\Vals vs us/\Q vs H'
def SP (X:Cx) (pins:List (Addr×Obj)) (D:Ends) (f:Flow) (s':Shared):Prop:=
 match f with
 | .next=>∃ B' H',Inv X pins B' H' s'/\D.nx B' H'
 | .brk=>∃ B' H',Inv X pins B' H' s'/\D.bk B' H'
 | .cont=>∃ B' H',Inv X pins B' H' s'/\D.ct B' H'
 | .ret u=>∃ v B' H',Inv X pins B' H' s'/\RelV v u/\D.rt v H'
def PE (X:Cx) (e:Expr) (t:TE):Prop:=
 ∀ (pins:List (Addr×Obj)) (s:Shared) (B:St) (H:Hp) (Q:VK),Inv X pins B H s->t B H Q->wpAny (model X.prog X.w) X.A (eval e X.env) (EP X pins B Q) X.xe s
def PT (X:Cx) (e:Expr) (t:TT):Prop:=
 ∀ (pins:List (Addr×Obj)) (s:Shared) (B:St) (H:Hp) (Q:Bool->Hp->Prop),Inv X pins B H s->t B H Q->wpAny (model X.prog X.w) X.A (isTrue e X.env (eval e X.env)) (TP X pins B Q) X.xe s
def PW (X:Cx) (e:Expr) (t:TT):Prop:=
 ∀ (whole:Sem Value) (pins:List (Addr×Obj)) (s:Shared) (B:St) (H:Hp) (Q:Bool->Hp->Prop),Inv X pins B H s->t B H Q->wpAny (model X.prog X.w) X.A (isTrue e X.env whole) (TP X pins B Q) X.xe s
def PW.pt {X:Cx}{e:Expr}{t:TT}(h:PW X e t):PT X e t:=h _
def PA (X:Cx) (es:List Expr) (t:TA):Prop:=
 ∀ (pos:Pos) (pins:List (Addr×Obj)) (s:Shared) (B:St) (H:Hp) (Q:List V->Hp->Prop),Inv X pins B H s->t B H Q->wpAny (model X.prog X.w) X.A (spliced (backTo pos (starEach es X.env))) (AP X pins B Q) X.xe s
def PS (X:Cx) (st:Stmt) (t:TS):Prop:=
 ∀ (pins:List (Addr×Obj)) (s:Shared) (B:St) (H:Hp) (D:Ends),Inv X pins B H s->t D B H->wpAny (model X.prog X.w) X.A (exec st X.env) (SP X pins D) X.xe s
def wF (X:Cx) (st:List Stmt) (t:TS):Prop:=
 ∀ (pins:List (Addr×Obj)) (s:Shared) (B:St) (H:Hp) (D:Ends),Inv X pins B H s->t D B H->wpAny (model X.prog X.w) X.A (execs st X.env) (SP X pins D) X.xe s
def zL {α:Type}{t:Sem α}{Q Q':α->Shared->Prop}{M:Model}{A:Around}{E:Value->Shared->Prop}{s:Shared}(h:wpAny M A t Q E s) (hQ:∀ a s,Q a s->Q' a s):wpAny M A t Q' E s:=wpAny_mono h hQ λ _ _ x=>x
section
variable {X:Cx}
def iy (i:Nat):TE:=fun B H Q=>∃ v,B[i]?=some (some v)/\Q v H
def tC (v:V):TE:=λ _ H Q=>Q v H
def T7 {i:Nat}{x:Str}{pos:Pos}(hN:X.N[i]?=some x) (hv:d9 X.env.scope x) (hd:(x == ("__debug__":Str))=false:=by decide) (BJ:(x == ("__classdict__":Str))=false:=by decide):PE X (.Name x pos) (iy i):=by
 intro pins s B H Q I h;obtain⟨v,e,h⟩:=h;obtain⟨m,hn,hl⟩:=I.loc;obtain⟨u,r,l⟩:=hl i x v hN e hv;have fin:EP X pins B Q u s:=⟨v,H,I,r,h⟩
 rcases l with ⟨hk,hm⟩ | ⟨hk,c,hc,hcell⟩
 .exact wpAny_Name (wpAny_loadName_local I.ok.kind hk hn hm fin) hd
 .rcases hk with hk | hk
  .exact wpAny_Name (wpAny_loadName_cell I.ok.kind hk hc hcell fin) hd
  .exact wpAny_Name (wpAny_loadName_free I.ok.kind hk hc hcell fin BJ) hd
def TV {i j pos}:PE X (.Constant (.int i) j pos) (tC (.int i)):=λ _ _ _ H _ I h=>wpAny_Constant_int ⟨.int i,H,I.tok _,⟨_,rfl⟩,h⟩
def Sh {b j pos}:PE X (.Constant (.bool b) j pos) (tC (.bl b)):=λ _ _ _ H _ I h=>Constant_bool ⟨.bl b,H,I,rfl,h⟩
def TN {j pos}:PE X (.Constant .none j pos) (tC .zh):=λ _ _ _ H _ I h=>Constant_none ⟨.zh,H,I,rfl,h⟩
def TC {x j pos}:PE X (.Constant (.str x) j pos) (tC (.str x)):=λ _ _ _ H _ I h=>Calls.Constant_str ⟨.str x,H,I.tok _,⟨_,rfl⟩,h⟩
def Gl (X:Cx) (x:Str):Prop:=X.env.kindOf x=some .globalImplicit
def Yb {E:Value->Shared->Prop}{pins:List (Addr×Obj)}{s:Shared}{B:St}{H:Hp}{x:Str}{u:Value}{pos:Pos}{Q:Value->Shared->Prop}(I:Inv X pins B H s) (hg:Gl X x) (hm:X.mg x=some u) (h:Q u s)
  (hd:(x == ("__debug__":Str))=false:=by decide):wpAny (model X.prog X.w) X.A (eval (.Name x pos) X.env) Q E s:=
 Calls.Name_function_global I.ok.kind hg (Calls.loadGlobal_global (by rw[I.ok.glob];exact I.mod.glob.keeps I.bk) hm h) hd
def oz {E:Value->Shared->Prop}{pins:List (Addr×Obj)}{s:Shared}{B:St}{H:Hp}{x:Str}{u:Value}{pos:Pos}{Q:Value->Shared->Prop}(I:Inv X pins B H s) (hg:Gl X x) (hm:X.mg x=none) (hv:bootBuiltins x=some u) (h:Q u s)
  (hn:x≠"__name__":=by decide) (hd:(x == ("__debug__":Str))=false:=by decide):wpAny (model X.prog X.w) X.A (eval (.Name x pos) X.env) Q E s:=by
 obtain⟨mb,h1,h2⟩:=I.mod.blt;exact Calls.Name_function_global I.ok.kind hg (Calls.loadGlobal_builtin (by rw[I.ok.glob];exact I.mod.glob.keeps I.bk) hm (by rw[I.ok.blt];exact h1.keeps I.bk) ((h2 x hn).trans hv) h) hd
def TY {x:Str}{v:V}{u:Value}{pos:Pos}(hg:Gl X x) (hm:X.mg x=some u) (r:RelV v u) (hd:(x == ("__debug__":Str))=false:=by decide):PE X (.Name x pos) (tC v):=
 λ _ _ _ H _ I h=>Yb I hg hm ⟨v,H,I,r,h⟩ hd
def Sg {x:Str}{v:V}{u:Value}{pos:Pos}(hg:Gl X x) (hm:X.mg x=none) (hv:bootBuiltins x=some u) (r:RelV v u) (hn:x≠"__name__":=by decide) (hd:(x == ("__debug__":Str))=false:=by decide):PE X (.Name x pos) (tC v):=
 λ _ _ _ H _ I h=>oz I hg hm hv ⟨v,H,I,r,h⟩ hn hd
variable {a b:Expr}{ta tb:TE}{pos:Pos}
variable {tA tB':TT}{rest:List Expr}
def VH (t u:TT):TT:=fun B H Q=>t B H λ c H1=>if c=true then u B H1 Q else Q false H1
def V3 (t u:TT):TT:=fun B H Q=>t B H λ c H1=>if c=true then Q true H1 else u B H1 Q
def V5 (t:TT):TT:=fun B H Q=>t B H λ c H1=>Q (!c) H1
def UO (ha:PT X a tA):PW X (.BoolOp .And [a] pos) tA:=by
 intro wh pins s B H Q I h;refine isTrue_and (zL (ha pins s B H Q I h) λ c s1 e=>?_);cases c with
 | true=>exact isTrue_and_nil e
 | false=>exact e
def UM (ha:PT X a tA):PW X (.BoolOp .Or [a] pos) tA:=by
 intro wh pins s B H Q I h;refine isTrue_or (zL (ha pins s B H Q I h) λ c s1 e=>?_);cases c with
 | false=>exact isTrue_or_nil e
 | true=>exact e
def UP (ha:PT X a tA) (hb:PW X (.BoolOp .And (b::rest) pos) tB'):PW X (.BoolOp .And (a::b::rest) pos) (VH tA tB'):=by
 intro wh pins s B H Q I h;refine isTrue_and (zL (ha pins s B H _ I h) λ c s1 ⟨H1,I1,q1⟩=>?_);cases c with
 | true=>exact hb wh pins s1 B H1 Q I1 q1
 | false=>exact⟨H1,I1,q1⟩
def UN (ha:PT X a tA) (hb:PW X (.BoolOp .Or (b::rest) pos) tB'):PW X (.BoolOp .Or (a::b::rest) pos) (V3 tA tB'):=by
 intro wh pins s B H Q I h;refine isTrue_or (zL (ha pins s B H _ I h) λ c s1 ⟨H1,I1,q1⟩=>?_);cases c with
 | true=>exact⟨H1,I1,q1⟩
 | false=>exact hb wh pins s1 B H1 Q I1 q1
def UT (ha:PT X a tA):PT X (.UnaryOp .Not a pos) (V5 tA):=by
 intro pins s B H Q I h;exact isTrue_not (ha pins s B H (λ c H1=>Q (!c) H1) I h)
def VG (ta tb:TE):TE:=fun B H Q=>ta B H λ x H1=>∃ c,x=.bl c/\if c=true then tb B H1 Q else Q (.bl false) H1
def V4 (ta:TE):TE:=fun B H Q=>ta B H λ x H1=>∃ c,x=.bl c/\Q (.bl (!c)) H1
def TK {op} {t:TE}(h:PE X a t):PE X (.BoolOp op [a] pos) t:=λ pins s B H Q I hw=>BoolOp_one (h pins s B H Q I hw)
def Si (ha:PE X a ta) (hb:PE X (.BoolOp .And (b::rest) pos) tb):PE X (.BoolOp .And (a::b::rest) pos) (VG ta tb):=by
 intro pins s B H Q I h;refine BoolOp_and (zL (ha pins s B H _ I h) λ v s1 ⟨x,H1,I1,r1,q1⟩=>?_);obtain⟨c,rfl,q1⟩:=q1;cases r1;refine wpAny_truthy_bool ?_;cases c with
 | true=>exact hb pins s1 B H1 Q I1 q1
 | false=>exact⟨.bl false,H1,I1,rfl,q1⟩
def TL (ha:PE X a ta):PE X (.UnaryOp .Not a pos) (V4 ta):=by
 intro pins s B H Q I h;refine UnaryOp_ (zL (ha pins s B H _ I h) λ v s1 ⟨x,H1,I1,r1,q1⟩=>?_);obtain⟨c,rfl,q1⟩:=q1;cases r1;exact not_of (wpAny_truthy_bool ⟨.bl (!c),H1,I1,rfl,q1⟩)
def VA (t:TT) (ta tb:TE):TE:=fun B H Q=>t B H λ c H1=>if c=true then ta B H1 Q else tb B H1 Q
def TX {c:Expr}(hc:PT X c tA) (ha:PE X a ta) (hb:PE X b tb):PE X (.IfExp c a b pos) (VA tA ta tb):=by
 intro pins s B H Q I h;refine wpAny_IfExp (zL (hc pins s B H _ I h) λ d s1 ⟨H1,I1,q1⟩=>?_);cases d with
 | true=>exact ha pins s1 B H1 Q I1 q1
 | false=>exact hb pins s1 B H1 Q I1 q1
end
def zZ (K:Ad) (H:Hp) (a:Addr) (xs:List V):Prop:=
 Rd H a (.lst xs)\/
  ∃ (o:Obj) (its:Array Value) (n:Nat),K.lookup a=some o/\o.cls=.type "list"/\o.dict=none/\o.data=.seq its n/\its.size<=sizeLine/\Vals xs its.toList
def ye (K:Ad) (H:Hp) (a:Addr) (xs:List V):Prop:=
 Rd H a (.tup xs)\/
  ∃ (o:Obj) (its:Array Value) (n:Nat),K.lookup a=some o/\o.cls=.type "tuple"/\o.data=.seq its n/\its.size<=sizeLine/\Vals xs its.toList
noncomputable def Lc:Value->Option V
 | .none=>some .zh
 | .bool b=>some (.bl b)
 | .int i _=>some (.int i)
 | .str x _=>some (.str x)
 | .bytes b _=>some (.oP b)
 | .float b _=>some (.jt b)
 | .ref a=>some (.ref a)
 | .type n=>some (.ty n)
 | _=>none
def RelV.abs {x:V}{u:Value}(r:RelV x u):Lc u=some x:=by
 cases x with
 | zh=>cases r;rfl
 | bl _=>cases r;rfl
 | int _=>obtain⟨t,rfl⟩:=r;rfl
 | str _=>obtain⟨t,rfl⟩:=r;rfl
 | oP _=>obtain⟨t,rfl⟩:=r;rfl
 | jt _=>obtain⟨t,rfl⟩:=r;rfl
 | ref _=>cases r;rfl
 | ty _=>cases r;rfl
theorem RelV.inj {x y:V}{u:Value}(r:RelV x u) (q:RelV y u):x=y:=A5 (r.abs.symm.trans q.abs)
theorem Vals.inj:∀ {xs ys:List V}{us:List Value},Vals xs us->Vals ys us->xs=ys
 | _,_,_,.nil,.nil=>rfl
 | _,_,_,.cons r t,.cons r' t'=>by rw[r.inj r',Vals.inj t t']
section
variable {X:Cx}{pins:List (Addr×Obj)}{B:St}{H:Hp}{s:Shared}{a:Addr}{xs ys:List V}
def zZ.of {K:Ad}(h:H a=some (.lst xs)):zZ K H a xs:=.inl (.inl h)
def ye.of {K:Ad}(h:H a=some (.tup xs)):ye K H a xs:=.inl (.inl h)
def Inv.list (I:Inv X pins B H s) (h:zZ X.K H a xs):∃ its:List Value,Vals xs its/\PlainL s.heap a its.toArray/\xs.length<=sizeLine:=by
 rcases h with h | ⟨o,its,n,hk,hc,hd,hs,hz,r⟩
 .obtain⟨z,its,n,r,e⟩:=h.ok I.zC;exact⟨its,r,⟨_,n,e,rfl,rfl,rfl⟩,z⟩
 .refine⟨its.toList,r,⟨o,n,I.vW a o hk,hc,hd,by simpa using hs⟩,?_⟩;have e:=r.length;simp only[Bo] at e;lia
def Inv.tuple (I:Inv X pins B H s) (h:ye X.K H a xs):∃ its:List Value,Vals xs its/\IsTup s.heap a its.toArray/\xs.length<=sizeLine:=by
 rcases h with h | ⟨o,its,n,hk,hc,hs,hz,r⟩
 .obtain⟨z,its,r,p⟩:=h.ok I.zC;exact⟨its,r,p,z⟩
 .refine⟨its.toList,r,⟨o,I.vW a o hk,hc,n,by simpa using hs⟩,?_⟩;have e:=r.length;simp only[Bo] at e;lia
def Inv.fL (I:Inv X pins B H s) (h:zZ X.K H a xs) (h':zZ X.K H a ys):xs=ys:=by
 obtain⟨its,r,⟨o,n,e,_,_,d⟩,_⟩:=I.list h;obtain⟨Ae,r',⟨o',n',e',_,_,d'⟩,_⟩:=I.list h';rw[e] at e';cases e';rw[d] at d'
 injection d' with d1 _
 have:its=Ae:=by simpa using congrArg Array.toList d1
 subst this;exact r.inj r'
def Inv.ir (I:Inv X pins B H s) (h:ye X.K H a xs) (h':ye X.K H a ys):xs=ys:=by
 obtain⟨its,r,⟨o,e,_,n,d⟩,_⟩:=I.tuple h;obtain⟨Ae,r',⟨o',e',_,n',d'⟩,_⟩:=I.tuple h';rw[e] at e';cases e';rw[d] at d'
 injection d' with d1 _
 have:its=Ae:=by simpa using congrArg Array.toList d1
 subst this;exact r.inj r'
end
abbrev Cx.tq (X:Cx) (E:Value->Shared->Prop):Cx:={ X with xe:=E }
abbrev Cx.rO (X:Cx):Cx:=X.tq λ _ _=>False
theorem Cx.Ok.tq {X:Cx}(ok:X.Ok) (E:Value->Shared->Prop):(X.tq E).Ok:=
 ⟨ok.mod,ok.kind,ok.glob,ok.blt,ok.above,ok.inj,ok.has,ok.lb,ok.hd,ok.frames,ok.kx,ok.eG,ok.bs,ok.qZ,ok.mv,ok.mM,ok.uT,ok.oG⟩
def Cx.Ok.rD {X:Cx}{E:Value->Shared->Prop}(ok:(X.tq E).Ok):X.Ok:=
 ⟨ok.mod,ok.kind,ok.glob,ok.blt,ok.above,ok.inj,ok.has,ok.lb,ok.hd,ok.frames,ok.kx,ok.eG,ok.bs,ok.qZ,ok.mv,ok.mM,ok.uT,ok.oG⟩
section
variable {X:Cx}{pins:List (Addr×Obj)}{B:St}{H:Hp}{s:Shared}{E:Value->Shared->Prop}
theorem Inv.tq (I:Inv X pins B H s) (E:Value->Shared->Prop):Inv (X.tq E) pins B H s:=⟨I.ok.tq E,I.os,I.bare,I.base,I.loc,I.cell,I.free,I.tH,I.pin,I.zC,I.len⟩
theorem Inv.rD (I:Inv (X.tq E) pins B H s):Inv X pins B H s:=⟨I.ok.rD,I.os,I.bare,I.base,I.loc,I.cell,I.free,I.tH,I.pin,I.zC,I.len⟩
theorem SP.rD {D:Ends}{f:Flow}{s':Shared}(h:SP (X.tq E) pins D f s'):SP X pins D f s':=by
 cases f with
 | next=>obtain⟨B',H',I,q⟩:=h;exact⟨B',H',I.rD,q⟩
 | brk=>obtain⟨B',H',I,q⟩:=h;exact⟨B',H',I.rD,q⟩
 | cont=>obtain⟨B',H',I,q⟩:=h;exact⟨B',H',I.rD,q⟩
 | ret u=>obtain⟨v,B',H',I,r,q⟩:=h;exact⟨v,B',H',I.rD,r,q⟩
theorem wF.rO {st:List Stmt}{t:TS}(h:wF X.rO st t):wF X st t:=λ pins s B H D I hw=>
 wpAny_mono (h pins s B H D (I.tq _) hw) (λ _ _ q=>q.rD) λ _ _ z=>False.elim z
end
section
variable {X:Cx}{st:Stmt}{rest:List Stmt}{t u:TS}{e:Expr}{te:TE}{pos:Pos}
def V7:TS:=λ D B H=>D.nx B H
def V0 (t u:TS):TS:=λ D B H=>t { D with nx:=u D } B H
def UX:wF X [] V7:=λ _ _ B H _ I h=>wpAny_execs_nil ⟨B,H,I,h⟩
def UY (h1:PS X st t) (h2:wF X rest u):wF X (st::rest) (V0 t u):=by
 intro pins s B H D I h;refine wpAny_execs_cons (zL (h1 pins s B H { D with nx:=u D } I h) λ f s1 q=>?_);cases f with
 | next=>
  obtain⟨B',H',I',q⟩:=q;exact h2 pins s1 B' H' D I' q
 | ret v=>exact q
 | brk=>exact q
 | cont=>exact q
def UW (h1:PS X st t):wF X [st] t:=by
 intro pins s B H D I h;refine wpAny_execs_cons (zL (h1 pins s B H D I h) λ f s1 q=>?_);cases f with
 | next=>exact wpAny_execs_nil q
 | ret v=>exact q
 | brk=>exact q
 | cont=>exact q
def Inv.quiet {pins:List (Addr×Obj)}{B:St}{H:Hp}{s:Shared}(I:Inv X pins B H s):interactive X.env=false:=by simp[interactive,I.ok.kind]
def VC (te:TE):TS:=λ D B H=>te B H λ _ H1=>D.nx B H1
def Te (he:PE X e te) (hs:swapsWith e none pos.line X.env=pure false:=by rfl):PS X (.Expr e pos) (VC te):=by
 intro pins s B H D I h;exact wpAny_Expr_any (zL (he pins s B H _ I h) λ v s1 ⟨x,H1,I1,r1,q1⟩=>⟨B,H1,I1,q1⟩) I.quiet hs
def V1 (te:TE):TS:=λ D B H=>te B H D.rt
def Tb (he:PE X e te):PS X (.Return (some e) pos) (V1 te):=by
 intro pins s B H D I h;exact wpAny_Return_some (zL (he pins s B H _ I h) λ v s1 ⟨x,H1,I1,r1,q1⟩=>⟨x,B,H1,I1,r1,q1⟩)
def V9 (c:TT) (t u:TS):TS:=λ D B H=>c B H λ b H1=>if b=true then t D B H1 else u D B H1
def Tc {c:Expr}{a b:List Stmt}{tc:TT}(hc:PT X c tc) (ha:wF X a t) (hb:wF X b u):PS X (.If c a b pos) (V9 tc t u):=by
 intro pins s B H D I h;refine wpAny_If (zL (hc pins s B H _ I h) λ d s1 ⟨H1,I1,q1⟩=>?_);cases d with
 | true=>exact ha pins s1 B H1 D I1 q1
 | false=>exact hb pins s1 B H1 D I1 q1
end
abbrev TG:=V->St->Hp->(St->Hp->Prop)->Prop
abbrev s_:=List V->St->Hp->(St->Hp->Prop)->Prop
def PG (X:Cx) (target:Expr) (t:TG):Prop:=
 ∀ (pins:List (Addr×Obj)) (s:Shared) (B:St) (H:Hp) (v:V) (u:Value) (Q:St->Hp->Prop),Inv X pins B H s->RelV v u->t v B H Q->
  wpAny (model X.prog X.w) X.A (assign target X.env u) (λ _ s'=>∃ B' H',Inv X pins B' H' s'/\Q B' H') X.xe s
def tW (X:Cx) (ts:List Expr) (t:s_):Prop:=
 ∀ (pins:List (Addr×Obj)) (s:Shared) (B:St) (H:Hp) (vs:List V) (us:List Value) (Q:St->Hp->Prop),Inv X pins B H s->Vals vs us->t vs B H Q->
  wpAny (model X.prog X.w) X.A (assignInOrder ((assignEach ts X.env).map (·.2)) us) (λ _ s'=>∃ B' H',Inv X pins B' H' s'/\Q B' H') X.xe s
abbrev dD:=V->V->V->Hp->(Hp->Prop)->Prop
def XW (X:Cx) (t:dD):Prop:=
 ∀ (pins:List (Addr×Obj)) (s:Shared) (B:St) (H:Hp) (o i v:V) (ov iv u:Value) (Q:Hp->Prop),Inv X pins B H s->RelV o ov->RelV i iv->RelV v u->t o i v H Q->
  wpAny (model X.prog X.w) X.A (setItem ov iv u) (λ _ s'=>∃ H',Inv X pins B H' s'/\Q H') X.xe s
section
variable {X:Cx}{pos:Pos}
noncomputable def oE (i:Nat):TG:=λ v B H Q=>Q (B.set i (some v)) H
def T3 {i:Nat}{x:Str}(hN:X.N.Nodup) (hi:X.N[i]?=some x) (hx:Loc X.env.scope x) (hf:X.fn x=true\/X.env.scope.names.lookup x=some .local:=by first | exact .inl rfl | exact .inr rfl | assumption):PG X (.Name x pos) (oE i):=by
 intro pins s B H v u Q I r h;exact wpAny_assign_Name (i8 I hN hi hx r (λ s' I'=>⟨_,H,I',h⟩) hf)
noncomputable def Nt:s_:=λ vs B H Q=>vs=[]/\Q B H
noncomputable def Nu (t:TG) (u:s_):s_:=λ vs B H Q=>∃ v r,vs=v::r/\t v B H fun B' H'=>u r B' H' Q
def Tw:tW X [] Nt:=by
 intro pins s B H vs us Q I r h;obtain⟨e,h⟩:=h;subst e;cases r;exact assignInOrder_nil ⟨B,H,I,h⟩
def Tx {e:Expr}{es:List Expr}{t:TG}{u:s_}(h1:PG X e t) (h2:tW X es u)
  (hs:(assignEach (e::es) X.env).map (·.2)=assign e X.env::(assignEach es X.env).map (·.2):=by rfl):tW X (e::es) (Nu t u):=by
 intro pins s B H vs us Q I r h;obtain⟨v,vr,e1,h⟩:=h;subst e1;cases r with
 | cons r rr=>
  rw[hs];refine assignInOrder_cons (zL (h1 pins s B H _ _ _ I r h) λ _ s1 ⟨B1,H1,I1,q1⟩=>?_);exact h2 pins s1 B1 H1 _ _ Q I1 rr q1
noncomputable def Y8 (K:Ad) (n:Nat) (t:s_):TG:=λ v B H Q=>∃ a xs,v=.ref a/\ye K H a xs/\xs.length=n/\t xs B H Q
def Tz {es:List Expr}{k:Nat}{t:s_}{n:Nat}(hc:X.calm=true) (h:tW X es t)
  (hn:(assignEach es X.env).length=n:=by rfl) (AH:(assignEach es X.env).findIdx? (·.1)=none:=by rfl):PG X (.Tuple es k pos) (Y8 X.K n t):=by
 intro pins s B H v u Q I r hw;obtain⟨a,xs,e1,hq,hl,hw⟩:=hw;subst e1;cases r;obtain⟨its,rv,ht,hz⟩:=I.tuple hq;refine assign_Tuple_tuple (I.ok.hd hc) ht (by simp[hn,<- hl,rv.length]) AH λ h' hx=>?_;have I1:Inv X pins B H { s with heap:=h' }:=I.kept (t':=s.toks) λ b o e=>hx b o (Ax (Ao e)) e;exact h pins _ B H xs _ Q I1 (by simpa using rv) hw
noncomputable def Nr (to ti:TE) (t:dD):TG:=λ v B H Q=>to B H λ o H1=>ti B H1 λ i H2=>t o i v H2 λ H3=>Q B H3
def T2 {o i:Expr}{to ti:TE}{t:dD}(ho:PE X o to) (hi:PE X i ti) (hs:XW X t)
  (ha:∀ v,assign (.Subscript o i pos) X.env v=(do
   let ov <- holding [v] (eval o X.env)
   let iv <- holding [v,ov] (eval i X.env)
   standAt pos
   holding [v,ov,iv] (setItem ov iv v)
   release [v,ov,iv] []):=by intro _;rfl):PG X (.Subscript o i pos) (Nr to ti t):=by
 intro pins s B H v u Q I r h;rw[ha];refine Ab (wpAny_holding (zL (ho pins s B H _ I h) λ ov s1 ⟨x,H1,I1,r1,q1⟩=>?_));refine Ab (wpAny_holding (zL (hi pins s1 B H1 _ I1 q1) λ iv s2 ⟨y,H2,I2,r2,q2⟩=>?_));refine Ab (wpAny_standAt (Ab (wpAny_holding (zL (hs pins s2 B H2 x y v ov iv u _ I2 r1 r2 r q2) λ _ s3 ⟨H3,I3,q3⟩=>?_))));exact wpAny_release ⟨B,H3,I3,q3⟩
def nM (te:TE) (g:TG):TS:=λ D B H=>te B H λ x H1=>g x B H1 D.nx
def Zd {tg e:Expr}{te:TE}{g:TG}(he:PE X e te) (hg:PG X tg g) (hs:swapsWithSole [tg] e pos.line X.env=pure false:=by rfl) (hw:swappedStores [tg] e X.env=pure none:=by rfl)
  (h1:(assignEach [tg] X.env).map (·.2)=[assign tg X.env]:=by rfl):PS X (.Assign [tg] e pos) (nM te g):=by
 intro pins s B H D I h;refine wpAny_Assign_stores (zL (he pins s B H _ I h) λ v s1 ⟨x,H1,I1,r1,q1⟩=>?_) hs hw;rw[h1];exact zL (hg pins s1 B H1 x v _ I1 r1 q1) λ _ s2 q=>q
def Ta {i:Nat}{x:Str}{e:Expr}{te:TE}{pos':Pos}(hN:X.N.Nodup) (hi:X.N[i]?=some x) (hx:Loc X.env.scope x) (he:PE X e te) (hs:swapsWith e (some (.Name x pos')) pos.line X.env=pure false:=by rfl) (hf:X.fn x=true\/X.env.scope.names.lookup x=some .local:=by first | exact .inl rfl | exact .inr rfl | assumption):
  PS X (.Assign [.Name x pos'] e pos) (nM te (oE i)):=by
 intro pins s B H D I h;refine wpAny_Assign_Name (zL (he pins s B H _ I h) λ v s1 ⟨y,H1,I1,r1,q1⟩=>?_) hs;exact i8 I1 hN hi hx r1 (λ s2 I2=>⟨_,H1,I2,q1⟩) hf
end
section
variable {X:Cx}{pos:Pos}
def Vt (c:TT) (tb:TS):TS:=λ D B H=>∃ W:Nat->St->Hp->Prop,(∃ m,W m B H)/\∀ m B H,W m B H->
 c B H λ b H1=>if b=true then ∃ N:St->Hp->Prop,(∀ B' H',N B' H'->∃ m',m'<m/\W m' B' H')/\tb { D with nx:=N,ct:=N,bk:=D.nx } B H1 else D.nx B H1
def UZ {c:Expr}{body:List Stmt}{tc:TT}{tb:TS}(hp:PassesOwn (model X.prog X.w) X.A X.env X.xe) (hc:PT X c tc) (hb:wF X body tb):PS X (.While c body [] pos) (Vt tc tb):=by
 intro pins s B H D I h;obtain⟨W,⟨m0,w0⟩,turn⟩:=h;refine wpAny_While (codeAny_whileLoop (λ n s'=>∃ B' H',Inv X pins B' H' s'/\W n B' H') ?_ m0 ⟨B,H,I,w0⟩);rintro n s1 ⟨B1,H1,I1,w1⟩;refine wpAny_passesOwn hp (zL (hc pins s1 B1 H1 _ I1 (turn n B1 H1 w1)) λ b s2 ⟨H2,I2,q2⟩=>?_);cases b with
 | true=>
  obtain⟨N,hN,q2⟩:=q2;rw[if_pos rfl];refine wpAny_passesOwn hp (zL (hb pins s2 B1 H2 _ I2 q2) λ f s3 q3=>?_);cases f with
  | next=>
   obtain⟨B3,H3,I3,n3⟩:=q3;obtain⟨m',hm,w3⟩:=hN B3 H3 n3;exact⟨m',hm,B3,H3,I3,w3⟩
  | cont=>
   obtain⟨B3,H3,I3,n3⟩:=q3;obtain⟨m',hm,w3⟩:=hN B3 H3 n3;exact⟨m',hm,B3,H3,I3,w3⟩
  | brk=>exact q3
  | ret v=>exact q3
 | false=>
  rw[if_neg BC];exact wpAny_execs_nil ⟨B1,H2,I2,q2⟩
end
structure It where
 go:Nat->Hp->Prop
 pM:Nat->Hp->V->Hp->Prop
 stop:Nat->Hp->Prop
def uj (X:Cx) (pins:List (Addr×Obj)) (H:Hp) (b:Addr):Prop:=
 H b=none/\b≠X.env.locals/\b∉X.fs/\(b∈X.ex\/X.s₀.heap.objs.size<=b)/\(∀ x c,X.env.cells.lookup x=some c->c≠b)/\∀ p∈X.pn++pins,p.1≠b
def Inv.jr {X:Cx}{pins:List (Addr×Obj)}{B:St}{H H':Hp}{s:Shared}{b:Addr}(I:Inv X pins B H s) (hb:s.heap.objs.size<=b) (hn:H' b=none):uj X pins H' b:=by
 refine⟨hn,BW (Bb I.lt hb),I.ZF hb,.inr (Bi I.sz hb),λ x c e z=>?_,λ p hp z=>?_⟩
 .obtain⟨v,q⟩:=I.cell x c e;exact absurd (Bb q.lt (by rw[z];exact hb)) (BX _)
 .exact absurd (Bb (Ao (I.pin p hp).1) (by rw[z];exact hb)) (BX _)
structure Turn (P:Program) (w:World) (K:Ad) (tg:Expr) (J:It) (fp:List Addr) (it:Addr) (tn:Nat->Heap->Prop):Prop where
 mem:it∈fp
 obj:∀ i h,tn i h->∀ b∈fp,∃ o,h.get? b=some o/\∀ v,o.data≠.cell v
 keep:∀ i h h',tn i h->(∀ b∈fp,∀ o,h.get? b=some o->h'.get? b=some o)->tn i h'
 item:∀ (X:Cx),X.prog=P->X.w=w->X.K=K->X.calm=true->∀ (i:Nat) (pins:List (Addr×Obj)) (s:Shared) (B:St) (H:Hp) (E:Value->Shared->Prop),Inv X pins B H s->(∀ b∈fp,uj X pins H b)->tn i s.heap->J.go i H->
  wpAny (model P w) X.A (pyNext (.ref it)) (λ r s1=>∃ u,r=some u/\
   wpAny (model P w) X.A (letOwnedTupleGo tg (.ref it) u) (λ _ s2=>∃ x H',Inv X pins B H' s2/\RelV x u/\J.pM i H x H'/\tn (i+1) s2.heap/\∀ b∈fp,H' b=none) E s1) E s
 done:∀ (X:Cx),X.prog=P->X.w=w->X.K=K->X.calm=true->∀ (i:Nat) (pins:List (Addr×Obj)) (s:Shared) (B:St) (H:Hp) (E:Value->Shared->Prop),Inv X pins B H s->(∀ b∈fp,uj X pins H b)->tn i s.heap->J.stop i H->
  wpAny (model P w) X.A (pyNext (.ref it)) (λ r s1=>r=none/\Inv X pins B H s1) E s
 self:∀ (A:Around) (i:Nat) (s:Shared) (Q:Value->Shared->Prop) (E:Value->Shared->Prop),tn i s.heap->Q (.ref it) s->wpAny (model P w) A (pyIter (.ref it)) Q E s
abbrev TI:=St->Hp->(It->Hp->Prop)->Prop
def XX (X:Cx) (pins:List (Addr×Obj)) (B:St) (tg:Expr) (R:It->Hp->Prop) (itv:Value) (s2:Shared):Prop:=
 ∃ (it:Addr) (fp:List Addr) (tn:Nat->Heap->Prop) (J:It) (H':Hp),itv=.ref it/\Inv X pins B H' s2/\Turn X.prog X.w X.K tg J fp it tn/\tn 0 s2.heap/\(∀ b∈fp,uj X pins H' b)/\R J H'
def PI (X:Cx) (tg iter:Expr) (wi:TI):Prop:=
 ∀ (pins:List (Addr×Obj)) (s:Shared) (B:St) (H:Hp) (R:It->Hp->Prop),Inv X pins B H s->wi B H R->
  wpAny (model X.prog X.w) X.A (eval iter X.env) (λ v s1=>wpAny (model X.prog X.w) X.A (pyIter v) (XX X pins B tg R) X.xe s1) X.xe s
def ez {M:Model}{A:Around}{E:Value->Shared->Prop}{s:Shared}{tg:Expr}{it:Addr}{u:Value}{o:Obj}{n:String}{vs:Array Value}{Q:Unit->Shared->Prop}(ho:s.heap.get? it=some o) (hc:o.cls=.type n) (hd:o.data=.fields vs)
  (hn:["enumerate","zip","dict_itemiterator","dict_reverseitemiterator","odict_iterator","itertools.zip_longest","itertools.pairwise"].contains n=false) (hQ:Q () s):wpAny M A (letOwnedTupleGo tg (.ref it) u) Q E s:=by
 unfold letOwnedTupleGo;cases tg <;> first
  | exact Ac hQ
  | (cases u <;> first
    | exact Ac hQ
    | (refine Ab (wpAny_load ho ?_)
       rw[hc,hd];show wpAny M A (if (["enumerate","zip","dict_itemiterator","dict_reverseitemiterator","odict_iterator","itertools.zip_longest","itertools.pairwise"].contains n&&vs[0]? == some (rawInt _))=true then _ else _) Q E s;rw[if_neg (by intro h;rw[hn,Bool.false_and] at h;cases h)];exact Ac hQ))
def Wc (K:Ad) (a:Addr):It:=
 ⟨λ i H=>∃ xs x,zZ K H a xs/\xs[i]?=some x,λ i H x H'=>H'=H/\∀ xs,zZ K H a xs->xs[i]?=some x,λ i H=>∃ xs,zZ K H a xs/\xs.length<=i⟩
def Wb (K:Ad) (a:Addr):It:=
 ⟨λ i H=>∃ xs x,ye K H a xs/\xs[i]?=some x,λ i H x H'=>H'=H/\∀ xs,ye K H a xs->xs[i]?=some x,λ i H=>∃ xs,ye K H a xs/\xs.length<=i⟩
def jM (lo:Int) (n:Nat):It:=⟨λ i _=>i<n,λ i H x H'=>H'=H/\x=.int (lo+i),λ i _=>n<=i⟩
def Vl {P:Program}{w:World}{K:Ad}{tg:Expr}(a it:Addr):Turn P w K tg (Wc K a) [it] it (λ i h=>h.IsListIter it a i) where
 mem:=by simp
 obj:=λ i h st b hb=>by
  have e:b=it:=by simpa using hb
  subst e;obtain⟨o,e,c,d⟩:=st;exact⟨o,e,λ v z=>by rw[d] at z;cases z⟩
 keep:=λ i h h' st k=>st.at λ o e=>k it (by simp) o e
 item:=by
  intro X hP hw hK hc i pins s B H E I hf st hg;subst hP hw hK;obtain⟨xs,x,hq,hx⟩:=hg;obtain⟨its,rv,p,hz⟩:=I.list hq;obtain⟨u,hu,ru⟩:=rv.get hx;obtain⟨f0,f1,f2,f3,f4,f5⟩:=hf it (by simp);refine wpAny_pyNext_list_item st p.isList (x:=u) (by simpa using hu) λ h' st' sb=>?_;have I1:Inv X pins B H { s with heap:=h' }:=I.turned (t':=s.toks) (λ b o hb e=>(sb.2 b hb).trans e) f0 f1 f3 f4 f5;obtain⟨o,e,c,d⟩:=id st';exact⟨u,rfl,ez (s:={ s with heap:=h' }) e c d (by decide) ⟨x,H,I1,ru,⟨rfl,λ ys hy=>by rw[I.fL hy hq];exact hx⟩,st',λ b hb=>(hf b hb).1⟩⟩
 done:=by
  intro X hP hw hK hc i pins s B H E I hf st hg;subst hP hw hK;obtain⟨xs,hq,hx⟩:=hg;obtain⟨its,rv,p,hz⟩:=I.list hq;obtain⟨f0,f1,f2,f3,f4,f5⟩:=hf it (by simp);have hl:=rv.length;exact wpAny_pyNext_list_end (I.ok.hd hc) st p.isList (by simp;lia) λ h' eb=>⟨rfl,I.turned (t':=s.toks) (λ b o hb e=>eb b o hb e) f0 f1 f3 f4 f5⟩
 self:=λ _ _ _ _ _ st h=>wpAny_pyIter_listiter st h
def Vj {P:Program}{w:World}{K:Ad}{tg:Expr}(a it:Addr):Turn P w K tg (Wb K a) [it] it (λ i h=>h.IsTupleIter it a i) where
 mem:=by simp
 obj:=λ i h st b hb=>by
  have e:b=it:=by simpa using hb
  subst e;obtain⟨o,e,c,d⟩:=st;exact⟨o,e,λ v z=>by rw[d] at z;cases z⟩
 keep:=λ i h h' st k=>st.at λ o e=>k it (by simp) o e
 item:=by
  intro X hP hw hK hc i pins s B H E I hf st hg;subst hP hw hK;obtain⟨xs,x,hq,hx⟩:=hg;obtain⟨its,rv,p,hz⟩:=I.tuple hq;obtain⟨u,hu,ru⟩:=rv.get hx;obtain⟨f0,f1,f2,f3,f4,f5⟩:=hf it (by simp);refine wpAny_pyNext_tuple_item st (show s.heap.IsTuple a its.toArray from p) (x:=u) (by simpa using hu) λ h' st' sb=>?_;have I1:Inv X pins B H { s with heap:=h' }:=I.turned (t':=s.toks) (λ b o hb e=>(sb.2 b hb).trans e) f0 f1 f3 f4 f5;obtain⟨o,e,c,d⟩:=id st';exact⟨u,rfl,ez (s:={ s with heap:=h' }) e c d (by decide) ⟨x,H,I1,ru,⟨rfl,λ ys hy=>by rw[I.ir hy hq];exact hx⟩,st',λ b hb=>(hf b hb).1⟩⟩
 done:=by
  intro X hP hw hK hc i pins s B H E I hf st hg;subst hP hw hK;obtain⟨xs,hq,hx⟩:=hg;obtain⟨its,rv,p,hz⟩:=I.tuple hq;obtain⟨f0,f1,f2,f3,f4,f5⟩:=hf it (by simp);have hl:=rv.length;exact wpAny_pyNext_tuple_end (I.ok.hd hc) st (show s.heap.IsTuple a its.toArray from p) (by simp;lia) λ h' eb=>⟨rfl,I.turned (t':=s.toks) (λ b o hb e=>eb b o hb e) f0 f1 f3 f4 f5⟩
 self:=λ _ _ _ _ _ st h=>wpAny_pyIter_tupleiter st h
def Vk {P:Program}{w:World}{K:Ad}{tg:Expr}(it:Addr) (lo:Int) (n:Nat):Turn P w K tg (jM lo n) [it] it (λ i h=>IsRangeIter h it (lo+(i:Nat)*1) ((n:Int)-(i:Nat)) 1) where
 mem:=by simp
 obj:=λ i h st b hb=>by
  have e:b=it:=by simpa using hb
  subst e;exact⟨_,st,λ v z=>by
   have z':Data.fields _=Data.cell v:=z;cases z'⟩
 keep:=λ i h h' st k=>k it (by simp) _ st
 item:=by
  intro X hP hw hK hc i pins s B H E I hf st hg;subst hP hw hK;obtain⟨f0,f1,f2,f3,f4,f5⟩:=hf it (by simp);have W:=Walks.range (prog:=X.prog) (w:=X.w) (I.ok.hd hc) it lo 1 n;refine W.item i s _ _ hg st λ v h' tk hv st' kk=>?_;obtain⟨t,rfl⟩:=hv;have I1:Inv X pins B H { s with heap:=h',toks:=tk }:=I.turned (λ b o hb e=>kk b o (by simpa using hb) e) f0 f1 f3 f4 f5;refine⟨_,rfl,ez (s:={ s with heap:=h',toks:=tk }) (n:="range_iterator") st' rfl rfl (by decide) ⟨.int (lo+i),H,I1,⟨t,?_⟩,⟨rfl,rfl⟩,st',λ b hb=>(hf b hb).1⟩⟩;rw[Int.mul_one]
 done:=by
  intro X hP hw hK hc i pins s B H E I hf st hg;subst hP hw hK;obtain⟨f0,f1,f2,f3,f4,f5⟩:=hf it (by simp);exact wpAny_pyNext_range_end (I.ok.hd hc) st (by have:n<=i:=hg;lia) λ h' eb=>⟨rfl,I.turned (t':=s.toks) (λ b o hb e=>eb b o hb e) f0 f1 f3 f4 f5⟩
 self:=λ _ _ _ _ _ st h=>wpAny_pyIter_rangeiter st h
section
variable {X:Cx}{tg:Expr}
def UG {pins:List (Addr×Obj)}{B:St}{H:Hp}{s:Shared}{R:It->Hp->Prop}{E:Value->Shared->Prop}{lo hi:Int}{t u v:Tok}{tk:Nat}(I:Inv X pins B H s) (h1:-(2 ^ 62)<=lo) (h2:lo<2 ^ 62) (h3:-(2 ^ 62)<=hi) (h4:hi<2 ^ 62)
  (q:R (jM lo (hi-lo).toNat) H):wpAny (model X.prog X.w) X.A (pyIter (.ref s.heap.objs.size)) (XX X pins B tg R) E { s with heap:=s.heap.push { cls:=.type "range",data:=.fields #[.int lo t,.int hi u,.int 1 v] },toks:=tk }:=by
 refine wpAny_pyIter_range (IsRange.new ..) (small_one h1 h2 h3 h4) ?_;have I1:Inv X pins B H { s with heap:=s.heap.push { cls:=.type "range",data:=.fields #[.int lo t,.int hi u,.int 1 v] },toks:=tk }:=I.kept λ b o e=>An _ e;refine⟨(s.heap.push { cls:=.type "range",data:=.fields #[.int lo t,.int hi u,.int 1 v] }).objs.size,[(s.heap.push { cls:=.type "range",data:=.fields #[.int lo t,.int hi u,.int 1 v] }).objs.size],_,_,H,rfl,
  I1.kept (t':=tk) λ b o e=>An _ e,Vk _ lo (hi-lo).toNat,?_,λ b hb=>?_,q⟩
 .have e1:lo+((0:Nat):Int)*1=lo:=by simp
  have e2:(((hi-lo).toNat:Nat):Int)-((0:Nat):Int)=Builtin.Range.rangeSize lo hi 1:=by rw[rangeSize_one];split <;> lia
  show IsRangeIter _ _ (lo+((0:Nat):Int)*1) ((((hi-lo).toNat:Nat):Int)-((0:Nat):Int)) 1;rw[e1,e2];exact AF _ rfl
 .have e:b=(s.heap.push { cls:=.type "range",data:=.fields #[.int lo t,.int hi u,.int 1 v] }).objs.size:=by simpa using hb
  subst e;exact I1.jr (Ag _) (I1.zC.fresh (Ag _))
def Y0 (ta:TA):TI:=fun B H R=>ta B H λ vs H1=>∃ j:Int,vs=[.int j]/\-(2 ^ 62)<=j/\j<2 ^ 62/\R (jM 0 j.toNat) H1
def Tu {a:Expr}{ta:TA}{p pos:Pos}(hg:Gl X "range") (hm:X.mg "range"=none) (ha:PA X [a] ta) (hs:starEach [a] X.env=[(false,eval a X.env)]:=by rfl):PI X tg (.Call (.Name "range" p) [a] [] pos) (Y0 ta):=by
 intro pins s B H R I h;refine Call_ (oz I hg hm boot_range (PyProof.Rows.callWith_type1 (zL (ha pos pins s B H _ I h) λ us s1 ⟨vs,H1,I1,r1,q1⟩=>?_) hs rfl));obtain⟨j,e,q1,q2,q⟩:=q1;subst e;cases r1 with
 | cons r rr=>
  cases rr;obtain⟨t,rfl⟩:=r;exact call_range_1 (UG I1 (by lia) (by lia) q1 q2 (by simpa using q))
def VB (wi:TI) (g:TG) (tb:TS):TS:=λ D B H=>wi B H λ J H1=>∃ W:Nat->Nat->St->Hp->Prop,(∃ m,W 0 m B H1)/\∀ i m B H,W i m B H->
 (J.stop i H/\D.nx B H)\/(J.go i H/\∃ N:St->Hp->Prop,(∀ B' H',N B' H'->∃ m',m'<m/\W (i+1) m' B' H')/\∀ x H',J.pM i H x H'->g x B H' fun B2 H2=>tb { D with nx:=N,ct:=N,bk:=D.nx } B2 H2)
noncomputable def ma (fp:List Addr) (h:Heap):List (Addr×Obj):=fp.filterMap λ b=>(h.get? b).map λ o=>(b,o)
def jb {fp:List Addr}{h:Heap}{b:Addr}{o:Obj}(hb:b∈fp) (e:h.get? b=some o):(b,o)∈ma fp h:=DU.mpr ⟨b,hb,by rw[e];rfl⟩
def Pn {fp:List Addr}{h:Heap}{p:Addr×Obj}(hp:p∈ma fp h):p.1∈fp/\h.get? p.1=some p.2:=by
 obtain⟨b,hb,e⟩:=DU.mp hp;cases q:h.get? b with
 | none=>rw[q] at e;cases e
 | some o=>
  rw[q] at e;have e':(b,o)=p:=A5 e;subst e';exact⟨hb,q⟩
def Inv.pinned {pins:List (Addr×Obj)}{B:St}{H:Hp}{s:Shared}{fp:List Addr}(I:Inv X pins B H s) (hf:∀ b∈fp,uj X pins H b) (ho:∀ b∈fp,∃ o,s.heap.get? b=some o/\∀ v,o.data≠.cell v):Inv X (pins++ma fp s.heap) B H s:=
 I.gS λ p hp=>(AU.mp hp).elim (λ z=>I.pin p (AZ _ z)) λ z=>by
  obtain⟨hb,e⟩:=Pn z;obtain⟨f0,f1,f2,_⟩:=hf p.1 hb;obtain⟨o,e',d⟩:=ho p.1 hb;rw[e] at e';cases e';exact⟨e,f0,f1,f2,d⟩
def Inv.nK {pins pl:List (Addr×Obj)}{B:St}{H:Hp}{s:Shared}(I:Inv X (pins++pl) B H s):Inv X pins B H s:=I.gS λ p hp=>I.pin p (AZ _ (Cj _ hp))
def Td {iter:Expr}{body:List Stmt}{wi:TI}{g:TG}{tb:TS}{pos:Pos}(hp:PassesOwn (model X.prog X.w) X.A X.env X.xe) (hc:X.calm=true) (hi:PI X tg iter wi) (hg:PG X tg g) (hb:wF X body tb)
  (hs:∀ x,foldedSetIterable iter X.env x=pure x:=by intro _;rfl):PS X (.For tg iter body [] pos) (VB wi g tb):=by
 intro pins s B H D I h;refine wpAny_For (zL (hi pins s B H _ I h) λ v s1 h1=>zL h1 λ itv s2 h2=>?_) hs;obtain⟨it,fp,tn,J,H2,e,I2,T,st2,f2,W,⟨m0,w0⟩,turn⟩:=h2;subst e;have stat:∀ {H':Hp},(∀ b∈fp,H' b=none)->∀ b∈fp,uj X pins H' b:=λ hn b hb=>⟨hn b hb,(f2 b hb).2⟩;refine codeAny_forLoop_any (λ n s'=>∃ i B' H',Inv X pins B' H' s'/\tn i s'.heap/\(∀ b∈fp,H' b=none)/\W i n B' H') ?_ m0 ⟨0,B,H2,I2,st2,λ b hb=>(f2 b hb).1,w0⟩;rintro n s3 ⟨i,B3,H3,I3,st3,fr3,w3⟩;rcases turn i n B3 H3 w3 with ⟨stop,qn⟩ | ⟨go,N,hN,step⟩
 .refine wpAny_passesOwn hp (zL (T.done X rfl rfl rfl hc i pins s3 B3 H3 X.xe I3 (stat fr3) st3 stop) λ r s4 ⟨hr,I4⟩=>?_);subst hr;exact wpAny_execs_nil ⟨B3,H3,I4,qn⟩
 .refine wpAny_passesOwn hp (zL (T.item X rfl rfl rfl hc i pins s3 B3 H3 X.xe I3 (stat fr3) st3 go) λ r s4 ⟨u,hr,h4⟩=>?_);subst hr;refine wpAny_passesOwn hp (zL h4 λ _ s5 ⟨x,H5,I5,r5,y5,st5,fr5⟩=>?_);have I5':=I5.pinned (stat fr5) (T.obj _ _ st5);refine wpAny_passesOwn hp (zL (hg _ s5 B3 H5 x u _ I5' r5 (step x H5 y5)) λ _ s6 ⟨B6,H6,I6,q6⟩=>?_);refine wpAny_passesOwn hp (zL (hb _ s6 B6 H6 _ I6 q6) λ f s7 q7=>?_);have again:∀ {B7:St}{H7:Hp},Inv X (pins++ma fp s5.heap) B7 H7 s7->N B7 H7->∃ m,m<n/\∃ i B' H',Inv X pins B' H' s7/\tn i s7.heap/\(∀ b∈fp,H' b=none)/\W i m B' H':=λ{B7 H7} I7 n7=>by
   obtain⟨m',hm,w7⟩:=hN B7 H7 n7;refine⟨m',hm,i+1,B7,H7,I7.nK,T.keep _ _ _ st5 λ b hb o e=>(I7.pin (b,o) (AZ _ (AZ _ (jb hb e)))).1,λ b hb=>?_,w7⟩;obtain⟨o,e,d⟩:=T.obj _ _ st5 b hb;exact (I7.pin (b,o) (AZ _ (AZ _ (jb hb e)))).2.1
  cases f with
  | next=>obtain⟨B7,H7,I7,n7⟩:=q7;exact again I7 n7
  | cont=>obtain⟨B7,H7,I7,n7⟩:=q7;exact again I7 n7
  | brk=>obtain⟨B7,H7,I7,q7⟩:=q7;exact⟨B7,H7,I7.nK,q7⟩
  | ret v=>obtain⟨x7,B7,H7,I7,r7,q7⟩:=q7;exact⟨x7,B7,H7,I7.nK,r7,q7⟩
end
abbrev R2:=V->V->Hp->VK->Prop
def yu (X:Cx) (f:Value->Value->Sem Value) (r:R2):Prop:=
 ∀ (pins:List (Addr×Obj)) (s:Shared) (B:St) (H:Hp) (x y:V) (v u:Value) (Q:VK),Inv X pins B H s->RelV x v->RelV y u->r x y H Q->
  wpAny (model X.prog X.w) X.A (f v u) (EP X pins B Q) X.xe s
def dA (X:Cx) (f:Value->Sem Value) (r:V->Hp->VK->Prop):Prop:=
 ∀ (pins:List (Addr×Obj)) (s:Shared) (B:St) (H:Hp) (x:V) (v:Value) (Q:VK),Inv X pins B H s->RelV x v->r x H Q->
  wpAny (model X.prog X.w) X.A (f v) (EP X pins B Q) X.xe s
def yU (X:Cx) (f:Value) (r:List V->Hp->VK->Prop):Prop:=
 ∀ (pins:List (Addr×Obj)) (s:Shared) (B:St) (H:Hp) (xs:List V) (us:List Value) (Q:VK),Inv X pins B H s->Vals xs us->r xs H Q->
  wpAny (model X.prog X.w) X.A (call f us) (EP X pins B Q) X.xe s
def Ld (X:Cx) (r:V->Hp->(Bool->Hp->Prop)->Prop):Prop:=
 ∀ (pins:List (Addr×Obj)) (s:Shared) (B:St) (H:Hp) (x:V) (v:Value) (Q:Bool->Hp->Prop),Inv X pins B H s->RelV x v->r x H Q->
  wpAny (model X.prog X.w) X.A (truthy v) (TP X pins B Q) X.xe s
def nL (r:R2) (ta tb:TE):TE:=fun B H Q=>ta B H λ x H1=>tb B H1 λ y H2=>r x y H2 Q
def Vu (r:V->Hp->VK->Prop) (ta:TE):TE:=fun B H Q=>ta B H λ x H1=>r x H1 Q
def rI (C:Int->Int->Prop) (g:Int->Int->V):R2:=λ x y H Q=>∃ i j,x=.int i/\y=.int j/\C i j/\Q (g i j) H
def vq (g:Int->Int->V):R2:=λ x y H Q=>∃ i j,x=.int i/\y=.int j/\Q (g i j) H
def rU (g:Int->V):V->Hp->VK->Prop:=λ x H Q=>∃ i,x=.int i/\Q (g i) H
section
variable {X:Cx}{a b c:Expr}{ta tb tc:TE}{pos:Pos}
def dk (ha:PE X a ta) (hb:PE X b tb) {pins:List (Addr×Obj)}{s:Shared}{B:St}{H:Hp}{R:V->V->Hp->Prop}(I:Inv X pins B H s)
  (h:ta B H λ x H1=>tb B H1 λ y H2=>R x y H2) {Q:Value->Shared->Prop}{f:Value->Value->Sem Value}
  (hf:∀ v u s2 x y H2,Inv X pins B H2 s2->RelV x v->RelV y u->R x y H2->wpAny (model X.prog X.w) X.A (f v u) Q X.xe s2):
  wpAny (model X.prog X.w) X.A (eval a X.env) (λ v s₁=>wpAny (model X.prog X.w) X.A (eval b X.env) (λ u s₂=>wpAny (model X.prog X.w) X.A (f v u) Q X.xe s₂) X.xe s₁) X.xe s:=by
 refine zL (ha pins s B H _ I h) λ v s1 ⟨x,H1,I1,r1,q1⟩=>?_;refine zL (hb pins s1 B H1 _ I1 q1) λ u s2 ⟨y,H2,I2,r2,q2⟩=>?_;exact hf v u s2 x y H2 I2 r1 r2 q2
def TJ {op:Operator}{r:R2}(ho:yu X (binaryOp op) r) (ha:PE X a ta) (hb:PE X b tb):PE X (.BinOp a op b pos) (nL r ta tb):=by
 intro pins s B H Q I h;exact wpAny_BinOp (dk ha hb I h λ v u s2 x y H2 I2 rx ry q=>ho pins s2 B H2 x y v u Q I2 rx ry q)
def T9 {op:UnaryOp}{r:V->Hp->VK->Prop}(ho:dA X (unaryOp op) r) (ha:PE X a ta):PE X (.UnaryOp op a pos) (Vu r ta):=by
 intro pins s B H Q I h;exact UnaryOp_ (zL (ha pins s B H _ I h) λ v s1 ⟨x,H1,I1,r1,q1⟩=>ho pins s1 B H1 x v Q I1 r1 q1)
def kY {f:Value->Value->Sem Value}{C:Int->Int->Prop}{g:Int->Int->Int}
  (rule:∀ (i j:Int) (t u:Tok) (s:Shared) (Q:Value->Shared->Prop) (E:Value->Shared->Prop),C i j->Q (.int (g i j) s.toks) { s with toks:=s.toks+1 }->wpAny (model X.prog X.w) X.A (f (.int i t) (.int j u)) Q E s):
  yu X f (rI C λ i j=>.int (g i j)):=by
 intro pins s B H x y v u Q I rx ry h;obtain⟨i,j,rfl,rfl,hc,q⟩:=h;obtain⟨t,rfl⟩:=rx;obtain⟨t',rfl⟩:=ry;exact rule i j t t' s _ _ hc ⟨.int (g i j),H,I.tok _,⟨_,rfl⟩,q⟩
def Z9 {f:Value->Value->Sem Value}{g:Int->Int->Int}
  (rule:∀ (i j:Int) (t u:Tok) (s:Shared) (Q:Value->Shared->Prop) (E:Value->Shared->Prop),Q (.int (g i j) s.toks) { s with toks:=s.toks+1 }->wpAny (model X.prog X.w) X.A (f (.int i t) (.int j u)) Q E s):
  yu X f (vq λ i j=>.int (g i j)):=by
 intro pins s B H x y v u Q I rx ry h;obtain⟨i,j,rfl,rfl,q⟩:=h;obtain⟨t,rfl⟩:=rx;obtain⟨t',rfl⟩:=ry;exact rule i j t t' s _ _ ⟨.int (g i j),H,I.tok _,⟨_,rfl⟩,q⟩
def kZ {f:Value->Value->Sem Value}{g:Int->Int->Bool}
  (rule:∀ (i j:Int) (t u:Tok) (s:Shared) (Q:Value->Shared->Prop) (E:Value->Shared->Prop),Q (.bool (g i j)) s->wpAny (model X.prog X.w) X.A (f (.int i t) (.int j u)) Q E s):
  yu X f (vq λ i j=>.bl (g i j)):=by
 intro pins s B H x y v u Q I rx ry h;obtain⟨i,j,rfl,rfl,q⟩:=h;obtain⟨t,rfl⟩:=rx;obtain⟨t',rfl⟩:=ry;exact rule i j t t' s _ _ ⟨.bl (g i j),H,I,rfl,q⟩
def xF (i j:Int):Prop:=0<j/\j<1073741824
def pL (i j:Int):Prop:=0<=j/\j<=1000000/\i.natAbs<2 ^ 64
def wN (i j:Int):Prop:=(-(2 ^ 64)<i/\i<2 ^ 64)\/(-(2 ^ 64)<j/\j<2 ^ 64)
def wN.ok {i j:Int}(h:wN i j):IntMulOk i j:=by
 rcases h with ⟨h1,h2⟩ | ⟨h1,h2⟩
 .exact .of_left (intBits_le_64 h1 h2)
 .exact .of_right (intBits_le_64 h1 h2)
def Ru:yu X (binaryOp .Add) (vq λ i j=>.int (i+j)):=Z9 λ _ _ _ _ _ _ _ q=>add_int q
def Rb:yu X (binaryOp .Sub) (vq λ i j=>.int (i-j)):=Z9 λ _ _ _ _ _ _ _ q=>sub_int q
def Ri:yu X (binaryOp .Mult) (rI wN λ i j=>.int (i*j)):=kY λ _ _ _ _ _ _ _ hc q=>mul_int q hc.ok
def Ro:yu X (binaryOp .FloorDiv) (rI xF λ i j=>.int (i/j)):=kY λ i j _ _ _ _ _ hc q=>by
 have h1:(0:Int)<j:=hc.1;have h2:j<1073741824:=hc.2;exact floordiv_int (by lia) (by rw[Int.fdiv_eq_ediv_of_nonneg i (by lia)];exact q) (.inl (PyProof.noPylong_small (by lia)))
def Rj:yu X (binaryOp .Mod) (rI (λ _ j=>0<j) λ i j=>.int (i%j)):=kY λ i j _ _ _ _ _ hc q=>by
 have h1:(0:Int)<j:=hc;exact mod_int' (by lia) (by rw[Int.fmod_eq_emod_of_nonneg i (by lia)];exact q)
def Rc:yu X (binaryOp .Pow) (rI pL λ i j=>.int (i ^ j.toNat)):=kY λ _ _ _ _ _ _ _ hc q=>pow_int_small hc.1 hc.2.1 hc.2.2 q
def Vf {f:Value->Sem Value}{g:Int->Int}
  (rule:∀ (i:Int) (t:Tok) (s:Shared) (Q:Value->Shared->Prop) (E:Value->Shared->Prop),Q (.int (g i) s.toks) { s with toks:=s.toks+1 }->wpAny (model X.prog X.w) X.A (f (.int i t)) Q E s):
  dA X f (rU λ i=>.int (g i)):=by
 intro pins s B H x v Q I rx h;obtain⟨i,rfl,q⟩:=h;obtain⟨t,rfl⟩:=rx;exact rule i t s _ _ ⟨.int (g i),H,I.tok _,⟨_,rfl⟩,q⟩
def Ve:dA X (unaryOp .USub) (rU λ i=>.int (-i)):=Vf λ _ _ _ _ _ q=>neg_int q
end
section
variable {X:Cx}{a b c:Expr}{ta tb tc:TE}{pos:Pos}
def YG {pins:List (Addr×Obj)}{B:St}{H:Hp}{s:Shared}{Q:VK}{k k':Bool}(I:Inv X pins B H s) (q:Q (.bl k) H) (e:k=k'):EP X pins B Q (.bool k') s:=by
 subst e;exact⟨.bl k,H,I,rfl,q⟩
def Rm:yu X (compareOp .Lt) (vq λ i j=>.bl (decide (i<j))):=kZ λ _ _ _ _ _ _ _ q=>lt_int q
def kX:yu X (compareOp .LtE) (vq λ i j=>.bl (decide (i<=j))):=kZ λ _ _ _ _ _ _ _ q=>le_int q
def Z6:yu X (compareOp .Gt) (vq λ i j=>.bl (decide (j<i))):=kZ λ _ _ _ _ _ _ _ q=>gt_int q
def Z7:yu X (compareOp .GtE) (vq λ i j=>.bl (decide (j<=i))):=kZ λ _ _ _ _ _ _ _ q=>ge_int q
def Z4:yu X (compareOp .Is) (λ x y H Q=>y=.zh/\Q (.bl (decide (x=.zh))) H):=by
 intro pins s B H x y v u Q I rx ry h;obtain⟨rfl,q⟩:=h;cases ry;refine is_none_gen (YG I q ?_);cases x <;> first
  | (cases rx;rfl)
  | (obtain⟨t,rfl⟩:=rx;rfl)
def Zz:yu X (compareOp .IsNot) (λ x y H Q=>y=.zh/\Q (.bl (!decide (x=.zh))) H):=by
 intro pins s B H x y v u Q I rx ry h;obtain⟨rfl,q⟩:=h;cases ry;refine isnot_none_gen (YG I q ?_);cases x <;> first
  | (cases rx;rfl)
  | (obtain⟨t,rfl⟩:=rx;rfl)
def yu.or {f:Value->Value->Sem Value}{r r':R2}(h:yu X f r) (h':yu X f r'):yu X f (λ x y H Q=>r x y H Q\/r' x y H Q):=by
 intro pins s B H x y v u Q I rx ry q;rcases q with q | q
 .exact h pins s B H x y v u Q I rx ry q
 .exact h' pins s B H x y v u Q I rx ry q
def vB (b:Expr) {op:CmpOp}(h:op≠.In:=by decide) (h2:op≠.NotIn:=by decide):behindInMarks op b=false:=by
 have e1:(op == CmpOp.In)=false:=by cases op <;> first | rfl | exact absurd rfl h
 have e2:(op == CmpOp.NotIn)=false:=by cases op <;> first | rfl | exact absurd rfl h2
 cases b <;> simp[behindInMarks,e1,e2]
def Sd {op:CmpOp}{r:R2}(ho:yu X (compareOp op) r) (ha:PE X a ta) (hb:PE X b tb) (hm:behindInMarks op b=false):PE X (.Compare a [op] [b] pos) (nL r ta tb):=by
 intro pins s B H Q I h;exact wpAny_Compare1 (dk ha hb I h λ v u s2 x y H2 I2 rx ry q=>ho pins s2 B H2 x y v u Q I2 rx ry q) hm
def Vx (t:TE):TT:=fun B H Q=>t B H λ x H'=>∃ k,x=.bl k/\Q k H'
def UU {op:CmpOp}{r:R2}(ho:yu X (compareOp op) r) (ha:PE X a ta) (hb:PE X b tb) (hm:behindInMarks op b=false):PT X (.Compare a [op] [b] pos) (Vx (nL r ta tb)):=by
 intro pins s B H Q I h;refine wpAny_isTrue_Compare1 (zL (ha pins s B H _ I h) λ v s1 ⟨x,H1,I1,r1,q1⟩=>zL (hb pins s1 B H1 _ I1 q1) λ u s2 ⟨y,H2,I2,r2,q2⟩=>
  zL (ho pins s2 B H2 x y v u _ I2 r1 r2 q2) λ c s3 ⟨z,H3,I3,r3,k,e,q3⟩=>?_) hm
 subst e;cases r3;exact wpAny_truthy_bool ⟨H3,I3,q3⟩
def b_ (r r':R2) (ta tb tc:TE):TE:=fun B H Q=>ta B H λ x H1=>tb B H1 λ y H2=>r x y H2 λ z H3=>∃ k,z=.bl k/\
 (if k=true then tc B H3 λ w' H4=>r' y w' H4 Q else Q (.bl false) H3)
def Se {op op':CmpOp}{r r':R2}(ho:yu X (compareOp op) r) (ho':yu X (compareOp op') r') (ha:PE X a ta) (hb:PE X b tb) (hc:PE X c tc)
  (hm:lastMarks [op,op'] [b,c]=false:=by with_unfolding_all rfl):PE X (.Compare a [op,op'] [b,c] pos) (b_ r r' ta tb tc):=by
 intro pins s B H Q I h;refine Compare_chain (zL (ha pins s B H _ I h) λ v s1 ⟨x,H1,I1,r1,q1⟩=>chain_link (zL (hb pins s1 B H1 _ I1 q1) λ u s2 ⟨y,H2,I2,r2,q2⟩=>
  zL (ho pins s2 B H2 x y v u _ I2 r1 r2 q2) λ d s3 ⟨z,H3,I3,r3,k,e,q3⟩=>?_)) hm
 subst e;cases r3;refine wpAny_truthy_bool ?_;cases k with
 | false=>exact ite_ff ⟨.bl false,H3,I3,rfl,q3⟩
 | true=>exact ite_tt (chain_last (zL (hc pins s3 B H3 _ I3 q3) λ w' s4 ⟨z',H4,I4,r4,q4⟩=>ho' pins s4 B H4 y z' u w' Q I4 r2 r4 q4))
def dB (K:Ad) (x:V) (H:Hp) (k:Bool):Prop:=
 match x with
 | .zh=>k=false
 | .bl b=>k=b
 | .int i=>k=(i != 0)
 | .str y=>y.length<=sizeLine/\k=((y.length:Int) != 0)
 | .oP y=>y.size<=sizeLine/\k=((y.size:Int) != 0)
 | .ref p=>(∃ xs,zZ K H p xs/\k=!xs.isEmpty)\/(∃ xs,ye K H p xs/\k=!xs.isEmpty)\/∃ Aa,H p=some (.dK Aa)/\k=!Aa.isEmpty
 | _=>False
def OD {κ:Type}{Aa:List (κ × V)}{vs:List (κ × Value)}(r:KV Aa vs):(!vs.isEmpty)=!Aa.isEmpty:=by
 cases r <;> rfl
def Ym {xs:List V}{its:List Value}(r:Vals xs its):(!its.toArray.isEmpty)=!xs.isEmpty:=by
 cases r <;> simp
def qO:(sizeLine:Nat)<2 ^ 63:=by rw[sizeLine_eq];decide
def Vp:Ld X (λ x H Q=>∃ k,dB X.K x H k/\Q k H):=by
 intro pins s B H x v Q I rx h;obtain⟨k,e,q⟩:=h;have hl:=qO;have hs:sizeLine=16777216:=sizeLine_eq;cases x with
 | zh=>
  cases rx;have e':k=false:=e;subst e';exact truthy_none ⟨H,I,q⟩
 | bl b=>
  cases rx;have e':k=b:=e;subst e';exact wpAny_truthy_bool ⟨H,I,q⟩
 | int i=>
  obtain⟨t,rfl⟩:=rx;have e':k=(i != 0):=e;subst e';exact PySem.P.truthy_int ⟨H,I,q⟩
 | str y=>
  obtain⟨t,rfl⟩:=rx;obtain⟨hy,e'⟩:y.length<=sizeLine/\k=((y.length:Int) != 0):=e;subst e';exact PySem.P.truthy_str (by lia) ⟨H,I.tok _,q⟩
 | oP y=>
  obtain⟨t,rfl⟩:=rx;obtain⟨hy,e'⟩:y.size<=sizeLine/\k=((y.size:Int) != 0):=e;subst e';exact PySem.W.truthy_bytes (by lia) ⟨H,I.tok _,q⟩
 | ref p=>
  cases rx;have e':(∃ xs,zZ X.K H p xs/\k=!xs.isEmpty)\/(∃ xs,ye X.K H p xs/\k=!xs.isEmpty)\/∃ Aa,H p=some (.dK Aa)/\k=!Aa.isEmpty:=e;rcases e' with ⟨xs,hx,e'⟩ | ⟨xs,hx,e'⟩ | ⟨Aa,hx,e'⟩
  .subst e';obtain⟨its,r,pl,hz⟩:=I.list hx;have hlen:=r.length;exact wpAny_truthy_list pl.isList (by simp only[Aq];lia) ⟨H,I.tok _,by rw[Ym r];exact q⟩
  .subst e';obtain⟨its,r,pl,hz⟩:=I.tuple hx;have hlen:=r.length;exact truthy_tuple pl (by simp only[Aq];lia) ⟨H,I.tok _,by rw[Ym r];exact q⟩
  .subst e';obtain⟨hz,hS,vs,r,m⟩:Aa.length<=sizeLine/\(p == sysModules)=false/\∃ vs,KV Aa vs/\s.heap.DictOf (vf X.prog X.w) p vs:=I.zC p _ hx;have hlen:Aa.length=vs.length:=Paired.length r;exact wpAny_truthy_dict hS m (by lia) ⟨H,I.tok _,by rw[OD r];exact q⟩
 | _=>exact (show False from e).elim
def US (ha:PE X a ta) (he:∀ whole,isTrue a X.env whole=(do let v <- whole;standAt a.pos;holding [v] (truthy v))):
  PT X a (fun B H Q=>ta B H λ x H'=>∃ k,dB X.K x H' k/\Q k H'):=by
 intro pins s B H Q I h;exact isTrue_plain (zL (ha pins s B H _ I h) λ v s1 ⟨x,H1,I1,r1,q1⟩=>Vp pins s1 B H1 x v Q I1 r1 q1) (he _)
def Rt:yu X (binaryOp .Add) (λ x y H Q=>∃ i j,x=.str i/\y=.str j/\i.length+j.length<=sizeLine/\Q (.str (i++j)) H):=by
 intro pins s B H x y v u Q I rx ry h;obtain⟨i,j,rfl,rfl,hz,q⟩:=h;obtain⟨t,rfl⟩:=rx;obtain⟨t',rfl⟩:=ry;exact add_str (λ t' tk=>⟨.str (i++j),H,I.tok _,⟨_,rfl⟩,q⟩) hz
def vals1 {x:V}{us:List Value}(r:Vals [x] us):∃ u,us=[u]/\RelV x u:=by
 cases r with
 | cons r1 r2=>cases r2;exact⟨_,rfl,r1⟩
def vals2 {x y:V}{us:List Value}(r:Vals [x,y] us):∃ u w',us=[u,w']/\RelV x u/\RelV y w':=by
 cases r with
 | cons r1 r2=>
  cases r2 with
  | cons r3 r4=>cases r4;exact⟨_,_,rfl,r1,r3⟩
def MA (hc:X.calm=true):yU X (.builtin "max") (λ xs H Q=>∃ i j,xs=[.int i,.int j]/\Q (.int (if j>i then j else i)) H):=by
 intro pins s B H xs us Q I r h;obtain⟨i,j,rfl,q⟩:=h;obtain⟨u,w',rfl,⟨t,rfl⟩,⟨t',rfl⟩⟩:=vals2 r;refine max_two_ints (I.ok.hd hc) λ h' tk k=>⟨_,H,I.kept k,?_,q⟩;by_cases hj:j>i
 .rw[if_pos hj,if_pos hj];exact⟨_,rfl⟩
 .rw[if_neg hj,if_neg hj];exact⟨_,rfl⟩
def M9 (hc:X.calm=true):yU X (.builtin "min") (λ xs H Q=>∃ i j,xs=[.int i,.int j]/\Q (.int (if j<i then j else i)) H):=by
 intro pins s B H xs us Q I r h;obtain⟨i,j,rfl,q⟩:=h;obtain⟨u,w',rfl,⟨t,rfl⟩,⟨t',rfl⟩⟩:=vals2 r;refine min_two_ints (I.ok.hd hc) λ h' tk k=>⟨_,H,I.kept k,?_,q⟩;by_cases hj:j<i
 .rw[if_pos hj,if_pos hj];exact⟨_,rfl⟩
 .rw[if_neg hj,if_neg hj];exact⟨_,rfl⟩
def MG:yU X (.type "int") (λ xs H Q=>(∃ i,xs=[.int i]/\Q (.int i) H)\/∃ k,xs=[.bl k]/\Q (.int (if k then 1 else 0)) H):=by
 intro pins s B H xs us Q I r h;rcases h with ⟨i,rfl,q⟩ | ⟨k,rfl,q⟩
 .obtain⟨u,rfl,t,rfl⟩:=vals1 r;exact call_int_int ⟨.int i,H,I,⟨_,rfl⟩,q⟩
 .obtain⟨u,rfl,r1⟩:=vals1 r;cases r1;exact call_int_bool ⟨.int (if k then 1 else 0),H,I.tok _,⟨_,rfl⟩,q⟩
end
section
variable {prog:Program}{w:World}{A:Around}{E:Value->Shared->Prop}{s:Shared}{K:Ad}{x dx C f:Addr}{mA:Str->Option Value}{name:Str}{v:Value}
end
def uH.some_of {v:V}{o:Option Value}(r:uH (some v) o):∃ u,o=some u/\RelV v u:=by
 cases o with
 | none=>exact (show False from r).elim
 | some u=>exact⟨u,rfl,r⟩
section
variable {P:Program}{w:World}{H H':Hp}{h h':Heap}{a C dx:Addr}{fs fs':List (Str×V)}
end
section
variable {X:Cx}{pins:List (Addr×Obj)}{B:St}{H:Hp}{s:Shared}{a C dx:Addr}{fs:List (Str×V)}{f:Str}{v:V}{A:Around}{E:Value->Shared->Prop}
end
section
variable {X:Cx}{o e value:Expr}{f:Str}{pos pos' tpos:Pos}{ta tv:TE}
end
section
variable {X:Cx}{pins:List (Addr×Obj)}{B:St}{H:Hp}{s:Shared}{A:Around}{E:Value->Shared->Prop}{Q:Value->Shared->Prop}{c:Value}{b:Bool}
end
structure yI (k:Nat) (A:Around):Prop where
 hd:A.handled=none
 dp:A.depth+3*k+5<recursionLimit
 un:A.units+16*k+200<cLine
def yI.mono {j k:Nat}{A:Around}(r:yI k A) (h:j<=k):yI j A:=⟨r.hd,by have:=r.dp;lia,by have:=r.un;lia⟩
theorem yI.deeper {k:Nat}{A:Around}(r:yI (k+1) A) (env:Env):yI k (A.deeper env):=
 ⟨r.hd,by have:=r.dp;show A.depth+1+3*k+5<_;lia,by have:=r.un;show A.units+3+16*k+200<_;lia⟩
theorem yI.depth {k:Nat}{A:Around}(r:yI k A):A.depth<recursionLimit:=by have:=r.dp;lia
theorem yI.units {k:Nat}{A:Around}(r:yI k A):A.units+64<cLine:=by have:=r.un;lia
def iz:TA:=λ _ H Q=>Q [] H
def i5 (ta:TE) (tr:TA):TA:=fun B H Q=>ta B H λ x H1=>tr B H1 λ xs H2=>Q (x::xs) H2
section
variable {X:Cx}{e:Expr}{es:List Expr}{te:TE}{t:TA}{pos:Pos}
def om:PA X [] iz:=λ _ _ _ _ H Q I h=>Calls.spliced_nil ⟨[],H,I,.nil,h⟩
def qJ (ha:PE X e te) (hr:PA X es t) (hs:starEach (e::es) X.env=(false,eval e X.env)::starEach es X.env:=by rfl):PA X (e::es) (i5 te t):=by
 intro pos pins s B H Q I h;rw[hs];show wpAny _ _ (spliced ((false,eval e X.env)::backTo pos (starEach es X.env))) _ _ s;refine Calls.spliced_cons (zL (ha pins s B H _ I h) λ u s1 ⟨x,H1,I1,r1,q1⟩=>?_);exact zL (hr pos pins s1 B H1 _ I1 q1) λ us s2 ⟨xs,H2,I2,r2,q2⟩=>⟨x::xs,H2,I2,.cons r1 r2,q2⟩
def Vv (t:TA):TE:=fun B H Q=>t B H λ xs H1=>xs.length<=sizeLine/\∀ p,H1 p=none->Q (.ref p) (upd H1 p (.tup xs))
def V8 (t:TA):TE:=fun B H Q=>t B H λ xs H1=>xs.length<=sizeLine/\∀ p,H1 p=none->Q (.ref p) (upd H1 p (.lst xs))
def TB {x1} (h:PA X es t):PE X (.Tuple es x1 pos) (Vv t):=by
 intro pins s B H Q I hq;refine wpAny_Tuple_spliced (zL (h pos pins s B H _ I hq) λ us s1 ⟨xs,H1,I1,r,z,q⟩=>⟨by rw[<- r.length];exact z,?_⟩);have hf:H1 s1.heap.objs.size=none:=I1.zC.fresh (Ag _);refine⟨.ref s1.heap.objs.size,upd H1 s1.heap.objs.size (.tup xs),I1.laid (t':=s1.toks) (λ b u e=>An _ e) (Ag _) ?_,rfl,q _ hf⟩;exact⟨z,us,r,⟨_,AF _ rfl,rfl,_,rfl⟩⟩
def TQ (h:PA X es t):PE X (.List es pos) (V8 t):=by
 intro pins s B H Q I hq;refine wpAny_List_spliced (zL (h pos pins s B H _ I hq) λ us s1 ⟨xs,H1,I1,r,z,q⟩=>⟨by rw[<- r.length];exact z,?_⟩);have hf:H1 s1.heap.objs.size=none:=I1.zC.fresh (Ag _);refine⟨.ref s1.heap.objs.size,upd H1 s1.heap.objs.size (.lst xs),I1.laid (t':=s1.toks) (λ b u e=>An _ e) (Ag _) ?_,rfl,q _ hf⟩;exact⟨z,us,0,r,AF _ rfl⟩
end
abbrev Sp:=List V->Hp->VK->XK->Prop
abbrev tp:=List Env->Hp->Shared->XK->Value->Shared->Prop
structure jT (P:Program) (w:World) (K:Ad) (mg:Str->Option Value) (base:Heap) (A:Around) (outer:List Env) (s:Shared) (H:Hp):Prop where
 frames:A.frames=some outer
 mod:Mod K mg base
 bs:∀ b o,base.get? b=some o->s.heap.get? b=some o/\H b=none
 qZ:base.objs.size<=s.heap.objs.size
 uT:s.heap.FunFrames base outer
 oG:∀ b∈vZ outer,H b=none
 zC:xl P w H s.heap
 bare:AllBare s.gens
def CE (outer:List Env) (P:Program) (w:World) (H:Hp) (s:Shared) (Q:VK) (u:Value) (s':Shared):Prop:=
 ∃ v H',s'.os=s.os/\AllBare s'.gens/\Un (vZ outer) [] H H' s.heap s'.heap/\xl P w H' s'.heap/\RelV v u/\Q v H'
def CR (CX:tp) (outer:List Env) (P:Program) (w:World) (H:Hp) (s:Shared) (Q:VK) (E:XK) (r:Result) (s':Shared):Prop:=
 match r with
 | .ok (.ret u)=>CE outer P w H s Q u s'
 | .ok _=>False
 | .error e=>CX outer H s E e s'
structure uM (P:Program) (w:World) (K:Ad) (mg:Str->Option Value) (base:Heap) (CX:tp) (k:Nat) (f:Addr) (fd:FuncData) (ps:List Str) (sp:Sp):Prop where
 len:∀ vs H Q E,sp vs H Q E->vs.length=ps.length
 run:∀ (A:Around) (outer:List Env) (s:Shared) (H:Hp) (args:Args) (us:List Value) (vs:List V) (Q:VK) (E:XK),yI k A->jT P w K mg base A outer s H->BindsTo s fd args (ps.zip us)->Vals vs us->sp vs H Q E->
  codeAny (model P w) A (.call (.ref f) args) (CR CX outer P w H s Q E) s
section
variable {X:Cx}{pins:List (Addr×Obj)}{B:St}{H:Hp}{s s':Shared}
def Inv.ND (I:Inv X pins B H s):jT X.prog X.w X.K X.mg X.base X.A X.stack s H:=
 ⟨I.ok.frames,I.ok.mod,I.bs,Bi I.ok.qZ I.sz,I.stack,I.ae,I.zC,I.bare⟩
def Inv.after {Q:VK}{u:Value}(I:Inv X pins B H s) (h:CE X.stack X.prog X.w H s Q u s'):EP X pins B Q u s':=by
 obtain⟨v,H',os,bare,un,zC,r,q⟩:=h;obtain⟨hh,g,d,t,os'⟩:=s';obtain rfl:os'=s.os:=os;exact⟨v,H',I.call (h':=hh) (g':=g) (d':=d) (t':=t) (ch:=[]) un zC bare (λ b z=>absurd z (by simp)),r,q⟩
end
def aa (sp:Sp) (dvs:List V) (E:XK) (t:TA):TE:=fun B H Q=>t B H λ vs H1=>sp (vs++dvs) H1 Q E
def Binds (K:Ad) (fd:FuncData) (ps:List Str) (ds:List Value):Prop:=
 ∀ (s:Shared) (us:List Value),K.In s.heap->(us++ds).length=ps.length->BindsTo s fd ⟨us,[]⟩ (ps.zip (us++ds))
def Binds.all {K:Ad}{fd:FuncData}{ps:List Str}(h:∀ us:List Value,us.length=ps.length->bindArgs fd ⟨us,[]⟩=pure (ps.zip us)):Binds K fd ps []:=λ s us _ hl=>by
 rw[CO] at hl ⊢;exact .of_eq (h us hl)
def Passes (CX:tp) (X:Cx) (E:XK):Prop:=∀ (pins:List (Addr×Obj)) (B:St) (H:Hp) (s:Shared) (e:Value) (s':Shared),Inv X pins B H s->CX X.stack H s E e s'->X.xe e s'
section
variable {X:Cx}{CX:tp}{k:Nat}{f C:Addr}{fd:FuncData}{ps:List Str}{sp:Sp}{dvs:List V}{ds:List Value}{E:XK}{x m:Str}{p pos apos:Pos}{e o:Expr}{es:List Expr}{ta:TE}{t:TA}
def U4 {pins:List (Addr×Obj)}{B:St}{H:Hp}{s:Shared}{Q:VK}{us:List Value}{vs:List V}(F:uM X.prog X.w X.K X.mg X.base CX k f fd ps sp) (hr:yI k X.A) (hb:Binds X.K fd ps ds) (hd:Vals dvs ds) (hx:Passes CX X E)
  (I:Inv X pins B H s) (r:Vals vs us) (h:sp (vs++dvs) H Q E):wpAny (model X.prog X.w) X.A (call (.ref f) us) (EP X pins B Q) X.xe s:=by
 have r2:Vals (vs++dvs) (us++ds):=r.append hd;have hl:(us++ds).length=ps.length:=by rw[<- r2.length];exact F.len _ _ _ _ h
 refine wpAny_call (codeAny_mono (F.run X.A X.stack s H ⟨us,[]⟩ (us++ds) (vs++dvs) Q E hr I.ND (hb s us I.vW hl) r2 h) λ r s' hq=>?_);cases r with
 | error e=>exact hx pins B H s e s' I hq
 | ok fl=>
  cases fl with
  | ret u=>exact I.after hq
  | next=>exact False.elim hq
  | brk=>exact False.elim hq
  | cont=>exact False.elim hq
def Sf (F:uM X.prog X.w X.K X.mg X.base CX k f fd ps sp) (hr:yI k X.A) (hg:Gl X x) (hm:X.mg x=some (.ref f)) (hk:PySem.W.keepIn X.K (.ref f)=true) (hb:Binds X.K fd ps ds) (hd:Vals dvs ds) (hx:Passes CX X E)
  (ha:PA X (e::es) t) (CI:(x == ("__debug__":Str))=false:=by decide) (he:starEach (e::es) X.env=(false,eval e X.env)::starEach es X.env:=by rfl) (Au:(backTo pos (starEach es X.env)).any (·.1)=false:=by rfl):
  PE X (.Call (.Name x p) (e::es) [] pos) (aa sp dvs E t):=by
 intro pins s B H Q I h;refine wpAny_Call_Name_kw (Yb I hg hm ?_ CI);refine PySem.W.callWith_K (h₀:=X.base) I.ok.mod.fP hk (zL (ha pos pins s B H _ I h) λ us s1 ⟨vs,H1,I1,r,q⟩=>⟨I1.vW,?_⟩) he Au;exact U4 F hr hb hd hx I1 r q
end
section
variable {X:Cx}{CX:tp}{k:Nat}{f C:Addr}{fd:FuncData}{ps ks:List Str}{sp:Sp}{E:XK}{x m:Str}{p pos apos kpos:Pos}{e o:Expr}{es:List Expr}{kws:List Keyword}{te ta:TE}{t tk:TA}{nm:Option Str}
variable {g:List Value->List Value->List Value}{gV:List V->List V->List V}
end
structure yb (N P:List Str) (sc:Scope):Prop where
 kind:sc.kind=.function
 co:sc.isCoroutine=false
 gen:sc.isGenerator=false
 nd:N.Nodup
 pre:N.take P.length=P
 par:∀ x∈P,sc.names.lookup x=some .local\/sc.names.lookup x=some .cell
 Pt:∀ y∈sc.names,y.2≠.free
theorem XD {kindOf:Str->Option NameKind}{x:Str}:∀ {binds:List (Str×Value)}{m:Str->Option Value},(∀ v,(x,v)∉binds)->bindL kindOf binds m x=m x
 | [],_,_=>rfl
 | (n,v)::r,m,h=>by
  unfold bindL;rw[XD λ w hw=>h w (Av _ hw)];split
  .have:x≠n:=by rintro rfl;exact h v Am
   simp[this]
  .rfl
theorem XF {kindOf:Str->Option NameKind}{x:Str}:∀ {binds:List (Str×Value)}{m:Str->Option Value},(∀ v,(x,v)∉binds)->bindC kindOf binds m x=m x
 | [],_,_=>rfl
 | (n,v)::r,m,h=>by
  unfold bindC;rw[XF λ w hw=>h w (Av _ hw)];split
  .rfl
  .have:x≠n:=by rintro rfl;exact h v Am
   simp[this]
theorem XE {kindOf:Str->Option NameKind}{x:Str}{v:Value}:∀ {P:List Str}{vs:List Value}{i:Nat}{m:Str->Option Value},P.Nodup->P[i]?=some x->vs[i]?=some v->kindOf x=some .local->
  bindL kindOf (P.zip vs) m x=some v
 | [],_,_,_,_,h,_,_=>by simp at h
 | _::_,[],_,_,_,_,h,_=>by simp at h
 | p::P,w::vs,0,m,nd,h1,h2,hk=>by
  simp at h1 h2;subst h1;subst h2;show bindL kindOf ((p,w)::P.zip vs) m p=_;unfold bindL;rw[XD λ v hv=>(Bg.mp nd).1 (Ed hv).1,if_pos hk];simp
 | p::P,w::vs,i+1,m,nd,h1,h2,hk=>by
  show bindL kindOf ((p,w)::P.zip vs) m x=_;unfold bindL;exact XE (i:=i) (Bg.mp nd).2 (by simpa using h1) (by simpa using h2) hk
theorem XG {kindOf:Str->Option NameKind}{x:Str}{v:Value}:∀ {P:List Str}{vs:List Value}{i:Nat}{m:Str->Option Value},P.Nodup->P[i]?=some x->vs[i]?=some v->kindOf x≠some .local->
  bindC kindOf (P.zip vs) m x=some v
 | [],_,_,_,_,h,_,_=>by simp at h
 | _::_,[],_,_,_,_,h,_=>by simp at h
 | p::P,w::vs,0,m,nd,h1,h2,hk=>by
  simp at h1 h2;subst h1;subst h2;show bindC kindOf ((p,w)::P.zip vs) m p=_;unfold bindC;rw[XF λ v hv=>(Bg.mp nd).1 (Ed hv).1,if_neg hk];simp
 | p::P,w::vs,i+1,m,nd,h1,h2,hk=>by
  show bindC kindOf ((p,w)::P.zip vs) m x=_;unfold bindC;exact XG (i:=i) (Bg.mp nd).2 (by simpa using h1) (by simpa using h2) hk
noncomputable def start (N:List Str) (vs:List V):St:=vs.map some++List.replicate (N.length-vs.length) none
noncomputable def tN (CX:tp) (P:Program) (w:World) (K:Ad) (mg:Str->Option Value) (base:Heap) (N:List Str) (qual:Str) (scope:Scope) (f:Addr) (cd:Value) (A:Around) (outer:List Env) (s:Shared) (H:Hp) (E:XK):Cx where
 prog:=P
 w:=w
 K:=K
 mg:=mg
 base:=base
 A:=A.deeper (envOfC qual scope s.heap.objs.size f cd)
 N:=N
 s₀:=s
 H₀:=H
 env:=envOfC qual scope s.heap.objs.size f cd
 outer:=outer
 stack:=envOfC qual scope s.heap.objs.size f cd::outer
 ex:=[]
 calm:=true
 fn:=λ _=>true
 pn:=[]
 xe:=λ e s'=>wpAny (model P w) (A.deeper (envOfC qual scope s.heap.objs.size f cd)) (leaving (envOfC qual scope s.heap.objs.size f cd) e) (λ _ s''=>CX outer H s E e s'') (λ e' s''=>CX outer H s E e' s'') s'
def X8 {sc:Scope}{n:Nat}{x:Str}(h:sc.names.lookup x=some .cell):∃ c,(cellsFrom n sc.names []).lookup x=some c:=by
 have q:=PySem.W.cellsFrom_some sc.names n [] (.inl h);exact DT.mp q
def OH {CX:tp}{P:Program}{w:World}{K:Ad}{mg:Str->Option Value}{base:Heap}{N ps:List Str}{qual:Str}{scope:Scope}{f:Addr}{cd:Value}{A:Around}{outer:List Env}{s s1:Shared}{H:Hp}{E:XK}{us:List Value}{vs:List V}
  (S:yb N ps scope) (hd:A.handled=none) (e0:jT P w K mg base A outer s H) (hl:vs.length=ps.length) (r:Vals vs us)
  (x:InCallC s s.heap.objs.size (bindL (envOfC qual scope s.heap.objs.size f cd).kindOf (ps.zip us) λ _=>none) (cellsFrom (s.heap.objs.size+1) scope.names []) (bindC (envOfC qual scope s.heap.objs.size f cd).kindOf (ps.zip us) λ _=>none) s1):
  Inv (tN CX P w K mg base N qual scope f cd A outer s H E) [] (start N vs) H s1:=by
 have Au:ps.length<=N.length:=by have:=congrArg List.length S.pre;rw[Dh] at this;lia
 obtain⟨h1,tk,rfl,hk⟩:=x.done;have noA:∀ b:Addr,b∉(tN CX P w K mg base N qual scope f cd A outer s H E).ex:=λ b z=>absurd (show b∈([]:List Addr) from z) (by simp);refine⟨⟨e0.mod,S.kind,rfl,rfl,Ag _,λ y z c h1 h2=>?_,λ y hy=>?_,λ y c _ h=>?_,λ _=>hd,Around.frames_deeper e0.frames,.inr ⟨rfl,rfl⟩,λ b z=>absurd z (noA b),e0.bs,e0.qZ,λ b _ _=>noA b,λ b z=>absurd z (noA b),e0.uT,e0.oG⟩,
  rfl,e0.bare,Un.kept hk,⟨_,x.toInCall.ns,λ i y v h1 h2 h3=>?_⟩,λ y c h=>⟨_,x.cell y c h⟩,e0.zC.fresh (Ag _),λ y c h=>?_,λ p hp=>absurd (show p∈([]:List (Addr×Obj)) from hp) (by simp),e0.zC.kept hk,?_⟩
 .exact name_of_addr x.apart (PySem.mem_of_lookup h1) (PySem.mem_of_lookup h2)
 .have hy:scope.names.lookup y=some .cell\/scope.names.lookup y=some .free:=hy;rcases hy with hy | hy
  .exact X8 hy
  .exact absurd rfl (S.Pt _ (PySem.mem_of_lookup hy))
 .exact BE (x.above y c (PySem.mem_of_lookup h))
 .have hi:i<vs.length:=by
   unfold start at h2;by_cases hi:i<vs.length
   .exact hi
   .rw[Dg (by simpa using hi)] at h2;rw[Df] at h2;split at h2 <;> cases h2
  have ha:vs[i]?=some v:=by
   unfold start at h2;rw[Cv (by simpa using hi),Aw] at h2;cases e:vs[i]? with
   | none=>rw[e] at h2;cases h2
   | some a=>rw[e] at h2;cases h2;rfl
  obtain⟨u,hu,rv⟩:=r.get ha;have hp:ps[i]?=some y:=by
   rw[<- S.pre,List.getElem?_take_of_lt (by lia)];exact h1
  have ndP:ps.Nodup:=by rw[<- S.pre];exact S.nd.sublist (List.take_sublist _ _)
  refine⟨u,rv,?_⟩;rcases S.par y (AX hp) with k | k
  .exact .inl ⟨k,XE ndP hp hu k⟩
  .obtain⟨c,e⟩:=X8 (n:=s.heap.objs.size+1) k;refine .inr ⟨.inl k,c,e,?_⟩;have q:=x.cell y c e;rw[XG ndP hp hu (by show scope.names.lookup y≠_;rw[k];decide)] at q;exact q
 .exact e0.zC.fresh (BE (x.above y c (PySem.mem_of_lookup h)))
 .unfold start;show _=N.length;rw[Ck,Az,List.length_replicate];lia
def N0 {CX:tp}{P:Program}{w:World}{K:Ad}{mg:Str->Option Value}{base:Heap}{k:Nat}{f:Addr}{name qual:Str}{params:Arguments}{body:List Stmt}{scope:Scope}{dV kV doc pm Af ct oc:Value}{an od:Option Addr}
  {osl:Array (Option Value)}{N ps:List Str}{sp:Sp}(lk:K.lookup f=some ⟨oc,od,.func (PySem.W.fnOf name qual params body scope dV kV doc pm an Af ct),osl⟩) (BJ:PySem.W.codeIn K Af qual=true) (S:yb N ps scope)
  (len:∀ vs H Q E,sp vs H Q E->vs.length=ps.length)
  (hbody:∀ (A:Around) (outer:List Env) (s:Shared) (H:Hp) (vs:List V) (Q:VK) (E:XK),yI k (A.deeper (envOfC qual scope s.heap.objs.size f Af))->sp vs H Q E->
   ∃ t,wF (tN CX P w K mg base N qual scope f Af A outer s H E) body t/\t { nx:=λ _ H'=>Q .zh H',rt:=Q } (start N vs) H):
  uM P w K mg base CX (k+1) f (PySem.W.fnOf name qual params body scope dV kV doc pm an Af ct) ps sp:=by
 refine⟨len,λ A outer s H args us vs Q E hr e0 hb r A2=>?_⟩;have hl:=len _ _ _ _ A2;have KX:K.In s.heap:=e0.mod.fP.keeps λ b o e=>(e0.bs b o e).1;have lim:s.heap.NoLimit:=e0.mod.nolimit.keeps λ b o e=>(e0.bs b o e).1;have hkind:∀ y∈ps.zip us,scope.names.lookup y.1=some .local\/(scope.names.lookup y.1=some .cell/\((cellsFrom (s.heap.objs.size+1) scope.names []).lookup y.1).isSome=true):=λ⟨n,v⟩ hy=>by
  rcases S.par n (Ed hy).1 with q | q
  .exact .inl q
  .exact .inr ⟨q,PySem.W.cellsFrom_some _ _ _ (.inl q)⟩
 refine codeAny_call_function hr.depth (KX _ _ lk) rfl S.co S.gen rfl (PySem.W.codeRec_of KX BJ) (hb _ _ _ _ ?_);refine wpAny_newFunctionEnv_cells S.kind hkind λ env he s1 x=>?_;subst he;refine⟨lim.keeps x.toInCall.keep,codeAny_func ?_⟩;obtain⟨t,ht,hq⟩:=hbody A outer s H vs Q E (hr.deeper _) A2;have I:Inv (tN CX P w K mg base N qual scope f Af A outer s H E) [] (start N vs) H s1:=OH S hr.hd e0 hl r x;refine wpAny_mono (ht [] s1 (start N vs) H _ I hq) (λ fl s' hs=>?_) λ e s' hs=>hs;have fin:∀ {B':St}{H':Hp}{v:V}{u:Value},Inv (tN CX P w K mg base N qual scope f Af A outer s H E) [] B' H' s'->RelV v u->Q v H'->CE outer P w H s Q u s':=
  λ{B' H' v u} J rv q=>⟨v,H',J.os,J.bare,J.base,J.zC,rv,q⟩
 cases fl with
 | ret u=>
  obtain⟨v,B',H',J,rv,q⟩:=hs;exact fin J rv q
 | next=>
  obtain⟨B',H',J,q⟩:=hs;exact fin (v:=V.zh) (u:=Value.none) J rfl q
 | brk=>
  obtain⟨_,_,_,q⟩:=hs;exact False.elim q
 | cont=>
  obtain⟨_,_,_,q⟩:=hs;exact False.elim q
section
variable {X:Cx}{x:Str}{p pos:Pos}{e:Expr}{es:List Expr}{t:TA}{id T:String}{r:List V->Hp->VK->Prop}
def ku (r:List V->Hp->VK->Prop) (t:TA):TE:=fun B H Q=>t B H λ vs H1=>r vs H1 Q
def sE (hc:yU X (.builtin id) r) (hg:Gl X x) (hm:X.mg x=none) (hv:bootBuiltins x=some (.builtin id)) (ha:PA X (e::es) t) (hn:x≠"__name__":=by decide) (CI:(x == ("__debug__":Str))=false:=by decide)
  (he:starEach (e::es) X.env=(false,eval e X.env)::starEach es X.env:=by rfl) (Au:(backTo pos (starEach es X.env)).any (·.1)=false:=by rfl):PE X (.Call (.Name x p) (e::es) [] pos) (ku r t):=by
 intro pins s B H Q I h;refine wpAny_Call_Name_kw (oz I hg hm hv ?_ hn CI);exact PyProof.Rows.callWith_builtin1 (zL (ha pos pins s B H _ I h) λ us s1 ⟨vs,H1,I1,r1,q1⟩=>hc pins s1 B H1 vs us Q I1 r1 q1) he Au
def pX (hc:yU X (.type T) r) (hg:Gl X x) (hm:X.mg x=none) (hv:bootBuiltins x=some (.type T)) (ha:PA X (e::es) t) (hn:x≠"__name__":=by decide) (CI:(x == ("__debug__":Str))=false:=by decide)
  (he:starEach (e::es) X.env=(false,eval e X.env)::starEach es X.env:=by rfl) (Au:(backTo pos (starEach es X.env)).any (·.1)=false:=by rfl):PE X (.Call (.Name x p) (e::es) [] pos) (ku r t):=by
 intro pins s B H Q I h;refine wpAny_Call_Name_kw (oz I hg hm hv ?_ hn CI);exact PyProof.Rows.callWith_type1 (zL (ha pos pins s B H _ I h) λ us s1 ⟨vs,H1,I1,r1,q1⟩=>hc pins s1 B H1 vs us Q I1 r1 q1) he Au
end
end L2
namespace HT
open PySem PyProof.Rows
noncomputable def lexLt:List Int->List Int->Bool
 | [],[]=>false
 | [],_::_=>true
 | _::_,[]=>false
 | x::xs,y::ys=>if x=y then lexLt xs ys else decide (x<y)
def rR (x y:Int) (xs ys:List Int):lexLt (x::xs) (y::ys)=if x=y then lexLt xs ys else decide (x<y):=rfl
def Oc:lexLt [] []=false:=rfl
def Od (y:Int) (ys:List Int):lexLt [] (y::ys)=true:=rfl
def Oe (x:Int) (xs:List Int):lexLt (x::xs) []=false:=rfl
def NC (A:Around) (s:Shared) (a:Int) (t:Tok) (c:Int) (u:Tok):∃ e,SeqAt.EqAt A s (.int a t) (.int c u) e/\(e=true↔a=c):=
 ⟨(a == c),SeqAt.EqAt.int_int a t c u,by simp⟩
def UD (A:Around) (s:Shared) (a:Int) (t:Tok) (c:Int) (u:Tok) (prog:Program) (w:World) (E:Value->Shared->Prop) (Q:Value->Shared->Prop) (h:Q (.bool (decide (a<c))) s):
  wpAny (model prog w) A (richCompare .Lt (.int a t) (.int c u)) Q E s:=
 (PyProof.Rows.lt_int h:wpAny (model prog w) A (compareOp .Lt (.int a t) (.int c u)) Q E s)
section
open PySem.SeqAt
open PySem.AutoSeq1 (wpAny_loadPart')
open PySem.MeetsSeq PySem.MeetsSeq2 PySem.MeetsSeq3
def Vn (l b:Addr) (items items2:Array Value) (n n2:Nat) (dd dd2:Option Addr) (sl sl2:Array (Option Value)) (ns ms:List Int) (hi:IntsAre items.toList ns) (hj:IntsAre items2.toList ms):
  Meets (Builtin.«tuple.__lt__» ⟨[.ref l,.ref b],[]⟩)
   (λ _ R s=>s.heap.get? l=some { cls:=.type "tuple",dict:=dd,data:=.seq items n,slots:=sl }/\s.heap.get? b=some { cls:=.type "tuple",dict:=dd2,data:=.seq items2 n2,slots:=sl2 }/\
    R (.ok (.ret (.bool (lexLt ns ms)))) s):=
 .of_wp λ prog w A R s h=>by
  obtain⟨hp,g,d,tk,os⟩:=s;obtain⟨hl,hb,h⟩:=h;have f2:=AutoSeq1.sub_tuple_tuple;have z1:items.size=ns.length:=by rw[<- hi.length];simp
  have z2:items2.size=ms.length:=by rw[<- hj.length];simp
  wp_walk using wpAny_loadPart' hl,wpAny_loadPart' hb,wpAny_forIn_list _ (λ rest b s'=>b.1=none/\s'=⟨hp,g,d,tk,os⟩/\∃ (vs ws:List Value) (ns' ms':List Int),rest=vs.zip ws/\
   IntsAre vs ns'/\IntsAre ws ms'/\ns'.length+items2.size=ms'.length+items.size/\R (.ok (.ret (.bool (lexLt ns' ms')))) ⟨hp,g,d,tk,os⟩) _
  case turn=>
   rintro⟨y,x⟩ rest b s' ⟨hb',rfl,vs,ws,ns',ms',hz,Ek,CQ,hlen,hR⟩;cases Ek with
   | nil=>rw[List.zip_nil_left] at hz;cases hz
   | cons a t Ej=>
    cases CQ with
    | nil=>rw[List.zip_nil_right] at hz;cases hz
    | cons c u Eg=>
     rw[List.zip_cons_cons] at hz
     injection hz with hyx hrest
     injection hyx with hy hx
     subst hy hx;rw[rR] at hR;simp only[AY] at hlen;obtain⟨e,he,Ds⟩:=NC A.in1 ⟨hp,g,d,tk,os⟩ a t c u;refine Ab (he prog w _ _ ?_);cases e with
     | true=>
      rw[if_pos (Ds.mp rfl)] at hR
      wp_walk
      exact⟨rfl,rfl,_,_,_,_,hrest,Ej,Eg,by lia,hR⟩
     | false=>
      rw[if_neg (λ q=>absurd (Ds.mpr q) BC)] at hR;have hri:=UD A.in1 ⟨hp,g,d,tk,os⟩ a t c u prog w
      wp_walk using hri
      exact⟨_,rfl,by simpa using hR⟩
  case fin=>
   rintro⟨b1,b2⟩ s' ⟨hb',rfl,vs,ws,ns',ms',hz,Ek,CQ,hlen,hR⟩;simp only at hb';subst hb';have hv:lexLt ns' ms'=decide (items.size<items2.size):=by
    cases Ek with
    | nil=>
     cases CQ with
     | nil=>
      simp only[De] at hlen;rw[Oc];exact (decide_eq_false (by lia)).symm
     | cons c u hw=>
      simp only[De,AY] at hlen;rw[Od];exact (decide_eq_true (by lia)).symm
    | cons a t hv=>
     cases CQ with
     | nil=>
      simp only[De,AY] at hlen;rw[Oe];exact (decide_eq_false (by lia)).symm
     | cons c u hw=>
      rw[List.zip_cons_cons] at hz;cases hz
   rw[hv] at hR
   wp_walk
   exact⟨_,rfl,by simpa [Builtin.Tuple.tupleCompareSizes] using hR⟩
  case h=>
   exact⟨rfl,rfl,items.toList,items2.toList,ns,ms,rfl,hi,hj,by lia,h⟩
end
section
variable {prog:Program}{w:World}{A:Around}{E:Value->Shared->Prop}{s:Shared}
def PV {l b:Addr}{items items2:Array Value}{ns ms:List Int}{Q:Value->Shared->Prop}(hl:IsTup s.heap l items) (hb:IsTup s.heap b items2) (hi:IntsAre items.toList ns) (hj:IntsAre items2.toList ms)
  (hu:A.units<cLine) (h:Q (.bool (lexLt ns ms)) s):wpAny (model prog w) A (compareOp .Lt (.ref l) (.ref b)) Q E s:=by
 obtain⟨⟨cls,dd,data,sl⟩,ho,hc,n,hd⟩:=id hl;obtain⟨⟨cls2,dd2,data2,sl2⟩,ho2,hc2,n2,hd2⟩:=id hb;simp only at hc hd hc2 hd2;subst hc hd hc2 hd2;exact richCompare_meets_room (op:=.Lt) ⟨_,ho,rfl⟩ ⟨_,ho2,rfl⟩ PySem.F.slot_tuple_lt PySem.F.entry_tuple_lt (PySem.F.args_tuple_lt_2 _ _) (Vn l b items items2 n n2 dd dd2 sl sl2 ns ms hi hj)
  ⟨ho,ho2,show Value.bool (lexLt ns ms)≠Value.notImplemented/\Q (.bool (lexLt ns ms)) s from ⟨(λ x=>nomatch x),h⟩⟩ hu
def Mx {t b:Addr}{vs ws:List Value}{Q:Value->Shared->Prop}(ht:IsTup s.heap t vs.toArray) (hb:IsTup s.heap b ws.toArray) (hv:vs≠[])
  (h1:ws=[]->Q (.ref t) s) (h2:ws≠[]->Q (.ref s.heap.objs.size) { s with heap:=s.heap.push { cls:=.type "tuple",data:=.seq (vs++ws).toArray } })
  (hsz:vs.length+ws.length<=sizeLine):wpAny (model prog w) A (binaryOp .Add (.ref t) (.ref b)) Q E s:=by
 obtain⟨⟨cls,dd,data,sl⟩,ho,hc,n,hd⟩:=id ht;obtain⟨⟨cls2,dd2,data2,sl2⟩,ho2,hc2,n2,hd2⟩:=id hb;simp only at hc hd hc2 hd2;subst hc hd hc2 hd2;have e:vs.toArray++ws.toArray=(vs++ws).toArray:=by simp
 by_cases hw:ws=[]
 .exact concat_meets ⟨_,ho,rfl⟩ ⟨_,ho2,rfl⟩ noFill_tuple_add seq_tuple_add PySem.F.slot_tuple_add PySem.F.entry_tuple_add (PySem.F.args_tuple_add_2 _ _)
   (tuple_addW1 t b vs.toArray ws.toArray n n2 dd dd2 sl sl2 (by simpa using hv) (by simp[hw])) ⟨ho,ho2,h1 hw⟩
 .refine concat_meets ⟨_,ho,rfl⟩ ⟨_,ho2,rfl⟩ noFill_tuple_add seq_tuple_add PySem.F.slot_tuple_add PySem.F.entry_tuple_add (PySem.F.args_tuple_add_2 _ _)
   (tuple_addW2 t b vs.toArray ws.toArray n n2 dd dd2 sl sl2 (by simpa using hv) (by simpa using hw) (by rw[Aq,Aq];exact hsz)) ⟨ho,ho2,?_⟩
  rw[e];exact h2 hw
noncomputable def zO (n d:Nat):Option Int->Nat
 | none=>d
 | some v=>if v<0 then (v+(n:Int)).toNat else min v.toNat n
def U1 (n d:Nat) (hd:d<=n) (o:Option Int):zO n d o<=n:=by
 cases o with
 | none=>exact hd
 | some v=>
  show (if v<0 then (v+(n:Int)).toNat else min v.toNat n)<=n;by_cases hv:v<0
  .rw[if_pos hv];lia
  .rw[if_neg hv];exact Nat.min_le_right _ _
def Xw (v:Int) (n d:Nat):(if v<0 then max (v+(n:Int)) 0 else min v (n:Int))=((zO n d (some v):Nat):Int):=by
 show (if v<0 then max (v+(n:Int)) 0 else min v (n:Int))=(((if v<0 then (v+(n:Int)).toNat else min v.toNat n):Nat):Int)
 by_cases hv:v<0
 .simp only[if_pos hv];lia
 .simp only[if_neg hv];lia
def La (lo hi:Option Int) (n:Nat):Builtin.Slice.sliceAdjust lo hi 1 (n:Int)=(((zO n 0 lo:Nat):Int),((zO n n hi:Nat):Int)):=by
 have h1:¬ ((1:Int)<0):=by lia
 unfold Builtin.Slice.sliceAdjust;simp only[h1,if_false];refine Prod.ext ?_ ?_
 .cases lo with
  | none=>rfl
  | some v=>exact Xw v n 0
 .cases hi with
  | none=>rfl
  | some v=>exact Xw v n n
def Tn (i j:Nat):Builtin.Slice.slicePlaces (i:Int) (j:Int) 1=j-i:=by
 unfold Builtin.Slice.slicePlaces;have h1:(1:Int)>0:=by lia
 simp only[h1,if_true,Int.ediv_one];split <;> lia
def ar {v:Value}{o:Option Int}{Q:Option Int->Shared->Prop}(p:IsPart v o) (h:Q o s):wpAny (model prog w) A (Builtin.Slice.slicePartIndex v) Q E s:=by
 cases p with
 | none=>exact slicePart_none h
 | int i t=>exact slicePart_int h
def au {sl:Addr}{vl vu:Value}{lo hi:Option Int}{n:Nat}{Q:Int×Int×Nat->Shared->Prop}(hs:s.heap.IsSliceOf sl vl vu .none) (pl:IsPart vl lo) (pu:IsPart vu hi)
  (h:Q (((zO n 0 lo:Nat):Int),1,zO n n hi-zO n 0 lo) s):wpAny (model prog w) A (Builtin.Slice.sliceApplied (.ref sl) (pure (n:Int))) Q E s:=by
 obtain⟨os,Dl,hcs,D0⟩:=id hs;unfold Builtin.Slice.sliceApplied Builtin.Slice.sliceFields;refine Ab (Ab (wpAny_field Dl D0 (x:=vl) rfl (Ab (wpAny_field Dl D0 (x:=vu) rfl (Ab (wpAny_field Dl D0 (x:=.none) rfl (Ac ?_)))))));refine Ab (slicePart_none ?_);show wpAny _ _ (if ((1:Int) == 0)=true then _ else _) _ _ s;rw[if_neg (by decide)];refine Ab (ar pl (Ab (ar pu (Ab (Ac ?_)))));show wpAny _ _ (match Builtin.Slice.sliceAdjust lo hi 1 (n:Int) with | (lo,hi)=>pure (lo,(1:Int),Builtin.Slice.slicePlaces lo hi 1)) _ _ s;rw[La lo hi n];show wpAny _ _ (pure (((zO n 0 lo:Nat):Int),(1:Int),Builtin.Slice.slicePlaces ((zO n 0 lo:Nat):Int) ((zO n n hi:Nat):Int) 1)) _ _ s;rw[Tn];exact Ac h
def Tq (xs:Array Value) (i k:Nat):((List.range k).filterMap λ(m:Nat)=>xs[((i:Int)+(m:Int)*1).toNat]?).toArray=((xs.toList.drop i).take k).toArray:=by
 have e:(λ(m:Nat)=>xs[((i:Int)+(m:Int)*1).toNat]?)=λ m=>xs[i+m]?:=by
  funext m;have:((i:Int)+(m:Int)*1).toNat=i+m:=by lia
  rw[this]
 rw[e];have:=pick_run xs i k;rw[List.filterMap_map] at this;have e2:((λ x=>xs[x]?) ∘ λ x=>i+x)=λ m=>xs[i+m]?:=rfl;rw[e2] at this;rw[this]
def Nq {t sl:Addr}{items:Array Value}{vl vu:Value}{lo hi:Option Int}{Q:Value->Shared->Prop}(ht:IsTup s.heap t items) (hs:s.heap.IsSliceOf sl vl vu .none) (pl:IsPart vl lo) (pu:IsPart vu hi)
  (hw:¬ (zO items.size 0 lo=0/\zO items.size items.size hi=items.size))
  (h:Q (.ref s.heap.objs.size) { s with heap:=s.heap.push { cls:=.type "tuple",data:=.seq ((items.toList.drop (zO items.size 0 lo)).take (zO items.size items.size hi-zO items.size 0 lo)).toArray } })
  (hsz:items.size<=sizeLine):wpAny (model prog w) A (getItem (.ref t) (.ref sl)) Q E s:=by
 have htake:sizeOk (.seq ((items.toList.drop (zO items.size 0 lo)).take (zO items.size items.size hi-zO items.size 0 lo)).toArray):=by
  show ((items.toList.drop (zO items.size 0 lo)).take (zO items.size items.size hi-zO items.size 0 lo)).toArray.size<=sizeLine;rw[Aq,Dh,Ec,Bo];lia
 have hj:zO items.size items.size hi<=items.size:=U1 _ _ (Ag _) hi;obtain⟨os,Dl,hcs,D0⟩:=id hs;have hTs:s.TypeIs (.ref sl) "slice":=⟨os,Dl,hcs⟩
 unfold getItem
 try with_reducible refine wpAny_holding ?_
 first | refine Ab (Ac ?_) | skip
 refine Ab (wpAny_sequenceKey ht.typeIs (by decide) ?_);refine Ab (wpAny_callSpecial?_slot (name:=Str.ofString "__getitem__") ht.typeIs PyProof.Rows.slot_tuple_getitem
  (wpAny_call_entry PyProof.Rows.slot_tuple_getitem ht.typeIs entry_tuple_getitem ?_ (args_tuple_getitem _ _)))
 show wpAny _ _ (Builtin.Tuple.tupleItemsOf (.ref t) >>= _) _ _ s;refine Ab (tupleItemsOf_ ht ?_);refine Ab (wpAny_typeOf hTs ?_);rw[if_pos (by decide)];refine Ab (au hs pl pu ?_);have DX:¬ ((((zO items.size 0 lo:Nat):Int) == 0&&(1:Int) == 1&&(zO items.size items.size hi-zO items.size 0 lo) == items.size)=true):=by
  intro q;rw[BP,BP] at q;have q1:((zO items.size 0 lo:Nat):Int)=0:=eq_of_beq q.1.1;have q2:zO items.size items.size hi-zO items.size 0 lo=items.size:=eq_of_beq q.2;exact hw ⟨by lia,by lia⟩
 show wpAny _ _ (if (((zO items.size 0 lo:Nat):Int) == 0&&(1:Int) == 1&&(zO items.size items.size hi-zO items.size 0 lo) == items.size)=true then _ else _) _ _ s;rw[if_neg DX,Tq]
 first
  | exact Ab (m:=Builtin.Tuple.tupleExact _) (wpAny_newObj_type (Ac ⟨_,rfl,Ac h⟩) htake)
  | exact Ab (m:=Builtin.Tuple.tupleExact _) (wpAny_newObj_type (Ab (Ac (Ac ⟨_,rfl,Ac h⟩))) htake)
  | exact Ab (Ab (m:=Builtin.Tuple.tupleExact _) (wpAny_newObj_type (Ac (Ac ⟨_,rfl,Ac h⟩)) htake))
  | exact Ab (Ab (m:=Builtin.Tuple.tupleExact _) (wpAny_newObj_type (Ac ⟨_,rfl,Ac h⟩) htake))
end
end HT
namespace L2
open PySem PySem.Spec PyProof.Rows
abbrev TO:=St->Hp->(Option Int->Hp->Prop)->Prop
def PO (X:Cx) (e:Option Expr) (t:TO):Prop:=
 ∀ (pins:List (Addr×Obj)) (s:Shared) (B:St) (H:Hp) (Q:Option Int->Hp->Prop),Inv X pins B H s->t B H Q->
  wpAny (model X.prog X.w) X.A (evalPart e X.env) (λ u s'=>∃ o H',Inv X pins B H' s'/\IsPart u o/\Q o H') X.xe s
noncomputable def V6:TO:=λ _ H Q=>Q none H
noncomputable def V2 (t:TE):TO:=fun B H Q=>t B H λ x H1=>∃ i,x=.int i/\Q (some i) H1
def intsAre_of {ns:List Int}:∀ {us:List Value},Vals (ns.map V.int) us->IntsAre us ns:=by
 induction ns with
 | nil=>intro us r;rw[A9] at r;cases r;exact .nil
 | cons n ns ih=>
  intro us r;rw[Ar] at r;cases r with
  | cons r1 r2=>
   obtain⟨t,e⟩:=r1;subst e;exact .cons n t (ih r2)
section
variable {X:Cx}{e:Expr}{te:TE}{lo hi:Option Expr}{tl th:TO}{pos p2:Pos}
def Tj:PO X none V6:=by
 intro pins s B H Q I h;rw[evalPart_none];exact Ac ⟨none,H,I,.none,h⟩
def Ti (h:PE X e te):PO X (some e) (V2 te):=by
 intro pins s B H Q I hw;rw[evalPart_some];refine zL (h pins s B H _ I hw) λ u s1 ⟨x,H1,I1,r1,q1⟩=>?_;obtain⟨i,rfl,q⟩:=q1;obtain⟨t,rfl⟩:=r1;exact⟨some i,H1,I1,.int i t,q⟩
def qj (X:Cx) (r:V->Option Int->Option Int->Hp->VK->Prop):Prop:=
 ∀ (pins:List (Addr×Obj)) (s:Shared) (B:St) (H:Hp) (x:V) (v vl vu:Value) (lo hi:Option Int) (sl:Addr) (Q:VK),Inv X pins B H s->RelV x v->s.heap.IsSliceOf sl vl vu .none->IsPart vl lo->IsPart vu hi->r x lo hi H Q->
  ∃ T id,typeLookup (.type T) "__getitem__"=pure (some (.builtin id))/\s.TypeIs v T/\wpAny (model X.prog X.w) X.A (getItem v (.ref sl)) (EP X pins B Q) X.xe s
def qj.or {r r':V->Option Int->Option Int->Hp->VK->Prop}(h:qj X r) (h':qj X r'):qj X (λ x lo hi H Q=>r x lo hi H Q\/r' x lo hi H Q):=by
 intro pins s B H x v vl vu lo hi sl Q I rx hs pl pu q;rcases q with q | q
 .exact h pins s B H x v vl vu lo hi sl Q I rx hs pl pu q
 .exact h' pins s B H x v vl vu lo hi sl Q I rx hs pl pu q
def Vz (r:V->Option Int->Option Int->Hp->VK->Prop) (te:TE) (tl th:TO):TE:=fun B H Q=>te B H λ x H1=>tl B H1 λ l H2=>th B H2 λ u H3=>r x l u H3 Q
def TH {r:V->Option Int->Option Int->Hp->VK->Prop}(hr:qj X r) (he:PE X e te) (hl:PO X lo tl) (hu:PO X hi th):PE X (.Subscript e (.Slice lo hi none p2) pos) (Vz r te tl th):=by
 intro pins s B H Q I h;refine Subscript_ (zL (he pins s B H _ I h) λ v s1 ⟨x,H1,I1,r1,q1⟩=>?_);refine wpAny_Slice (zL (hl pins s1 B H1 _ I1 q1) λ vl s2 ⟨l,H2,I2,pl,q2⟩=>zL (hu pins s2 B H2 _ I2 q2) λ vu s3 ⟨u,H3,I3,pu,q3⟩=>?_);rw[evalPart_none];refine Ac ?_;have I4:Inv X pins B H3 { s3 with heap:=s3.heap.push { cls:=.type "slice",data:=.fields #[vl,vu,.none] } }:=I3.kept (t':=s3.toks) λ b ob q=>An _ q;obtain⟨T,id,hT,ht,hg⟩:=hr pins { s3 with heap:=s3.heap.push { cls:=.type "slice",data:=.fields #[vl,vu,.none] } } B H3 x v vl vu l u s3.heap.objs.size Q I4 r1 (Heap.IsSliceOf.new ..) pl pu q3;show wpAny (model X.prog X.w) X.A (subscriptTail e (.Slice lo hi none p2) v (.ref s3.heap.objs.size)) (EP X pins B Q) X.xe { s3 with heap:=s3.heap.push { cls:=.type "slice",data:=.fields #[vl,vu,.none] } };exact tail_any (ops:=[.ref s3.heap.objs.size,v]) ht hT hg (by with_unfolding_all rfl)
def tP (xs:List V) (lo hi:Option Int):List V:=(xs.drop (HT.zO xs.length 0 lo)).take (HT.zO xs.length xs.length hi-HT.zO xs.length 0 lo)
def Xq (xs:List V) (lo hi:Option Int):(tP xs lo hi).length<=xs.length:=by
 unfold tP;rw[Dh,Ec];lia
def aP (K:Ad):V->Option Int->Option Int->Hp->VK->Prop:=λ x lo hi H Q=>∃ a xs,x=.ref a/\ye K H a xs/\
 ¬ (HT.zO xs.length 0 lo=0/\HT.zO xs.length xs.length hi=xs.length)/\∀ p,H p=none->Q (.ref p) (upd H p (.tup (tP xs lo hi)))
def VZ:qj X (aP X.K):=by
 intro pins s B H x v vl vu lo hi sl Q I rx hs pl pu h;obtain⟨a,xs,rfl,hx,hw,q⟩:=h;cases rx;obtain⟨its,r,ht,hz⟩:=I.tuple hx;have hlen:its.toArray.size=xs.length:=by rw[Aq];exact r.length.symm
 refine⟨"tuple",_,PyProof.Rows.slot_tuple_getitem.lookup,ht.typeIs,?_⟩;refine HT.Nq ht hs pl pu (by rw[hlen];exact hw) ?_ (by rw[hlen];exact hz);rw[hlen];refine⟨.ref s.heap.objs.size,_,I.laid (t':=s.toks) (o:=.tup (tP xs lo hi)) (λ b ob q=>An _ q) (Ag _) ?_,rfl,q _ (I.zC.fresh (Ag _))⟩;exact⟨Bi (Xq xs lo hi) hz,_,(r.drop (HT.zO xs.length 0 lo)).take (HT.zO xs.length xs.length hi-HT.zO xs.length 0 lo),IsTup.new _ _⟩
def gP (K:Ad):R2:=λ x y H Q=>∃ a b ns ms,x=.ref a/\y=.ref b/\ye K H a (ns.map V.int)/\ye K H b (ms.map V.int)/\Q (.bl (HT.lexLt ns ms)) H
def Rl (hu:X.A.units<cLine):yu X (compareOp .Lt) (gP X.K):=by
 intro pins s B H x y v u Q I rx ry h;obtain⟨a,b,ns,ms,rfl,rfl,ha,hb,q⟩:=h;cases rx;cases ry;obtain⟨its,r1,p1,_⟩:=I.tuple ha;obtain⟨its2,r2,p2,_⟩:=I.tuple hb;have i1:IntsAre its.toArray.toList ns:=intsAre_of r1;have i2:IntsAre its2.toArray.toList ms:=intsAre_of r2;exact HT.PV p1 p2 i1 i2 hu ⟨.bl (HT.lexLt ns ms),H,I,rfl,q⟩
def a_ (K:Ad):R2:=λ x y H Q=>∃ a b xs ys,x=.ref a/\y=.ref b/\ye K H a xs/\ye K H b ys/\xs≠[]/\xs.length+ys.length<=sizeLine/\
 (ys=[]->Q (.ref a) H)/\(ys≠[]->∀ p,H p=none->Q (.ref p) (upd H p (.tup (xs++ys))))
def Vals.mx {xs:List V}{us:List Value}(r:Vals xs us):us=[]↔xs=[]:=by
 cases r with
 | nil=>simp
 | cons _ _=>simp
def Rq:yu X (binaryOp .Add) (a_ X.K):=by
 intro pins s B H x y v u Q I rx ry h;obtain⟨a,b,xs,ys,rfl,rfl,ha,hb,hx,hz,q1,q2⟩:=h;cases rx;cases ry;obtain⟨its,r1,p1,_⟩:=I.tuple ha;obtain⟨its2,r2,p2,_⟩:=I.tuple hb;refine HT.Mx p1 p2 (λ z=>hx (r1.mx.mp z)) (λ z=>⟨.ref a,H,I,rfl,q1 (r2.mx.mp z)⟩) (λ z=>?_) (by rw[<- r1.length,<- r2.length];exact hz);refine⟨.ref s.heap.objs.size,_,I.laid (t':=s.toks) (o:=.tup (xs++ys)) (λ b ob q=>An _ q) (Ag _) ?_,rfl,q2 (λ w=>z (r2.mx.mpr w)) _ (I.zC.fresh (Ag _))⟩;exact⟨by rw[Ck];exact hz,_,r1.append r2,IsTup.new _ _⟩
end
noncomputable def wW (n:Nat) (i:Int):Option Nat:=if 0<=i then (if i<n then some i.toNat else none) else if -(n:Int)<=i then some (i+n).toNat else none
def zY {α:Type}(xs:List α) (i:Int):Option α:=(wW xs.length i).bind λ j=>xs[j]?
def Yi {n:Nat}{i:Int}{j:Nat}(h:wW n i=some j):seqIndex? i n=some j/\j<n/\-(n:Int)<=i/\i<n:=by
 unfold wW at h;by_cases h0:0<=i
 .rw[if_pos h0] at h;by_cases h1:i<n
  .rw[if_pos h1] at h;have e:i.toNat=j:=A5 h;exact⟨by rw[seqIndex_of h0 h1,e],by lia,by lia,h1⟩
  .rw[if_neg h1] at h;cases h
 .rw[if_neg h0] at h;by_cases h1:-(n:Int)<=i
  .rw[if_pos h1] at h;have e:(i+n).toNat=j:=A5 h;exact⟨by rw[seqIndex_neg (by lia) h1,e],by lia,h1,by lia⟩
  .rw[if_neg h1] at h;cases h
def dn {α:Type}{xs:List α}{i:Int}{v:α}(h:zY xs i=some v):∃ j,seqIndex? i xs.length=some j/\xs[j]?=some v/\j<xs.length/\-(xs.length:Int)<=i/\i<xs.length:=by
 unfold zY at h;cases e:wW xs.length i with
 | none=>rw[e] at h;cases h
 | some j=>
  rw[e] at h;obtain⟨h1,h2,h3,h4⟩:=Yi e;exact⟨j,h1,h,h2,h3,h4⟩
def ph {α:Type}(xs:List α) (v:α):zY (xs++[v]) (-1)=some v:=by
 have hl:(xs++[v]).length=xs.length+1:=by simp
 have e:wW (xs++[v]).length (-1)=some xs.length:=by
  unfold wW;rw[hl,if_neg (by decide),if_pos (by lia)];congr 1;lia
 unfold zY;rw[e];show (xs++[v])[xs.length]?=some v;simp
def XU (b:Expr):Prop:=∀ o i,subscripted b false o i=operate [o,i] (getItem o i)
def rg (X:Cx) (r:R2):Prop:=
 ∀ (value slice:Expr) (pins:List (Addr×Obj)) (s:Shared) (B:St) (H:Hp) (x y:V) (v u:Value) (Q:VK),Inv X pins B H s->RelV x v->RelV y u->r x y H Q->
  subscripted slice false v u=operate [v,u] (getItem v u)->wpAny (model X.prog X.w) X.A (subscriptTail value slice v u) (EP X pins B Q) X.xe s
def Lh (X:Cx) (id:String) (r:V->List V->Hp->VK->Prop):Prop:=
 ∀ (pins:List (Addr×Obj)) (s:Shared) (B:St) (H:Hp) (x:V) (xs:List V) (v:Value) (us:List Value) (Q:VK),Inv X pins B H s->RelV x v->Vals xs us->r x xs H Q->
  wpAny (model X.prog X.w) X.A (call (.builtin id) (v::us)) (EP X pins B Q) X.xe s
section
variable {X:Cx}{a b:Expr}{ta tb:TE}{pos:Pos}
def rg.or {r r':R2}(h:rg X r) (h':rg X r'):rg X (λ x y H Q=>r x y H Q\/r' x y H Q):=by
 intro value slice pins s B H x y v u Q I rx ry q hs;rcases q with q | q
 .exact h value slice pins s B H x y v u Q I rx ry q hs
 .exact h' value slice pins s B H x y v u Q I rx ry q hs
def TU {r:R2}(hr:rg X r) (ha:PE X a ta) (hb:PE X b tb) (hs:XU b):PE X (.Subscript a b pos) (nL r ta tb):=by
 intro pins s B H Q I h;exact Subscript_ (dk ha hb I h λ v u s2 x y H2 I2 rx ry q=>hr a b pins s2 B H2 x y v u Q I2 rx ry q (hs _ _))
def aV (K:Ad):R2:=λ x y H Q=>∃ p xs i v,x=.ref p/\y=.int i/\zZ K H p xs/\zY xs i=some v/\Q v H
def aR (K:Ad):R2:=λ x y H Q=>∃ p xs i v,x=.ref p/\y=.int i/\ye K H p xs/\zY xs i=some v/\Q v H
def aU:R2:=λ x y H Q=>∃ z i c,x=.str z/\y=.int i/\z.length<=sizeLine/\zY z.cps.toList i=some c/\Q (.str ⟨#[c]⟩) H
def OA:rg X (aV X.K):=by
 intro value slice pins s B H x y v u Q I rx ry h hs;obtain⟨p,xs,i,z,rfl,rfl,hq,he,q⟩:=h;cases rx;obtain⟨t,rfl⟩:=ry;obtain⟨its,r,pl,hz⟩:=I.list hq;obtain⟨j,h1,h2,h3,h4,h5⟩:=dn he;obtain⟨w,ew,rw'⟩:=r.get h2;have hl:=r.length;have hn:=qO;have fin:EP X pins B Q w s:=⟨z,H,I,rw',q⟩
 by_cases h0:0<=i
 .have hj:i.toNat=j:=by
   rw[seqIndex_of h0 h5] at h1;exact A5 h1
  exact item_listR pl.isList h0 (by lia) (by rw[hj];simpa using ew) fin hs
 .have hj:(i+(its.toArray.size:Int)).toNat=j:=by
   rw[seqIndex_neg (by lia) h4] at h1;rw[Aq,<- hl];exact A5 h1
  exact subscriptTail_builtinR (x:=w) pl.isList.typeIs slot_list_getitem.lookup
   (wpAny_getItem_list_neg (Q:=λ r s'=>r=w/\EP X pins B Q r s') pl.isList (by lia) (by rw[Aq] <;> lia) (by lia) (by rw[hj];simpa using ew) ⟨rfl,fin⟩) hs
def O7:rg X (aR X.K):=by
 intro value slice pins s B H x y v u Q I rx ry h hs;obtain⟨p,xs,i,z,rfl,rfl,hq,he,q⟩:=h;cases rx;obtain⟨t,rfl⟩:=ry;obtain⟨its,r,pl,hz⟩:=I.tuple hq;obtain⟨j,h1,h2,h3,h4,h5⟩:=dn he;obtain⟨w,ew,rw'⟩:=r.get h2;have hl:=r.length;have hn:=qO;have fin:EP X pins B Q w s:=⟨z,H,I,rw',q⟩
 exact subscriptTail_builtinR (x:=w) pl.typeIs slot_tuple_getitem.lookup
  (getItem_tuple (j:=j) (Q:=λ r s'=>r=w/\EP X pins B Q r s') pl (by lia) (by lia) (by rw[Aq,<- hl];exact h1) (by simpa using ew) ⟨rfl,fin⟩) hs
def O8:rg X aU:=by
 intro value slice pins s B H x y v u Q I rx ry h hs;obtain⟨z,i,c,rfl,rfl,hz,he,q⟩:=h;obtain⟨t,rfl⟩:=rx;obtain⟨t',rfl⟩:=ry;obtain⟨j,h1,h2,h3,h4,h5⟩:=dn he;have hl:z.cps.toList.length=z.length:=by simp[Str.length]
 rw[hl] at h1 h4 h5;have hn:=qO;exact tail_any (typeIs_str s z t) slot_str_getitem.lookup (getItem_str (c:=c) (by
  have e1:decide (i < -(2 ^ 63:Int))=false:=decide_eq_false (by lia);have e2:decide (i≥2 ^ 63)=false:=decide_eq_false (by lia);rw[e1,e2,Bool.or_false]) (by rw[h1];simpa using h2) ⟨.str ⟨#[c]⟩,H,I.tok _,⟨_,rfl⟩,q⟩) hs
def aW (K:Ad):R2:=λ x y H Q=>aV K x y H Q\/aR K x y H Q\/aU x y H Q
def O9:rg X (aW X.K):=OA.or (O7.or O8)
def PU (its:List Value) (n j:Nat) (u:Value):Obj.mapSeq (·.setIfInBounds j u) { cls:=.type "list",data:=.seq its.toArray n }={ cls:=.type "list",data:=.seq (its.set j u).toArray n }:=by
 simp[Obj.mapSeq]
theorem Inv.lst {pins:List (Addr×Obj)}{B:St}{H:Hp}{s:Shared}{p:Addr}{xs:List V}(I:Inv X pins B H s) (h:H p=some (.lst xs)):
  ∃ (its:List Value) (n:Nat),Vals xs its/\s.heap.get? p=some { cls:=.type "list",data:=.seq its.toArray n }/\xs.length<=sizeLine:=by
 obtain⟨z,its,n,r,e⟩:=I.zC p _ h;exact⟨its,n,r,e,z⟩
def Inv.PX {pins:List (Addr×Obj)}{B:St}{H:Hp}{s:Shared}{p:Addr}{xs ys:List V}{its Ae:List Value}{n n':Nat}{f:Obj->Obj}(I:Inv X pins B H s) (h:H p=some (.lst xs))
  (ho:s.heap.get? p=some { cls:=.type "list",data:=.seq its.toArray n }) (hf:f { cls:=.type "list",data:=.seq its.toArray n }={ cls:=.type "list",data:=.seq Ae.toArray n' }) (r:Vals ys Ae) (hz:ys.length<=sizeLine) (t:Nat):
  Inv X pins B (upd H p (.lst ys)) { s with heap:=s.heap.update p f,toks:=t }:=by
 have e:(s.heap.update p f).get? p=some { cls:=.type "list",data:=.seq Ae.toArray n' }:=by
  rw[Heap.get?_update_self f ho (by rw[hf] <;> rfl),hf]
 refine I.write (x:=p) (e:=p) (by rw[h];trivial) (.inl rfl) (λ b u hb q=>(Heap.get?_update_other _ _ (Ne.symm hb)).trans q) ⟨_,e⟩ ?_;exact⟨hz,Ae,n',r,e⟩
def UK:V->V->V->Hp->(Hp->Prop)->Prop:=λ o i v H Q=>∃ p xs k j,o=.ref p/\i=.int k/\H p=some (.lst xs)/\wW xs.length k=some j/\Q (upd H p (.lst (xs.set j v)))
def set_list:XW X UK:=by
 intro pins s B H o i v ov iv u Q I ro ri rv h;obtain⟨p,xs,k,j,rfl,rfl,hp,hj,q⟩:=h;cases ro;obtain⟨t,rfl⟩:=ri;obtain⟨its,n,r,ho,hz⟩:=I.lst hp;obtain⟨h1,h2,h3,h4⟩:=Yi hj;have hl:=r.length;have hn:=qO;have I':Inv X pins B (upd H p (.lst (xs.set j v))) { s with heap:=s.heap.update p (Obj.mapSeq (·.setIfInBounds j u)) }:=
  I.PX hp ho (PU its n j u) (r.set rv j) (by rw[DS];exact hz) s.toks
 by_cases h0:0<=k
 .have hk:k.toNat=j:=by
   rw[seqIndex_of h0 h4] at h1;exact A5 h1
  exact PySem.W.ki_setAt ho h0 (by lia) (by rw[Aq,<- hl];exact h4) (by rw[hk];exact⟨_,I',q⟩)
 .have hk:(k+(its.toArray.size:Int)).toNat=j:=by
   rw[seqIndex_neg (by lia) h3] at h1;rw[Aq,<- hl];exact A5 h1
  exact PySem.W.ki_setBack ho (by lia) (by rw[Aq,<- hl];exact h3) (by lia) (by rw[hk];exact⟨_,I',q⟩)
def VW (lo hi:Option Int) (n:Nat):(sliceBounds lo hi none n).1=((HT.zO n 0 lo:Nat):Int)/\(sliceBounds lo hi none n).2.1=((HT.zO n n hi:Nat):Int)/\(sliceBounds lo hi none n).2.2=1:=by
 refine⟨?_,?_,rfl⟩
 .cases lo with
  | none=>simp[sliceBounds,HT.zO]
  | some i=>
   simp only[sliceBounds,HT.zO,Option.getD_none,show (1:Int)>0 by decide,if_true];by_cases h:i<0
   .simp only[h,if_true] <;> lia
   .simp only[h,if_false] <;> lia
 .cases hi with
  | none=>simp[sliceBounds,HT.zO]
  | some i=>
   simp only[sliceBounds,HT.zO,Option.getD_none,show (1:Int)>0 by decide,if_true];by_cases h:i<0
   .simp only[h,if_true] <;> lia
   .simp only[h,if_false] <;> lia
def VX (its:List Value) (lo hi:Option Int):slicePick its.toArray lo hi none=((its.drop (HT.zO its.length 0 lo)).take (HT.zO its.length its.length hi-HT.zO its.length 0 lo)).toArray:=by
 obtain⟨h1,h2,h3⟩:=VW lo hi its.toArray.size;unfold slicePick;rw[h1,h2,h3];simp only[sliceRange_one,pick_run,Aq] <;> rfl
def aQ (K:Ad):V->Option Int->Option Int->Hp->VK->Prop:=λ x lo hi H Q=>∃ a xs,x=.ref a/\zZ K H a xs/\∀ p,H p=none->Q (.ref p) (upd H p (.lst (tP xs lo hi)))
def V_:qj X (aQ X.K):=by
 intro pins s B H x v vl vu lo hi sl Q I rx hs pl pu h;obtain⟨a,xs,rfl,hx,q⟩:=h;cases rx;obtain⟨its,r,ht,hz⟩:=I.list hx;have hlen:=r.length;refine⟨"list",_,slot_list_getitem.lookup,ht.isList.typeIs,?_⟩;refine wpAny_getItem_list_slice ht.isList hs pl pu .none (by simp) ?_ (by rw[Aq] <;> lia);rw[VX,<- hlen];refine⟨.ref s.heap.objs.size,_,I.laid (t':=s.toks) (o:=.lst (tP xs lo hi)) (λ b ob q=>An _ q) (Ag _) ?_,rfl,q _ (I.zC.fresh (Ag _))⟩;exact⟨Bi (Xq xs lo hi) hz,_,0,(r.drop (HT.zO xs.length 0 lo)).take (HT.zO xs.length xs.length hi-HT.zO xs.length 0 lo),AF _ rfl⟩
def ME:yU X (.builtin "len") (λ xs H Q=>∃ p ys,xs=[.ref p]/\(zZ X.K H p ys\/ye X.K H p ys)/\Q (.int ys.length) H):=by
 intro pins s B H xs us Q I r h;obtain⟨p,ys,rfl,hq,q⟩:=h;obtain⟨u,rfl,rx⟩:=vals1 r;cases rx;have hn:=qO;rcases hq with hq | hq
 .obtain⟨its,r',pl,hz⟩:=I.list hq;have hlen:=r'.length;exact Calls.call_len_list pl.isList (by simp only[Aq] <;> lia) ⟨.int ys.length,H,I.tok _,⟨s.toks+1,by rw[Aq,hlen]⟩,q⟩
 .obtain⟨its,r',pl,hz⟩:=I.tuple hq;have hlen:=r'.length;exact len_tuple pl (by simp only[Aq] <;> lia) ⟨.int ys.length,H,I.tok _,⟨s.toks+1,by rw[Aq,hlen]⟩,q⟩
def MD:yU X (.builtin "len") (λ xs H Q=>∃ z,xs=[.str z]/\z.length<=sizeLine/\Q (.int z.length) H):=by
 intro pins s B H xs us Q I r h;obtain⟨z,rfl,hz,q⟩:=h;obtain⟨u,rfl,t,rfl⟩:=vals1 r;have hn:=qO;exact len_str (by lia) ⟨.int z.length,H,I.tok _,⟨_,rfl⟩,q⟩
def yU.or {f:Value}{r r':List V->Hp->VK->Prop}(h:yU X f r) (h':yU X f r'):yU X f (λ xs H Q=>r xs H Q\/r' xs H Q):=by
 intro pins s B H xs us Q I rs q;rcases q with q | q
 .exact h pins s B H xs us Q I rs q
 .exact h' pins s B H xs us Q I rs q
def MB:yU X (.type "list") (λ xs H Q=>∃ p ys,xs=[.ref p]/\(zZ X.K H p ys\/ye X.K H p ys)/\∀ l,H l=none->Q (.ref l) (upd H l (.lst ys))):=by
 intro pins s B H xs us Q I r h;obtain⟨p,ys,rfl,hq,q⟩:=h;obtain⟨u,rfl,rx⟩:=vals1 r;cases rx;have fin:∀ (its:List Value),Vals ys its->ys.length<=sizeLine->∀ (h':Heap) (c':Nat),(∀ b o',s.heap.get? b=some o'->h'.get? b=some o')->
   h'.get? s.heap.objs.size=some { cls:=.type "list",dict:=none,data:=.seq its.toArray c',slots:=#[] }->EP X pins B Q (.ref s.heap.objs.size) { s with heap:=h' }:=λ its r' hz h' c' kp e=>
  ⟨.ref s.heap.objs.size,_,I.laid (t':=s.toks) kp (Ag _) (show x8 X.prog X.w _ h' _ (.lst ys) from ⟨hz,its,c',r',e⟩),rfl,q _ (I.zC.fresh (Ag _))⟩
 rcases hq with hq | hq
 .obtain⟨its,r',pl,hz⟩:=I.list hq;have hlen:=r'.length;obtain⟨o,ho,hc,n,hd⟩:=pl.isList;exact call_list_seq p (.inl rfl) ho hc hd (λ h' c' kp e=>fin its r' hz h' c' kp e) (by simp only[Aq] <;> lia)
 .obtain⟨its,r',pl,hz⟩:=I.tuple hq;have hlen:=r'.length;obtain⟨o,ho,hc,n,hd⟩:=pl;exact call_list_seq p (.inr rfl) ho hc hd (λ h' c' kp e=>fin its r' hz h' c' kp e) (by simp only[Aq] <;> lia)
def My:yU X (.type "tuple") (λ xs H Q=>∃ p ys,xs=[.ref p]/\((zZ X.K H p ys/\∀ l,H l=none->Q (.ref l) (upd H l (.tup ys)))\/(ye X.K H p ys/\Q (.ref p) H))):=by
 intro pins s B H xs us Q I r h;obtain⟨p,ys,rfl,h⟩:=h;obtain⟨u,rfl,rx⟩:=vals1 r;cases rx;rcases h with ⟨hq,q⟩ | ⟨hq,q⟩
 .obtain⟨its,r',pl,hz⟩:=I.list hq;have hlen:=r'.length;refine call_tuple_list pl.isList (λ h' kp=>?_) (by simp only[Aq] <;> lia);have I1:Inv X pins B H { s with heap:=h' }:=I.kept (t':=s.toks) kp;have I2:Inv X pins B (upd H h'.objs.size (.tup ys)) { s with heap:=h'.push { cls:=.type "tuple",data:=.seq its.toArray } }:=
   I1.laid (t':=s.toks) (λ b o e=>An _ e) (Ag _) (show x8 X.prog X.w _ _ _ (.tup ys) from ⟨hz,its,r',IsTup.new _ _⟩)
  exact⟨.ref h'.objs.size,_,I2,rfl,q _ (I1.zC.fresh (Ag _))⟩
 .obtain⟨its,r',pl,hz⟩:=I.tuple hq;exact call_tuple_same pl ⟨.ref p,H,I,rfl,q⟩
def bS (K:Ad) (T:String) (x:V) (H:Hp):Prop:=match x with
 | .str _=>T="str"
 | .int _=>T="int"
 | .ref p=>(T="list"/\∃ xs,zZ K H p xs)\/(T="tuple"/\∃ o,K.lookup p=some o/\o.cls=.type "tuple"/\o.dict=none)\/
   (T="dict"/\((∃ Aa,H p=some (.dK Aa))\/∃ Aa,H p=some (.dT Aa)))\/(T="set"/\∃ S n,H p=some (.set S n))
 | _=>False
def Vg {pins:List (Addr×Obj)}{B:St}{H:Hp}{s:Shared}{T:String}{x:V}{v:Value}(I:Inv X pins B H s) (r:RelV x v) (ty:bS X.K T x H):
  s.TypeIs v T/\∀ a,v=.ref a->∃ ob,s.heap.get? a=some ob/\ob.dict=none:=by
 cases x with
 | str z=>
  obtain⟨t,rfl⟩:=r;cases (show T="str" from ty);exact⟨typeIs_str s z t,λ _ e=>nomatch e⟩
 | int i=>
  obtain⟨t,rfl⟩:=r;cases (show T="int" from ty);exact⟨typeIs_int s i t,λ _ e=>nomatch e⟩
 | ref p=>
  cases r;rcases ty with ⟨rfl,xs,hq⟩ | ⟨rfl,o,hk,hc,hd⟩ | ⟨rfl,hk⟩ | ⟨rfl,S,n,hk⟩
  .obtain⟨its,_,pl,_⟩:=I.list hq;refine⟨pl.isList.typeIs,λ a e=>?_⟩;cases e;obtain⟨o,n,e,c,hd,_⟩:=pl;exact⟨o,e,hd⟩
  .refine⟨⟨o,I.vW p o hk,hc⟩,λ a e=>?_⟩;cases e;exact⟨o,I.vW _ o hk,hd⟩
  .have z:∃ o,s.heap.get? p=some o/\o.ExactDict:=by
    rcases hk with ⟨Aa,hk⟩ | ⟨Aa,hk⟩
    .obtain⟨_,_,_,_,o,_,_,e,ex,_⟩:=I.zC p _ hk;exact⟨o,e,ex⟩
    .obtain⟨_,_,_,_,o,_,_,e,ex,_⟩:=I.zC p _ hk;exact⟨o,e,ex⟩
   obtain⟨o,e,ex⟩:=z;refine⟨⟨o,e,ex.1⟩,λ a e2=>?_⟩;cases e2;exact⟨o,e,ex.2.1⟩
  .obtain⟨o,_,_,_,e,ex,_⟩:=I.zC p _ hk;refine⟨⟨o,e,ex.1⟩,λ a e2=>?_⟩;cases e2;exact⟨o,e,ex.2.1⟩
 | _=>exact False.elim ty
def i6 (K:Ad) (T:String) (r:V->List V->Hp->VK->Prop) (to:TE) (t:TA):TE:=fun B H Q=>to B H λ x H1=>bS K T x H1/\t B H1 λ xs H2=>r x xs H2 Q
variable {o e:Expr}{es:List Expr}{to:TE}{t:TA}{name:Str}{apos Ak:Pos}{T id:String}{r:V->List V->Hp->VK->Prop}
def Zj (pa:PlainAttrs T) (slot:Slot T name id) (hty:typeOf (.builtin id)=pure (.type "method_descriptor")) (hm:Lh X id r) (ho:PE X o to) (ha:PA X (e::es) t)
  (hbase:attributeBase o name X.env (eval o X.env)=eval o X.env:=by rfl)
  (AJ:((backTo Ak (starEach (e::es) X.env)).all (λ x=>!x.1)&&(backToKw Ak (keywordEach [] X.env)).all (λ x=>x.1.isSome)
   && decide ((e::es).length+([]:List Keyword).length+(if ([]:List Keyword).isEmpty then 0 else 1)<30))=true:=by rfl)
  (hline:(apos.endLine == Ak.line)=true:=by rfl) (hs:starEach (e::es) X.env=(false,eval e X.env)::starEach es X.env:=by rfl) (hplain:(backTo Ak (starEach es X.env)).any (·.1)=false:=by rfl):
  PE X (.Call (.Attribute o name apos) (e::es) [] Ak) (i6 X.K T r to t):=by
 intro pins s B H Q I h;refine wpAny_Call_method_late hbase AJ hline rfl (zL (ho pins s B H _ I h) λ v s1 ⟨x,H1,I1,r1,ty,q1⟩=>?_);obtain⟨h1,h2⟩:=Vg I1 r1 ty;refine⟨T,id,pa,slot,hty,h1,h2,?_⟩;have hA:=ha Ak pins s1 B H1 _ I1 q1;rw[hs] at hA ⊢;refine Calls.callWith_builtin (by show (false||(backTo Ak (starEach es X.env)).any (·.1))=false;rw[hplain] <;> rfl) (Calls.evalArgs_plain ?_);exact zL hA λ us s2 ⟨vs,H2,I2,r2,q2⟩=>hm pins s2 B H2 x vs v us Q I2 r1 r2 q2
end
def XY (X:Cx) (id:String) (r:V->List V->Hp->VK->Prop):Prop:=
 ∀ (pins:List (Addr×Obj)) (s:Shared) (B:St) (H:Hp) (x:V) (xs:List V) (v:Value) (us:List Value) (Q:VK),Inv X pins B H s->RelV x v->Vals xs us->r x xs H Q->
  wpAny (model X.prog X.w) X.A (call (.builtin id) (v::us)) (EP X pins B Q) X.xe s
theorem Vals.one:∀ {x:V}{us:List Value},Vals [x] us->∃ u,us=[u]/\RelV x u
 | _,_,.cons r .nil=>⟨_,rfl,r⟩
theorem Vals.rep {xs:List V}{us:List Value}(h:Vals xs us):∀ k:Nat,Vals (List.replicate k xs).flatten (List.replicate k us).flatten
 | 0=>.nil
 | k+1=>by
  rw[BN,BN,Ci,Ci];exact Vals.append h (Vals.rep h k)
section
variable {X:Cx}{pins:List (Addr×Obj)}{B:St}{H:Hp}{s:Shared}{l b:Addr}{xs ys zs:List V}
def Inv.ZS {its Ae:List Value}{n:Nat}{f:Array Value->Array Value}{t':Nat}(I:Inv X pins B H s) (hH:H l=some (.lst xs))
  (e:s.heap.get? l=some { cls:=.type "list",data:=.seq its.toArray n }) (hf:f its.toArray=Ae.toArray) (hv:Vals ys Ae) (hz:ys.length<=sizeLine):
  Inv X pins B (upd H l (.lst ys)) { s with heap:=s.heap.update l (Obj.mapSeq f),toks:=t' }:=by
 have q:=PySem.IsL.update e f;rw[hf] at q;refine I.write (x:=l) (e:=l) (by rw[hH];exact trivial) (.inl rfl) (λ b' u hb hu=>(Heap.get?_update_other s.heap (Obj.mapSeq f) (Ne.symm hb)).trans hu) ⟨_,q⟩ ?_;exact⟨hz,Ae,_,hv,q⟩
def Inv.P_ {its:List Value}{t':Nat}(I:Inv X pins B H s) (hv:Vals ys its) (hz:ys.length<=sizeLine):
  Inv X pins B (upd H s.heap.objs.size (.lst ys)) { s with heap:=s.heap.push { cls:=.type "list",data:=.seq its.toArray },toks:=t' }:=
 I.laid (λ _ _ q=>An _ q) (Ag _) ⟨hz,its,0,hv,AF _ rfl⟩
theorem Inv.fresh (I:Inv X pins B H s):H s.heap.objs.size=none:=I.zC.fresh (Ag _)
def Inv.fE (I:Inv X pins B H s) (hH:H l=some (.lst xs)):xs.length<=sizeLine/\∃ (its:List Value) (n:Nat),Vals xs its/\xs.length=its.length/\s.heap.get? l=some { cls:=.type "list",data:=.seq its.toArray n }:=by
 obtain⟨z,its,n,r,e⟩:=I.zC l _ hH;exact⟨z,its,n,r,r.length,e⟩
def Pq {n:Nat}(h:n<=sizeLine):Builtin.List.listTooLong n=false:=by
 unfold Builtin.List.listTooLong;exact decide_eq_false (by lia)
end
section
variable {X:Cx}
def Zb:V->List V->Hp->VK->Prop:=λ x vs H Q=>∃ l xs y,x=.ref l/\vs=[y]/\H l=some (.lst xs)/\xs.length<sizeLine/\Q .zh (upd H l (.lst (xs++[y])))
def ZQ:XY X "list.append" Zb:=by
 intro pins s B H x vs v us Q I rx rv h;obtain⟨l,xs,y,rfl,rfl,hH,hz,q⟩:=h;cases rx;obtain⟨u,rfl,ru⟩:=rv.one;obtain⟨z,its,n,r,hl,e⟩:=I.fE hH;refine call_meets F.slot_list_append ⟨_,e,rfl⟩ F.entry_list_append (F.args_list_append_2 _ _) (PySem.list_append l its.toArray n u (by rw[Aq];lia)) ⟨e,?_⟩;refine⟨.zh,_,I.ZS (Ae:=its++[u]) hH e (by simp) (r.append (.cons ru .nil)) ?_,rfl,q⟩;rw[Ck,List.length_singleton];lia
def aY:V->List V->Hp->VK->Prop:=λ x vs H Q=>∃ l b xs zs,x=.ref l/\vs=[.ref b]/\H l=some (.lst xs)/\H b=some (.lst zs)/\xs.length+zs.length<=sizeLine/\Q .zh (upd H l (.lst (xs++zs)))
def PL:XY X "list.extend" aY:=by
 intro pins s B H x vs v us Q I rx rv h;obtain⟨l,b,xs,zs,rfl,rfl,hH,hB,hz,q⟩:=h;cases rx;obtain⟨u,rfl,ru⟩:=rv.one;cases ru;obtain⟨z,its,n,r,hl,e⟩:=I.fE hH;obtain⟨z2,its2,n2,r2,hl2,e2⟩:=I.fE hB;have hsz:its.toArray.size+its2.toArray.size<=sizeLine:=by rw[Aq,Aq];lia
 have hlong:¬ (!its.toArray.isEmpty&&Builtin.List.listTooLong (its.toArray.size+its2.toArray.size))=true:=by
  rw[Pq hsz,Cg];exact BC
 refine call_meets F.slot_list_extend ⟨_,e,rfl⟩ F.entry_list_extend (F.args_list_extend_2 _ _)
  (AutoSeq1.list_extend_list_list_0 l its.toArray n b its2.toArray n2 hlong (by rw[Aq];lia) (by lia)) ⟨e,e2,?_⟩
 refine⟨.zh,_,I.ZS (Ae:=its++its2) hH e (by simp) (r.append r2) ?_,rfl,q⟩;rw[Ck];lia
end
section
variable {prog:Program}{w:World}{A:Around}{E:Value->Shared->Prop}{s:Shared}
end
section
variable {X:Cx}
end
end L2
namespace WR
open PySem PySem.W PySem.Calls PyProof.Rows
def OJ {P:Params}{h:Heap}:∀ (ns:List Int) (vs:List Value),WellAll P h vs (ns.map WData.int)->IntsAre vs ns:=by
 intro ns
 induction ns with
 | nil=>
  intro vs w;rw[A9] at w;cases w;exact .nil
 | cons n ns ih=>
  intro vs w;rw[Ar] at w;cases w with
  | cons a b=>
   cases a;exact .cons _ _ (ih _ b)
def Uh {l:OpenLaw}{n:Nat}(hn:l.most=some n) {P:Params}{h:Heap}{args:List WData}{vals:List Value}
  (B9:l.row.toRowW.claim.pre args=true) (CP:WellAll P h vals args):
  ∃ a vs ns,vals=[Value.ref a]/\args=[WData.list (ns.map WData.int)]/\h.get? a=some { cls:=.type "list",data:=.seq vs.toArray }/\IntsAre vs ns/\ns.length<=n:=by
 have DW:WShape.hasAll [] args [.list .int]=true:=(pre_splitW B9).1;have hc:l.pre.holds [] { args:=args }=true:=(pre_splitW B9).2;obtain⟨d,r,rfl,h1,h2⟩:=hasAllW_cons DW;obtain rfl:=hasAllW_nil h2;obtain⟨xs,rfl,h3⟩:=hasW_list h1;obtain⟨ns,rfl⟩:=items_int h3;have hlen:ns.length<=n:=by
  unfold OpenLaw.pre at hc;have h4:(WTm.not (.lt (.lit (.int (n:Int))) (.len (.arg 0)))).holds [] { args:=[.list (ns.map .int)] }=true:=by
   have h4:=(holds_andW hc).1;rw[hn] at h4;exact h4
  have h5:=condW_of h4 (w_not (w_lt w_lit (w_len_list (w_arg rfl))));rw[Az] at h5;refine Nat.le_of_not_lt λ q=>?_;have q':(n:Int)<((ns.length:Nat):Int):=by lia
  first
   | (rw[decide_eq_true q'] at h5;exact absurd h5 (by decide))
   | (simp at h5;lia)
 cases CP with
 | cons w1 w2=>
  cases w2;cases w1 with
  | list ho Ay=>exact⟨_,_,ns,rfl,rfl,ho,OJ ns _ Ay,hlen⟩
def Th (l:OpenLaw) (args:List WData):l.row.toRowW.claim.post args (.bool true) args=true:=
 postW_of (r:=l.row.toRowW) (X:=(true == true))
  (show WShape.has [] (.bool true) .bool=true by first | rfl | decide | simp[WShape.has,WShape.arms,WShape.armsAll])
  (show (WTm.eq .res (.lit (.bool true))).value [] { args:=args,res:=some (.bool true),after:=args }=some (.bool (true == true)) from w_eq_bool (w_res rfl) w_lit) rfl
def MV {l:OpenLaw}{n:Nat}{q:Program}{loose:List Str}{XP:(Str->Option Value)->Heap->Prop}{YP:World->Heap->Prop}{d:DefRec}
  (hn:l.most=some n) (Dw:d.params.defaults=[])
  (call:∀ (w:World) (s₀ s₁:Shared) (mg mb:Str->Option Value) (fa:Addr) (o:Obj) (pm cd doc:Value) (a:Addr) (vs:List Value) (ns:List Int),
   Ground q loose [] XP w s₀ mg mb s₁.heap->YP w s₁.heap->
   s₁.heap.get? fa=some o->o.data=.func (docDef d.name d.params d.body d.scope pm cd doc)->s₁.heap.CodeRec cd d.name->mg d.name=some (.ref fa)->
   s₁.heap.get? a=some { cls:=.type "list",data:=.seq vs.toArray }->IntsAre vs ns->ns.length<=n->s₁.gens=#[]->
   codeAny (model l.prog w) callerA (.call (.ref fa) ⟨[.ref a],[]⟩) (λ r s'=>r=.ok (.ret (.bool true))/\OldK s₁.heap s'.heap/\s'.os=s₁.os/\AllBare s'.gens) s₁):
  WalkO q loose XP YP l.row.toRowW d [] (λ f vs=>PySem.call f vs):=by
 intro w s₀ s₁ mg mb G Y fa o pm cd doc dV kV ho hd BJ hD Dn hg args vals as B9 Dp hrd CP hlo;obtain rfl:dV=.none:=Dflts.none hD Dw;obtain rfl:kV=.none:=Dflts.noKw hD;obtain⟨a,vs,ns,rfl,rfl,CG,hints,hlen⟩:=Uh hn B9 CP;refine enter_call (codeAny_mono (call w s₀ s₁ mg mb fa o pm cd doc a vs ns G Y ho (fd_plain hd) BJ Dn CG hints hlen hg) λ r s' hq=>?_);obtain⟨rfl,h2,h3,h4⟩:=hq;exact⟨.inl ⟨.bool true,.bool true,[],rfl,λ _=>rfl,.bool true,Th l _,λ _=>⟨List.Pairwise.nil,λ _ hm=>(nomatch hm)⟩⟩,h2,h3,h4⟩
section
variable {prog:Program}{w:World}{A:Around}{E:Value->Shared->Prop}{s:Shared}{K:Frag}
end
end WR
namespace L2
open PySem PySem.Spec PyProof.Rows
theorem bK:∀ {vs:List Value}{ns:List Int},IntsAre vs ns->Vals (ns.map V.int) vs
 | _,_,.nil=>.nil
 | _,_,.cons n t h=>.cons ⟨t,rfl⟩ (bK h)
def jG (H:Hp):Prop:=∀ b,H b=none\/∃ o xs,H b=some (.wK o (.lst xs))
def Ov {P:Program}{w:World}{K:Ad}{mg mb:Str->Option Value}{CX:tp}{k:Nat}{fa a:Addr}{fd:FuncData}{x:Str}{sp:Sp}{s₁:Shared}{vs:List Value}{ns:List Int}
  (KX:K.In s₁.heap) (CU:s₁.heap.Ns mainGlobals mg) (hb:s₁.heap.Ns builtinsNs mb) (C0:∀ x:Str,x≠"__name__"->mb x=bootBuiltins x) (EB:s₁.heap.NoLimit) (hg:s₁.gens=#[])
  (ha:s₁.heap.get? a=some { cls:=.type "list",data:=.seq vs.toArray }) (hi:IntsAre vs ns) (hl:ns.length<=sizeLine) (hr:yI k callerA)
  (F:∀ base:Heap,K.In base->base.Ns mainGlobals mg->uM P w K mg base CX k fa fd [x] sp) (hbind:∀ (s:Shared) (u:Value),BindsTo s fd ⟨[u],[]⟩ [(x,u)])
  (A2:∀ H:Hp,jG H->zZ K H a (ns.map V.int)->sp [.ref a] H (λ v _=>v=.bl true) λ _ _ _=>False)
  (hCX:∀ H e s',CX [] H s₁ (λ _ _ _=>False) e s'->False):
  codeAny (model P w) callerA (.call (.ref fa) ⟨[.ref a],[]⟩) (λ r s'=>r=.ok (.ret (.bool true))/\OldK s₁.heap s'.heap/\s'.os=s₁.os/\AllBare s'.gens) s₁:=by
 have rv:=bK hi;have lenV:=hi.length;have core:∀ H:Hp,jG H->zZ K H a (ns.map V.int)->xl P w H s₁.heap->(∀ b,H b≠none->b=a)->(H a≠none->K.lookup a=none)->
   codeAny (model P w) callerA (.call (.ref fa) ⟨[.ref a],[]⟩) (λ r s'=>r=.ok (.ret (.bool true))/\OldK s₁.heap s'.heap/\s'.os=s₁.os/\AllBare s'.gens) s₁:=by
  intro H hO hS zC hA hK;have base_of:∀ {b:Addr}{o:Obj},s₁.heap.get? b=some o->H b=none->(sR s₁.heap H).get? b=some o:=λ e n=>OW e n;have noA:∀ {b:Addr}{o:Obj}{es:Array DictEntry}{ep:Nat},s₁.heap.get? b=some o->o.data=.dict es ep->H b=none:=λ{b o es ep} e d=>by
   cases q:H b with
   | none=>rfl
   | some u=>
    have e':b=a:=hA b (by rw[q];simp);subst e';rw[ha] at e;cases e;have d':Data.seq vs.toArray _=Data.dict es ep:=d;cases d'
  have nsK:∀ {b:Addr}{m:Str->Option Value},s₁.heap.Ns b m->(sR s₁.heap H).Ns b m:=λ{b m} ⟨o,es,ep,e,d,r⟩=>⟨o,es,ep,base_of e (noA e d),d,r⟩;have hKb:K.In (sR s₁.heap H):=λ b o e=>base_of (KX b o e) (by
   cases q:H b with
   | none=>rfl
   | some u=>
    have e':b=a:=hA b (by rw[q];simp);subst e';rw[hK (by rw[q];simp)] at e;cases e)
  have hM:Mod K mg (sR s₁.heap H):=⟨hKb,nsK CU,⟨mb,nsK hb,C0⟩,let ⟨mc,h1,h2⟩:=EB;⟨mc,nsK h1,h2⟩⟩
  have e0:jT P w K mg (sR s₁.heap H) callerA [] s₁ H:=⟨rfl,hM,λ b o e=>Po e,Nat.le_of_eq (OV _ _),trivial,λ b hb=>absurd (show b∈([]:List Addr) from hb) (by simp),zC,.of_eq hg⟩
  refine codeAny_mono ((F _ hKb (nsK CU)).run callerA [] s₁ H ⟨[.ref a],[]⟩ [.ref a] [.ref a] _ _ hr e0 (hbind s₁ (.ref a)) (.cons rfl .nil) (A2 H hO hS)) λ r s' h=>?_;cases r with
  | error e=>exact (hCX H e s' h).elim
  | ok fl=>
   cases fl with
   | next=>exact False.elim h
   | brk=>exact False.elim h
   | cont=>exact False.elim h
   | ret u=>
    obtain⟨v,H',os,bare,un,Ew,r',q⟩:=h;have q':v=.bl true:=q;subst q';obtain rfl:u=Value.bool true:=r';refine⟨rfl,OldK.of_keep λ b o e=>?_,os,bare⟩;cases q:H b with
    | none=>exact un.keep b o e q (by intro z;exact absurd (show b∈([]:List Addr) from z) (by simp)) (by simp)
    | some u=>
     rcases hO b with z | ⟨ob,xs,z⟩
     .rw[q] at z;cases z
     .have z2:=un.sT b ob _ z;obtain⟨e1,_⟩:=zC b _ z;obtain⟨e2,_⟩:=Ew b _ z2;rw[e] at e1;cases e1;exact e2
 cases hk:K.lookup a with
 | some o=>
  have e:=KX a o hk;rw[ha] at e;cases e;refine core (λ _=>none) (λ _=>.inl rfl) (.inr ⟨_,vs.toArray,_,hk,rfl,rfl,rfl,by rw[Aq,lenV];exact hl,by simpa using rv⟩) (λ b u z=>by have z':(none:Option HO)=some u:=z;cases z') (λ b z=>absurd rfl z) λ z=>absurd rfl z
 | none=>
  refine core (λ b=>if b=a then some (.wK { cls:=.type "list",data:=.seq vs.toArray } (.lst (ns.map V.int))) else none) (λ b=>?_) (.inl (.inr ⟨{ cls:=.type "list",data:=.seq vs.toArray },if_pos rfl⟩)) (λ b u z=>?_) (λ b z=>?_) λ _=>hk
  .by_cases hb:b=a
   .exact .inr ⟨_,_,if_pos hb⟩
   .exact .inl (if_neg hb)
  .by_cases hb:b=a
   .have z':=(if_pos hb).symm.trans z;cases z';subst hb;exact⟨ha,by rw[Az];exact hl,vs,_,rv,ha⟩
   .have z':=(if_neg hb).symm.trans z;cases z'
  .by_cases hb:b=a
   .exact hb
   .exact absurd (if_neg hb) z
def WY {l:PySem.W.OpenLaw}{n k:Nat}{q:Program}{loose:List Str}{XP:(Str->Option Value)->Heap->Prop}{YP:World->Heap->Prop}{d:DefRec}{K:Params->Ad}{CX:World->tp}{sp:World->Sp}{x:Str}
  (hn:l.most=some n) (hn2:n<=sizeLine) (Dw:d.params.defaults=[]) (hr:yI k callerA)
  (hY:∀ (w:World) (h:Heap),YP w h->(K w.params).In h)
  (F:∀ (w:World) (mg:Str->Option Value) (fa:Addr) (h:Heap),(K w.params).In h->h.Ns mainGlobals mg->mg d.name=some (.ref fa)->
   ∃ fd:FuncData,(∀ (s:Shared) (u:Value),BindsTo s fd ⟨[u],[]⟩ [(x,u)])/\
    ∀ base:Heap,(K w.params).In base->base.Ns mainGlobals mg->uM l.prog w (K w.params) mg base (CX w) k fa fd [x] (sp w))
  (A2:∀ (w:World) (H:Hp) (a:Addr) (ns:List Int),ns.length<=n->jG H->zZ (K w.params) H a (ns.map V.int)->sp w [.ref a] H (λ v _=>v=.bl true) λ _ _ _=>False)
  (hCX:∀ (w:World) (H:Hp) (s:Shared) (e:Value) (s':Shared),CX w [] H s (λ _ _ _=>False) e s'->False):
  PySem.W.WalkO q loose XP YP l.row.toRowW d [] (λ f vs=>PySem.call f vs):=by
 refine WR.MV hn Dw λ w s₀ s₁ mg mb fa o pm cd doc a vs ns G Y ho hd BJ Dn CG hints hlen hg=>?_;have KX:=hY w _ Y;obtain⟨fd,hb,hF⟩:=F w mg fa _ KX G.T.g Dn;exact Ov KX G.T.g G.T.b G.T.builtins G.T.nolimit hg CG hints (Bi hlen hn2) hr hF hb (λ H hO hS=>A2 w H a ns hlen hO hS) λ H e s'=>hCX w H s₁ e s'
noncomputable def sW (s:Stmt):Arguments:=match s with
 | .FunctionDef _ a _ _ _ _ _ _ _ _=>a
 | _=>{ posonlyargs:=[],args:=[],vararg:=none,kwonlyargs:=[],kw_defaults:=[],kwarg:=none,defaults:=[] }
noncomputable def vE (s:Stmt):List Stmt:=match s with
 | .FunctionDef _ _ b _ _ _ _ _ _ _=>b
 | _=>[]
noncomputable def zD (s:Stmt):Scope:=match s with
 | .FunctionDef _ _ _ _ _ _ sc _ _ _=>sc
 | _=>{ kind:=.function,names:=[],isGenerator:=false,isCoroutine:=false }
abbrev vP:tp:=λ _ _ _ _ _ _=>False
abbrev E0:XK:=λ _ _ _=>False
def SY {X:Cx}:Passes vP X E0:=λ _ _ _ _ _ _ _ h=>h.elim
structure tj (K:Ad) (x qual:Str) (st:Stmt) (f:Addr) (fd:FuncData):Prop where
 ex:∃ (oc:Value) (od:Option Addr) (kV doc pm:Value) (an:Option Addr) (Af ct:Value) (osl:Array (Option Value)),
  fd=PySem.W.fnOf x qual (sW st) (vE st) (zD st) .none kV doc pm an Af ct/\K.lookup f=some ⟨oc,od,.func fd,osl⟩/\PySem.W.codeIn K Af qual=true
 kp:PySem.W.keepIn K (.ref f)=true
section
variable {P:Program}{w:World}{K:Ad}{mg:Str->Option Value}{base:Heap}
def tj.ok {x qual:Str}{st:Stmt}{f:Addr}{fd:FuncData}{N ps:List Str}{k:Nat}{sp:Sp}(F:tj K x qual st f fd) (S:yb N ps (zD st)) (len:∀ vs H Q E,sp vs H Q E->vs.length=ps.length)
  (hbody:∀ (Af:Value) (A:Around) (outer:List Env) (s:Shared) (H:Hp) (vs:List V) (Q:VK) (E:XK),yI k (A.deeper (envOfC qual (zD st) s.heap.objs.size f Af))->sp vs H Q E->
   ∃ t,wF (tN vP P w K mg base N qual (zD st) f Af A outer s H E).rO (vE st) t/\t { nx:=λ _ H'=>Q .zh H',rt:=Q } (start N vs) H):uM P w K mg base vP (k+1) f fd ps sp:=by
 obtain⟨oc,od,kV,doc,pm,an,Af,ct,osl,rfl,lk,BJ⟩:=F.ex;refine N0 lk BJ S len λ A outer s H vs Q E hr A2=>?_;obtain⟨t,h,q⟩:=hbody Af A outer s H vs Q E hr A2;exact⟨t,h.rO,q⟩
def tj.binds {x qual:Str}{st:Stmt}{f:Addr}{fd:FuncData}{ps:List Str}(F:tj K x qual st f fd)
  (h:∀ (kV doc pm:Value) (an:Option Addr) (Af ct:Value) (us:List Value),us.length=ps.length->bindArgs (PySem.W.fnOf x qual (sW st) (vE st) (zD st) .none kV doc pm an Af ct) ⟨us,[]⟩=pure (ps.zip us)):Binds K fd ps []:=by
 obtain⟨oc,od,kV,doc,pm,an,Af,ct,osl,rfl,lk,BJ⟩:=F.ex;exact .all (h kV doc pm an Af ct)
def Y9 {x qual:Str}{st:Stmt}{f:Addr}{oc:Value}{od an:Option Addr}{osl:Array (Option Value)}{kV doc pm Af ct:Value}(l:K.lookup f=some ⟨oc,od,.func (PySem.W.fnOf x qual (sW st) (vE st) (zD st) .none kV doc pm an Af ct),osl⟩)
  (c:PySem.W.codeIn K Af qual=true) (k:PySem.W.keepIn K (.ref f)=true):tj K x qual st f (PySem.W.fnOf x qual (sW st) (vE st) (zD st) .none kV doc pm an Af ct):=⟨⟨oc,od,kV,doc,pm,an,Af,ct,osl,rfl,l,c⟩,k⟩
end
def fV {A:Around}{k:Nat}(hr:yI k A):A.units+1<cLine:=Nat.lt_of_le_of_lt (Nat.add_le_add_left (by decide:1<=64) _) hr.units
section
variable {X:Cx}
def pv (i:Nat) {x:Str}{pos:Pos}(hN:X.N[i]?=some x:=by rfl) (hv:d9 X.env.scope x:=by first | exact Or.inl rfl | exact Or.inr (Or.inl rfl) | exact Or.inr (Or.inr rfl)) (hd:(x == ("__debug__":Str))=false:=by decide)
  (BJ:(x == ("__classdict__":Str))=false:=by decide):PE X (.Name x pos) (iy i):=T7 hN hv hd BJ
end
end L2
namespace PySem
theorem eX {env:Env}:∀ (l:List (Str×NameKind)) (acc:List (Str×Addr)),(∀ y∈l,y.2=.free->∃ c,env.cells.lookup y.1=some c)->
  ∃ cl,(forIn l acc (λ(x:Str×NameKind) r=>if (x.2 == NameKind.free)=true then do let a <- cellOf env x.1;pure (ForInStep.yield ((x.1,a)::r)) else pure (ForInStep.yield r)):Sem (List (Str×Addr)))=pure cl/\
   (∀ x c,cl.lookup x=some c->acc.lookup x=some c\/((x,NameKind.free)∈l/\env.cells.lookup x=some c))/\(∀ x,(x,NameKind.free)∈l\/(acc.lookup x).isSome->(cl.lookup x).isSome)
 | [],acc,_=>⟨acc,rfl,λ x c h=>.inl h,λ x h=>by simpa using h⟩
 | (n,k)::l,acc,h=>by
  by_cases hk:k=.free
  .subst hk;obtain⟨c,hc⟩:=h (n,.free) Am rfl;obtain⟨cl,e1,e2,e3⟩:=eX l ((n,c)::acc) λ y hy=>h y (Av _ hy);refine⟨cl,?_,λ x d hx=>?_,λ x hx=>?_⟩
   .rw[DR];simp only[beq_self_eq_true,if_true,cellOf,hc];exact e1
   .rcases e2 x d hx with q | ⟨q1,q2⟩
    .rw[Bw] at q;cases Di:x == n with
     | true=>
      rw[Di] at q;have:x=n:=by simpa using Di
      subst this;refine .inr ⟨Am,?_⟩;rw[hc];exact q
     | false=>rw[Di] at q;exact .inl q
    .exact .inr ⟨Av _ q1,q2⟩
   .refine e3 x ?_;rcases hx with hx | hx
    .rcases Ah.mp hx with q | q
     .have:x=n:=congrArg Prod.fst q;subst this;exact .inr (by simp[Bw])
     .exact .inl q
    .refine .inr ?_;rw[Bw];cases x == n <;> simp[hx]
  .have hb:(k == NameKind.free)=false:=by simpa using hk
   obtain⟨cl,e1,e2,e3⟩:=eX l acc λ y hy=>h y (Av _ hy);refine⟨cl,?_,λ x d hx=>?_,λ x hx=>?_⟩
   .rw[DR];simp only[hb,Ba,if_false];exact e1
   .rcases e2 x d hx with q | ⟨q1,q2⟩
    .exact .inl q
    .exact .inr ⟨Av _ q1,q2⟩
   .refine e3 x ?_;rcases hx with hx | hx
    .rcases Ah.mp hx with q | q
     .exact absurd (congrArg Prod.snd q).symm hk
     .exact .inl q
    .exact .inr hx
def Xv {scope:Scope}{env:Env}(h:∀ y∈scope.names,y.2=.free->∃ c,env.cells.lookup y.1=some c):
  ∃ cl,closureFor scope env=pure cl/\(∀ x c,cl.lookup x=some c->(x,NameKind.free)∈scope.names/\env.cells.lookup x=some c)/\∀ x,(x,NameKind.free)∈scope.names->(cl.lookup x).isSome:=by
 obtain⟨cl,e1,e2,e3⟩:=eX (env:=env) scope.names [] h;refine⟨cl,?_,λ x c hx=>?_,λ x hx=>e3 x (.inl hx)⟩
 .simp only[closureFor];rw[e1];rfl
 .rcases e2 x c hx with q | q
  .simp at q
  .exact q
theorem ZU {env:Env}:∀ {names:List (Str×NameKind)}{x:Str},names.lookup x=some .free->
  (names.map λ(n,k)=>if (k == NameKind.free&&env.scope.kind == .function&&env.kindOf n == some .cell) then (n,NameKind.cell) else (n,k)).lookup x=some .cell\/
  (names.map λ(n,k)=>if (k == NameKind.free&&env.scope.kind == .function&&env.kindOf n == some .cell) then (n,NameKind.cell) else (n,k)).lookup x=some .free
 | [],_,h=>by simp at h
 | (n,k)::r,x,h=>by
  have ih:=@ZU env r x;show List.lookup x ((if (k == NameKind.free&&env.scope.kind == .function&&env.kindOf n == some .cell)=true then (n,NameKind.cell) else (n,k))::_)=_\/List.lookup x ((if (k == NameKind.free&&env.scope.kind == .function&&env.kindOf n == some .cell)=true then (n,NameKind.cell) else (n,k))::_)=_;cases hx:x == n with
  | true=>
   simp only[Bw,hx] at h;cases h;by_cases hc:(NameKind.free == NameKind.free&&env.scope.kind == .function&&env.kindOf n == some .cell)=true
   .rw[if_pos hc];simp[Bw,hx]
   .rw[if_neg hc];simp[Bw,hx]
  | false=>
   simp only[Bw,hx] at h;by_cases hc:(k == NameKind.free&&env.scope.kind == .function&&env.kindOf n == some .cell)=true
   .rw[if_pos hc];simp only[Bw,hx];exact ih h
   .rw[if_neg hc];simp only[Bw,hx];exact ih h
theorem aL {env:Env}:∀ {names:List (Str×NameKind)}{x:Str},(∀ y∈names,y.2≠.cell)->
  ((names.map λ(n,k)=>if (k == NameKind.free&&env.scope.kind == .function&&env.kindOf n == some .cell) then (n,NameKind.cell) else (n,k)).lookup x=some .cell\/
  (names.map λ(n,k)=>if (k == NameKind.free&&env.scope.kind == .function&&env.kindOf n == some .cell) then (n,NameKind.cell) else (n,k)).lookup x=some .free)->(x,NameKind.free)∈names
 | [],_,_,h=>by simp at h
 | (n,k)::r,x,hn,h=>by
  have ih:=@aL env r x λ y hy=>hn y (Av _ hy);have h':List.lookup x ((if (k == NameKind.free&&env.scope.kind == .function&&env.kindOf n == some .cell)=true then (n,NameKind.cell) else (n,k))::_)=some .cell\/List.lookup x ((if (k == NameKind.free&&env.scope.kind == .function&&env.kindOf n == some .cell)=true then (n,NameKind.cell) else (n,k))::_)=some .free:=h;have hf:∀ k',((if (k == NameKind.free&&env.scope.kind == .function&&env.kindOf n == some .cell)=true then (n,NameKind.cell) else (n,k)):Str×NameKind)=(n,k')->(k'=.cell\/k'=.free)->k=.free:=by
   intro k' e hk';by_cases hc:(k == NameKind.free&&env.scope.kind == .function&&env.kindOf n == some .cell)=true
   .simp only[BP] at hc;simpa using hc.1.1
   .rw[if_neg hc] at e;have:k=k':=congrArg Prod.snd e;subst this;rcases hk' with q | q
    .exact absurd q (hn (n,k) Am)
    .exact q
  cases hx:x == n with
  | true=>
   have Di:x=n:=by simpa using hx
   subst Di;by_cases hc:(k == NameKind.free&&env.scope.kind == .function&&env.kindOf x == some .cell)=true
   .simp only[BP] at hc;have:k=.free:=by simpa using hc.1.1
    subst this;exact Am
   .rw[if_neg hc] at h';simp only[Bw,beq_self_eq_true] at h';rcases h' with q | q
    .exact absurd (A5 q) (hn (x,k) Am)
    .have:=A5 q;subst this;exact Am
  | false=>
   refine Av _ (ih ?_);by_cases hc:(k == NameKind.free&&env.scope.kind == .function&&env.kindOf n == some .cell)=true
   .rw[if_pos hc] at h';simp only[Bw,hx] at h';exact h'
   .rw[if_neg hc] at h';simp only[Bw,hx] at h';exact h'
end PySem
namespace L2
open PySem PySem.Spec PyProof.Rows
noncomputable def uv (pick:List (Option Nat)) (B:St):St:=pick.map λ o=>o.bind λ i=>(B[i]?).join
noncomputable def xj (X:Cx) (N':List Str) (scope:Scope) (cl:List (Str×Addr)) (C:Addr) (s:Shared) (H:Hp) (ex:List Addr):Cx:=
 { X with N:=N',s₀:=s,H₀:=H,env:=compEnvC scope cl C X.env,outer:=X.stack,stack:=X.stack,ex:=ex,fn:=λ _=>false,pn:=[],xe:=λ _ _=>False }
noncomputable def pW (N N':List Str) (pick:List (Option Nat)) (scope:Scope):Bool:=(N'.zip pick).all λ p=>match p.2 with
 | none=>true
 | some j=>decide (N[j]?=some p.1)&&decide (scope.names.lookup p.1=some .free)
structure pK (X:Cx) (N':List Str) (pick:List (Option Nat)) (scope:Scope):Prop where
 kind:scope.kind=.function
 ZI:∀ y∈scope.names,y.2≠.cell
 names:∀ y∈scope.names,y.2=.local->scope.names.lookup y.1=some .local
 free:∀ y∈scope.names,y.2=.free->X.env.scope.names.lookup y.1=some .cell\/X.env.scope.names.lookup y.1=some .free
 len:pick.length=N'.length
 ok:pW X.N N' pick scope=true
def pW.get {N N':List Str}{pick:List (Option Nat)}{scope:Scope}(h:pW N N' pick scope=true) {i j:Nat}{x:Str}(h1:N'[i]?=some x) (h2:pick[i]?=some (some j)):N[j]?=some x/\scope.names.lookup x=some .free:=by
 unfold pW at h;have hm:(x,some j)∈N'.zip pick:=by
  refine AX (i:=i) ?_;rw[List.getElem?_zip_eq_some];exact⟨h1,h2⟩
 have q:=BD.mp h _ hm;simp only[BP,decide_eq_true_eq] at q;exact q
def uv.get {pick:List (Option Nat)}{B:St}{i:Nat}{v:V}(h:(uv pick B)[i]?=some (some v)):∃ j,pick[i]?=some (some j)/\B[j]?=some (some v):=by
 unfold uv at h;rw[Aw] at h;cases e:pick[i]? with
 | none=>rw[e] at h;cases h
 | some o=>
  rw[e] at h;cases o with
  | none=>simp at h
  | some j=>
   refine⟨j,rfl,?_⟩;simp only[Option.map_some,Option.some.injEq,A_] at h;cases q:B[j]? with
   | none=>rw[q] at h;simp at h
   | some w=>rw[q] at h;simp at h;rw[h]
def PF (X:Cx) (ifs:List Expr) (t:TT):Prop:=∀ (pins:List (Addr×Obj)) (s:Shared) (B:St) (H:Hp) (Q:Bool->Hp->Prop),Inv X pins B H s->t B H Q->
 wpAny (model X.prog X.w) X.A (forIn ifs true λ c r=>if r=true then do let ok <- isTrue c X.env (eval c X.env);pure (ForInStep.yield ok) else pure (ForInStep.yield r)) (TP X pins B Q) X.xe s
def T5 {X:Cx}:PF X [] (λ _ H Q=>Q true H):=λ _ _ _ H _ I h=>wpAny_tests_nil ⟨H,I,h⟩
def T4 {X:Cx}{c:Expr}{t:TT}(h:PT X c t):PF X [c] t:=λ pins s B H Q I q=>wpAny_tests_one (h pins s B H Q I q)
def i4 (pick:List (Option Nat)) (wi:TI) (g:TG) (tc:TT) (te:TE):TE:=fun B H Q=>wi B H λ J H1=>∀ D,H1 D=none->∃ W:Nat->Nat->St->Hp->Prop,(∃ m,W 0 m (uv pick B) (upd H1 D (.lst [])))/\
 ∀ i m B H,W i m B H->(J.stop i H/\Q (.ref D) H)\/(J.go i H/\∀ x H',J.pM i H x H'->g x B H' fun B2 H2=>tc B2 H2 λ b H3=>
  if b=true then te B2 H3 λ y H4=>∃ ys m',H4 D=some (.lst ys)/\ys.length<sizeLine/\m'<m/\W (i+1) m' B2 (upd H4 D (.lst (ys++[y]))) else ∃ m',m'<m/\W (i+1) m' B2 H3)
section
variable {X:Cx}{pins:List (Addr×Obj)}{B:St}{H:Hp}{s:Shared}{N':List Str}{pick:List (Option Nat)}{scope:Scope}{cl:List (Str×Addr)}{C:Addr}{fp:List Addr}
def OI (S:pK X N' pick scope) (I:Inv X pins B H s) (Bm:∀ b∈fp,uj X pins H b) (Al:∀ b∈fp,b<s.heap.objs.size)
  (c1:∀ x c,cl.lookup x=some c->(x,NameKind.free)∈scope.names/\X.env.cells.lookup x=some c) (c2:∀ x,(x,NameKind.free)∈scope.names->(cl.lookup x).isSome)
  {h1:Heap}{m1:Str->Option Value}{t':Nat}(hC:s.heap.objs.size<C) (old:∀ b o,s.heap.get? b=some o->h1.get? b=some o) (CU:h1.Ns C m1)
  (hD:h1.get? s.heap.objs.size=some { cls:=.type "list",data:=.seq #[] 0 }):
  Inv (xj X N' scope cl C s H fp) [] (uv pick B) (upd H s.heap.objs.size (.lst [])) { s with heap:=h1,toks:=t' }:=by
 have hDn:H s.heap.objs.size=none:=I.zC.fresh (Ag _);have hCn:H C=none:=I.zC.fresh (BE hC);have clt:∀ x c,cl.lookup x=some c->c<s.heap.objs.size:=λ x c e=>by
  obtain⟨v,q⟩:=I.cell x c (c1 x c e).2;exact q.lt
 refine⟨⟨I.ok.mod,S.kind,I.ok.glob,I.ok.blt,BE hC,λ x y c e1 e2=>I.ok.inj x y c (c1 x c e1).2 (c1 y c e2).2,λ x hx=>?_,λ x c hf _=>absurd (show false=true from hf) BC,I.ok.hd,I.ok.frames,.inl rfl,
  λ b hb=>⟨Ax (Dd (Al b hb) hC),λ x c e=>(Bm b hb).2.2.2.2.1 x c (c1 x c e).2⟩,I.bs,Bi I.ok.qZ I.sz,λ b o e hb=>?_,λ b hb z=>?_,I.stack,I.ae⟩,
  rfl,I.bare,Un.laid old (Ag _) hDn,⟨m1,CU,λ i x v e1 e2 e3=>?_⟩,λ x c e=>?_,?_,λ x c e=>?_,λ p hp=>absurd (show p∈([]:List (Addr×Obj)) from hp) (by simp),I.zC.laid old (Ag _) ?_,?_⟩
 .exact DT.mp (c2 x (aL S.ZI hx))
 .rcases (Bm b hb).2.2.2.1 with z | z
  .exact I.ok.mv b o e z
  .exact absurd (Bb (Ao (I.ok.bs b o e).1) z) (BX _)
 .rcases Ah.mp (I.i9 b z) with q | q
  .exact (Bm b hb).2.1 q
  .exact (Bm b hb).2.2.1 q
 .obtain⟨j,p1,p2⟩:=uv.get e2;obtain⟨q1,q2⟩:=pW.get S.ok e1 p1;obtain⟨m0,n0,l0⟩:=I.loc;have hm:(x,NameKind.free)∈scope.names:=PySem.mem_of_lookup q2;have hk:X.env.scope.names.lookup x=some .cell\/X.env.scope.names.lookup x=some .free:=S.free _ hm rfl;obtain⟨u,r,l⟩:=l0 j x v q1 p2 (.inr hk);refine⟨u,r,.inr ⟨ZU q2,?_⟩⟩;rcases l with ⟨k,_⟩ | ⟨_,c,e,z⟩
  .have k':X.env.scope.names.lookup x=some .local:=k;rcases hk with hk | hk <;> (rw[k'] at hk;cases hk)
  .obtain⟨c',e'⟩:=DT.mp (c2 x hm);have e'':=(c1 x c' e').2;rw[e] at e'';cases e'';obtain⟨o,z1,z2⟩:=z;exact⟨c,e',o,old _ _ z1,z2⟩
 .obtain⟨v,o,z1,z2⟩:=I.cell x c (c1 x c e).2;exact⟨v,o,old _ _ z1,z2⟩
 .show upd H s.heap.objs.size (.lst []) C=none;rw[yV (BW hC)];exact hCn
 .show upd H s.heap.objs.size (.lst []) c=none;rw[yV (Ax (clt x c e))];exact I.tH x c (c1 x c e).2
 .exact⟨AN _,[],0,.nil,hD⟩
 .show (uv pick B).length=N'.length;unfold uv;rw[Az];exact S.len
def OG {B':St}{H':Hp}{s':Shared}{oC:Obj}(I:Inv X pins B H s) (Bm:∀ b∈fp,uj X pins H b) (hC:s.heap.objs.size<C)
  (I':Inv (xj X N' scope cl C s H fp) [] B' H' s') (hoC:s'.heap.get? C=some oC):Inv X (pins++[(C,oC)]) B H' s':=by
 have J:Inv X pins B H' s':=I.MK (ch:=fp) I'.os I'.base I'.zC I'.bare λ b hb=>⟨(Bm b hb).2.2.2.1,(Bm b hb).2.1,(Bm b hb).2.2.2.2.1,(Bm b hb).2.2.2.2.2⟩;refine J.gS λ p hp=>(AU.mp hp).elim (λ z=>J.pin p (AZ _ z)) λ z=>?_;obtain rfl:p=(C,oC):=AO.mp z;refine⟨hoC,I'.free,BW (Dd I.lt hC),I.ZF (BE hC),λ v hv=>?_⟩;obtain⟨m,⟨o,es,ep,ho,hd,_⟩,_⟩:=I'.loc;have ho':s'.heap.get? C=some o:=ho;rw[hoC] at ho';cases ho';rw[hd] at hv;cases hv
def Yr {B':St}{H':Hp}{s':Shared}{oC:Obj}{h':Heap}(I:Inv X pins B H s) (hC:s.heap.objs.size<C) (J:Inv X (pins++[(C,oC)]) B' H' s') (hs:Heap.SameBut C s'.heap h'):Inv X pins B' H' { s' with heap:=h' }:=by
 have J':=J.nK;have hp:=J.pin (C,oC) (AZ _ (AZ _ (AO.mpr rfl)));have lt:∀ c,c<s.heap.objs.size->c≠C:=λ c h=>Ax (Dd h hC);refine J'.turned (t':=s'.toks) (it:=C) (λ b o hb e=>hs.extBut b o hb e) hp.2.1 hp.2.2.1 (.inr (Bi I.sz (BE hC))) (λ x c e z=>?_) (λ p hq z=>?_)
 .obtain⟨v,q⟩:=I.cell x c e;exact lt c q.lt z
 .exact lt p.1 (Ao (I.pin p hq).1) z
end
section
variable {X:Cx}{N':List Str}{pick:List (Option Nat)}{scope:Scope}{elt iter tg:Expr}{ifs:List Expr}{pos:Pos}{wi:TI}{g:TG}{tc:TT}{te:TE}
def Om {pins:List (Addr×Obj)}{B:St}{H:Hp}{s:Shared}{it C:Addr}{fp:List Addr}{tn:Nat->Heap->Prop}{J:It}{cl:List (Str×Addr)}{W:Nat->Nat->St->Hp->Prop}{Q:V->Hp->Prop}{R:Result->Shared->Prop}{D:Addr}
  (hc:X.calm=true) (hg:PG (xj X N' scope cl C s H fp) tg g) (hf:PF (xj X N' scope cl C s H fp) ifs tc) (he:PE (xj X N' scope cl C s H fp) elt te)
  (T:Turn X.prog X.w X.K tg J fp it tn) (Bm:∀ b∈fp,uj X pins H b) (hstat:∀ b∈fp,b≠C/\b∉vZ X.stack/\∀ x c,cl.lookup x=some c->c≠b)
  (turn:∀ i m B H,W i m B H->(J.stop i H/\Q (.ref D) H)\/(J.go i H/\∀ x H',J.pM i H x H'->g x B H' fun B2 H2=>tc B2 H2 λ b H3=>
   if b=true then te B2 H3 λ y H4=>∃ ys m',H4 D=some (.lst ys)/\ys.length<sizeLine/\m'<m/\W (i+1) m' B2 (upd H4 D (.lst (ys++[y]))) else ∃ m',m'<m/\W (i+1) m' B2 H3))
  (fin:∀ B' H' s',Inv (xj X N' scope cl C s H fp) [] B' H' s'->Q (.ref D) H'->R (.ok .next) s')
  {m0:Nat}{B0:St}{H0:Hp}{s0:Shared}(I0:Inv (xj X N' scope cl C s H fp) [] B0 H0 s0) (t0:tn 0 s0.heap) (f0:∀ b∈fp,H0 b=none) (w0:W 0 m0 B0 H0):
  codeAny (model X.prog X.w) X.A (.compLoop (.ListComp elt [⟨tg,iter,ifs,0⟩] scope pos) 0 (.ref it) (.ref D) (compEnvC scope cl C X.env)) R s0:=by
 have stat:∀ {H':Hp},(∀ b∈fp,H' b=none)->∀ b∈fp,uj (xj X N' scope cl C s H fp) [] H' b:=λ hn b hb=>⟨hn b hb,(hstat b hb).1,(hstat b hb).2.1,.inl hb,(hstat b hb).2.2,λ p hp=>absurd (show p∈([]:List (Addr×Obj)) from hp) (by simp)⟩;refine codeAny_loop rfl (λ n s'=>∃ i B' H',Inv (xj X N' scope cl C s H fp) [] B' H' s'/\tn i s'.heap/\(∀ b∈fp,H' b=none)/\W i n B' H') (λ n s3 hI=>?_) m0 ⟨0,B0,H0,I0,t0,f0,w0⟩;obtain⟨i,B3,H3,I3,st3,fr3,w3⟩:=hI;show wpAny _ X.A ((compTurn (.ListComp elt [⟨tg,iter,ifs,0⟩] scope pos) 0 (.ref it) (.ref D) (compEnvC scope cl C X.env)).onRaise (λ x=>do noteFrame x (compEnvC scope cl C X.env);theTreesLotGoes x)) _ _ s3;refine wpAny_noted ?_;rw[compTurn_list];refine Ab (wpAny_standAt (Ab ?_));rcases turn i n B3 H3 w3 with ⟨stop,qn⟩ | ⟨go,step⟩
 .refine zL (T.done (xj X N' scope cl C s H fp) rfl rfl rfl hc i [] s3 B3 H3 _ I3 (stat fr3) st3 stop) λ r s4 ⟨hr,I4⟩=>?_;subst hr;exact Ac (fin B3 H3 s4 I4 qn)
 .refine zL (T.item (xj X N' scope cl C s H fp) rfl rfl rfl hc i [] s3 B3 H3 _ I3 (stat fr3) st3 go) λ r s4 ⟨u,hr,h4⟩=>?_;subst hr;refine Ab (zL h4 λ _ s5 ⟨x,H5,I5,r5,y5,st5,fr5⟩=>?_);have I5':=I5.pinned (stat fr5) (T.obj _ _ st5);refine Ab (wpAny_mono (hg _ s5 B3 H5 x u _ I5' r5 (step x H5 y5)) (λ _ s6 ⟨B6,H6,I6,q6⟩=>?_) λ _ _ z=>False.elim z);refine Ab (wpAny_mono (hf _ s6 B6 H6 _ I6 q6) (λ ok s7 ⟨H7,I7,q7⟩=>?_) λ _ _ z=>False.elim z);have back:∀ {H8:Hp}{s8:Shared},Inv (xj X N' scope cl C s H fp) ([]++ma fp s5.heap) B6 H8 s8->(∃ m',m'<n/\W (i+1) m' B6 H8)->∃ m,m<n/\∃ i B' H',Inv (xj X N' scope cl C s H fp) [] B' H' s8/\tn i s8.heap/\(∀ b∈fp,H' b=none)/\W i m B' H':=λ{H8 s8} I8 ⟨m',hm,w8⟩=>by
   refine⟨m',hm,i+1,B6,H8,I8.nK,T.keep _ _ _ st5 λ b hb o e=>(I8.pin (b,o) (AZ _ (AZ _ (jb hb e)))).1,λ b hb=>?_,w8⟩;obtain⟨o,e,d⟩:=T.obj _ _ st5 b hb;exact (I8.pin (b,o) (AZ _ (AZ _ (jb hb e)))).2.1
  cases ok with
  | false=>
   rw[if_neg BC] at q7;exact Ac ⟨rfl,back I7 q7⟩
  | true=>
   rw[if_pos rfl] at q7;refine Ab (Ab (wpAny_mono (he _ s7 B6 H7 _ I7 q7) (λ uy s8 ⟨y,H8,I8,r8,ys,m',e8,z8,hm,w8⟩=>?_) λ _ _ z=>False.elim z));refine Ab (wpAny_mono (ZQ (X:=xj X N' scope cl C s H fp) _ s8 B6 H8 (.ref D) [y] (.ref D) [uy] (λ _ H9=>W (i+1) m' B6 H9) I8 rfl (.cons r8 .nil) ⟨D,ys,y,rfl,rfl,e8,z8,w8⟩) (λ _ s9 ⟨_,H9,I9,_,q9⟩=>?_) λ _ _ z=>False.elim z);exact Ac (Ac ⟨rfl,back I9 ⟨m',hm,q9⟩⟩)
def Yc {pins:List (Addr×Obj)}{B:St}{H:Hp}{s:Shared}{it:Addr}{fp:List Addr}{tn:Nat->Heap->Prop}{J:It}{cl:List (Str×Addr)}{Q:V->Hp->Prop}{E:Value->Shared->Prop}{RR:Value->Addr->Result->Shared->Prop}
  (S:pK X N' pick scope) (hc:X.calm=true) (hg:∀ cl C s H fp,PG (xj X N' scope cl C s H fp) tg g) (hf:∀ cl C s H fp,PF (xj X N' scope cl C s H fp) ifs tc) (he:∀ cl C s H fp,PE (xj X N' scope cl C s H fp) elt te)
  (c1:∀ x c,cl.lookup x=some c->(x,NameKind.free)∈scope.names/\X.env.cells.lookup x=some c) (c2:∀ x,(x,NameKind.free)∈scope.names->(cl.lookup x).isSome)
  (I:Inv X pins B H s) (T:Turn X.prog X.w X.K tg J fp it tn) (t0:tn 0 s.heap) (Bm:∀ b∈fp,uj X pins H b)
  (rd:∀ D,H D=none->∃ W:Nat->Nat->St->Hp->Prop,(∃ m,W 0 m (uv pick B) (upd H D (.lst [])))/\
   ∀ i m B H,W i m B H->(J.stop i H/\Q (.ref D) H)\/(J.go i H/\∀ x H',J.pM i H x H'->g x B H' fun B2 H2=>tc B2 H2 λ b H3=>
    if b=true then te B2 H3 λ y H4=>∃ ys m',H4 D=some (.lst ys)/\ys.length<sizeLine/\m'<m/\W (i+1) m' B2 (upd H4 D (.lst (ys++[y]))) else ∃ m',m'<m/\W (i+1) m' B2 H3))
  (fin:∀ C D oC H' s',s.heap.objs.size<C->Inv X (pins++[(C,oC)]) B H' s'->s'.heap.get? C=some oC->(∃ m,s'.heap.Ns C m)->Q (.ref D) H'->RR (.ref D) C (.ok .next) s'):
  wpAny (model X.prog X.w) X.A (newList []) (λ acc s₃=>wpAny (model X.prog X.w) X.A (newFunctionEnv scope X.env.globals cl [] X.env.qual none .none (some X.env)) (λ cenv s₄=>
   codeAny (model X.prog X.w) X.A (.compStart (.ListComp elt [⟨tg,iter,ifs,0⟩] scope pos) 0 (.ref it) acc { cenv with scope:=relabel scope X.env }) (RR acc cenv.locals) s₄) E s₃) E s:=by
 refine wpAny_newObj_type (wpAny_newFunctionEnv S.ZI (by intro y hy;simp at hy) (λ h₁ hns₁ hsb₁=>?_) S.kind);dsimp only at hns₁ hsb₁ ⊢;generalize hH2:s.heap.push { cls:=.type "list",dict:=none,data:=.seq ([]:List Value).toArray }=H2 at hns₁ hsb₁ ⊢;have hC:H2.objs.size=s.heap.objs.size+1:=by rw[<- hH2,Heap.size_push]
 have Al:s.heap.objs.size<H2.objs.size:=by rw[hC];exact Cz _
 have old:∀ b o,s.heap.get? b=some o->h₁.get? b=some o:=λ b o e=>hsb₁.extBut b o (Ax (Dd (Ao e) Al)) (An _ (hH2▸An _ e));have AQ:h₁.get? s.heap.objs.size=some { cls:=.type "list",data:=.seq #[] 0 }:=hsb₁.extBut _ _ (Ax Al) (An _ (hH2▸AF _ rfl));have Dv:∀ b∈fp,b<s.heap.objs.size:=λ b hb=>by
  obtain⟨o,e,_⟩:=T.obj _ _ t0 b hb;exact Ao e
 have hDn:H s.heap.objs.size=none:=I.zC.fresh (Ag _);obtain⟨W,⟨m0,w0⟩,turn⟩:=rd s.heap.objs.size hDn;have I0:=OI (t':=s.toks+([]:List (Str×Value)).length) S I Bm Dv c1 c2 Al old hns₁ AQ;have t1:tn 0 h₁:=T.keep _ _ _ t0 λ b _ o e=>old b o e;have AH:∀ b∈fp,b≠H2.objs.size/\b∉vZ X.stack/\∀ x c,cl.lookup x=some c->c≠b:=λ b hb=>I0.ok.eG b hb |> λ q=>⟨q.1,I0.ok.mM b hb,q.2⟩
 have loop:codeAny (model X.prog X.w) X.A (.compLoop (.ListComp elt [⟨tg,iter,ifs,0⟩] scope pos) 0 (.ref it) (.ref s.heap.objs.size) (compEnvC scope cl H2.objs.size X.env)) (RR (.ref s.heap.objs.size) H2.objs.size) { s with heap:=h₁,toks:=s.toks+([]:List (Str×Value)).length }:=by
  refine Om (B:=B) hc (hg _ _ _ _ _) (hf _ _ _ _ _) (he _ _ _ _ _) T Bm AH turn (fun B' H' s' I' q=>?_) I0 t1 (λ b hb=>?_) w0
  .obtain⟨m,hn,_⟩:=I'.loc;have hn':s'.heap.Ns H2.objs.size m:=hn;obtain⟨oC,es,ep,ho,hr⟩:=id hn';exact fin _ _ oC H' s' Al (OG I Bm Al I' ho) ho ⟨m,hn'⟩ q
  .show upd H s.heap.objs.size (.lst []) b=none;rw[yV (Ax (Dv b hb))];exact (Bm b hb).1
 exact codeAny_compStart_list loop (T.self _ 0 _ _ _ t1 loop)
def TR (S:pK X N' pick scope) (hc:X.calm=true) (hi:PI X tg iter wi) (hg:∀ cl C s H fp,PG (xj X N' scope cl C s H fp) tg g) (hf:∀ cl C s H fp,PF (xj X N' scope cl C s H fp) ifs tc) (he:∀ cl C s H fp,PE (xj X N' scope cl C s H fp) elt te)
  (hs:∀ x,foldedSetIterable iter X.env x=pure x:=by intro _;rfl):PE X (.ListComp elt [⟨tg,iter,ifs,0⟩] scope pos) (i4 pick wi g tc te):=by
 intro pins s B H Q I h;obtain⟨cl,hclos,c1,c2⟩:=Xv (scope:=scope) (env:=X.env) λ y hy hk=>I.ok.has y.1 (S.free y hy hk);rw[eval_ListComp];refine wpAny_comprehension_free (use:=none) rfl hs hclos S.kind S.names (zL (hi pins s B H _ I h) λ v s1 h1=>zL h1 λ itv s2 h2=>?_);obtain⟨it,fp,tn,J,H2,e,I2,T,st2,f2,rd⟩:=h2;subst e;refine Yc (RR:=λ acc C=>compPost (model X.prog X.w) X.A X.xe none (EP X pins B Q) acc C) S hc hg hf he c1 c2 I2 T st2 f2 rd λ C D oC H' s' hC J' ho hn q=>?_;obtain⟨m,hn⟩:=hn;exact⟨m,hn,λ h' hs'=>⟨.ref D,H',Yr I2 hC J' hs',rfl,q⟩⟩
def U_ {i:Nat}{y:Str}{py BF:Pos}(S:pK X N' pick scope) (hc:X.calm=true) (hi:PI X tg iter wi) (hg:∀ cl C s H fp,PG (xj X N' scope cl C s H fp) tg g) (hf:∀ cl C s H fp,PF (xj X N' scope cl C s H fp) ifs tc) (he:∀ cl C s H fp,PE (xj X N' scope cl C s H fp) elt te)
  (hN:X.N.Nodup) (hy:X.N[i]?=some y) (hx:Loc X.env.scope y)
  (CA:swapsWith (.ListComp elt [⟨tg,iter,ifs,0⟩] scope pos) (some (.Name y py)) BF.line X.env=pure true:=by rfl)
  (CH:X.fn y=true\/X.env.scope.names.lookup y=some .local:=by first | exact .inl rfl | exact .inr rfl | assumption)
  (hs:∀ x,foldedSetIterable iter X.env x=pure x:=by intro _;rfl):PS X (.Assign [.Name y py] (.ListComp elt [⟨tg,iter,ifs,0⟩] scope pos) BF) (nM (i4 pick wi g tc te) (oE i)):=by
 intro pins s B H Q I h;obtain⟨cl,hclos,c1,c2⟩:=Xv (scope:=scope) (env:=X.env) λ y hy hk=>I.ok.has y.1 (S.free y hy hk);rw[exec_Assign_Name_used _ _ _ _ CA];refine Ab (wpAny_standAt (Ab ?_));show wpAny _ X.A (do let _ <- comprehension (.ListComp elt [⟨tg,iter,ifs,0⟩] scope pos) scope X.env _ (newList []) false (eval iter X.env) (some (assign (.Name y py) X.env))) _ _ s;refine Ab (wpAny_mono (wpAny_comprehension_free (use:=some (assign (.Name y py) X.env)) (Q:=λ _ s'=>SP X pins Q .next s') rfl hs hclos S.kind S.names
  (zL (hi pins s B H _ I h) λ v s1 h1=>zL h1 λ itv s2 h2=>?_)) (λ _ s' hq=>Ac (Ac hq)) λ _ _ e=>e)
 obtain⟨it,fp,tn,J,H2,e,I2,T,st2,f2,rd⟩:=h2;subst e;refine Yc (Q:=λ x H1=>oE i x B H1 Q.nx) (RR:=λ acc C=>compPost (model X.prog X.w) X.A X.xe (some (assign (.Name y py) X.env)) (λ _ s'=>SP X pins Q .next s') acc C) S hc hg hf he c1 c2 I2 T st2 f2 rd λ C D oC H' s' hC J' ho hn q=>?_;show wpAny _ X.A (assign (.Name y py) X.env (.ref D)) _ _ _;refine wpAny_assign_Name (i8 J' hN hy hx (v:=.ref D) rfl (λ s3 J3=>?_) CH);have hp:=(J3.pin (C,oC) (AZ _ (AZ _ (AO.mpr rfl)))).1;obtain⟨m,o,es,ep,ho',hr⟩:=hn;have:o=oC:=A5 (ho'.symm.trans ho);subst this;exact⟨m,⟨o,es,ep,hp,hr⟩,λ h' hs'=>⟨_,H',Yr I2 hC J3 hs',q⟩⟩
end
end L2
namespace L3
open PySem PySem.Spec L2
open PyProof.Rows hiding St
inductive D where
 | zh | bl (b:Bool) | int (i:Int) | str (x:Str) | tup (ds:List D) | yW (ds:List D) | ref (a:Addr)
def oX (K:Ad) (H:Hp) (a:Addr) (xs:List V):Prop:=
 (∃ o,H a=some (.wK o (.lst xs)))\/
  ∃ (o:Obj) (its:Array Value) (n:Nat),K.lookup a=some o/\o.cls=.type "list"/\o.dict=none/\o.data=.seq its n/\its.size<=sizeLine/\Vals xs its.toList
def oX.sq {K:Ad}{H:Hp}{a:Addr}{xs:List V}(h:oX K H a xs):zZ K H a xs:=by
 rcases h with h | h
 .exact .inl (.inr h)
 .exact .inr h
mutual
noncomputable def zk (K:Ad) (H:Hp):D->V->Prop
 | .zh,v=>v=.zh
 | .bl b,v=>v=.bl b
 | .int i,v=>v=.int i
 | .str x,v=>v=.str x
 | .tup ds,v=>∃ a xs,v=.ref a/\ye K H a xs/\zq K H ds xs
 | .yW ds,v=>∃ a xs,v=.ref a/\oX K H a xs/\zq K H ds xs
 | .ref a,v=>v=.ref a
noncomputable def zq (K:Ad) (H:Hp):List D->List V->Prop
 | [],xs=>xs=[]
 | d::ds,xs=>∃ x r,xs=x::r/\zk K H d x/\zq K H ds r
end
structure Ext (H H':Hp):Prop where
 tup:∀ b xs,H b=some (.tup xs)->H' b=some (.tup xs)
 wK:∀ b o u,H b=some (.wK o u)->H' b=some (.wK o u)
def Ext.refl (H:Hp):Ext H H:=⟨λ _ _ h=>h,λ _ _ _ h=>h⟩
def Ext.trans {H H1 H2:Hp}(a:Ext H H1) (b:Ext H1 H2):Ext H H2:=⟨λ c xs h=>b.tup c xs (a.tup c xs h),λ c o u h=>b.wK c o u (a.wK c o u h)⟩
def Ext.new {H:Hp}{p:Addr}(h:H p=none) (o:HO):Ext H (upd H p o):=
 ⟨λ b xs q=>by rw[yV (rQ q h)];exact q,λ b ob u q=>by rw[yV (rQ q h)];exact q⟩
theorem Ext.lst {H:Hp}{p:Addr}{xs:List V}(h:H p=some (.lst xs)) (o:HO):Ext H (upd H p o):=
 ⟨λ b ys q=>by rw[yV (my q h (by intro z;cases z))];exact q,λ b ob u q=>by rw[yV (my q h (by intro z;cases z))];exact q⟩
def Ext.kz {K:Ad}{H H':Hp}{a:Addr}{xs:List V}(e:Ext H H') (h:ye K H a xs):ye K H' a xs:=by
 rcases h with (h | ⟨o,h⟩) | h
 .exact .inl (.inl (e.tup _ _ h))
 .exact .inl (.inr ⟨o,e.wK _ _ _ h⟩)
 .exact .inr h
def Ext.k5 {K:Ad}{H H':Hp}{a:Addr}{xs:List V}(e:Ext H H') (h:oX K H a xs):oX K H' a xs:=by
 rcases h with ⟨o,h⟩ | h
 .exact .inl ⟨o,e.wK _ _ _ h⟩
 .exact .inr h
section
variable {K:Ad}{H H':Hp}
mutual
theorem zk.ext (e:Ext H H'):∀ (d:D) {v:V},zk K H d v->zk K H' d v
 | .zh,v,h=>by simpa only [zk] using h
 | .bl b,v,h=>by simpa only [zk] using h
 | .int i,v,h=>by simpa only [zk] using h
 | .str x,v,h=>by simpa only [zk] using h
 | .ref a,v,h=>by simpa only [zk] using h
 | .tup ds,v,h=>by
  simp only[zk] at h ⊢;obtain⟨a,xs,h1,h2,h3⟩:=h;exact⟨a,xs,h1,e.kz h2,zq.ext e ds h3⟩
 | .yW ds,v,h=>by
  simp only[zk] at h ⊢;obtain⟨a,xs,h1,h2,h3⟩:=h;exact⟨a,xs,h1,e.k5 h2,zq.ext e ds h3⟩
theorem zq.ext (e:Ext H H'):∀ (ds:List D) {xs:List V},zq K H ds xs->zq K H' ds xs
 | [],xs,h=>by simpa only [zq] using h
 | d::ds,xs,h=>by
  simp only[zq] at h ⊢;obtain⟨x,r,h1,h2,h3⟩:=h;exact⟨x,r,h1,zk.ext e d h2,zq.ext e ds h3⟩
end
theorem zq.length:∀ {ds:List D}{xs:List V},zq K H ds xs->ds.length=xs.length
 | [],xs,h=>by simp only[zq] at h;subst h;rfl
 | d::ds,xs,h=>by
  simp only[zq] at h;obtain⟨x,r,h1,_,h3⟩:=h;subst h1;simp[zq.length h3]
theorem zq.get:∀ {ds:List D}{xs:List V}{i:Nat}{d:D},zq K H ds xs->ds[i]?=some d->∃ x,xs[i]?=some x/\zk K H d x
 | [],_,i,d,_,e=>by simp at e
 | c::ds,xs,i,d,h,e=>by
  simp only[zq] at h;obtain⟨x,r,h1,h2,h3⟩:=h;subst h1;cases i with
  | zero=>simp at e;subst e;exact⟨x,rfl,h2⟩
  | succ i=>
   obtain⟨y,e1,e2⟩:=zq.get (i:=i) h3 (by simpa using e);exact⟨y,by simpa using e1,e2⟩
theorem zq.append:∀ {ds es:List D}{xs ys:List V},zq K H ds xs->zq K H es ys->zq K H (ds++es) (xs++ys)
 | [],es,xs,ys,h,h'=>by simp only[zq] at h;subst h;simpa using h'
 | d::ds,es,xs,ys,h,h'=>by
  simp only[zq] at h;obtain⟨x,r,h1,h2,h3⟩:=h;subst h1;show zq K H (d::(ds++es)) (x::(r++ys));simp only[zq];exact⟨x,r++ys,rfl,h2,zq.append h3 h'⟩
def zq.nil:zq K H [] []:=by simp only[zq]
def zq.cons {d:D}{ds:List D}{x:V}{xs:List V}(h:zk K H d x) (h':zq K H ds xs):zq K H (d::ds) (x::xs):=by
 simp only[zq];exact⟨x,xs,rfl,h,h'⟩
def zq.snoc {d:D}{ds:List D}{x:V}{xs:List V}(h':zq K H ds xs) (h:zk K H d x):zq K H (ds++[d]) (xs++[x]):=h'.append (.cons h .nil)
theorem zq.ints:∀ {ns:List Int}{xs:List V},zq K H (ns.map D.int) xs->xs=ns.map V.int
 | [],xs,h=>by simpa only [A9,zq] using h
 | n::ns,xs,h=>by
  rw[Ar] at h;simp only[zq,zk] at h;obtain⟨x,r,h1,h2,h3⟩:=h;subst h1 h2;rw[Ar,zq.ints h3]
theorem zq.fw:∀ (ns:List Int),zq K H (ns.map D.int) (ns.map V.int)
 | []=>.nil
 | n::ns=>.cons (by simp only[zk]) (zq.fw ns)
theorem zq.bools:∀ {ns:List Bool}{xs:List V},zq K H (ns.map D.bl) xs->xs=ns.map V.bl
 | [],xs,h=>by simpa only [A9,zq] using h
 | n::ns,xs,h=>by
  rw[Ar] at h;simp only[zq,zk] at h;obtain⟨x,r,h1,h2,h3⟩:=h;subst h1 h2;rw[Ar,zq.bools h3]
end
inductive O where
 | lst (ds:List D)
 | yr (Aa:List (Key×D))
abbrev SS:=Addr->Option O
def xr (K:Ad) (H:Hp):List (Key×D)->List (Key×V)->Prop:=Paired λ p q=>p.1=q.1/\zk K H p.2 q.2
noncomputable def pz (K:Ad) (H:Hp) (a:Addr):O->Prop
 | .lst ds=>∃ xs,H a=some (.lst xs)/\zq K H ds xs
 | .yr Aa=>∃ vs,H a=some (.dK vs)/\xr K H Aa vs
def zT (K:Ad) (H:Hp) (S:SS):Prop:=∀ a o,S a=some o->pz K H a o
noncomputable def ups (S:SS) (a:Addr) (o:O):SS:=λ b=>if b=a then some o else S b
def rC {S:SS}{a:Addr}{o:O}:ups S a o a=some o:=by unfold ups;rw[if_pos rfl]
def sd {S:SS}{a b:Addr}{o:O}(h:b≠a):ups S a o b=S b:=by unfold ups;rw[if_neg h]
def Sx (S S':SS):Prop:=∀ b o,S b=some o->S' b=some o
def Sx.refl (S:SS):Sx S S:=λ _ _ h=>h
def Sx.trans {S S1 S2:SS}(a:Sx S S1) (b:Sx S1 S2):Sx S S2:=λ c o h=>b c o (a c o h)
def Sx.new {S:SS}{p:Addr}(h:S p=none) (o:O):Sx S (ups S p o):=λ b u q=>by
 rw[sd (by intro z;subst z;rw[h] at q;cases q)];exact q
theorem Sx.none {S S':SS}(e:Sx S S') {p:Addr}(h:S' p=Option.none):S p=Option.none:=by
 cases q:S p with
 | none=>rfl
 | some o=>rw[e p o q] at h;cases h
section
variable {K:Ad}{H H':Hp}{S:SS}
def pz.has {a:Addr}{o:O}(h:pz K H a o):H a≠none:=by
 cases o with
 | lst ds=>obtain⟨xs,h,_⟩:=h;rw[h];simp
 | yr Aa=>obtain⟨xs,h,_⟩:=h;rw[h];simp
theorem zT.none (r:zT K H S) {p:Addr}(h:H p=Option.none):S p=Option.none:=by
 cases q:S p with
 | none=>rfl
 | some o=>exact absurd h (r p o q).has
theorem xr.ext (e:Ext H H') {Aa:List (Key×D)}{vs:List (Key×V)}(h:xr K H Aa vs):xr K H' Aa vs:=
 Paired.jd h λ p q z=>⟨z.1,zk.ext e p.2 z.2⟩
def pz.keep {a:Addr}{o:O}(e:Ext H H') (k:∀ u,H a=some u->H' a=some u) (h:pz K H a o):pz K H' a o:=by
 cases o with
 | lst ds=>obtain⟨xs,h1,h2⟩:=h;exact⟨xs,k _ h1,zq.ext e ds h2⟩
 | yr Aa=>obtain⟨xs,h1,h2⟩:=h;exact⟨xs,k _ h1,h2.ext e⟩
theorem zT.keep (e:Ext H H') (k:∀ a u o,S a=some o->H a=some u->H' a=some u) (r:zT K H S):zT K H' S:=λ a o h=>(r a o h).keep e λ u q=>k a u o h q
theorem zT.new {p:Addr}{u:HO}(hp:H p=Option.none) (r:zT K H S):zT K (upd H p u) S:=
 r.keep (Ext.new hp u) λ a v o _ q=>by rw[yV (rQ q hp)];exact q
theorem zT.ups {p:Addr}{u:HO}{o:O}(e:Ext H (upd H p u)) (hn:pz K (upd H p u) p o) (r:zT K H S):zT K (upd H p u) (ups S p o):=λ a o' h=>by
 by_cases ha:a=p
 .subst ha;rw[rC] at h;cases h;exact hn
 .rw[sd ha] at h;exact (r a o' h).keep e λ v q=>by rw[yV ha];exact q
end
abbrev yt:=List (Option D)
def xb (K:Ad) (H:Hp) (Y:yt) (B:St):Prop:=Y.length=B.length/\∀ (i:Nat) (d:D),Y[i]?=some (some d)->∃ v,B[i]?=some (some v)/\zk K H d v
theorem xb.ext {K:Ad}{H H':Hp}{Y:yt}{B:St}(e:Ext H H') (r:xb K H Y B):xb K H' Y B:=⟨r.1,λ i d h=>by
 obtain⟨v,h1,h2⟩:=r.2 i d h;exact⟨v,h1,zk.ext e d h2⟩⟩
theorem xb.set {K:Ad}{H:Hp}{Y:yt}{B:St}(i:Nat) {d:D}{v:V}(r:xb K H Y B) (h:zk K H d v):xb K H (Y.set i (some d)) (B.set i (some v)):=by
 refine⟨by rw[DS,DS];exact r.1,λ j c hc=>?_⟩;rw[DQ] at hc ⊢;by_cases hj:i=j
 .subst hj;rw[if_pos rfl] at hc ⊢;by_cases hl:i < Y.length
  .rw[if_pos hl] at hc;rw[if_pos (by rw[<- r.1];exact hl)];cases hc;exact⟨v,rfl,h⟩
  .rw[if_neg hl] at hc;cases hc
 .rw[if_neg hj] at hc ⊢;exact r.2 j c hc
abbrev DK:=D->SS->Prop
abbrev zA:=yt->SS->DK->Prop
abbrev yT:=yt->SS->(Bool->SS->Prop)->Prop
abbrev yD:=yt->SS->(List D->SS->Prop)->Prop
def yv (t:zA):Prop:=∀ Y S (Q Q':DK),(∀ d S',Q d S'->Q' d S')->t Y S Q->t Y S Q'
def vn (t:yT):Prop:=∀ Y S (Q Q':Bool->SS->Prop),(∀ d S',Q d S'->Q' d S')->t Y S Q->t Y S Q'
def rf (t:yD):Prop:=∀ Y S (Q Q':List D->SS->Prop),(∀ d S',Q d S'->Q' d S')->t Y S Q->t Y S Q'
def va (K:Ad) (H:Hp) (Q:VK):DK:=λ d S'=>∀ v H',zk K H' d v->Ext H H'->zT K H' S'->Q v H'
def mS (K:Ad) (H:Hp) (Q:Bool->Hp->Prop):Bool->SS->Prop:=λ b S'=>∀ H',Ext H H'->zT K H' S'->Q b H'
def NR (K:Ad) (H:Hp) (Q:List V->Hp->Prop):List D->SS->Prop:=λ ds S'=>∀ vs H',zq K H' ds vs->Ext H H'->zT K H' S'->Q vs H'
def v5 (K:Ad) (H:Hp) (Q:St->Hp->Prop):yt->SS->Prop:=fun Y S'=>∀ B H',xb K H' Y B->Ext H H'->zT K H' S'->Q B H'
def va.ext {K:Ad}{H H':Hp}{Q:VK}(e:Ext H H') {d:D}{S:SS}(h:va K H Q d S):va K H' Q d S:=λ v H2 r x q=>h v H2 r (e.trans x) q
def mS.ext {K:Ad}{H H':Hp}{Q:Bool->Hp->Prop}(e:Ext H H') {d:Bool}{S:SS}(h:mS K H Q d S):mS K H' Q d S:=λ H2 x q=>h H2 (e.trans x) q
def v5.ext {K:Ad}{H H':Hp}{Q:St->Hp->Prop}(e:Ext H H') {d:yt}{S:SS}(h:v5 K H Q d S):v5 K H' Q d S:=λ v H2 r x q=>h v H2 r (e.trans x) q
def zV (K:Ad) (t:zA):TE:=fun B H Q=>∃ Y S,xb K H Y B/\zT K H S/\t Y S (va K H Q)
def wQ (K:Ad) (t:yT):TT:=fun B H Q=>∃ Y S,xb K H Y B/\zT K H S/\t Y S (mS K H Q)
def vc (K:Ad) (t:yD):TA:=fun B H Q=>∃ Y S,xb K H Y B/\zT K H S/\t Y S (NR K H Q)
structure PD (X:Cx) (e:Expr) (t:zA):Prop where
 mo:yv t
 pe:PE X e (zV X.K t)
structure xT (X:Cx) (e:Expr) (t:yT):Prop where
 mo:vn t
 pt:PT X e (wQ X.K t)
structure wb (X:Cx) (es:List Expr) (t:yD):Prop where
 mo:rf t
 pa:PA X es (vc X.K t)
def PE.imp {X:Cx}{e:Expr}{t t':TE}(h:PE X e t) (hi:∀ B H Q,t' B H Q->t B H Q):PE X e t':=λ pins s B H Q I q=>h pins s B H Q I (hi B H Q q)
def PT.imp {X:Cx}{e:Expr}{t t':TT}(h:PT X e t) (hi:∀ B H Q,t' B H Q->t B H Q):PT X e t':=λ pins s B H Q I q=>h pins s B H Q I (hi B H Q q)
def PA.imp {X:Cx}{e:List Expr}{t t':TA}(h:PA X e t) (hi:∀ B H Q,t' B H Q->t B H Q):PA X e t':=λ pos pins s B H Q I q=>h pos pins s B H Q I (hi B H Q q)
def PS.imp {X:Cx}{e:Stmt}{t t':TS}(h:PS X e t) (hi:∀ D B H,t' D B H->t D B H):PS X e t':=λ pins s B H Q I q=>h pins s B H Q I (hi Q B H q)
def wF.imp {X:Cx}{e:List Stmt}{t t':TS}(h:wF X e t) (hi:∀ D B H,t' D B H->t D B H):wF X e t':=λ pins s B H Q I q=>h pins s B H Q I (hi Q B H q)
section
variable {X:Cx}{K:Ad}
def zV.go {t:zA}{B:St}{H:Hp}{Q:VK}{Y:yt}{S:SS}{R:DK}(mo:yv t) (r1:xb K H Y B) (r2:zT K H S) (h:t Y S R) (k:∀ d S' v H',R d S'->zk K H' d v->Ext H H'->zT K H' S'->Q v H'):zV K t B H Q:=
 ⟨Y,S,r1,r2,mo Y S _ _ (λ d S' q v H' a b c=>k d S' v H' q a b c) h⟩
def wQ.go {t:yT}{B:St}{H:Hp}{Q:Bool->Hp->Prop}{Y:yt}{S:SS}{R:Bool->SS->Prop}(mo:vn t) (r1:xb K H Y B) (r2:zT K H S) (h:t Y S R) (k:∀ d S' H',R d S'->Ext H H'->zT K H' S'->Q d H'):wQ K t B H Q:=
 ⟨Y,S,r1,r2,mo Y S _ _ (λ d S' q H' b c=>k d S' H' q b c) h⟩
def vc.go {t:yD}{B:St}{H:Hp}{Q:List V->Hp->Prop}{Y:yt}{S:SS}{R:List D->SS->Prop}(mo:rf t) (r1:xb K H Y B) (r2:zT K H S) (h:t Y S R) (k:∀ d S' v H',R d S'->zq K H' d v->Ext H H'->zT K H' S'->Q v H'):vc K t B H Q:=
 ⟨Y,S,r1,r2,mo Y S _ _ (λ d S' q v H' a b c=>k d S' v H' q a b c) h⟩
def yS (i:Nat):zA:=fun Y S Q=>match Y[i]? with
 | some (some d)=>Q d S
 | _=>False
def dC (d:D):zA:=λ _ S Q=>Q d S
def za (i:Nat) {x:Str}{pos:Pos}(h:PE X (.Name x pos) (iy i)):PD X (.Name x pos) (yS i):=by
 refine⟨fun Y S Q Q' hq h=>?_,PE.imp h fun B H Q hu=>?_⟩
 .unfold yS at h ⊢;split at h
  .exact hq _ _ h
  .exact h
 .obtain⟨Y,S,r1,r2,h⟩:=hu;unfold yS at h;split at h
  .rename_i d e;obtain⟨v,h1,h2⟩:=r1.2 i d e;exact⟨v,h1,h v H h2 (Ext.refl H) r2⟩
  .exact h.elim
def dC.mo (d:D):yv (dC d):=λ _ _ _ _ hq h=>hq _ _ h
def ml {e:Expr}{d:D}{v:V}(h:PE X e (tC v)) (r:∀ H,zk X.K H d v):PD X e (dC d):=
 ⟨dC.mo d,PE.imp h λ _ H _ ⟨_,_,_,r2,h⟩=>h v H (r H) (Ext.refl H) r2⟩
def zg {i j pos}:PD X (.Constant (.int i) j pos) (dC (.int i)):=ml TV λ _=>by simp only[zk]
def t9 {i j pos}:PD X (.Constant (.bool i) j pos) (dC (.bl i)):=ml Sh λ _=>by simp only[zk]
def xR {j pos}:PD X (.Constant .none j pos) (dC .zh):=ml TN λ _=>by simp only[zk]
def mj {x j pos}:PD X (.Constant (.str x) j pos) (dC (.str x)):=ml TC λ _=>by simp only[zk]
abbrev xc:=D->D->SS->DK->Prop
def we (f:xc):Prop:=∀ x y S (Q Q':DK),(∀ d S',Q d S'->Q' d S')->f x y S Q->f x y S Q'
def xO (K:Ad) (f:xc) (r:R2):Prop:=∀ x y d e H S Q,zk K H d x->zk K H e y->zT K H S->f d e S (va K H Q)->r x y H Q
def yA (f:xc) (ta tb:zA):zA:=fun Y S Q=>ta Y S λ x S1=>tb Y S1 λ y S2=>f x y S2 Q
def yA.mo {f:xc}{ta tb:zA}(hf:we f) (ha:yv ta) (hb:yv tb):yv (yA f ta tb):=fun Y S Q Q' hq h=>
 ha Y S _ _ (λ x S1 h=>hb Y S1 _ _ (λ y S2 h=>hf x y S2 _ _ hq h) h) h
def kf {f:xc}{r:R2}{ta tb:zA}(hr:xO K f r) (hf:we f) (ha:yv ta) (hb:yv tb) {B:St}{H:Hp}{Q:VK}(h:zV K (yA f ta tb) B H Q):nL r (zV K ta) (zV K tb) B H Q:=by
 obtain⟨Y,S,r1,r2,h⟩:=h;refine zV.go ha r1 r2 h λ x S1 v H1 h1 q1 e1 p1=>?_;refine zV.go hb (r1.ext e1) p1 h1 λ y S2 w H2 h2 q2 e2 p2=>?_;exact hr v w x y H2 S2 Q (zk.ext e2 x q1) q2 p2 (hf x y S2 _ _ (λ d S' z=>z.ext (e1.trans e2)) h2)
def og {a b:Expr}{op:Operator}{pos:Pos}{f:xc}{r:R2}{ta tb:zA}(ho:yu X (binaryOp op) r) (hr:xO X.K f r) (hf:we f) (ha:PD X a ta) (hb:PD X b tb):PD X (.BinOp a op b pos) (yA f ta tb):=
 ⟨yA.mo hf ha.mo hb.mo,PE.imp (TJ ho ha.pe hb.pe) λ _ _ _ h=>kf hr hf ha.mo hb.mo h⟩
def oj {a b:Expr}{op:CmpOp}{pos:Pos}{f:xc}{r:R2}{ta tb:zA}(ho:yu X (compareOp op) r) (hr:xO X.K f r) (hf:we f) (ha:PD X a ta) (hb:PD X b tb) (hm:behindInMarks op b=false):PD X (.Compare a [op] [b] pos) (yA f ta tb):=
 ⟨yA.mo hf ha.mo hb.mo,PE.imp (Sd ho ha.pe hb.pe hm) λ _ _ _ h=>kf hr hf ha.mo hb.mo h⟩
def vF (t:zA):yT:=fun Y S Q=>t Y S λ x S1=>match x with
 | .bl b=>Q b S1
 | _=>False
def vF.mo {t:zA}(h:yv t):vn (vF t):=fun Y S Q Q' hq q=>h Y S _ _ (λ d S' z=>by
 cases d <;> first
  | exact hq _ _ z
  | exact z) q
def sG {a b:Expr}{op:CmpOp}{pos:Pos}{f:xc}{r:R2}{ta tb:zA}(ho:yu X (compareOp op) r) (hr:xO X.K f r) (hf:we f) (ha:PD X a ta) (hb:PD X b tb) (hm:behindInMarks op b=false):xT X (.Compare a [op] [b] pos) (vF (yA f ta tb)):=by
 refine⟨vF.mo (yA.mo hf ha.mo hb.mo),PT.imp (UU ho ha.pe hb.pe hm) fun B H Q h=>?_⟩;obtain⟨Y,S,r1,r2,h⟩:=h;refine kf hr hf ha.mo hb.mo ⟨Y,S,r1,r2,yA.mo hf ha.mo hb.mo Y S _ _ (λ d S' z v H' a b c=>?_) h⟩;cases d with
 | bl k=>simp only[zk] at a;exact⟨k,a,z H' b c⟩
 | zh=>exact z.elim
 | int _=>exact z.elim
 | str _=>exact z.elim
 | tup _=>exact z.elim
 | yW _=>exact z.elim
 | ref _=>exact z.elim
def fI (C:Int->Int->Prop) (g:Int->Int->D):xc:=λ x y S Q=>match x,y with
 | .int i,.int j=>C i j/\Q (g i j) S
 | _,_=>False
def fI.mo {C:Int->Int->Prop}{g:Int->Int->D}:we (fI C g):=λ x y S Q Q' hq h=>by
 unfold fI at h ⊢;split at h
 .exact⟨h.1,hq _ _ h.2⟩
 .exact h.elim
def xA (g:Int->Int->D):xc:=λ x y S Q=>match x,y with
 | .int i,.int j=>Q (g i j) S
 | _,_=>False
def xA.mo {g:Int->Int->D}:we (xA g):=λ x y S Q Q' hq h=>by
 unfold xA at h ⊢;split at h
 .exact hq _ _ h
 .exact h.elim
def fI.fits {C:Int->Int->Prop}{g:Int->Int->D}{g':Int->Int->V}(hg:∀ i j H,zk K H (g i j) (g' i j)):xO K (fI C g) (rI C g'):=λ x y d e H S Q h1 h2 h3 h=>by
 unfold fI at h;split at h
 .simp only[zk] at h1 h2;exact⟨_,_,h1,h2,h.1,h.2 _ H (hg _ _ H) (Ext.refl H) h3⟩
 .exact h.elim
def xA.fits {g:Int->Int->D}{g':Int->Int->V}(hg:∀ i j H,zk K H (g i j) (g' i j)):xO K (xA g) (vq g'):=λ x y d e H S Q h1 h2 h3 h=>by
 unfold xA at h;split at h
 .simp only[zk] at h1 h2;exact⟨_,_,h1,h2,h _ H (hg _ _ H) (Ext.refl H) h3⟩
 .exact h.elim
variable {a b c:Expr}{ta tb tc:zA}{pos:Pos}
def wR (ha:PD X a ta) (hb:PD X b tb):PD X (.BinOp a .Sub b pos) (yA (xA λ i j=>.int (i-j)) ta tb):=og Rb (xA.fits λ _ _ _=>by simp only[zk]) xA.mo ha hb
def yC (ha:PD X a ta) (hb:PD X b tb):PD X (.BinOp a .Mod b pos) (yA (fI (λ _ j=>0<j) λ i j=>.int (i%j)) ta tb):=og Rj (fI.fits λ _ _ _=>by simp only[zk]) fI.mo ha hb
def xH (ha:PD X a ta) (hb:PD X b tb):PD X (.BinOp a .FloorDiv b pos) (yA (fI xF λ i j=>.int (i/j)) ta tb):=og Ro (fI.fits λ _ _ _=>by simp only[zk]) fI.mo ha hb
def SE (ha:PD X a ta) (hb:PD X b tb):PD X (.BinOp a .Pow b pos) (yA (fI pL λ i j=>.int (i ^ j.toNat)) ta tb):=og Rc (fI.fits λ _ _ _=>by simp only[zk]) fI.mo ha hb
abbrev eE:xc:=xA λ i j=>.bl (decide (i<=j))
abbrev jz:xc:=xA λ i j=>.bl (decide (j<i))
abbrev j0:xc:=xA λ i j=>.bl (decide (j<=i))
def fit_le:xO K eE (vq λ i j=>.bl (decide (i<=j))):=xA.fits λ _ _ _=>by simp only[zk]
def YD:xO K jz (vq λ i j=>.bl (decide (j<i))):=xA.fits λ _ _ _=>by simp only[zk]
def YE:xO K j0 (vq λ i j=>.bl (decide (j<=i))):=xA.fits λ _ _ _=>by simp only[zk]
def SJ (ha:PD X a ta) (hb:PD X b tb):PD X (.Compare a [.Gt] [b] pos) (yA jz ta tb):=oj Z6 YD xA.mo ha hb (vB _)
def Zu (ha:PD X a ta) (hb:PD X b tb):PD X (.Compare a [.GtE] [b] pos) (yA j0 ta tb):=oj Z7 YE xA.mo ha hb (vB _)
def Sj (ha:PD X a ta) (hb:PD X b tb):xT X (.Compare a [.LtE] [b] pos) (vF (yA eE ta tb)):=sG kX fit_le xA.mo ha hb (vB _)
def kP (ha:PD X a ta) (hb:PD X b tb):xT X (.Compare a [.Gt] [b] pos) (vF (yA jz ta tb)):=sG Z6 YD xA.mo ha hb (vB _)
def kQ (ha:PD X a ta) (hb:PD X b tb):xT X (.Compare a [.GtE] [b] pos) (vF (yA j0 ta tb)):=sG Z7 YE xA.mo ha hb (vB _)
end
section
variable {X:Cx}{K:Ad}{a b c:Expr}{ta tb tc:zA}{pos:Pos}
def mZ (ta tb:zA):zA:=fun Y S Q=>ta Y S λ x S1=>match x with
 | .bl k=>if k=true then tb Y S1 Q else Q (.bl false) S1
 | _=>False
def mV (ta:zA):zA:=fun Y S Q=>ta Y S λ x S1=>match x with
 | .bl k=>Q (.bl (!k)) S1
 | _=>False
def vw {c:Prop} [Decidable c] {A B A' B':Prop}(h1:A->A') (h2:B->B') (h:if c then A else B):if c then A' else B':=by
 by_cases q:c
 .rw[if_pos q] at h ⊢;exact h1 h
 .rw[if_neg q] at h ⊢;exact h2 h
def mZ.mo (ha:yv ta) (hb:yv tb):yv (mZ ta tb):=fun Y S Q Q' hq h=>ha Y S _ _ (λ x S1 z=>by
 cases x <;> first
  | exact vw (hb Y S1 _ _ hq) (hq _ _) z
  | exact z) h
def mV.mo (ha:yv ta):yv (mV ta):=fun Y S Q Q' hq h=>ha Y S _ _ (λ x S1 z=>by
 cases x <;> first
  | exact hq _ _ z
  | exact z) h
def rL {op} {t:zA}(h:PD X a t):PD X (.BoolOp op [a] pos) t:=⟨h.mo,TK h.pe⟩
variable {rest:List Expr}
def sN (ha:PD X a ta) (hb:PD X (.BoolOp .And (b::rest) pos) tb):PD X (.BoolOp .And (a::b::rest) pos) (mZ ta tb):=by
 refine⟨mZ.mo ha.mo hb.mo,PE.imp (Si ha.pe hb.pe) fun B H Q hu=>?_⟩;obtain⟨Y,S,r1,r2,h⟩:=hu;refine zV.go ha.mo r1 r2 h λ x S1 v H1 h1 q1 e1 p1=>?_;cases x with
 | bl k=>
  simp only[zk] at q1;refine⟨k,q1,vw (λ z=>?_) (λ z=>?_) h1⟩
  .exact zV.go hb.mo (r1.ext e1) p1 z λ y S2 w H2 h2 q2 e2 p2=>h2 w H2 q2 (e1.trans e2) p2
  .exact z _ H1 (by simp only[zk]) e1 p1
 | zh=>exact h1.elim
 | int _=>exact h1.elim
 | str _=>exact h1.elim
 | tup _=>exact h1.elim
 | yW _=>exact h1.elim
 | ref _=>exact h1.elim
def Zn (ha:PD X a ta):PD X (.UnaryOp .Not a pos) (mV ta):=by
 refine⟨mV.mo ha.mo,PE.imp (TL ha.pe) fun B H Q hu=>?_⟩;obtain⟨Y,S,r1,r2,h⟩:=hu;refine zV.go ha.mo r1 r2 h λ x S1 v H1 h1 q1 e1 p1=>?_;cases x with
 | bl k=>
  simp only[zk] at q1;exact⟨k,q1,h1 _ H1 (by simp only[zk]) e1 p1⟩
 | zh=>exact h1.elim
 | int _=>exact h1.elim
 | str _=>exact h1.elim
 | tup _=>exact h1.elim
 | yW _=>exact h1.elim
 | ref _=>exact h1.elim
def mQ (t u:yT):yT:=fun Y S Q=>t Y S λ k S1=>if k=true then u Y S1 Q else Q false S1
def mO (t u:yT):yT:=fun Y S Q=>t Y S λ k S1=>if k=true then Q true S1 else u Y S1 Q
def mP (t:yT):yT:=fun Y S Q=>t Y S λ k S1=>Q (!k) S1
variable {t u:yT}
def mQ.mo (h:vn t) (h':vn u):vn (mQ t u):=fun Y S _ _ hq z=>h Y S _ _ (λ k S1 z=>vw (h' Y S1 _ _ hq) (hq _ _) z) z
def mO.mo (h:vn t) (h':vn u):vn (mO t u):=fun Y S _ _ hq z=>h Y S _ _ (λ k S1 z=>vw (hq _ _) (h' Y S1 _ _ hq) z) z
def mP.mo (h:vn t):vn (mP t):=fun Y S _ _ hq z=>h Y S _ _ (λ k S1 z=>hq _ _ z) z
structure xM (X:Cx) (e:Expr) (t:yT):Prop where
 mo:vn t
 pw:PW X e (wQ X.K t)
def PW.imp {e:Expr}{t t':TT}(h:PW X e t) (hi:∀ B H Q,t' B H Q->t B H Q):PW X e t':=λ whole pins s B H Q I q=>h whole pins s B H Q I (hi B H Q q)
theorem xM.pt {e:Expr}{t:yT}(h:xM X e t):xT X e t:=⟨h.mo,PW.pt h.pw⟩
def pY (h:xT X a t):xM X (.BoolOp .And [a] pos) t:=⟨h.mo,UO h.pt⟩
def sF (h:xT X a t):xM X (.BoolOp .Or [a] pos) t:=⟨h.mo,UM h.pt⟩
def pZ (ha:xT X a t) (hb:xM X (.BoolOp .And (b::rest) pos) u):xM X (.BoolOp .And (a::b::rest) pos) (mQ t u):=by
 refine⟨mQ.mo ha.mo hb.mo,PW.imp (UP ha.pt hb.pw) fun B H Q hu=>?_⟩;obtain⟨Y,S,r1,r2,h⟩:=hu;refine wQ.go ha.mo r1 r2 h λ k S1 H1 h1 e1 p1=>vw (λ z=>?_) (λ z=>z H1 e1 p1) h1;exact wQ.go hb.mo (r1.ext e1) p1 z λ y S2 H2 h2 e2 p2=>h2 H2 (e1.trans e2) p2
def uP (ha:xT X a t) (hb:xM X (.BoolOp .Or (b::rest) pos) u):xM X (.BoolOp .Or (a::b::rest) pos) (mO t u):=by
 refine⟨mO.mo ha.mo hb.mo,PW.imp (UN ha.pt hb.pw) fun B H Q hu=>?_⟩;obtain⟨Y,S,r1,r2,h⟩:=hu;refine wQ.go ha.mo r1 r2 h λ k S1 H1 h1 e1 p1=>vw (λ z=>z H1 e1 p1) (λ z=>?_) h1;exact wQ.go hb.mo (r1.ext e1) p1 z λ y S2 H2 h2 e2 p2=>h2 H2 (e1.trans e2) p2
def vA (ha:xT X a t):xT X (.UnaryOp .Not a pos) (mP t):=by
 refine⟨mP.mo ha.mo,PT.imp (UT ha.pt) fun B H Q hu=>?_⟩;obtain⟨Y,S,r1,r2,h⟩:=hu;exact wQ.go ha.mo r1 r2 h λ k S1 H1 h1 e1 p1=>h1 H1 e1 p1
def mX (t:yT) (ta tb:zA):zA:=fun Y S Q=>t Y S λ k S1=>if k=true then ta Y S1 Q else tb Y S1 Q
def mX.mo (h:vn t) (ha:yv ta) (hb:yv tb):yv (mX t ta tb):=fun Y S _ _ hq z=>h Y S _ _ (λ k S1 z=>vw (ha Y S1 _ _ hq) (hb Y S1 _ _ hq) z) z
def SH (hc:xT X c t) (ha:PD X a ta) (hb:PD X b tb):PD X (.IfExp c a b pos) (mX t ta tb):=by
 refine⟨mX.mo hc.mo ha.mo hb.mo,PE.imp (TX hc.pt ha.pe hb.pe) fun B H Q hu=>?_⟩;obtain⟨Y,S,r1,r2,h⟩:=hu;refine wQ.go hc.mo r1 r2 h λ k S1 H1 h1 e1 p1=>vw (λ z=>?_) (λ z=>?_) h1
 .exact zV.go ha.mo (r1.ext e1) p1 z λ y S2 w H2 h2 q2 e2 p2=>h2 w H2 q2 (e1.trans e2) p2
 .exact zV.go hb.mo (r1.ext e1) p1 z λ y S2 w H2 h2 q2 e2 p2=>h2 w H2 q2 (e1.trans e2) p2
def vR (d:D) (S:SS) (Q:Bool->SS->Prop):Prop:=match d with
 | .zh=>Q false S
 | .bl k=>Q k S
 | .int i=>Q (i != 0) S
 | .str x=>x.length<=sizeLine/\Q ((x.length:Int) != 0) S
 | .tup ds=>Q (!ds.isEmpty) S
 | .yW ds=>Q (!ds.isEmpty) S
 | .ref p=>match S p with
  | some (.lst ds)=>Q (!ds.isEmpty) S
  | some (.yr Aa)=>Q (!Aa.isEmpty) S
  | none=>False
def YT (ta:zA):yT:=fun Y S Q=>ta Y S λ x S1=>vR x S1 Q
def vR.mo {d:D}{S:SS}{Q Q':Bool->SS->Prop}(hq:∀ k S',Q k S'->Q' k S') (h:vR d S Q):vR d S Q':=by
 cases d with
 | str x=>exact⟨h.1,hq _ _ h.2⟩
 | ref p=>
  unfold vR at h ⊢;dsimp only at h ⊢;split at h
  .exact hq _ _ h
  .exact hq _ _ h
  .exact h
 | _=>exact hq _ _ h
theorem zq.isEmpty {H:Hp}{ds:List D}{xs:List V}(h:zq K H ds xs):ds.isEmpty=xs.isEmpty:=by
 have:=h.length;cases ds <;> cases xs <;> simp_all
def Lg {α β:Type}{F:α->β->Prop}{xs:List α}{ys:List β}(h:Paired F xs ys):xs.isEmpty=ys.isEmpty:=by cases h <;> rfl
def vR.fits {H:Hp}{d:D}{v:V}{S:SS}{Q:Bool->Hp->Prop}(r:zk K H d v) (p:zT K H S) (h:vR d S (mS K H Q)):∃ k,dB K v H k/\Q k H:=by
 cases d with
 | zh=>simp only[zk] at r;subst r;exact⟨false,rfl,h H (.refl H) p⟩
 | bl k=>simp only[zk] at r;subst r;exact⟨k,rfl,h H (.refl H) p⟩
 | int i=>simp only[zk] at r;subst r;exact⟨_,rfl,h H (.refl H) p⟩
 | str x=>simp only[zk] at r;subst r;exact⟨_,⟨h.1,rfl⟩,h.2 H (.refl H) p⟩
 | tup ds=>
  simp only[zk] at r;obtain⟨a,xs,rfl,r1,r2⟩:=r;exact⟨_,.inr (.inl ⟨xs,r1,by rw[r2.isEmpty]⟩),h H (.refl H) p⟩
 | yW ds=>
  simp only[zk] at r;obtain⟨a,xs,rfl,r1,r2⟩:=r;exact⟨_,.inl ⟨xs,r1.sq,by rw[r2.isEmpty]⟩,h H (.refl H) p⟩
 | ref a=>
  simp only[zk] at r;subst r;unfold vR at h;dsimp only at h;split at h
  .rename_i ds e;obtain⟨xs,e1,r2⟩:=p a _ e;exact⟨_,.inl ⟨xs,zZ.of e1,by rw[r2.isEmpty]⟩,h H (.refl H) p⟩
  .rename_i Aa e;obtain⟨xs,e1,r2⟩:=p a _ e;exact⟨_,.inr (.inr ⟨xs,e1,by rw[Lg r2]⟩),h H (.refl H) p⟩
  .exact h.elim
def wH (ha:PD X a ta) (he:∀ whole,isTrue a X.env whole=(do let v <- whole;standAt a.pos;holding [v] (truthy v)):=by intro _;rfl):xT X a (YT ta):=by
 refine⟨fun Y S Q Q' hq h=>ha.mo Y S _ _ (λ x S1 z=>vR.mo hq z) h,PT.imp (US ha.pe he) fun B H Q hu=>?_⟩;obtain⟨Y,S,r1,r2,h⟩:=hu;refine zV.go ha.mo r1 r2 h λ x S1 v H1 h1 q1 e1 p1=>?_;exact vR.fits q1 p1 (vR.mo (λ k S' z=>z.ext e1) h1)
def j6:yD:=λ _ S Q=>Q [] S
def qV (te:zA) (tr:yD):yD:=fun Y S Q=>te Y S λ x S1=>tr Y S1 λ xs S2=>Q (x::xs) S2
variable {e:Expr}{es:List Expr}{te:zA}{tA:yD}
def qV.mo (h:yv te) (h':rf tA):rf (qV te tA):=fun Y S _ _ hq z=>h Y S _ _ (λ x S1 z=>h' Y S1 _ _ (λ xs S2 z=>hq _ _ z) z) z
def zo:wb X [] j6:=⟨λ _ _ _ _ hq h=>hq _ _ h,PA.imp om fun B H Q ⟨_,_,_,r2,h⟩=>h [] H .nil (.refl H) r2⟩
def ze (ha:PD X e te) (hr:wb X es tA) (hs:starEach (e::es) X.env=(false,eval e X.env)::starEach es X.env:=by rfl):wb X (e::es) (qV te tA):=by
 refine⟨qV.mo ha.mo hr.mo,PA.imp (qJ ha.pe hr.pa hs) fun B H Q hu=>?_⟩;obtain⟨Y,S,r1,r2,h⟩:=hu;refine zV.go ha.mo r1 r2 h λ x S1 v H1 h1 q1 e1 p1=>?_;refine vc.go hr.mo (r1.ext e1) p1 h1 λ xs S2 w H2 h2 q2 e2 p2=>?_;exact h2 (v::w) H2 (.cons (zk.ext e2 x q1) q2) (e1.trans e2) p2
def Xd (t:yD):zA:=fun Y S Q=>t Y S λ ds S1=>ds.length<=sizeLine/\Q (.tup ds) S1
def Xj (t:yD):zA:=fun Y S Q=>t Y S λ ds S1=>ds.length<=sizeLine/\∀ p,S1 p=none->Q (.ref p) (ups S1 p (.lst ds))
def y9 {k} (h:wb X es tA):PD X (.Tuple es k pos) (Xd tA):=by
 refine⟨fun Y S _ _ hq z=>h.mo Y S _ _ (λ ds S1 z=>⟨z.1,hq _ _ z.2⟩) z,PE.imp (TB h.pa) fun B H Q hu=>?_⟩;obtain⟨Y,S,r1,r2,h'⟩:=hu;refine vc.go h.mo r1 r2 h' λ ds S1 xs H1 h1 q1 e1 p1=>⟨by rw[<- q1.length];exact h1.1,λ p hp=>?_⟩;refine h1.2 _ _ ?_ (e1.trans (.new hp _)) (p1.new hp);simp only[zk];exact⟨p,xs,rfl,ye.of yK,zq.ext (.new hp _) ds q1⟩
def xX (h:wb X es tA):PD X (.List es pos) (Xj tA):=by
 refine⟨fun Y S _ _ hq z=>h.mo Y S _ _ (λ ds S1 z=>⟨z.1,λ p hp=>hq _ _ (z.2 p hp)⟩) z,PE.imp (TQ h.pa) fun B H Q hu=>?_⟩;obtain⟨Y,S,r1,r2,h'⟩:=hu;refine vc.go h.mo r1 r2 h' λ ds S1 xs H1 h1 q1 e1 p1=>⟨by rw[<- q1.length];exact h1.1,λ p hp=>?_⟩;refine h1.2 p (p1.none hp) _ _ (by simp only[zk]) (e1.trans (.new hp _)) ?_;exact p1.ups (.new hp _) ⟨xs,yK,zq.ext (.new hp _) ds q1⟩
def wY:xc:=λ x y S Q=>match x,y with
 | .tup ds,.int i=>match zY ds i with
  | some d=>Q d S
  | none=>False
 | .yW ds,.int i=>match zY ds i with
  | some d=>Q d S
  | none=>False
 | .ref p,.int i=>match S p with
  | some (.lst ds)=>match zY ds i with
   | some d=>Q d S
   | none=>False
  | _=>False
 | _,_=>False
def wY.mo:we wY:=λ x y S Q Q' hq h=>by
 unfold wY at h ⊢;split at h
 .skip
  split at h
  .exact hq _ _ h
  .exact h
 .skip
  split at h
  .exact hq _ _ h
  .exact h
 .skip
  split at h
  .skip
   split at h
   .exact hq _ _ h
   .exact h
  .exact h.elim
 .exact h.elim
theorem zq.zY {H:Hp}{ds:List D}{xs:List V}{i:Int}{d:D}(h:zq K H ds xs) (e:L2.zY ds i=some d):∃ x,L2.zY xs i=some x/\zk K H d x:=by
 unfold L2.zY at e ⊢;rw[h.length] at e;cases q:wW xs.length i with
 | none=>rw[q] at e;cases e
 | some j=>
  rw[q] at e;exact h.get e
def wY.fits:xO K wY (aW K):=λ x y d e H S Q h1 h2 h3 h=>by
 unfold wY at h;split at h
 .split at h
  .rename_i q;simp only[zk] at h1 h2;obtain⟨a,xs,rfl,r1,r2⟩:=h1;obtain⟨x',e1,e2⟩:=r2.zY q;exact .inr (.inl ⟨a,xs,_,x',rfl,h2,r1,e1,h x' H e2 (.refl H) h3⟩)
  .exact h.elim
 .split at h
  .rename_i q;simp only[zk] at h1 h2;obtain⟨a,xs,rfl,r1,r2⟩:=h1;obtain⟨x',e1,e2⟩:=r2.zY q;exact .inl ⟨a,xs,_,x',rfl,h2,r1.sq,e1,h x' H e2 (.refl H) h3⟩
  .exact h.elim
 .split at h
  .rename_i q0;split at h
   .rename_i q;simp only[zk] at h1 h2;subst h1;obtain⟨xs,r1,r2⟩:=h3 _ _ q0;obtain⟨x',e1,e2⟩:=r2.zY q;exact .inl ⟨_,xs,_,x',rfl,h2,zZ.of r1,e1,h x' H e2 (.refl H) h3⟩
   .exact h.elim
  .exact h.elim
 .exact h.elim
def zu (ha:PD X a ta) (hb:PD X b tb) (hs:XU b:=by exact λ _ _=>rfl):PD X (.Subscript a b pos) (yA wY ta tb):=
 ⟨yA.mo wY.mo ha.mo hb.mo,PE.imp (TU O9 ha.pe hb.pe hs) λ _ _ _ h=>kf wY.fits wY.mo ha.mo hb.mo h⟩
abbrev wa:=List D->SS->DK->Prop
def uh (f:wa):Prop:=∀ ds S (Q Q':DK),(∀ d S',Q d S'->Q' d S')->f ds S Q->f ds S Q'
def tm (K:Ad) (f:wa) (r:List V->Hp->VK->Prop):Prop:=∀ xs ds H S Q,zq K H ds xs->zT K H S->f ds S (va K H Q)->r xs H Q
def xZ (f:wa) (t:yD):zA:=fun Y S Q=>t Y S λ ds S1=>f ds S1 Q
def xZ.mo {f:wa}(hf:uh f) (h:rf tA):yv (xZ f tA):=fun Y S _ _ hq z=>h Y S _ _ (λ ds S1 z=>hf ds S1 _ _ hq z) z
def bR {f:wa}{r:List V->Hp->VK->Prop}(hf:uh f) (hr:tm K f r) (h:rf tA) {B:St}{H:Hp}{Q:VK}(hu:zV K (xZ f tA) B H Q):ku r (vc K tA) B H Q:=by
 obtain⟨Y,S,r1,r2,h'⟩:=hu;refine vc.go h r1 r2 h' λ ds S1 xs H1 h1 q1 e1 p1=>?_;exact hr xs ds H1 S1 Q q1 p1 (hf ds S1 _ _ (λ d S' z=>z.ext e1) h1)
def t8 {f:wa}{r:List V->Hp->VK->Prop}{e:Expr}(h:PE X e (ku r (vc X.K tA))) (hf:uh f) (hr:tm X.K f r) (ha:rf tA):PD X e (xZ f tA):=
 ⟨xZ.mo hf ha,PE.imp h λ _ _ _ hu=>bR hf hr ha hu⟩
noncomputable def zU (d:D) (S:SS):Option (List D):=match d with
 | .tup ds=>some ds
 | .yW ds=>some ds
 | .ref p=>match S p with
  | some (.lst ds)=>some ds
  | _=>none
 | _=>none
theorem zU.sq {H:Hp}{S:SS}{d:D}{v:V}{ds:List D}(r:zk K H d v) (p:zT K H S) (e:zU d S=some ds):∃ a xs,v=.ref a/\(zZ K H a xs\/ye K H a xs)/\zq K H ds xs:=by
 unfold zU at e;split at e
 .cases e;simp only[zk] at r;obtain⟨a,xs,h1,h2,h3⟩:=r;exact⟨a,xs,h1,.inr h2,h3⟩
 .cases e;simp only[zk] at r;obtain⟨a,xs,h1,h2,h3⟩:=r;exact⟨a,xs,h1,.inl h2.sq,h3⟩
 .split at e
  .rename_i q;cases e;simp only[zk] at r;subst r;obtain⟨xs,h1,h2⟩:=p _ _ q;exact⟨_,xs,rfl,.inl (zZ.of h1),h2⟩
  .cases e
 .cases e
def zq.one {H:Hp}{d:D}{xs:List V}(h:zq K H [d] xs):∃ x,xs=[x]/\zk K H d x:=by
 simp only[zq] at h;obtain⟨x,r,rfl,h2,rfl⟩:=h;exact⟨x,rfl,h2⟩
def zq.two {H:Hp}{d d':D}{xs:List V}(h:zq K H [d,d'] xs):∃ x y,xs=[x,y]/\zk K H d x/\zk K H d' y:=by
 simp only[zq] at h;obtain⟨x,r,rfl,h2,y,r',rfl,h3,rfl⟩:=h;exact⟨x,y,rfl,h2,h3⟩
def uA:wa:=λ ds S Q=>match ds with
 | [d]=>match zU d S with
  | some ds=>Q (.int ds.length) S
  | none=>match d with
   | .str z=>z.length<=sizeLine/\Q (.int z.length) S
   | _=>False
 | _=>False
def uA.mo:uh uA:=λ ds S Q Q' hq h=>by
 unfold uA at h ⊢;split at h
 .skip
  split at h
  .exact hq _ _ h
  .split at h
   .exact⟨h.1,hq _ _ h.2⟩
   .exact h.elim
 .exact h.elim
abbrev UL (K:Ad):List V->Hp->VK->Prop:=λ xs H Q=>(∃ p ys,xs=[.ref p]/\(zZ K H p ys\/ye K H p ys)/\Q (.int ys.length) H)\/(∃ z,xs=[.str z]/\z.length<=sizeLine/\Q (.int z.length) H)
def uA.fits:tm K uA (UL K):=λ xs ds H S Q h0 h2 h=>by
 unfold uA at h;split at h
 .obtain⟨x,hx,h1⟩:=h0.one;subst hx;split at h
  .rename_i e;obtain⟨a,ys,rfl,q,r⟩:=zU.sq h1 h2 e;refine .inl ⟨a,ys,rfl,q,?_⟩;rw[<- r.length];exact h _ H (by simp only[zk]) (.refl H) h2
  .split at h
   .simp only[zk] at h1;subst h1;exact .inr ⟨_,rfl,h.1,h.2 _ H (by simp only[zk]) (.refl H) h2⟩
   .exact h.elim
 .exact h.elim
def u9:wa:=λ ds S Q=>match ds with
 | [d]=>match zU d S with
  | some ds=>∀ p,S p=none->Q (.ref p) (ups S p (.lst ds))
  | none=>False
 | _=>False
def u9.mo:uh u9:=λ ds S Q Q' hq h=>by
 unfold u9 at h ⊢;split at h
 .skip
  split at h
  .exact λ p hp=>hq _ _ (h p hp)
  .exact h.elim
 .exact h.elim
def u9.fits:tm K u9 (λ xs H Q=>∃ p ys,xs=[.ref p]/\(zZ K H p ys\/ye K H p ys)/\∀ l,H l=none->Q (.ref l) (upd H l (.lst ys))):=λ xs ds H S Q h0 h2 h=>by
 unfold u9 at h;split at h
 .obtain⟨x,hx,h1⟩:=h0.one;subst hx;split at h
  .rename_i e;obtain⟨a,ys,rfl,q,r⟩:=zU.sq h1 h2 e;refine⟨a,ys,rfl,q,λ l hl=>?_⟩;exact h l (h2.none hl) _ _ (by simp only[zk]) (.new hl _) (h2.ups (.new hl _) ⟨ys,yK,zq.ext (.new hl _) _ r⟩)
  .exact h.elim
 .exact h.elim
def u7:wa:=λ ds S Q=>match ds with
 | [.tup ds]=>Q (.tup ds) S
 | [.yW ds]=>Q (.tup ds) S
 | [.ref p]=>match S p with
  | some (.lst ds)=>Q (.tup ds) S
  | _=>False
 | _=>False
def u7.mo:uh u7:=λ ds S Q Q' hq h=>by
 unfold u7 at h ⊢;split at h
 .exact hq _ _ h
 .exact hq _ _ h
 .skip
  split at h
  .exact hq _ _ h
  .exact h.elim
 .exact h.elim
def u7.fits:tm K u7 (λ xs H Q=>∃ p ys,xs=[.ref p]/\((zZ K H p ys/\∀ l,H l=none->Q (.ref l) (upd H l (.tup ys)))\/(ye K H p ys/\Q (.ref p) H))):=λ xs ds H S Q h0 h2 h=>by
 unfold u7 at h;split at h
 .obtain⟨x,hx,h1⟩:=h0.one;subst hx;have h1':=h1;simp only[zk] at h1;obtain⟨a,xs,rfl,r1,r2⟩:=h1;exact⟨a,xs,rfl,.inr ⟨r1,h _ H h1' (.refl H) h2⟩⟩
 .obtain⟨x,hx,h1⟩:=h0.one;subst hx;simp only[zk] at h1;obtain⟨a,xs,rfl,r1,r2⟩:=h1;refine⟨a,xs,rfl,.inl ⟨r1.sq,λ l hl=>h _ _ ?_ (.new hl _) (h2.new hl)⟩⟩;simp only[zk];exact⟨l,xs,rfl,ye.of yK,zq.ext (.new hl _) _ r2⟩
 .obtain⟨x,hx,h1⟩:=h0.one;subst hx;split at h
  .rename_i e;simp only[zk] at h1;subst h1;obtain⟨xs,r1,r2⟩:=h2 _ _ e;refine⟨_,xs,rfl,.inl ⟨zZ.of r1,λ l hl=>h _ _ ?_ (.new hl _) (h2.new hl)⟩⟩;simp only[zk];exact⟨l,xs,rfl,ye.of yK,zq.ext (.new hl _) _ r2⟩
  .exact h.elim
 .exact h.elim
def v_ (g:Int->Int->D):wa:=λ ds S Q=>match ds with
 | [.int i,.int j]=>Q (g i j) S
 | _=>False
def v_.mo {g:Int->Int->D}:uh (v_ g):=λ ds S Q Q' hq h=>by
 unfold v_ at h ⊢;split at h
 .exact hq _ _ h
 .exact h.elim
def v_.fits {g:Int->Int->D}{g':Int->Int->V}(hg:∀ i j H,zk K H (g i j) (g' i j)):tm K (v_ g) (λ xs H Q=>∃ i j,xs=[.int i,.int j]/\Q (g' i j) H):=λ xs ds H S Q h0 h2 h=>by
 unfold v_ at h;split at h
 .obtain⟨x,y,hx,h1,h3⟩:=h0.two;subst hx;simp only[zk] at h1 h3;subst h1 h3;exact⟨_,_,rfl,h _ H (hg _ _ H) (.refl H) h2⟩
 .exact h.elim
def zad:xc:=λ x y S Q=>match x,y with
 | .ref p,.ref q=>match S p,S q with
  | some (.lst ds),some (.lst es)=>ds.length+es.length<=sizeLine/\∀ r,S r=none->Q (.ref r) (ups S r (.lst (ds++es)))
  | _,_=>False
 | _,_=>False
def qb (to te:zA):zA:=fun Y S Q=>to Y S λ x S1=>match x with
 | .ref p=>(∃ ds,S1 p=some (.lst ds))/\te Y S1 λ y S2=>match S2 p with
  | some (.lst ds)=>ds.length<sizeLine/\Q .zh (ups S2 p (.lst (ds++[y])))
  | _=>False
 | _=>False
def qb.mo {to te:zA}(h:yv to) (h':yv te):yv (qb to te):=fun Y S Q Q' hq z=>h Y S _ _ (λ x S1 z=>by
 cases x with
 | ref p=>
  refine⟨z.1,h' Y S1 _ _ (λ y S2 w=>?_) z.2⟩;split at w
  .exact⟨w.1,hq _ _ w.2⟩
  .exact w.elim
 | _=>exact z) z
def SV {o e:Expr}{to te:zA}{e0:Expr}(Es:PE X e0 (i6 X.K "list" Zb (zV X.K to) (i5 (zV X.K te) iz))) (h:yv to) (h':yv te):PD X e0 (qb to te):=by
 refine⟨qb.mo h h',PE.imp Es fun B H Q hu=>?_⟩;obtain⟨Y,S,r1,r2,z⟩:=hu;refine zV.go h r1 r2 z λ x S1 v H1 h1 q1 e1 p1=>?_;cases x with
 | ref p=>
  obtain⟨⟨ds,hd⟩,h1⟩:=h1;simp only[zk] at q1;subst q1;obtain⟨xs,g1,g2⟩:=p1 _ _ hd;refine⟨.inl ⟨rfl,xs,zZ.of g1⟩,?_⟩;refine zV.go h' (r1.ext e1) p1 h1 λ y S2 w H2 h2 q2 e2 p2=>?_;split at h2
  .rename_i ds' e3;obtain⟨xs',g3,g4⟩:=p2 _ _ e3;refine⟨p,xs',w,rfl,rfl,g3,by rw[<- g4.length];exact h2.1,?_⟩;have e4:Ext H2 (upd H2 p (.lst (xs'++[w]))):=.lst g3 _;exact h2.2 _ _ (by simp only[zk]) ((e1.trans e2).trans e4) (p2.ups e4 ⟨_,yK,zq.ext e4 _ (g4.snoc q2)⟩)
  .exact h2.elim
 | zh=>exact h1.elim
 | bl _=>exact h1.elim
 | int _=>exact h1.elim
 | str _=>exact h1.elim
 | tup _=>exact h1.elim
 | yW _=>exact h1.elim
end
structure qx where
 nx:yt->SS->Prop
 rt:DK
 bk:yt->SS->Prop:=λ _ _=>False
 ct:yt->SS->Prop:=λ _ _=>False
abbrev y_:=qx->yt->SS->Prop
structure qx.Le (E E':qx):Prop where
 nx:∀ Y S,E.nx Y S->E'.nx Y S
 rt:∀ d S,E.rt d S->E'.rt d S
 bk:∀ Y S,E.bk Y S->E'.bk Y S
 ct:∀ Y S,E.ct Y S->E'.ct Y S
def tX (t:y_):Prop:=∀ E E' Y S,qx.Le E E'->t E Y S->t E' Y S
def tM (K:Ad) (H:Hp) (D:Ends):qx:=⟨v5 K H D.nx,va K H D.rt,v5 K H D.bk,v5 K H D.ct⟩
theorem tM.ext {K:Ad}{H H':Hp}{D:Ends}(e:Ext H H'):(tM K H D).Le (tM K H' D):=⟨λ _ _ h=>v5.ext e h,λ _ _ h=>va.ext e h,λ _ _ h=>v5.ext e h,λ _ _ h=>v5.ext e h⟩
def ip (K:Ad) (t:y_):TS:=λ D B H=>∃ Y S,xb K H Y B/\zT K H S/\t (tM K H D) Y S
structure vK (X:Cx) (st:Stmt) (t:y_):Prop where
 mo:tX t
 ps:PS X st (ip X.K t)
structure uJ (X:Cx) (st:List Stmt) (t:y_):Prop where
 mo:tX t
 ps:wF X st (ip X.K t)
section
variable {X:Cx}{K:Ad}{st:Stmt}{rest:List Stmt}{t u:y_}{pos:Pos}{e:Expr}{te:zA}
def Xg:y_:=λ E Y S=>E.nx Y S
def mU (t u:y_):y_:=λ E Y S=>t { E with nx:=u E } Y S
def mU.mo (h:tX t) (h':tX u):tX (mU t u):=λ E E' Y S hE z=>h { E with nx:=u E } { E' with nx:=u E' } Y S ⟨fun Y S q=>h' E E' Y S hE q,hE.rt,hE.bk,hE.ct⟩ z
def yw:uJ X [] Xg:=⟨λ _ _ _ _ hE h=>hE.nx _ _ h,wF.imp UX λ D B H ⟨Y,S,r1,r2,h⟩=>h B H r1 (.refl H) r2⟩
def zy (h:vK X st t):uJ X [st] t:=⟨h.mo,UW h.ps⟩
def zw (h:vK X st t) (h':uJ X rest u):uJ X (st::rest) (mU t u):=by
 refine⟨mU.mo h.mo h'.mo,wF.imp (UY h.ps h'.ps) λ D B H hu=>?_⟩;obtain⟨Y,S,r1,r2,z⟩:=hu;refine⟨Y,S,r1,r2,h.mo { tM X.K H D with nx:=u (tM X.K H D) } _ Y S ⟨fun Y' S' q B' H' q1 q2 q3=>?_,λ _ _ q=>q,λ _ _ q=>q,λ _ _ q=>q⟩ z⟩;exact⟨Y',S',q1,q3,h'.mo _ _ Y' S' (tM.ext q2) q⟩
def j7 (te:zA):y_:=λ E Y S=>te Y S λ _ S1=>E.nx Y S1
def ve (he:PD X e te) (hs:swapsWith e none pos.line X.env=pure false:=by rfl):vK X (.Expr e pos) (j7 te):=by
 refine⟨λ E E' Y S hE z=>he.mo Y S _ _ (λ _ _ q=>hE.nx _ _ q) z,PS.imp (Te he.pe hs) λ D B H hu=>?_⟩;obtain⟨Y,S,r1,r2,z⟩:=hu;exact zV.go he.mo r1 r2 z λ x S1 v H1 h1 q1 e1 p1=>h1 B H1 (r1.ext e1) e1 p1
def eT (te:zA):y_:=λ E Y S=>te Y S E.rt
def zI (he:PD X e te):vK X (.Return (some e) pos) (eT te):=by
 refine⟨λ E E' Y S hE z=>he.mo Y S _ _ (λ _ _ q=>hE.rt _ _ q) z,PS.imp (Tb he.pe) λ D B H hu=>?_⟩;obtain⟨Y,S,r1,r2,z⟩:=hu;exact zV.go he.mo r1 r2 z λ x S1 v H1 h1 q1 e1 p1=>h1 v H1 q1 e1 p1
def Xl (c:yT) (t u:y_):y_:=λ E Y S=>c Y S λ k S1=>if k=true then t E Y S1 else u E Y S1
def yx {c:Expr}{p q:List Stmt}{tc:yT}(hc:xT X c tc) (h:uJ X p t) (h':uJ X q u):vK X (.If c p q pos) (Xl tc t u):=by
 refine⟨λ E E' Y S hE z=>hc.mo Y S _ _ (λ k S1 z=>vw (h.mo _ _ Y S1 hE) (h'.mo _ _ Y S1 hE) z) z,PS.imp (Tc hc.pt h.ps h'.ps) λ D B H hu=>?_⟩;obtain⟨Y,S,r1,r2,z⟩:=hu;refine wQ.go hc.mo r1 r2 z λ k S1 H1 h1 e1 p1=>vw (λ z=>?_) (λ z=>?_) h1
 .exact⟨Y,S1,r1.ext e1,p1,h.mo _ _ Y S1 (tM.ext e1) z⟩
 .exact⟨Y,S1,r1.ext e1,p1,h'.mo _ _ Y S1 (tM.ext e1) z⟩
abbrev xE:=D->yt->SS->(yt->SS->Prop)->Prop
abbrev vk:=List D->yt->SS->(yt->SS->Prop)->Prop
def lH (t:xE):Prop:=∀ d Y S (Q Q':yt->SS->Prop),(∀ Y S,Q Y S->Q' Y S)->t d Y S Q->t d Y S Q'
def X_ (t:vk):Prop:=∀ d Y S (Q Q':yt->SS->Prop),(∀ Y S,Q Y S->Q' Y S)->t d Y S Q->t d Y S Q'
def nJ (K:Ad) (t:xE):TG:=λ v B H Q=>∃ d Y S,zk K H d v/\xb K H Y B/\zT K H S/\t d Y S (v5 K H Q)
def bQ (K:Ad) (t:vk):s_:=λ v B H Q=>∃ d Y S,zq K H d v/\xb K H Y B/\zT K H S/\t d Y S (v5 K H Q)
structure rb (X:Cx) (e:Expr) (t:xE):Prop where
 mo:lH t
 pg:PG X e (nJ X.K t)
structure jE (X:Cx) (es:List Expr) (t:vk):Prop where
 mo:X_ t
 pg:tW X es (bQ X.K t)
def PG.imp {e:Expr}{t t':TG}(h:PG X e t) (hi:∀ v B H Q,t' v B H Q->t v B H Q):PG X e t':=λ pins s B H v w Q I r q=>h pins s B H v w Q I r (hi v B H Q q)
def tW.imp {e:List Expr}{t t':s_}(h:tW X e t) (hi:∀ v B H Q,t' v B H Q->t v B H Q):tW X e t':=λ pins s B H v w Q I r q=>h pins s B H v w Q I r (hi v B H Q q)
def hName (i:Nat):xE:=λ d Y S Q=>Q (Y.set i (some d)) S
def S9 {e:Expr}{i:Nat}(h:PG X e (oE i)):rb X e (hName i):=
 ⟨λ _ _ _ _ _ hq z=>hq _ _ z,PG.imp h λ v B H Q ⟨d,Y,S,r1,r2,r3,z⟩=>z _ H (r2.set i r1) (.refl H) r3⟩
def fX:vk:=λ ds Y S Q=>ds=[]/\Q Y S
def fY (t:xE) (u:vk):vk:=λ ds Y S Q=>match ds with
 | d::r=>t d Y S fun Y' S'=>u r Y' S' Q
 | []=>False
def sH:jE X [] fX:=by
 refine⟨λ _ _ _ _ _ hq z=>⟨z.1,hq _ _ z.2⟩,tW.imp Tw λ v B H Q hu=>?_⟩;obtain⟨d,Y,S,r1,r2,r3,z1,z2⟩:=hu;subst z1;simp only[zq] at r1;exact⟨r1,z2 B H r2 (.refl H) r3⟩
def xW {e:Expr}{es:List Expr}{t:xE}{u:vk}(h:rb X e t) (h':jE X es u) (hs:(assignEach (e::es) X.env).map (·.2)=assign e X.env::(assignEach es X.env).map (·.2):=by rfl):jE X (e::es) (fY t u):=by
 refine⟨λ ds Y S Q Q' hq z=>?_,tW.imp (Tx h.pg h'.pg hs) λ v B H Q hu=>?_⟩
 .cases ds with
  | nil=>exact z
  | cons d r=>exact h.mo d Y S _ _ (fun Y' S' z=>h'.mo r Y' S' _ _ hq z) z
 .obtain⟨ds,Y,S,r1,r2,r3,z⟩:=hu;cases ds with
  | nil=>exact z.elim
  | cons d r=>
   simp only[zq] at r1;obtain⟨x,xs,rfl,q1,q2⟩:=r1;refine⟨x,xs,rfl,d,Y,S,q1,r2,r3,h.mo d Y S _ _ (fun Y' S' z B' H' g1 g2 g3=>?_) z⟩;exact⟨r,Y',S',zq.ext g2 r q2,g1,g3,h'.mo r Y' S' _ _ (fun Y2 S2 z2=>v5.ext g2 z2) z⟩
def jn (n:Nat) (t:vk):xE:=λ d Y S Q=>match d with
 | .tup ds=>ds.length=n/\t ds Y S Q
 | _=>False
def S8 {e:Expr}{n:Nat}{t:vk}(h:PG X e (Y8 X.K n (bQ X.K t))) (hm:X_ t):rb X e (jn n t):=by
 refine⟨λ d Y S Q Q' hq z=>?_,PG.imp h λ v B H Q hu=>?_⟩
 .cases d with
  | tup ds=>exact⟨z.1,hm ds Y S _ _ hq z.2⟩
  | _=>exact z
 .obtain⟨d,Y,S,r1,r2,r3,z⟩:=hu;cases d with
  | tup ds=>
   simp only[zk] at r1;obtain⟨a,xs,rfl,q1,q2⟩:=r1;exact⟨a,xs,rfl,q1,by rw[<- q2.length];exact z.1,ds,Y,S,q2,r2,r3,z.2⟩
  | zh=>exact z.elim
  | bl _=>exact z.elim
  | int _=>exact z.elim
  | str _=>exact z.elim
  | yW _=>exact z.elim
  | ref _=>exact z.elim
def vG (te:zA) (g:xE):y_:=λ E Y S=>te Y S λ x S1=>g x Y S1 E.nx
def vG.mo {g:xE}(h:yv te) (h':lH g):tX (vG te g):=λ E E' Y S hE z=>h Y S _ _ (λ x S1 q=>h' x Y S1 _ _ (fun Y S q=>hE.nx _ _ q) q) z
def Vc {g:xE}(h:yv te) (h':lH g) {D:Ends}{B:St}{H:Hp}(hu:ip K (vG te g) D B H):nM (zV K te) (nJ K g) D B H:=by
 obtain⟨Y,S,r1,r2,z⟩:=hu;refine zV.go h r1 r2 z λ x S1 v H1 h1 q1 e1 p1=>?_;exact⟨x,Y,S1,q1,r1.ext e1,p1,h' x Y S1 _ _ (fun Y S q=>v5.ext e1 q) h1⟩
def Su {tg e:Expr}{g:xE}(he:PD X e te) (hg:rb X tg g) (hs:swapsWithSole [tg] e pos.line X.env=pure false:=by rfl) (hw:swappedStores [tg] e X.env=pure none:=by rfl)
  (h1:(assignEach [tg] X.env).map (·.2)=[assign tg X.env]:=by rfl):vK X (.Assign [tg] e pos) (vG te g):=
 ⟨vG.mo he.mo hg.mo,PS.imp (Zd he.pe hg.pg hs hw h1) λ _ _ _ hu=>Vc he.mo hg.mo hu⟩
def Sq {e0:Stmt}{i:Nat}(h:PS X e0 (nM (zV X.K te) (oE i))) (hm:yv te):vK X e0 (vG te (hName i)):=by
 refine⟨vG.mo hm λ _ _ _ _ _ hq z=>hq _ _ z,PS.imp h λ D B H hu=>?_⟩;obtain⟨Y,S,r1,r2,z⟩:=hu;refine zV.go hm r1 r2 z λ x S1 v H1 h1 q1 e1 p1=>?_;exact h1 _ H1 ((r1.ext e1).set i q1) e1 p1
end
structure lY where
 items:List D
 keep:SS->Prop
abbrev vj:=yt->SS->(lY->SS->Prop)->Prop
def jL (t:vj):Prop:=∀ Y S (Q Q':lY->SS->Prop),(∀ I S',Q I S'->Q' I S')->t Y S Q->t Y S Q'
def dG (K:Ad) (H1:Hp) (J:It) (I:lY):Prop:=∀ (i:Nat) (H:Hp) (S:SS),Ext H1 H->zT K H S->I.keep S->
 (∀ d,I.items[i]?=some d->J.go i H/\∀ x H',J.pM i H x H'->Ext H H'/\zT K H' S/\zk K H' d x)/\(I.items.length<=i->J.stop i H)
def NS (K:Ad) (H:Hp) (R:It->Hp->Prop):lY->SS->Prop:=λ I S1=>∀ J H1,Ext H H1->zT K H1 S1->dG K H1 J I->R J H1
def vb (K:Ad) (t:vj):TI:=fun B H R=>∃ Y S,xb K H Y B/\zT K H S/\t Y S (NS K H R)
structure qk (X:Cx) (tg iter:Expr) (t:vj):Prop where
 mo:jL t
 pi:PI X tg iter (vb X.K t)
def PI.imp {X:Cx}{tg e:Expr}{t t':TI}(h:PI X tg e t) (hi:∀ B H Q,t' B H Q->t B H Q):PI X tg e t':=λ pins s B H Q I q=>h pins s B H Q I (hi B H Q q)
section
variable {X:Cx}{K:Ad}{tg e:Expr}{te:zA}{pos:Pos}
theorem zq.at {H:Hp}{ds:List D}{xs:List V}{i:Nat}{d:D}{x:V}(r:zq K H ds xs) (h1:ds[i]?=some d) (h2:xs[i]?=some x):zk K H d x:=by
 obtain⟨y,e1,e2⟩:=r.get h1;rw[h2] at e1;cases e1;exact e2
noncomputable def vT (lo:Int) (n:Nat):List D:=(List.range n).map λ(k:Nat)=>D.int (lo+(k:Int))
def UI {lo:Int}{n i:Nat}{d:D}(h:(vT lo n)[i]?=some d):i<n/\d=.int (lo+(i:Int)):=by
 unfold vT at h;rw[Aw] at h;cases q:(List.range n)[i]? with
 | none=>rw[q] at h;cases h
 | some j=>
  rw[q] at h;obtain⟨h1,h2⟩:=AL.mp q;rw[Bz] at h1;rw[Eb] at h2;subst h2;cases h;exact⟨h1,rfl⟩
def UH (lo:Int) (n:Nat):(vT lo n).length=n:=by unfold vT;rw[Az,Bz]
def dG.range {H1:Hp}{lo:Int}{n:Nat}:dG K H1 (jM lo n) ⟨vT lo n,λ _=>True⟩:=λ i H S _ x2 _=>by
 refine⟨λ d hd=>?_,λ hl=>by rw[show (lY.mk (vT lo n) λ _=>True).items=vT lo n from rfl,UH] at hl;exact hl⟩;obtain⟨h1,rfl⟩:=UI hd;refine⟨h1,λ x H' q=>?_⟩;obtain⟨rfl,rfl⟩:=q;exact⟨.refl _,x2,by simp only[zk]⟩
def fR (t:yD):vj:=fun Y S R=>t Y S λ ds S1=>match ds with
 | [.int j]=>(-(2 ^ 62)<=j/\j<2 ^ 62)/\R ⟨vT 0 j.toNat,λ _=>True⟩ S1
 | _=>False
variable {tA:yD}
def S7 (h:PI X tg e (Y0 (vc X.K tA))) (hm:rf tA):qk X tg e (fR tA):=by
 refine⟨fun Y S Q Q' hq z=>hm Y S _ _ (λ ds S1 z=>?_) z,PI.imp h fun B H R hu=>?_⟩
 .split at z
  .exact⟨z.1,hq _ _ z.2⟩
  .exact z.elim
 .obtain⟨Y,S,r1,r2,z⟩:=hu;refine vc.go hm r1 r2 z λ ds S1 xs H1 h1 q1 e1 p1=>?_;split at h1
  .obtain⟨x,rfl,q⟩:=q1.one;simp only[zk] at q;subst q;exact⟨_,rfl,h1.1.1,h1.1.2,h1.2 _ H1 e1 p1 .range⟩
  .exact h1.elim
def mY (ti:vj) (g:xE) (tb:y_):y_:=λ E Y S=>ti Y S λ I S1=>∃ W:Nat->yt->SS->Prop,W 0 Y S1/\(∀ i Y S,W i Y S->I.keep S)/\
 (∀ i d Y S,I.items[i]?=some d->W i Y S->g d Y S fun Y2 S2=>tb { E with nx:=W (i+1),ct:=W (i+1),bk:=E.nx } Y2 S2)/\∀ Y S,W I.items.length Y S->E.nx Y S
def mY.mo {ti:vj}{g:xE}{tb:y_}(hi:jL ti) (hg:lH g) (hb:tX tb):tX (mY ti g tb):=λ E E' Y S hE z=>hi Y S _ _ (λ I S1 ⟨W,w0,wk,ws,wd⟩=>by
 refine⟨W,w0,wk,λ i d Y S hd hw=>hg d Y S _ _ (fun Y2 S2 z=>hb { E with nx:=W (i+1),ct:=W (i+1),bk:=E.nx } { E' with nx:=W (i+1),ct:=W (i+1),bk:=E'.nx } Y2 S2 ⟨λ _ _ q=>q,hE.rt,hE.nx,λ _ _ q=>q⟩ z) (ws i d Y S hd hw),fun Y S q=>hE.nx _ _ (wd Y S q)⟩) z
def wI {iter:Expr}{body:List Stmt}{ti:vj}{g:xE}{tb:y_}(hp:PassesOwn (model X.prog X.w) X.A X.env X.xe) (hc:X.calm=true) (hi:qk X tg iter ti) (hg:rb X tg g) (hb:uJ X body tb)
  (hs:∀ x,foldedSetIterable iter X.env x=pure x:=by intro _;rfl):vK X (.For tg iter body [] pos) (mY ti g tb):=by
 refine⟨mY.mo hi.mo hg.mo hb.mo,PS.imp (Td hp hc hi.pi hg.pg hb.ps hs) λ D B H hu=>?_⟩;obtain⟨Y,S,r1,r2,z⟩:=hu;refine⟨Y,S,r1,r2,hi.mo Y S _ _ (λ I S1 hW J H1 e1 p1 rep=>?_) z⟩;obtain⟨W,w0,wk,ws,wd⟩:=hW;refine⟨λ i m B H2=>m=I.items.length-i/\i<=I.items.length/\Ext H1 H2/\∃ Y S,xb X.K H2 Y B/\zT X.K H2 S/\W i Y S,⟨_,rfl,AN _,.refl _,Y,S1,r1.ext e1,p1,w0⟩,?_⟩;rintro i m B2 H2 ⟨rfl,hi',x2,Y2,S2,q1,q2,w2⟩;obtain⟨g1,g2⟩:=rep i H2 S2 x2 q2 (wk i Y2 S2 w2);by_cases hl:i<I.items.length
 .have hd:I.items[i]?=some I.items[i]:=by simp[hl]
  obtain⟨go,yl⟩:=g1 _ hd;refine .inr ⟨go,fun B' H'=>Ext H1 H'/\∃ Y S,xb X.K H' Y B'/\zT X.K H' S/\W (i+1) Y S,fun B' H' q=>⟨_,by lia,rfl,hl,q⟩,λ x H3 hy=>?_⟩;obtain⟨x3,p3,d3⟩:=yl x H3 hy;refine⟨_,Y2,S2,d3,q1.ext x3,p3,hg.mo _ Y2 S2 _ _ (fun Y4 S4 z4 B4 H4 a1 a2 a3=>?_) (ws i _ Y2 S2 hd w2)⟩;refine⟨Y4,S4,a1,a3,hb.mo _ _ Y4 S4 ⟨fun Y5 S5 w5 B5 H5 b1 b2 b3=>⟨((x2.trans x3).trans a2).trans b2,Y5,S5,b1,b3,w5⟩,λ _ _ q=>va.ext (((e1.trans x2).trans x3).trans a2) q,λ _ _ q=>v5.ext (((e1.trans x2).trans x3).trans a2) q,fun Y5 S5 w5 B5 H5 b1 b2 b3=>⟨((x2.trans x3).trans a2).trans b2,Y5,S5,b1,b3,w5⟩⟩ z4⟩
 .have e:i=I.items.length:=by lia
  subst e;exact .inl ⟨g2 (Ag _),wd Y2 S2 w2 B2 H2 q1 (e1.trans x2) q2⟩
abbrev qh:=List D->SS->DK->Prop
def dF (sp:qh):Prop:=∀ ds S (Q Q':DK),(∀ d S',Q d S'->Q' d S')->sp ds S Q->sp ds S Q'
def se (K:Ad) (sp:qh):Sp:=λ vs H Q _=>∃ ds S,zq K H ds vs/\zT K H S/\sp ds S (va K H Q)
def eU (sp:qh) (t:yD):zA:=fun Y S Q=>t Y S λ ds S1=>sp ds S1 Q
def SU {sp:qh}{E:XK}{e:Expr}(h:PE X e (aa (se X.K sp) [] E (vc X.K tA))) (hs:dF sp) (hm:rf tA):PD X e (eU sp tA):=by
 refine⟨fun Y S Q Q' hq z=>hm Y S _ _ (λ ds S1 z=>hs ds S1 _ _ hq z) z,PE.imp h fun B H Q hu=>?_⟩;obtain⟨Y,S,r1,r2,z⟩:=hu;refine vc.go hm r1 r2 z λ ds S1 xs H1 h1 q1 e1 p1=>?_;rw[CO];exact⟨ds,S1,q1,p1,hs ds S1 _ _ (λ d S' q=>va.ext e1 q) h1⟩
noncomputable def sr (N:List Str) (ds:List D):yt:=ds.map some++List.replicate (N.length-ds.length) none
def xb.init {H:Hp}{N:List Str}{ds:List D}{vs:List V}(r:zq K H ds vs):xb K H (sr N ds) (start N vs):=by
 have hl:=r.length;refine⟨by unfold sr L2.start;simp[hl],λ i d h=>?_⟩;unfold sr at h;have hi:i<ds.length:=by
  rcases A7 i ds.length with q | q
  .exact q
  .rw[Dg (by simpa using q),Df] at h;split at h <;> cases h
 rw[Cv (by simpa using hi),Aw] at h;cases q:ds[i]? with
 | none=>rw[q] at h;cases h
 | some d'=>
  rw[q] at h;cases h;obtain⟨x,e1,e2⟩:=r.get q;refine⟨x,?_,e2⟩;unfold L2.start;rw[Cv (by simpa using by lia),Aw,e1];rfl
def Nv {P:Program}{w:World}{K:Ad}{mg:Str->Option Value}{base:Heap}{x qual:Str}{st:Stmt}{f:Addr}{fd:FuncData}{N ps:List Str}{k:Nat}{sp:qh}(F:tj K x qual st f fd) (Sc:yb N ps (zD st))
  (len:∀ ds S Q,sp ds S Q->ds.length=ps.length)
  (hbody:∀ (Af:Value) (A:Around) (outer:List Env) (s:Shared) (H:Hp) (E:XK),yI k (A.deeper (envOfC qual (zD st) s.heap.objs.size f Af))->
   ∃ t,uJ (tN vP P w K mg base N qual (zD st) f Af A outer s H E).rO (vE st) t/\∀ ds S Q,sp ds S Q->t { nx:=λ _ S'=>Q .zh S',rt:=Q } (sr N ds) S):uM P w K mg base vP (k+1) f fd ps (se K sp):=by
 refine F.ok Sc (λ vs H Q E h=>?_) λ Af A outer s H vs Q E hr h=>?_
 .obtain⟨ds,S,r1,_,z⟩:=h;rw[<- r1.length];exact len _ _ _ z
 .obtain⟨ds,S,r1,r2,z⟩:=h;obtain⟨t,ht,hq⟩:=hbody Af A outer s H E hr;refine⟨_,ht.ps,sr N ds,S,.init r1,r2,ht.mo { nx:=λ _ S'=>va K H Q .zh S',rt:=va K H Q } _ _ _ ⟨fun Y S' q B' H' _ b c=>q .zh H' (by simp only[zk]) b c,λ _ _ q=>q,λ _ _ q=>False.elim q,λ _ _ q=>False.elim q⟩ (hq ds S _ z)⟩
noncomputable def uw (pick:List (Option Nat)) (Y:yt):yt:=pick.map λ o=>o.bind λ i=>(Y[i]?).join
theorem xb.pick {H:Hp}{Y:yt}{B:St}(r:xb K H Y B) (pick:List (Option Nat)):xb K H (uw pick Y) (uv pick B):=by
 refine⟨by unfold uw uv;simp,λ i d h=>?_⟩;unfold uw at h;rw[Aw] at h;cases q:pick[i]? with
 | none=>rw[q] at h;cases h
 | some o=>
  rw[q] at h;cases o with
  | none=>simp at h
  | some j=>
   simp only[Option.map_some,A_,Option.some.injEq] at h;have hj:Y[j]?=some (some d):=by
    cases q2:Y[j]? with
    | none=>rw[q2] at h;cases h
    | some o2=>rw[q2] at h;simp only[Option.join_some] at h;rw[h]
   obtain⟨v,e1,e2⟩:=r.2 j d hj;refine⟨v,?_,e2⟩;unfold uv;rw[Aw,q];simp[e1]
def px (Y Y':yt):Prop:=Y.length=Y'.length/\∀ (i:Nat) d,Y[i]?=some (some d)->Y'[i]?=some (some d)
def px.rep {H:Hp}{Y Y':yt}{B:St}(h:px Y Y') (r:xb K H Y' B):xb K H Y B:=⟨h.1.trans r.1,λ i d q=>r.2 i d (h.2 i d q)⟩
structure jF (X:Cx) (ifs:List Expr) (t:yT):Prop where
 mo:vn t
 pf:PF X ifs (wQ X.K t)
def PF.imp {ifs:List Expr}{t t':TT}(h:PF X ifs t) (hi:∀ B H Q,t' B H Q->t B H Q):PF X ifs t':=λ pins s B H Q I q=>h pins s B H Q I (hi B H Q q)
def YS:yT:=λ _ S Q=>Q true S
def qI:jF X [] YS:=⟨λ _ _ _ _ hq z=>hq _ _ z,PF.imp T5 λ _ H _ ⟨_,_,_,r2,z⟩=>z H (.refl H) r2⟩
def mh {c:Expr}{t:yT}(h:xT X c t):jF X [c] t:=⟨h.mo,T4 h.pt⟩
section
variable {N':List Str}{pick:List (Option Nat)}{scope:Scope}{elt iter:Expr}{ifs:List Expr}{ti:vj}{g:xE}{tc:yT}
end
end
end L3
namespace L2
open PySem PySem.Spec PyProof.Rows
def OQ (K:Ad) (tl:TE):TI:=fun B H R=>tl B H λ x H1=>∃ a,x=.ref a/\(((∃ xs,zZ K H1 a xs)/\R (Wc K a) H1)\/((∃ xs,ye K H1 a xs)/\R (Wb K a) H1))
def Tt {X:Cx}{tg l:Expr}{tl:TE}(hl:PE X l tl):PI X tg l (OQ X.K tl):=by
 intro pins s B H R I h;refine zL (hl pins s B H _ I h) λ v s1 ⟨x,H1,I1,r1,a,hx,q1⟩=>?_;subst hx;cases r1;have new:∀ b∈[s1.heap.objs.size],uj X pins H1 b:=λ b hb=>by
  obtain rfl:b=s1.heap.objs.size:=AO.mp hb;exact I1.jr (Ag _) (I1.zC.fresh (Ag _))
 rcases q1 with ⟨⟨xs,hq⟩,q⟩ | ⟨⟨xs,hq⟩,q⟩
 .obtain⟨its,_,pl,_⟩:=I1.list hq;exact wpAny_pyIter_list pl.isList ⟨_,_,_,_,H1,rfl,I1.kept (t':=s1.toks) λ b o eo=>An _ eo,Vl a _,⟨_,AF _ rfl,rfl,rfl⟩,new,q⟩
 .obtain⟨its,_,pt,_⟩:=I1.tuple hq;exact wpAny_pyIter_tuple (show s1.heap.IsTuple a its.toArray from pt) ⟨_,_,_,_,H1,rfl,I1.kept (t':=s1.toks) λ b o eo=>An _ eo,Vj a _,⟨_,AF _ rfl,rfl,rfl⟩,new,q⟩
def range_all (bs:List Bool):(List.range bs.length).all (λ i=>bs.getD i true)=bs.all id:=by
 rw[A6,BD,BD];constructor
 .intro h b hb;obtain⟨i,hi,rfl⟩:=BV.mp hb;have:=h i (AE.mpr hi);simpa [hi] using this
 .intro h i hi;have hi':=AE.mp hi;have:=h bs[i] (Bj hi');simpa [hi'] using this
def range_any (bs:List Bool):(List.range bs.length).any (λ i=>bs.getD i true)=bs.any id:=by
 rw[A6,AR,AR];constructor
 .rintro⟨i,hi,h⟩;have hi':=AE.mp hi;exact⟨bs[i],Bj hi',by simpa [hi'] using h⟩
 .rintro⟨b,hb,h⟩;obtain⟨i,hi,rfl⟩:=BV.mp hb;exact⟨i,AE.mpr hi,by simpa [hi] using h⟩
def XA {bs:List Bool}{its:List Value}(r:Vals (bs.map V.bl) its) {i:Nat}{v:Value}(h:its.toArray[i]?=some v):v=.bool (bs.getD i true):=by
 have hl:=r.length;rw[Az] at hl;have h':its[i]?=some v:=by simpa using h
 have hi:i<bs.length:=by
  rw[hl];rcases A7 i its.length with q | q
  .exact q
  .rw[Dc q] at h';cases h'
 obtain⟨u,e1,e2⟩:=r.get (i:=i) (x:=.bl bs[i]) (by simp[hi]);rw[h'] at e1;cases e1;have:v=.bool bs[i]:=e2;rw[this];simp[hi]
section
variable {X:Cx}
def MJ (hc:X.calm=true):yU X (.builtin "all") (λ xs H Q=>∃ p,∃ bs:List Bool,xs=[.ref p]/\zZ X.K H p (bs.map V.bl)/\Q (.bl (bs.all id)) H):=by
 intro pins s B H xs us Q I r h;obtain⟨p,bs,rfl,hq,q⟩:=h;obtain⟨u,rfl,ru⟩:=vals1 r;cases ru;obtain⟨its,rv,pl,hz⟩:=I.list hq;have hl:=rv.length;rw[Az] at hl;have Al:p<s.heap.objs.size:=by obtain⟨o,n,e,_⟩:=pl;exact Ao e
 refine call_all_walk (wpAny_pyIter_list pl.isList ?_);refine⟨s.heap.objs.size,_,_,_,_,_,λ i=>bs.getD i true,rfl,Walks.list (A:=X.A.in1) (I.ok.hd hc) s.heap.objs.size p (Ax Al) its.toArray,⟨⟨_,AF _ rfl,rfl,rfl⟩,pl.isList.push _⟩,λ i v s' Q' E' hv hq'=>?_,λ h' tk hk=>?_⟩
 .rw[XA rv hv];exact wpAny_truthy_bool hq'
 .have e:(List.range its.toArray.size).all (λ i=>bs.getD i true)=bs.all id:=by rw[Aq,<- hl,range_all]
  rw[e];exact⟨.bl _,H,I.kept (t':=tk) λ b o eo=>hk b o (by simpa using Ax (Ao eo)) (An _ eo),rfl,q⟩
def MI (hc:X.calm=true):yU X (.builtin "any") (λ xs H Q=>∃ p,∃ bs:List Bool,xs=[.ref p]/\zZ X.K H p (bs.map V.bl)/\Q (.bl (bs.any id)) H):=by
 intro pins s B H xs us Q I r h;obtain⟨p,bs,rfl,hq,q⟩:=h;obtain⟨u,rfl,ru⟩:=vals1 r;cases ru;obtain⟨its,rv,pl,hz⟩:=I.list hq;have hl:=rv.length;rw[Az] at hl;have Al:p<s.heap.objs.size:=by obtain⟨o,n,e,_⟩:=pl;exact Ao e
 refine call_any_walk (wpAny_pyIter_list pl.isList ?_);refine⟨s.heap.objs.size,_,_,_,_,_,λ i=>bs.getD i true,rfl,Walks.list (A:=X.A.in1) (I.ok.hd hc) s.heap.objs.size p (Ax Al) its.toArray,⟨⟨_,AF _ rfl,rfl,rfl⟩,pl.isList.push _⟩,λ i v s' Q' E' hv hq'=>?_,λ h' tk hk=>?_⟩
 .rw[XA rv hv];exact wpAny_truthy_bool hq'
 .have e:(List.range its.toArray.size).any (λ i=>bs.getD i true)=bs.any id:=by rw[Aq,<- hl,range_any]
  rw[e];exact⟨.bl _,H,I.kept (t':=tk) λ b o eo=>hk b o (by simpa using Ax (Ao eo)) (An _ eo),rfl,q⟩
end
end L2
namespace L3
open PySem PySem.Spec L2
open PyProof.Rows hiding St
structure Bt (mg:Str->Option Value):Prop where
 len:mg "len"=none
 range:mg "range"=none
 any:mg "any"=none
 all:mg "all"=none
 sorted:mg "sorted"=none
 isinstance:mg "isinstance"=none
 bool:mg "bool"=none
 int:mg "int"=none
 str:mg "str"=none
 list:mg "list"=none
 tuple:mg "tuple"=none
 max:mg "max"=none
 min:mg "min"=none
section
variable {X:Cx}{K:Ad}{a b c e:Expr}{es:List Expr}{ta tb tc te:zA}{tA:yD}{pos p:Pos}
def uF {N':List Str}{pick:List (Option Nat)}{scope esc:Scope}{N:List Str}(hE:X.env.scope=esc:=by rfl) (hN:X.N=N:=by rfl) (h1:scope.kind=.function:=by rfl) (h2:scope.names.all (λ y=>decide (y.2≠.cell))=true:=by decide +kernel)
  (h3:scope.names.all (λ y=>!decide (y.2=.local)||decide (scope.names.lookup y.1=some .local))=true:=by decide +kernel)
  (h4:scope.names.all (λ y=>!decide (y.2=.free)||(decide (esc.names.lookup y.1=some .cell)||decide (esc.names.lookup y.1=some .free)))=true:=by decide +kernel)
  (h5:pick.length=N'.length:=by rfl) (h6:pW N N' pick scope=true:=by decide +kernel):pK X N' pick scope:=by
 refine⟨h1,λ y hy=>?_,λ y hy hl=>?_,λ y hy hf=>?_,h5,by rw[hN];exact h6⟩
 .exact of_decide_eq_true (BD.mp h2 y hy)
 .have:=BD.mp h3 y hy;rw[decide_eq_true hl] at this;simpa using this
 .have:=BD.mp h4 y hy;rw[decide_eq_true hf] at this;rw[hE];simpa using this
def yp (i:Nat) {x:Str}(hN:X.N.Nodup) (hi:X.N[i]?=some x:=by rfl) (hx:Loc X.env.scope x:=by first | exact Or.inl rfl | exact Or.inr rfl) (hf:X.fn x=true\/X.env.scope.names.lookup x=some .local:=by first | exact .inl rfl | exact .inr rfl):rb X (.Name x pos) (hName i):=
 S9 (T3 hN hi hx hf)
def sI {k:Nat}{t:vk}{n:Nat}(h:jE X es t) (hc:X.calm=true:=by rfl) (hn:(assignEach es X.env).length=n:=by rfl) (AH:(assignEach es X.env).findIdx? (·.1)=none:=by rfl):rb X (.Tuple es k pos) (jn n t):=
 S8 (Tz hc h.pg hn AH) h.mo
def zH (i:Nat) {x:Str}{pos':Pos}(hN:X.N.Nodup) (he:PD X e te) (hi:X.N[i]?=some x:=by rfl) (hx:Loc X.env.scope x:=by first | exact Or.inl rfl | exact Or.inr rfl) (hs:swapsWith e (some (.Name x pos')) pos.line X.env=pure false:=by rfl)
  (hf:X.fn x=true\/X.env.scope.names.lookup x=some .local:=by first | exact .inl rfl | exact .inr rfl):vK X (.Assign [.Name x pos'] e pos) (vG te (hName i)):=
 Sq (Ta hN hi hx he.pe hs hf) he.mo
def fQ (te:zA):vj:=fun Y S R=>te Y S λ x S1=>match x with
 | .tup ds=>R ⟨ds,λ _=>True⟩ S1
 | .yW ds=>R ⟨ds,λ _=>True⟩ S1
 | .ref p=>match S1 p with
  | some (.lst ds)=>R ⟨ds,λ S=>S p=some (.lst ds)⟩ S1
  | _=>False
 | _=>False
def wq {tg:Expr}(h:PD X e te):qk X tg e (fQ te):=by
 refine⟨fun Y S Q Q' hq z=>h.mo Y S _ _ (λ x S1 z=>?_) z,?_⟩
 .cases x with
  | ref p=>
   dsimp only at z ⊢;split at z
   .exact hq _ _ z
   .exact z.elim
  | yW ds=>exact hq _ _ z
  | tup ds=>exact hq _ _ z
  | _=>exact z
 .refine PI.imp (Tt h.pe) fun B H R hu=>?_
  obtain⟨Y,S,r1,r2,z⟩:=hu;refine zV.go h.mo r1 r2 z λ x S1 v H1 h1 q1 e1 p1=>?_;cases x with
  | tup ds=>
   simp only[zk] at q1;obtain⟨a,xs,rfl,g1,g2⟩:=q1;refine⟨a,rfl,.inr ⟨⟨xs,g1⟩,h1 _ H1 e1 p1 λ i H2 S2 x1 x2 _=>⟨λ d hd=>?_,λ hl=>⟨xs,x1.kz g1,by rw[<- g2.length];exact hl⟩⟩⟩⟩;obtain⟨y,hy,_⟩:=g2.get hd;refine⟨⟨xs,y,x1.kz g1,hy⟩,λ x H' q=>?_⟩;obtain⟨rfl,q⟩:=q;exact⟨.refl _,x2,(zq.ext x1 ds g2).at hd (q xs (x1.kz g1))⟩
  | ref p=>
   dsimp only at h1;split at h1
   .rename_i ds e2;simp only[zk] at q1;subst q1;obtain⟨xs0,g1,_⟩:=p1 _ _ e2;refine⟨p,rfl,.inl ⟨⟨xs0,zZ.of g1⟩,h1 _ H1 e1 p1 λ i H2 S2 x1 x2 hk=>?_⟩⟩;obtain⟨xs,g3,g4⟩:=x2 _ _ hk;refine⟨λ d hd=>?_,λ hl=>⟨xs,zZ.of g3,by rw[<- g4.length];exact hl⟩⟩;obtain⟨y,hy,_⟩:=g4.get hd;refine⟨⟨xs,y,zZ.of g3,hy⟩,λ x H' q=>?_⟩;obtain⟨rfl,q⟩:=q;exact⟨.refl _,x2,g4.at hd (q xs (zZ.of g3))⟩
   .exact h1.elim
  | yW ds=>
   simp only[zk] at q1;obtain⟨a,xs,rfl,g1,g2⟩:=q1;refine⟨a,rfl,.inl ⟨⟨xs,g1.sq⟩,h1 _ H1 e1 p1 λ i H2 S2 x1 x2 _=>⟨λ d hd=>?_,λ hl=>⟨xs,(x1.k5 g1).sq,by rw[<- g2.length];exact hl⟩⟩⟩⟩;obtain⟨y,hy,_⟩:=g2.get hd;refine⟨⟨xs,y,(x1.k5 g1).sq,hy⟩,λ x H' q=>?_⟩;obtain⟨rfl,q⟩:=q;exact⟨.refl _,x2,(zq.ext x1 ds g2).at hd (q xs (x1.k5 g1).sq)⟩
  | zh=>exact h1.elim
  | bl _=>exact h1.elim
  | int _=>exact h1.elim
  | str _=>exact h1.elim
end
end L3
namespace L4
open PySem PySem.W PyProof.Rows
noncomputable def yH {α:Type}(n:Nat) (lt:Nat->Nat->Bool):KasT α->(α->Prop)->Prop
 | .ret a,Q=>Q a
 | .ask i j k,Q=>i<n/\j<n/\yH n lt (k (lt i j)) Q
theorem yH.mono {α:Type}{n:Nat}{lt:Nat->Nat->Bool}{Q Q':α->Prop}(hq:∀ a,Q a->Q' a):∀ {t:KasT α},yH n lt t Q->yH n lt t Q'
 | .ret _,h=>hq _ h
 | .ask _ _ _,h=>⟨h.1,h.2.1,yH.mono hq h.2.2⟩
theorem yH.bind {α β:Type}{n:Nat}{lt:Nat->Nat->Bool}{f:α->KasT β}{Q:β->Prop}:∀ {t:KasT α},yH n lt t (λ a=>yH n lt (f a) Q)->yH n lt (t.bind f) Q
 | .ret _,h=>h
 | .ask _ _ _,h=>⟨h.1,h.2.1,yH.bind h.2.2⟩
section
variable {n:Nat}{lt:Nat->Nat->Bool}
def Le (lt:Nat->Nat->Bool) (a b:Nat):Prop:=lt b a=false
structure Ord (lt:Nat->Nat->Bool):Prop where
 tr:∀ a b c,Le lt a b->Le lt b c->Le lt a c
 as:∀ a b,lt a b=true->Le lt a b
def Ord.refl (o:Ord lt) (a:Nat):Le lt a a:=by
 cases h:lt a a with
 | false=>exact h
 | true=>exact o.as a a h
def xN (n:Nat) (p:Array Nat):Prop:=p.Perm (List.range n).toArray
theorem xN.size {p:Array Nat}(h:xN n p):p.size=n:=by rw[Array.Perm.size_eq h];simp
def xN.below {p:Array Nat}(h:xN n p) {i:Nat}(hi:i<n):p.getD i 0<n:=by
 have hs:=h.size;have hm:p.getD i 0∈p:=by
  rw[DP,Bk (by lia)];exact Array.getElem_mem (by lia)
 have:p.getD i 0∈(List.range n).toArray:=(Array.Perm.mem_iff h).mp hm;simpa using this
def mH {p q:Array Nat}{i j:Nat}(h:p[i]?=q[j]?):p.getD i 0=q.getD j 0:=by rw[DP,DP,h]
def vJ (lt:Nat->Nat->Bool) (p:Array Nat) (k:Nat):Prop:=∀ i j,i<=j->j<k->Le lt (p.getD i 0) (p.getD j 0)
def t_ (lt:Nat->Nat->Bool) (p:Array Nat) (k:Nat):Prop:=∀ i j,i<=j->j<k->Le lt (p.getD j 0) (p.getD i 0)
def vJ.next (o:Ord lt) {p:Array Nat}{k:Nat}(h:vJ lt p k) (hk:1<=k) (hl:Le lt (p.getD (k-1) 0) (p.getD k 0)):vJ lt p (k+1):=λ i j A3 hj=>by
 by_cases Dr:j<k
 .exact h i j A3 Dr
 .have e:j=k:=by lia
  subst e;by_cases hi:i=j
  .subst hi;exact o.refl _
  .exact o.tr _ _ _ (h i (j-1) (by lia) (by lia)) hl
def t_.next (o:Ord lt) {p:Array Nat}{k:Nat}(h:t_ lt p k) (hk:1<=k) (hl:Le lt (p.getD k 0) (p.getD (k-1) 0)):t_ lt p (k+1):=λ i j A3 hj=>by
 by_cases Dr:j<k
 .exact h i j A3 Dr
 .have e:j=k:=by lia
  subst e;by_cases hi:i=j
  .subst hi;exact o.refl _
  .exact o.tr _ _ _ hl (h i (j-1) (by lia) (by lia))
theorem dv (o:Ord lt) {p:Array Nat}(hp:xN n p):∀ (f a:Nat),1<=a->a+f<=n->vJ lt p a->
  yH n lt (kas_asc p f a) λ m=>a<=m/\m<=a+f/\vJ lt p m/\(m=a+f\/lt (p.getD m 0) (p.getD (m-1) 0)=true)
 | 0,a,_,_,hs=>⟨Ag _,Ag _,hs,.inl rfl⟩
 | f+1,a,h1,h2,hs=>by
  refine⟨hp.below (by lia),hp.below (by lia),?_⟩;cases c:lt (p.getD a 0) (p.getD (a-1) 0) with
  | true=>exact⟨Ag _,by lia,hs,.inr c⟩
  | false=>
   refine yH.mono ?_ (dv o hp f (a+1) (by lia) (by lia) (hs.next o h1 c));rintro m ⟨g1,g2,g3,g4⟩;exact⟨by lia,by lia,g3,g4.imp (λ e=>by lia) id⟩
def nX {p:Array Nat}(hp:xN n p) (i j:Nat):xN n (kas_rev p i j):=Array.Perm.trans (mirror_perm _ _ _ _) hp
def nY {p:Array Nat}(hp:xN n p) {i j:Nat}(hj:j<=n) (k:Nat):(kas_rev p i j).getD k 0=if i<=k/\k<j then p.getD (i+j-1-k) 0 else p.getD k 0:=by
 have e:=getElem?_mirror_all (xs:=p) (i:=i) (j:=j) (by rw[hp.size];exact hj) k;split
 .rename_i h;rw[if_pos h] at e;exact mH e
 .rename_i h;rw[if_neg h] at e;exact mH e
def rev_eq (o:Ord lt) {p:Array Nat}(hp:xN n p) {i j:Nat}(hj:j<=n) (he:∀ a b,i<=a->a<j->i<=b->b<j->Le lt (p.getD a 0) (p.getD b 0)) (k:Nat):
  Le lt ((kas_rev p i j).getD k 0) (p.getD k 0)/\Le lt (p.getD k 0) ((kas_rev p i j).getD k 0):=by
 rw[nY hp hj];split
 .rename_i h;exact⟨he _ _ (by lia) (by lia) h.1 h.2,he _ _ h.1 h.2 (by lia) (by lia)⟩
 .exact⟨o.refl _,o.refl _⟩
def t_.of_eq (o:Ord lt) {p q:Array Nat}{k:Nat}(h:t_ lt p k) (e:∀ k,Le lt (q.getD k 0) (p.getD k 0)/\Le lt (p.getD k 0) (q.getD k 0)):t_ lt q k:=λ i j A3 hj=>
 o.tr _ _ _ (e j).1 (o.tr _ _ _ (h i j A3 hj) (e i).2)
def cK (lt:Nat->Nat->Bool) (p:Array Nat) (m q:Nat):Prop:=∀ a b,m-(q+1)<=a->a<m->m-(q+1)<=b->b<m->Le lt (p.getD a 0) (p.getD b 0)
theorem j5 (o:Ord lt):∀ (f:Nat) (p:Array Nat) (m q:Nat),xN n p->1<=m->m+f<=n->t_ lt p m->q+1<=m->cK lt p m q->
  yH n lt (kas_desc f p m q) λ r=>xN n r.1/\m<=r.2.1/\r.2.1<=m+f/\t_ lt r.1 r.2.1/\r.2.2+1<=r.2.1/\cK lt r.1 r.2.1 r.2.2
 | 0,p,m,q,hp,_,_,hd,hq,hb=>⟨hp,Ag _,Ag _,hd,hq,hb⟩
 | f+1,p,m,q,hp,h1,h2,hd,hq,hb=>by
  have one:∀ p':Array Nat,cK lt p' (m+1) 0:=λ p' a b a1 a2 b1 b2=>by
   have:a=b:=by lia
   subst this;exact o.refl _
  refine⟨hp.below (by lia),hp.below (by lia),?_⟩;cases c:lt (p.getD m 0) (p.getD (m-1) 0) with
  | true=>
   dsimp only;rw[if_pos rfl];have hl:=o.as _ _ c;by_cases h0:q>0
   .rw[if_pos h0];have e:=rev_eq o hp (i:=m-(q+1)) (j:=m) (by lia) hb;have hp':=nX hp (m-(q+1)) m;refine yH.mono ?_ (j5 o f _ (m+1) 0 hp' (by lia) (by lia) ((hd.of_eq o e).next o h1 (o.tr _ _ _ (e m).1 (o.tr _ _ _ hl (e (m-1)).2))) (by lia) (one _));rintro r ⟨a1,a2,a3,a4⟩;exact⟨a1,by lia,by lia,a4⟩
   .rw[if_neg h0];refine yH.mono ?_ (j5 o f _ (m+1) 0 hp (by lia) (by lia) (hd.next o h1 hl) (by lia) (one _));rintro r ⟨a1,a2,a3,a4⟩;exact⟨a1,by lia,by lia,a4⟩
  | false=>
   dsimp only;rw[if_neg BC];refine⟨hp.below (by lia),hp.below (by lia),?_⟩;cases d:lt (p.getD (m-1) 0) (p.getD m 0) with
   | true=>exact⟨hp,Ag _,(by show m<=m+(f+1);lia),hd,hq,hb⟩
   | false=>
    dsimp only;rw[if_neg BC];refine yH.mono ?_ (j5 o f _ (m+1) (q+1) hp (by lia) (by lia) (hd.next o h1 d) (by lia) λ a b a1 a2 b1 b2=>?_)
    .rintro r ⟨a1,a2,a3,a4⟩;exact⟨a1,by lia,by lia,a4⟩
    .by_cases ha:a=m
     .by_cases hb':b=m
      .subst ha;subst hb';exact o.refl _
      .subst ha;exact o.tr _ _ _ d (hb (a-1) b (by lia) (by lia) (by lia) (by lia))
     .by_cases hb':b=m
      .subst hb';exact o.tr _ _ _ (hb a (b-1) (by lia) (by lia) (by lia) (by lia)) c
      .exact hb a b (by lia) (by lia) (by lia) (by lia)
def bZ (o:Ord lt) {p:Array Nat}{m:Nat}(hp:xN n p) (h1:1<=m) (h2:m<=n) (hd:t_ lt p m):yH n lt (kas_tail3 m n p) λ r=>xN n r.2/\r.1<=n/\vJ lt r.2 r.1:=by
 refine yH.bind (yH.mono ?_ (dv o (nX hp 0 m) (n-m) m h1 (by lia) λ i j A3 hj=>?_))
 .rintro k ⟨a1,a2,a3,_⟩;exact⟨nX hp 0 m,by lia,a3⟩
 .rw[nY hp h2,nY hp h2,if_pos ⟨AN _,by lia⟩,if_pos ⟨AN _,hj⟩];exact hd _ _ (by lia) (by lia)
def YY (o:Ord lt) {p:Array Nat}{m:Nat}(hp:xN n p) (h1:1<=m) (h2:m<n) (hd:t_ lt p m) (hl:lt (p.getD m 0) (p.getD (m-1) 0)=true):yH n lt (kas_descPart m n p) λ r=>xN n r.2/\r.1<=n/\vJ lt r.2 r.1:=by
 refine yH.bind (yH.mono ?_ (j5 o (n-(m+1)) p (m+1) 0 hp (by lia) (by lia) (hd.next o h1 (o.as _ _ hl)) (by lia) λ a b a1 a2 b1 b2=>?_))
 .rintro⟨p',m',q'⟩ ⟨a1,a2,a3,a4,a5,a6⟩;dsimp only at a1 a2 a3 a4 a5 a6 ⊢;by_cases h0:q'>0
  .rw[if_pos h0];exact bZ o (nX a1 _ _) (by lia) (by lia) (a4.of_eq o (rev_eq o a1 (i:=m'-(q' + 1)) (j:=m') (by lia) a6))
  .rw[if_neg h0];exact bZ o a1 (by lia) (by lia) a4
 .have:a=b:=by lia
  subst this;exact o.refl _
def Mk (o:Ord lt) {p:Array Nat}(hp:xN n p) (h1:1<=n):yH n lt (kas_count n p) λ r=>xN n r.2/\r.1<=n/\vJ lt r.2 r.1:=by
 refine yH.bind (yH.mono ?_ (dv o hp (n-1) 1 (Ag _) (by lia) λ i j A3 hj=>?_))
 .rintro m ⟨a1,a2,a3,a4⟩;by_cases hm:m=n
  .rw[if_pos (by simp[hm])];exact⟨hp,by lia,a3⟩
  .rw[if_neg (by simp[hm])];have hl:lt (p.getD m 0) (p.getD (m-1) 0)=true:=a4.resolve_left (by lia);by_cases h2:m>1
   .rw[if_pos h2];refine⟨hp.below (by lia),hp.below (by lia),?_⟩;cases c:lt (p.getD 0 0) (p.getD (m-1) 0) with
    | true=>exact⟨hp,by lia,a3⟩
    | false=>
     dsimp only;rw[if_neg BC];have all:∀ a b,0<=a->a<m->0<=b->b<m->Le lt (p.getD a 0) (p.getD b 0):=λ a b _ ha _ hb=>
      o.tr _ _ _ (a3 a (m-1) (by lia) (by lia)) (o.tr _ _ _ c (a3 0 b (by lia) hb))
     have e:=rev_eq o hp (i:=0) (j:=m) (by lia) all;refine YY o (nX hp 0 m) (by lia) (by lia) (λ i j A3 hj=>o.tr _ _ _ (e j).1 (o.tr _ _ _ (all _ _ (AN _) hj (AN _) (by lia)) (e i).2)) ?_;rw[nY hp (by lia),nY hp (by lia),if_neg (by lia),if_pos (by lia)];cases q:lt (p.getD m 0) (p.getD (0+m-1-(m-1)) 0) with
     | true=>rfl
     | false=>
      have:=o.tr _ _ _ (all (m-1) (0+m-1-(m-1)) (AN _) (by lia) (AN _) (by lia)) q;unfold Le at this;rw[this] at hl;cases hl
   .rw[if_neg h2];have e:m=1:=by lia
    subst e;refine YY o hp (Ag _) (by lia) (λ i j A3 hj=>?_) hl;have:i=j:=by lia
    subst this;exact o.refl _
 .have:i=j:=by lia
  subst this;exact o.refl _
theorem gR {p:Array Nat}{k:Nat}(hp:xN n p) (hk:k<n) (hs:vJ lt p k) (o:Ord lt):∀ (f l r:Nat),r-l<=f->l<=r->r<=k->(∀ i,i<l->Le lt (p.getD i 0) (p.getD k 0))->(∀ i,r<=i->i<k->lt (p.getD k 0) (p.getD i 0)=true)->
  yH n lt (kas_place p k f l r) λ m=>m<=k/\(∀ i,i<m->Le lt (p.getD i 0) (p.getD k 0))/\(∀ i,m<=i->i<k->lt (p.getD k 0) (p.getD i 0)=true)
 | 0,l,r,h0,h1,h2,ha,hb=>by
  have:l=r:=by lia
  subst this;exact⟨h2,ha,hb⟩
 | f+1,l,r,h0,h1,h2,ha,hb=>by
  unfold kas_place;by_cases Co:l≥r
  .rw[if_pos Co];have:l=r:=by lia
   subst this;exact⟨h2,ha,hb⟩
  .rw[if_neg Co];refine⟨hp.below hk,hp.below (by lia),?_⟩;cases c:lt (p.getD k 0) (p.getD ((l+r)/2) 0) with
   | true=>
    dsimp only;rw[if_pos rfl];refine gR hp hk hs o f l ((l+r)/2) (by lia) (by lia) (by lia) ha λ i hi DY=>?_;cases q:lt (p.getD k 0) (p.getD i 0) with
    | true=>rfl
    | false=>
     have:=o.tr _ _ _ (hs ((l+r)/2) i hi DY) q;unfold Le at this;rw[this] at c;cases c
   | false=>
    dsimp only;rw[if_neg BC];refine gR hp hk hs o f ((l+r)/2+1) r (by lia) (by lia) h2 (λ i hi=>?_) hb;exact o.tr _ _ _ (hs i ((l+r)/2) (by lia) (by lia)) c
theorem XH (o:Ord lt):∀ (f:Nat) (p:Array Nat) (k:Nat),xN n p->k+f=n->vJ lt p k->yH n lt (kas_bin f p k) λ r=>xN n r/\vJ lt r n
 | 0,p,k,hp,h1,hs=>by
  have:k=n:=by lia
  subst this;exact⟨hp,hs⟩
 | f+1,p,k,hp,h1,hs=>by
  refine yH.bind (yH.mono ?_ (gR hp (by lia) hs o k 0 k (by lia) (AN _) (Ag _) (λ i hi=>absurd hi (Nat.not_lt_zero _)) λ i hi DY=>absurd DY (by lia)));rintro l ⟨a1,a2,a3⟩;refine XH o f _ (k+1) (Array.Perm.trans (bubble_perm _ _ _) hp) (by lia) λ i j A3 hj=>?_;have ev:∀ x,(bubble p k (k-l)).getD x 0=if x=l then p.getD k 0 else if l<x/\x<=k then p.getD (x-1) 0 else p.getD x 0:=λ x=>by
   have e:=getElem?_bubble (xs:=p) (src:=k) (by rw[hp.size];lia) (k-l) (by lia) x;rw[show k-(k-l)=l by lia] at e;split
   .rename_i h;rw[if_pos h] at e;exact mH e
   .rename_i h;rw[if_neg h] at e;split
    .rename_i h';rw[if_pos h'] at e;exact mH e
    .rename_i h';rw[if_neg h'] at e;exact mH e
  rw[ev i,ev j];by_cases hi:i=l
  .rw[if_pos hi];by_cases hj':j=l
   .rw[if_pos hj'];exact o.refl _
   .rw[if_neg hj',if_pos ⟨by lia,by lia⟩];exact o.as _ _ (a3 (j-1) (by lia) (by lia))
  .rw[if_neg hi];by_cases hj':j=l
   .rw[if_pos hj',if_neg (by lia)];exact a2 i (by lia)
   .rw[if_neg hj'];by_cases hi2:l<i/\i<=k
    .rw[if_pos hi2,if_pos ⟨by lia,by lia⟩];exact hs _ _ (by lia) (by lia)
    .rw[if_neg hi2];by_cases hj2:l<j/\j<=k
     .rw[if_pos hj2];exact hs _ _ (by lia) (by lia)
     .rw[if_neg hj2];exact hs _ _ A3 (by lia)
def VU (o:Ord lt) (h1:1<=n):yH n lt (kas_sort n) λ r=>xN n r/\vJ lt r n:=by
 have hp:xN n (List.range n).toArray:=Array.Perm.refl _;refine yH.bind (yH.mono ?_ (Mk o hp h1));rintro⟨m,p⟩ ⟨a1,a2,a3⟩;dsimp only at a1 a2 a3 ⊢;by_cases hm:m<n
 .rw[if_pos hm];refine XH o _ p (max m 1) a1 (by lia) ?_;by_cases h0:m=0
  .subst h0;intro i j A3 hj;have:i=j:=by lia
   subst this;exact o.refl _
  .rw[show max m 1=m by lia];exact a3
 .rw[if_neg hm];have:m=n:=by lia
  subst this;exact⟨a1,a3⟩
end
end L4
namespace L4
open PySem PySem.W PySem.Calls PyProof.Rows
section
variable {prog:Program}{w:World}{A:Around}{E:Value->Shared->Prop}{s:Shared}
def Core (prog:Program) (w:World) (A:Around) (E:Value->Shared->Prop) (vs:List Value) (Out:Array Value->Prop) (s6:Shared):Prop:=
 wpAny (model prog w) A (keyKind' vs.toArray) (fun κ s'=>s'=s6/\wpAny (model prog w) A ((sortRuns').run (SortSt.mk' κ (vs.toArray.zip vs.toArray) #[] 7 none))
  (λ r s''=>s''=s6/\failedOf r.2=none/\Out ((arrOf r.2).map (·.2))/\(arrOf r.2).size=vs.length) E s') E s6
def fK {a:Addr}{vs:List Value}{n:Nat}{P:PySem.Fin->Shared->Prop}{Out:Array Value->Prop}(ho:s.heap.get? a=some (seqObj "list" vs.toArray n)) (hz:vs.length<=sizeLine)
  (core:2<=vs.length->∀ s6:Shared,(∀ b o,b≠a->s.heap.get? b=some o->s6.heap.get? b=some o)->Core prog w A E vs Out s6) (short:vs.length<2->Out vs.toArray)
  (fin:∀ out:Array Value,Out out->out.size=vs.length->P (.done (.ret .none)) { s with heap:=sortedHeap s.heap a vs out }):
  wpAny (model prog w) A (Builtin.«list.sort» ⟨[.ref a],[]⟩) P E s:=by
 have ha:a<s.heap.objs.size:=Ao ho;obtain⟨e1,g1⟩:∃ e1,(s.heap.update a (Obj.mapSeq λ _=>#[])).get? a=some (seqObj "list" #[] e1):=⟨_,get?_update_seq ho (λ _=>#[])⟩
 have hz':vs.toArray.size<=sizeLine:=by rw[Aq];exact hz
 have g6:(((s.heap.update a (Obj.mapSeq λ _=>#[])).push (seqObj "tuple" vs.toArray 0)).push (seqObj "list" #[] 0)).get? a=some (seqObj "list" #[] e1):=An _ (An _ g1);have keep:∀ b o,b≠a->s.heap.get? b=some o->(((s.heap.update a (Obj.mapSeq λ _=>#[])).push (seqObj "tuple" vs.toArray 0)).push (seqObj "list" #[] 0)).get? b=some o:=
  λ b o hb e=>An _ (An _ (by rw[Heap.get?_update_ne _ _ _ _ hb];exact e))
 rw[list_sort_plain];refine Ab (listItems_at ho rfl (Ab (listUpdate_at ho rfl (Ab (seqEpoch_at g1 rfl (Ab (wpAny_newTuple (Ab (wpAny_newList (wpAny_holding ?_))) (by simpa using hz))))) hz' (AN _))));by_cases h2:vs.toArray.size<2
 .rw[if_pos h2,if_pos h2];have e2:(arrOf (SortSt.mk' general' (vs.toArray.zip vs.toArray) #[] 7 none)).map (·.2)=vs.toArray:=by
   show (vs.toArray.zip vs.toArray).map (·.2)=vs.toArray;apply Array.ext (by simp);intro i h1 h2;simp
  refine Ab (Ac ?_);dsimp only;rw[StateT.run_pure];refine Ab (Ac ?_);dsimp only;refine Ab (seqEpoch_at g6 rfl (Ab (listUpdate_at g6 rfl ?_ (AN _) ?_)))
  .simp only[bne_self_eq_false,Ba,if_false];have q:=fin _ (e2▸short (by simpa using h2)) (by rw[e2];simp);exact Ac q
  .show (((arrOf (SortSt.mk' general' (vs.toArray.zip vs.toArray) #[] 7 none)).map (·.2))).size<=sizeLine+1;rw[e2];lia
 .rw[if_neg h2,if_neg h2];have h2':2<=vs.length:=by simpa using h2
  refine Ab (wpAny_mono (core h2' _ keep) (fun κ s7 ⟨hs,h7⟩=>?_) λ _ _ z=>z);subst hs;refine Ab (wpAny_mono h7 (λ r s8 ⟨hs,hf,Et,hsz⟩=>?_) λ _ _ z=>z);subst hs;obtain⟨⟨⟩,st⟩:=r;refine Ab (seqEpoch_at g6 rfl (Ab (listUpdate_at g6 rfl ?_ (AN _) ?_)))
  .have hf':failedOf st=none:=hf;rw[hf'];simp only[bne_self_eq_false,Ba,if_false];exact Ac (fin _ Et (by rw[C_];exact hsz))
  .show ((arrOf st).map (·.2)).size<=sizeLine+1;rw[C_];have:(arrOf st).size=vs.length:=hsz;lia
def VT {l:Addr}{vs:List Value}{Q:Value->Shared->Prop}{Out:Array Value->Prop}(hl:s.heap.IsList l vs.toArray) (hz:vs.length<=sizeLine)
  (core:2<=vs.length->∀ s6:Shared,(∀ b o,s.heap.get? b=some o->s6.heap.get? b=some o)->Core prog w A.in1.in1 E vs Out s6) (short:vs.length<2->Out vs.toArray)
  (fin:∀ out:Array Value,Out out->out.size=vs.length->Q (.ref (s.heap.objs.size+1)) { s with heap:=sortedAll s.heap vs out }):
  wpAny (model prog w) A (call (.builtin "sorted") [.ref l]) Q E s:=by
 have hsz:((s.heap.push (seqObj "list" #[] 0)).update s.heap.objs.size (Obj.mapSeq (·++vs.toArray))).objs.size=s.heap.objs.size+1:=by
  rw[Heap.size_update,size_push']
 have hoL:(((s.heap.push (seqObj "list" #[] 0)).update s.heap.objs.size (Obj.mapSeq (·++vs.toArray))).push (seqObj "list" vs.toArray 0)).get? (s.heap.objs.size+1)=some (seqObj "list" vs.toArray 0):=hsz▸AF _ rfl;have keep:∀ b o,s.heap.get? b=some o->(((s.heap.push (seqObj "list" #[] 0)).update s.heap.objs.size (Obj.mapSeq (·++vs.toArray))).push (seqObj "list" vs.toArray 0)).get? b=some o:=λ b o q=>
  An _ (by rw[Heap.get?_update_ne _ _ _ _ (Ax (Ao q))];exact An _ q)
 refine Calls.call_function_entry kind_sorted plain_sorted entry_sorted (args_sorted1 _) ?_;unfold Builtin.«sorted»;refine Ab (m:=checkCount "sorted" 1 1 _) (Ac (Ab (collect_list hl (Ab (wpAny_newList ?_ hz)) hz)));show wpAny _ _ _ _ _ { s with heap:=((s.heap.push (seqObj "list" #[] 0)).update s.heap.objs.size (Obj.mapSeq (·++vs.toArray))).push (seqObj "list" vs.toArray 0) };rw[hsz];refine Ab (wpAny_holding (wpAny_call_entry slot_list_sort ⟨_,hoL,rfl⟩ entry_list_sort (fK hoL hz (λ h2 s6 k=>core h2 s6 λ b o q=>k b o ?_ (keep b o q)) short λ out h1 h2=>⟨_,rfl,?_⟩) (args_list_sort _)))
 .exact Ax (Bv (Ao q))
 .exact Ac ⟨_,rfl,fin out h1 h2⟩
end
end L4
namespace L4
open PySem PySem.W PySem.Calls PyProof.Rows L2
theorem fN:∀ a b:List Int,HT.lexLt a b=true->HT.lexLt b a=false
 | [],[],h=>by cases h
 | [],_::_,_=>rfl
 | _::_,[],h=>by cases h
 | x::a,y::b,h=>by
  rw[HT.rR] at h ⊢;by_cases e:x=y
  .subst e;rw[if_pos rfl] at h ⊢;exact fN a b h
  .rw[if_neg e] at h;rw[if_neg (Ne.symm e)];have:=of_decide_eq_true h;exact decide_eq_false (by lia)
theorem ZW:∀ a b:List Int,HT.lexLt a b=false->HT.lexLt b a=false->a=b
 | [],[],_,_=>rfl
 | [],_::_,h,_=>by cases h
 | _::_,[],_,h=>by cases h
 | x::a,y::b,h,h'=>by
  rw[HT.rR] at h h';by_cases e:x=y
  .subst e;rw[if_pos rfl] at h h';rw[ZW a b h h']
  .rw[if_neg e] at h;rw[if_neg (Ne.symm e)] at h';have h1:=of_decide_eq_false h;have h2:=of_decide_eq_false h';lia
theorem fM:∀ a b c:List Int,HT.lexLt b a=false->HT.lexLt c b=false->HT.lexLt c a=false
 | [],[],[],_,_=>rfl
 | [],[],_::_,_,h=>h
 | [],_::_,[],_,h=>by cases h
 | [],_::_,_::_,_,_=>rfl
 | _::_,[],_,h,_=>by cases h
 | _::_,_::_,[],_,h=>by cases h
 | x::a,y::b,z::c,h,h'=>by
  rw[HT.rR] at h h' ⊢;by_cases e1:y=x
  .subst e1;rw[if_pos rfl] at h;by_cases e2:z=y
   .subst e2;rw[if_pos rfl] at h' ⊢;exact fM a b c h h'
   .rw[if_neg e2] at h' ⊢;exact h'
  .rw[if_neg e1] at h;have h1:=of_decide_eq_false h;by_cases e2:z=y
   .subst e2;rw[if_neg e1];exact h
   .rw[if_neg e2] at h';have h2:=of_decide_eq_false h';rw[if_neg (by lia)];exact decide_eq_false (by lia)
theorem gY {α:Type}{r:α->α->Prop}(an:∀ a b,r a b->r b a->a=b):∀ {l₁ l₂:List α},l₁.Perm l₂->l₁.Pairwise r->l₂.Pairwise r->l₁=l₂
 | [],l₂,h,_,_=>(List.nil_perm.mp h).symm
 | a::l₁,[],h,_,_=>absurd (List.perm_nil.mp h) (by simp)
 | a::l₁,b::l₂,h,h1,h2=>by
  have C1:a=b:=by
   have ha:a∈b::l₂:=h.mem_iff.mp Am;have hb:b∈a::l₁:=h.mem_iff.mpr Am;rcases Ah.mp ha with e | ha
   .exact e
   .rcases Ah.mp hb with e | hb
    .exact e.symm
    .exact an _ _ (List.rel_of_pairwise_cons h1 hb) (List.rel_of_pairwise_cons h2 ha)
  subst C1;rw[gY an (List.Perm.cons_inv h) (Bp.mp h1).2 (Bp.mp h2).2]
def wg (rows:List (List Int)):List (List Int):=rows.mergeSort λ a b=>!HT.lexLt b a
def uO (rows:List (List Int)):(wg rows).Perm rows:=List.mergeSort_perm _ _
def iC (rows:List (List Int)):(wg rows).Pairwise λ a b=>HT.lexLt b a=false:=by
 have:=List.pairwise_mergeSort (le:=λ a b:List Int=>!HT.lexLt b a) (λ a b c h1 h2=>by simp at h1 h2 ⊢;exact fM a b c h1 h2)
  (λ a b=>by
   cases h:HT.lexLt b a with
   | false=>simp
   | true=>simp[fN b a h]) rows
 exact this.imp λ h=>by simpa using h
def ag {rows out:List (List Int)}(hp:out.Perm rows) (hs:out.Pairwise λ a b=>HT.lexLt b a=false):out=wg rows:=
 gY (λ a b h1 h2=>ZW a b h2 h1) (hp.trans (uO rows).symm) hs (iC rows)
def nW (rows:List (List Int)) (i j:Nat):Bool:=HT.lexLt (rows.getD i []) (rows.getD j [])
def U7 (rows:List (List Int)):Ord (nW rows):=⟨λ _ _ _ h1 h2=>fM _ _ _ h1 h2,λ _ _ h=>fN _ _ h⟩
section
variable {prog:Program}{w:World}{A:Around}{E:Value->Shared->Prop}{s:Shared}{Q:Bool->Shared->Prop}
theorem Yg {b:Bool}:∀ (ns ms:List Int) (us ws:List Value) (i:Nat),IntsAre us ns->IntsAre ws ms->Q (HT.lexLt ns ms) s->KatLex prog w A b (decide (ns.length<ms.length)) Q (us.zip ws) i s
 | [],[],_,_,_,.nil,.nil,h=>kat_nil (by simpa [HT.lexLt] using h)
 | [],_::_,_,_,_,.nil,.cons _ _ _,h=>kat_nil (by simpa [HT.lexLt] using h)
 | _::_,[],_,_,_,.cons _ _ _,.nil,h=>kat_nil (by simpa [HT.lexLt] using h)
 | n::ns,m::ms,_,_,i,.cons _ t hu,.cons _ u hw,h=>by
  rw[HT.rR] at h;refine kat_cons (SeqAt.EqAt.int_int n t m u prog w _ _ (kat_go (λ e=>kat_yes ?_) λ e=>kat_no ?_))
  .have e':n=m:=by simpa using e
   rw[if_pos e'] at h;rw[show decide ((n::ns).length<(m::ms).length)=decide (ns.length<ms.length) by simp];exact Yg ns ms _ _ (i+1) hu hw h
  .have e':¬ n=m:=by simpa using e
   rw[if_neg e'] at h;cases b&&i == 0 with
   | true=>exact kat_lt_int h
   | false=>exact kat_one _ _ (lt_int h)
def ra (h:Heap):List Value->List (List Int)->Prop:=Paired λ v r=>r≠[]/\∃ b o its n,v=.ref b/\h.get? b=some o/\o.cls=.type "tuple"/\o.data=.seq its n/\IntsAre its.toList r
theorem ra.YF {h:Heap}:∀ {vs:List Value}{rows:List (List Int)},ra h vs rows->∃ fs,KatTups h vs fs/\fs.length=vs.length/\∀ v∈fs,∃ n t,v=Value.int n t
 | _,_,.nil=>⟨[],KatTups.nil,rfl,λ _ hv=>absurd hv (by simp)⟩
 | _,_,.cons ⟨Ai,b,o,its,n,hv,ho,hc,hd,hi⟩ r=>by
  obtain⟨fs,h1,h2,h3⟩:=ra.YF r;subst hv;obtain⟨its⟩:=its;cases hi with
  | nil=>exact absurd rfl Ai
  | cons k t _=>exact⟨.int k t::fs,KatTups.cons ho hc hd rfl h1,by simp[h2],λ v hv=>(Ah.mp hv).elim (λ e=>⟨k,t,e⟩) (h3 v)⟩
theorem Paired.at' {α β:Type}{F:α->β->Prop}:∀ {l₁:List α}{l₂:List β}{i:Nat},Paired F l₁ l₂->i<l₁.length->∀ (d:α) (e:β),F (l₁.getD i d) (l₂.getD i e)
 | _,_,_,.nil,h,_,_=>absurd h (by simp)
 | _,_,0,.cons r _,_,_,_=>r
 | _,_,i+1,.cons _ t,h,d,e=>by simpa using Paired.at' (i:=i) t (by simpa using h) d e
def ra.ask {vs:List Value}{rows:List (List Int)}{b:Bool}(r:ra s.heap vs rows) {i j:Nat}(hi:i<vs.length) (hj:j<vs.length) {C:Bool->Shared->Prop}(h:C (nW rows i j) s):kas_ask prog w A (tuples' b) vs i j C s:=by
 obtain⟨_,b1,o1,its1,n1,e1,g1,_,d1,q1⟩:=Paired.at' r hi Value.none [];obtain⟨_,b2,o2,its2,n2,e2,g2,_,d2,q2⟩:=Paired.at' r hj Value.none [];unfold kas_ask;rw[e1,e2];refine kat_lt g1 d1 g2 d2 ?_;have l1:=q1.length;have l2:=q2.length;rw[Bo] at l1 l2;rw[l1,l2];exact Yg _ _ _ _ 0 q1 q2 h
theorem bF {α:Type}{n:Nat}{lt:Nat->Nat->Bool}{cmp:Nat->Nat->(Bool->Shared->Prop)->Shared->Prop}{Q:α->Shared->Prop}(hc:∀ i j C,i<n->j<n->C (lt i j) s->cmp i j C s):∀ {t:KasT α},yH n lt t (λ a=>Q a s)->t.kasWp cmp Q s
 | .ret _,h=>h
 | .ask i j _,h=>hc i j _ h.1 h.2.1 (bF hc h.2.2)
def lE (vs:List Value) (rows:List (List Int)) (out:Array Value):Prop:=
 ∃ idx:List Nat,idx.Perm (List.range vs.length)/\out.toList=idx.map (λ i=>vs.getD i Value.none)/\(idx.map λ i=>rows.getD i []).Pairwise λ a b=>HT.lexLt b a=false
def VQ {rows:List (List Int)}{p:Array Nat}{n:Nat}(hn:p.size=n) (h:vJ (nW rows) p n):(p.toList.map λ i=>rows.getD i []).Pairwise λ a b=>HT.lexLt b a=false:=by
 rw[Cf,Cu];intro i j hi hj A3;have:=h i j (BE A3) (by rw[<- hn];simpa using hj);simp only[Bo] at hi hj;unfold Le nW at this;simpa [DP,hi,hj] using this
def eV {vs:List Value}{rows:List (List Int)}(r:ra s.heap vs rows) (h2:2<=vs.length) (h64:vs.length<64):Core prog w A E vs (lE vs rows) s:=by
 obtain⟨fs,t,hl,hf⟩:=r.YF;unfold Core;refine kat_kind (T:=.type "int") t (by lia) (λ v hv=>?_) rfl ⟨rfl,?_⟩
 .obtain⟨n,t,rfl⟩:=hf v hv;exact Looks.of_pure rfl
 .refine kat_run (ks:=vs) (Q:=λ st s''=>s''=s/\failedOf st=none/\lE vs rows ((arrOf st).map (·.2))/\(arrOf st).size=vs.length) (G:=λ p s''=>s''=s/\xN vs.length p/\vJ (nW rows) p vs.length) rfl h2 h64 (λ p st s' hs ha EI hg=>?_) ?_
  .obtain⟨h1,h3,h4⟩:=hg;refine⟨h1,EI,⟨p.toList,?_,?_,VQ hs h4⟩,by rw[ha,C_];exact hs⟩
   .have:=Array.Perm.toList h3;simpa using this
   .rw[kat_snds rfl ha]
  .exact bF (λ i j C hi hj hC=>r.ask hi hj hC) (yH.mono (λ p hp=>⟨rfl,hp⟩) (VU (U7 rows) (by lia)))
end
section
variable {X:Cx}
def M3:yU X (.builtin "sorted") (λ xs H Q=>∃ p ys,∃ rows:List (List Int),xs=[.ref p]/\zZ X.K H p ys/\Paired (λ v r=>r≠[]/\∃ b,v=V.ref b/\ye X.K H b (r.map V.int)) ys rows/\rows.length<64/\
  ∀ (l:Addr) (idx:List Nat),H l=none->idx.Perm (List.range ys.length)->(idx.map λ i=>rows.getD i []).Pairwise (λ a b=>HT.lexLt b a=false)->Q (.ref l) (upd H l (.lst (idx.map λ i=>ys.getD i .zh)))):=by
 intro pins s B H xs us Q I r h;obtain⟨p,ys,rows,rfl,hq,hr,h64,q⟩:=h;obtain⟨u,rfl,ru⟩:=vals1 r;cases ru;obtain⟨its,rv,pl,hz⟩:=I.list hq;have hl:=rv.length;have Co:ys.length=rows.length:=Paired.length hr;have rows_at:∀ h6:Heap,(∀ b o,s.heap.get? b=some o->h6.get? b=some o)->ra h6 its rows:=λ h6 k=>by
  clear q hz hl Co h64 hq pl r
  induction hr generalizing its with
  | nil=>cases rv;exact .nil
  | cons g t ih=>
   cases rv with
   | cons r1 r2=>
    refine .cons ?_ (ih _ r2);obtain⟨Ai,b,rfl,hb⟩:=g;cases r1;obtain⟨its2,rv2,⟨o,e,hc,n,hd⟩,_⟩:=I.tuple hb;exact⟨Ai,b,o,_,n,rfl,k _ _ e,hc,hd,by simpa using intsAre_of rv2⟩
 refine VT (Out:=lE its rows) pl.isList (by rw[<- hl];exact hz) (λ h2 s6 k=>eV (rows_at _ k) h2 (by lia)) (λ h1=>?_) λ out ho hs=>?_
 .refine⟨List.range its.length,.refl _,?_,?_⟩
  .refine BB (by simp) λ i h1 h2=>?_;simp at h1;simp[h1]
  .rw[Cf,Cu];intro i j hi hj A3;simp at hi hj;lia
 .obtain⟨idx,g1,g2,g3⟩:=ho;obtain⟨e,ho⟩:=sortedAll_at s.heap its out;have A1:H (s.heap.objs.size+1)=none:=I.zC.fresh (C9 _);have g1':idx.Perm (List.range ys.length):=by rw[hl];exact g1
  refine⟨.ref (s.heap.objs.size+1),_,I.laid (t':=s.toks) (o:=.lst (idx.map λ i=>ys.getD i .zh)) (λ b o q=>sortedAll_old q) (C9 _) ?_,rfl,q _ idx A1 g1' g3⟩;refine⟨by rw[Az,g1'.length_eq,Bz];exact hz,out.toList,e,?_,by simpa using ho⟩;rw[g2];have Al:∀ i∈idx,i<ys.length:=λ i hi=>by simpa using g1'.mem_iff.mp hi
  clear g1 g1' g2 g3 q
  induction idx with
  | nil=>exact .nil
  | cons i idx ih=>
   refine .cons ?_ (ih λ j hj=>Al j (Av _ hj));have hi:=Al i Am;obtain⟨u,e1,e2⟩:=rv.get (i:=i) (x:=ys[i]) (by simp[hi]);have e3:its.getD i Value.none=u:=by simp[e1]
   have e4:ys.getD i .zh=ys[i]:=by simp[hi]
   show RelV (ys.getD i .zh) (its.getD i Value.none);rw[e3,e4];exact e2
end
end L4
namespace L2
open PySem PySem.Spec PyProof.Rows
noncomputable def vY (ty T:String):Bool:=ty == T||(ty == "bool"&&T == "int")
def kh (ty T:String):Bool:=PySem.W.kitMeta T&&decide ((fastBuiltinMro ty).map (λ l=>l.contains (Value.type T))=some (vY ty T))
def Vh:(["NoneType","bool","int","str","tuple","list","dict"].all λ ty=>["int","bool","tuple","list","str"].all λ T=>kh ty T)=true:=by decide +kernel
def Oz {K:Ad}{ty T:String}(h:kh ty T=true):PySem.W.kitOne K (.type ty) (.type T)=some (vY ty T):=by
 unfold kh at h;rw[BP] at h;unfold PySem.W.kitOne;split
 .rename_i e;have e':ty=T:=by have:=eq_of_beq e;injection this
  subst e';simp[vY]
 .show (if PySem.W.kitMeta T=true then PySem.W.subIn K (.type ty) (.type T) else none)=_;rw[if_pos h.1];exact of_decide_eq_true h.2
noncomputable def XS (K:Ad) (H:Hp):V->String->Prop
 | .zh,t=>t="NoneType"
 | .bl _,t=>t="bool"
 | .int _,t=>t="int"
 | .str _,t=>t="str"
 | .ref a,t=>(t="tuple"/\∃ xs,ye K H a xs)\/(t="list"/\∃ xs,zZ K H a xs)\/(t="dict"/\∃ Aa,H a=some (.dK Aa))
 | _,_=>False
def MH {X:Cx}:yU X (.builtin "isinstance") (λ xs H Q=>∃ x T ty,xs=[x,.ty T]/\XS X.K H x ty/\kh ty T=true/\Q (.bl (vY ty T)) H):=by
 intro pins s B H xs us Q I r h;obtain⟨x,T,ty,rfl,hx,hT,q⟩:=h;obtain⟨u,c,rfl,ru,rc⟩:=vals2 r;cases (show c=Value.type T from rc);have e:PySem.W.kitOne X.K (.type ty) (.type T)=some (vY ty T):=Oz hT;have fin:∀ tk,EP X pins B Q (.bool (vY ty T)) { s with toks:=tk }:=λ tk=>⟨.bl _,H,I.tok tk,rfl,q⟩;cases x with
 | zh=>cases (show u=Value.none from ru);cases (show ty=_ from hx);exact PySem.W.kia_one PySem.W.kitx_none I.vW True.intro e (λ z=>nomatch z) fin
 | bl y=>cases (show u=Value.bool y from ru);cases (show ty=_ from hx);exact PySem.W.kia_one PySem.W.kitx_bool I.vW True.intro e (λ z=>nomatch z) fin
 | int i=>obtain⟨t,rfl⟩:=(show ∃ t,u=Value.int i t from ru);cases (show ty=_ from hx);exact PySem.W.kia_one PySem.W.kitx_int I.vW True.intro e (λ z=>nomatch z) fin
 | str y=>obtain⟨t,rfl⟩:=(show ∃ t,u=Value.str y t from ru);cases (show ty=_ from hx);exact PySem.W.kia_one PySem.W.kitx_str I.vW True.intro e (λ z=>nomatch z) fin
 | ref a=>
  cases (show u=Value.ref a from ru);rcases hx with ⟨rfl,ys,hq⟩ | ⟨rfl,ys,hq⟩ | ⟨rfl,Aa,hq⟩
  .obtain⟨its,_,⟨o,h1,h2,_⟩,_⟩:=I.tuple hq;exact PySem.W.kia_one PySem.W.kitx_tuple I.vW ⟨o,h1,h2⟩ e (λ z=>nomatch z) fin
  .obtain⟨its,_,⟨o,n,h1,h2,_⟩,_⟩:=I.list hq;exact PySem.W.kia_one PySem.W.kitx_list I.vW ⟨o,h1,h2⟩ e (λ z=>nomatch z) fin
  .obtain⟨_,_,vs,_,p⟩:=(show x8 X.prog X.w H s.heap a (.dK Aa) from I.zC a _ hq)
   obtain⟨o,es,ep,h1,h2,_⟩:=p;exact PySem.W.kia_one PySem.W.kitx_dict I.vW ⟨o,h1,h2.1⟩ e (λ z=>nomatch z) fin
 | oP _=>exact hx.elim
 | jt _=>exact hx.elim
 | ty _=>exact hx.elim
end L2
namespace L3
open PySem PySem.Spec L2
open PyProof.Rows hiding St
section
variable {X:Cx}{K:Ad}{a b c e:Expr}{es:List Expr}{ta tb tc te:zA}{tA:yD}{pos p q:Pos}
def vt (hm:X.mg "len"=none) (ha:wb X (e::es) tA) (hg:Gl X "len":=by rfl) (he:starEach (e::es) X.env=(false,eval e X.env)::starEach es X.env:=by rfl) (Au:(backTo pos (starEach es X.env)).any (·.1)=false:=by rfl):PD X (.Call (.Name "len" p) (e::es) [] pos) (xZ uA tA):=
 t8 (sE (ME.or MD) hg hm PySem.boot_len ha.pa (by decide) (by decide) he Au) uA.mo uA.fits ha.mo
def kT (hm:X.mg "list"=none) (ha:wb X (e::es) tA) (hg:Gl X "list":=by rfl) (he:starEach (e::es) X.env=(false,eval e X.env)::starEach es X.env:=by rfl) (Au:(backTo pos (starEach es X.env)).any (·.1)=false:=by rfl):PD X (.Call (.Name "list" p) (e::es) [] pos) (xZ u9 tA):=
 t8 (pX MB hg hm PyProof.Rows.boot_list ha.pa (by decide) (by decide) he Au) u9.mo u9.fits ha.mo
def oa (hm:X.mg "tuple"=none) (ha:wb X (e::es) tA) (hg:Gl X "tuple":=by rfl) (he:starEach (e::es) X.env=(false,eval e X.env)::starEach es X.env:=by rfl) (Au:(backTo pos (starEach es X.env)).any (·.1)=false:=by rfl):PD X (.Call (.Name "tuple" p) (e::es) [] pos) (xZ u7 tA):=
 t8 (pX My hg hm PyProof.Rows.boot_tuple ha.pa (by decide) (by decide) he Au) u7.mo u7.fits ha.mo
abbrev YI:wa:=v_ λ i j=>.int (if j>i then j else i)
abbrev YH:wa:=v_ λ i j=>.int (if j<i then j else i)
def oh (hm:X.mg "max"=none) (ha:wb X (e::es) tA) (hc:X.calm=true:=by rfl) (hg:Gl X "max":=by rfl) (he:starEach (e::es) X.env=(false,eval e X.env)::starEach es X.env:=by rfl) (Au:(backTo pos (starEach es X.env)).any (·.1)=false:=by rfl):PD X (.Call (.Name "max" p) (e::es) [] pos) (xZ YI tA):=
 t8 (sE (MA hc) hg hm boot_max ha.pa (by decide) (by decide) he Au) v_.mo (v_.fits λ _ _ _=>by simp only[zk]) ha.mo
def sL (hm:X.mg "min"=none) (ha:wb X (e::es) tA) (hc:X.calm=true:=by rfl) (hg:Gl X "min":=by rfl) (he:starEach (e::es) X.env=(false,eval e X.env)::starEach es X.env:=by rfl) (Au:(backTo pos (starEach es X.env)).any (·.1)=false:=by rfl):PD X (.Call (.Name "min" p) (e::es) [] pos) (xZ YH tA):=
 t8 (sE (M9 hc) hg hm boot_min ha.pa (by decide) (by decide) he Au) v_.mo (v_.fits λ _ _ _=>by simp only[zk]) ha.mo
noncomputable def wG (r:List Int):D:=.tup (r.map D.int)
theorem nV {H:Hp}:∀ {rows:List (List Int)}{ys:List V},zq K H (rows.map wG) ys->(∀ r∈rows,r≠[])->Paired (λ v r=>r≠[]/\∃ b,v=V.ref b/\ye K H b (r.map V.int)) ys rows
 | [],ys,h,_=>by simp only[A9,zq] at h;subst h;exact .nil
 | r::rows,ys,h,hn=>by
  rw[Ar] at h;simp only[zq,wG,zk] at h;obtain⟨x,ys',rfl,⟨a,xs,rfl,g1,g2⟩,h3⟩:=h;rw[g2.ints] at g1;exact .cons ⟨hn r Am,a,rfl,g1⟩ (nV h3 λ r' hr=>hn r' (Av _ hr))
def ZR {α:Type}{rows:List α}{d:α}{idx:List Nat}(h:idx.Perm (List.range rows.length)):(idx.map λ i=>rows.getD i d).Perm rows:=by
 refine (h.map _).trans ?_;have:(List.range rows.length).map (λ i=>rows.getD i d)=rows:=by
  refine BB (by simp) λ i h1 h2=>?_;simp[h2]
 rw[this]
theorem zq.perm {H:Hp}{rows:List (List Int)}{ys:List V}(h:zq K H (rows.map wG) ys):∀ {idx:List Nat},(∀ i∈idx,i<rows.length)->zq K H ((idx.map λ i=>rows.getD i []).map wG) (idx.map λ i=>ys.getD i .zh)
 | [],_=>.nil
 | i::idx,hi=>by
  have h1:=hi i Am;obtain⟨x,e1,e2⟩:=h.get (i:=i) (d:=wG rows[i]) (by simp[h1]);refine .cons ?_ (zq.perm h λ j hj=>hi j (Av _ hj));have e3:ys.getD i .zh=x:=by simp[e1]
  have e4:rows.getD i []=rows[i]:=by simp[h1]
  show zk K H (wG (rows.getD i [])) (ys.getD i .zh);rw[e3,e4];exact e2
def p_ {tg:Expr}(hm:X.mg "range"=none) (ha:wb X [a] tA) (hg:Gl X "range":=by rfl) (hs:starEach [a] X.env=[(false,eval a X.env)]:=by rfl):qk X tg (.Call (.Name "range" p) [a] [] pos) (fR tA):=S7 (Tu hg hm ha.pa hs) ha.mo
noncomputable def rE (d:D) (S:SS):Option String:=match d with
 | .zh=>some "NoneType"
 | .bl _=>some "bool"
 | .int _=>some "int"
 | .str _=>some "str"
 | .tup _=>some "tuple"
 | .yW _=>some "list"
 | .ref p=>match S p with
  | some (.lst _)=>some "list"
  | some (.yr _)=>some "dict"
  | none=>none
def mW (T:String) (te:zA):zA:=fun Y S Q=>te Y S λ x S1=>match rE x S1 with
 | some ty=>Q (.bl (vY ty T)) S1
 | none=>False
def rE.ok {H:Hp}{d:D}{v:V}{S:SS}{ty:String}(r:zk K H d v) (p:zT K H S) (h:rE d S=some ty):XS K H v ty/\ty∈["NoneType","bool","int","str","tuple","list","dict"]:=by
 cases d with
 | zh=>simp only[zk] at r;subst r;cases h;exact⟨rfl,by simp⟩
 | bl _=>simp only[zk] at r;subst r;cases h;exact⟨rfl,by simp⟩
 | int _=>simp only[zk] at r;subst r;cases h;exact⟨rfl,by simp⟩
 | str _=>simp only[zk] at r;subst r;cases h;exact⟨rfl,by simp⟩
 | tup ds=>
  simp only[zk] at r;obtain⟨a,xs,rfl,g1,_⟩:=r;cases h;exact⟨.inl ⟨rfl,xs,g1⟩,by simp⟩
 | yW ds=>
  simp only[zk] at r;obtain⟨a,xs,rfl,g1,_⟩:=r;cases h;exact⟨.inr (.inl ⟨rfl,xs,g1.sq⟩),by simp⟩
 | ref a=>
  simp only[zk] at r;subst r;unfold rE at h;dsimp only at h;split at h
  .rename_i e;cases h;obtain⟨xs,g1,_⟩:=p _ _ e;exact⟨.inr (.inl ⟨rfl,xs,zZ.of g1⟩),by simp⟩
  .rename_i e;cases h;obtain⟨xs,g1,_⟩:=p _ _ e;exact⟨.inr (.inr ⟨rfl,xs,g1⟩),by simp⟩
  .cases h
def fh {T:String}{x:Str}(hT:T∈["int","bool","tuple","list","str"]) (hm:X.mg "isinstance"=none) (hm2:X.mg x=none) (hv:bootBuiltins x=some (.type T)) (hg2:Gl X x) (hn:x≠"__name__") (hd:(x == ("__debug__":Str))=false) (he:PD X e te) (hg:Gl X "isinstance":=by rfl)
  (h1:starEach (e::[.Name x q]) X.env=(false,eval e X.env)::starEach [.Name x q] X.env:=by rfl) (h2:(backTo pos (starEach [.Name x q] X.env)).any (·.1)=false:=by rfl) (h3:starEach [.Name x q] X.env=(false,eval (.Name x q) X.env)::starEach [] X.env:=by rfl):
  PD X (.Call (.Name "isinstance" p) [e,.Name x q] [] pos) (mW T te):=by
 refine⟨fun Y S Q Q' hq z=>he.mo Y S _ _ (λ y S1 z=>?_) z,PE.imp (sE MH hg hm boot_isinstance (qJ he.pe (qJ (Sg (v:=.ty T) hg2 hm2 hv rfl hn hd) om h3) h1) (by decide) (by decide) h1 h2) fun B H Q hu=>?_⟩
 .split at z
  .exact hq _ _ z
  .exact z
 .obtain⟨Y,S,r1,r2,z⟩:=hu;refine zV.go he.mo r1 r2 z λ y S1 v H1 z1 q1 e1 p1=>?_;split at z1
  .rename_i ty ht;obtain⟨g1,g2⟩:=rE.ok q1 p1 ht;refine⟨v,T,ty,rfl,g1,?_,z1 _ H1 (by simp only[zk]) e1 p1⟩;exact BD.mp (BD.mp Vh ty g2) T hT
  .exact z1.elim
def Zr (T:Bt X.mg) (he:PD X e te) (hg:Gl X "isinstance":=by rfl) (hg2:Gl X "bool":=by rfl) (h1:starEach (e::[.Name "bool" q]) X.env=(false,eval e X.env)::starEach [.Name "bool" q] X.env:=by rfl) (h2:(backTo pos (starEach [.Name "bool" q] X.env)).any (·.1)=false:=by rfl) (h3:starEach [.Name "bool" q] X.env=(false,eval (.Name "bool" q) X.env)::starEach [] X.env:=by rfl):
  PD X (.Call (.Name "isinstance" p) [e,.Name "bool" q] [] pos) (mW "bool" te):=fh (by simp) T.isinstance T.bool PyProof.Rows.boot_bool hg2 (by decide) (by decide) he hg h1 h2 h3
def Zq (T:Bt X.mg) (he:PD X e te) (hg:Gl X "isinstance":=by rfl) (hg2:Gl X "int":=by rfl) (h1:starEach (e::[.Name "int" q]) X.env=(false,eval e X.env)::starEach [.Name "int" q] X.env:=by rfl) (h2:(backTo pos (starEach [.Name "int" q] X.env)).any (·.1)=false:=by rfl) (h3:starEach [.Name "int" q] X.env=(false,eval (.Name "int" q) X.env)::starEach [] X.env:=by rfl):
  PD X (.Call (.Name "isinstance" p) [e,.Name "int" q] [] pos) (mW "int" te):=fh (by simp) T.isinstance T.int PyProof.Rows.boot_int hg2 (by decide) (by decide) he hg h1 h2 h3
def Zp (T:Bt X.mg) (he:PD X e te) (hg:Gl X "isinstance":=by rfl) (hg2:Gl X "tuple":=by rfl) (h1:starEach (e::[.Name "tuple" q]) X.env=(false,eval e X.env)::starEach [.Name "tuple" q] X.env:=by rfl) (h2:(backTo pos (starEach [.Name "tuple" q] X.env)).any (·.1)=false:=by rfl) (h3:starEach [.Name "tuple" q] X.env=(false,eval (.Name "tuple" q) X.env)::starEach [] X.env:=by rfl):
  PD X (.Call (.Name "isinstance" p) [e,.Name "tuple" q] [] pos) (mW "tuple" te):=fh (by simp) T.isinstance T.tuple PyProof.Rows.boot_tuple hg2 (by decide) (by decide) he hg h1 h2 h3
def sM {o:Expr}{to:zA}{apos Ak:Pos}(ho:PD X o to) (he:PD X e te)
  (hbase:attributeBase o "append" X.env (eval o X.env)=eval o X.env:=by rfl)
  (AJ:((backTo Ak (starEach [e] X.env)).all (λ x=>!x.1)&&(backToKw Ak (keywordEach [] X.env)).all (λ x=>x.1.isSome)
   && decide ([e].length+([]:List Keyword).length+(if ([]:List Keyword).isEmpty then 0 else 1)<30))=true:=by rfl)
  (hline:(apos.endLine == Ak.line)=true:=by rfl) (hs:starEach [e] X.env=(false,eval e X.env)::starEach [] X.env:=by rfl) (hplain:(backTo Ak (starEach [] X.env)).any (·.1)=false:=by rfl):
  PD X (.Call (.Attribute o "append" apos) [e] [] Ak) (qb to te):=
 SV (o:=o) (e:=e) (Zj PySem.F.plainAttrs_list PySem.F.slot_list_append PySem.F.type_list_append ZQ ho.pe (qJ he.pe om hs) hbase AJ hline hs hplain) ho.mo he.mo
structure FD (P:Program) (w:World) (K:Ad) (mg:Str->Option Value) (base:Heap) (x:Str) (k:Nat) (ps:List Str) (sp:qh):Prop where
 ex:∃ (f:Addr) (fd:FuncData),uM P w K mg base vP k f fd ps (se K sp)/\mg x=some (.ref f)/\PySem.W.keepIn K (.ref f)=true/\Binds K fd ps []
 mo:dF sp
def zG {x:Str}{k:Nat}{ps:List Str}{sp:qh}(F:FD X.prog X.w X.K X.mg X.base x k ps sp) (hr:yI k X.A) (ha:wb X (e::es) tA) (hg:Gl X x:=by rfl) (CI:(x == ("__debug__":Str))=false:=by decide)
  (he:starEach (e::es) X.env=(false,eval e X.env)::starEach es X.env:=by rfl) (Au:(backTo pos (starEach es X.env)).any (·.1)=false:=by rfl):PD X (.Call (.Name x p) (e::es) [] pos) (eU sp tA):=by
 obtain⟨⟨f,fd,h1,h2,h3,h4⟩,hm⟩:=F;exact SU (E:=E0) (Sf h1 hr hg h2 h3 h4 .nil SY ha.pa CI he Au) hm ha.mo
end
section
variable {P:Program}{w:World}{K:Ad}{mg:Str->Option Value}{base:Heap}{f:Addr}{fd:FuncData}
end
def N6 {S:SS}{p:Addr}{ds:List D}{Q:DK}(e:S p=some (.lst ds)) (h:Q (.tup ds) S):u7 [.ref p] S Q:=by
 unfold u7;dsimp only;rw[e];exact h
def N7 {S:SS}{d:D}{ds:List D}{Q:DK}(e:zU d S=some ds) (h:∀ p,S p=none->Q (.ref p) (ups S p (.lst ds))):u9 [d] S Q:=by
 unfold u9;dsimp only;rw[e];exact h
def N8 {S:SS}{d:D}{ds:List D}{Q:DK}(e:zU d S=some ds) (h:Q (.int ds.length) S):uA [d] S Q:=by
 unfold uA;dsimp only;rw[e];exact h
def Vo {S:SS}{p:Addr}{ds:List D}{Q:Bool->SS->Prop}(e:S p=some (.lst ds)) (h:Q (!ds.isEmpty) S):vR (.ref p) S Q:=by
 unfold vR;dsimp only;rw[e];exact h
def NB {S:SS}{p:Addr}{ds:List D}{i:Int}{d:D}{Q:DK}(e:S p=some (.lst ds)) (e2:L2.zY ds i=some d) (h:Q d S):wY (.ref p) (.int i) S Q:=by
 unfold wY;dsimp only;rw[e];dsimp only;rw[e2];exact h
def N9 {S:SS}{ds:List D}{i:Int}{d:D}{Q:DK}(e2:L2.zY ds i=some d) (h:Q d S):wY (.tup ds) (.int i) S Q:=by
 unfold wY;dsimp only;rw[e2];exact h
def NA {S:SS}{ds:List D}{i:Int}{d:D}{Q:DK}(e2:L2.zY ds i=some d) (h:Q d S):wY (.yW ds) (.int i) S Q:=by
 unfold wY;dsimp only;rw[e2];exact h
inductive T where
 | zh | bl (b:Bool) | int (i:Int) | str (x:Str) | tup (ts:List T) | lst (ts:List T) | yd
mutual
noncomputable def eqT:T->T->Bool
 | .zh,.zh=>true
 | .bl a,.bl b=>a == b
 | .bl a,.int b=>(if a then 1 else 0) == b
 | .int a,.bl b=>a == (if b then 1 else 0)
 | .int a,.int b=>a == b
 | .str a,.str b=>a == b
 | .tup a,.tup b=>wy a b
 | .lst a,.lst b=>wy a b
 | .yd,.yd=>true
 | _,_=>false
noncomputable def wy:List T->List T->Bool
 | [],[]=>true
 | a::as,b::bs=>eqT a b&&wy as bs
 | _,_=>false
end
mutual
noncomputable def dep:T->Nat
 | .tup ts=>1+yM ts
 | .lst ts=>1+yM ts
 | .yd=>cLine
 | _=>0
noncomputable def yM:List T->Nat
 | []=>0
 | t::ts=>max (dep t) (yM ts)
end
noncomputable def fq:List T->Bool
 | []=>true
 | .int _::ts=>fq ts
 | _=>false
def Rv (ns:List Int):fq (ns.map T.int)=true:=by
 induction ns with
 | nil=>rfl
 | cons n ns ih=>exact ih
mutual
noncomputable def Sn (S:SS):T->D->Prop
 | .zh,d=>d=.zh
 | .bl b,d=>d=.bl b
 | .int i,d=>d=.int i
 | .str x,d=>d=.str x
 | .tup ts,d=>∃ ds,d=.tup ds/\zp S ts ds
 | .lst ts,d=>∃ ds,((d=.yW ds/\fq ts=true)\/∃ a,d=.ref a/\S a=some (.lst ds))/\zp S ts ds
 | .yd,d=>∃ a Aa,d=.ref a/\S a=some (.yr Aa)
noncomputable def zp (S:SS):List T->List D->Prop
 | [],ds=>ds=[]
 | t::ts,ds=>∃ c cs,ds=c::cs/\Sn S t c/\zp S ts cs
end
mutual
theorem eK:∀ t:T,eqT t t=true
 | .zh=>by simp[eqT]
 | .bl b=>by simp[eqT]
 | .int i=>by simp[eqT]
 | .str x=>by simp[eqT]
 | .tup ts=>by simp only[eqT];exact eJ ts
 | .lst ts=>by simp only[eqT];exact eJ ts
 | .yd=>by simp[eqT]
theorem eJ:∀ ts:List T,wy ts ts=true
 | []=>by simp[wy]
 | t::ts=>by simp only[wy,eK t,eJ ts,DN]
end
theorem tK:∀ ts us:List T,wy ts us=((List.range (min ts.length us.length)).all (λ j=>eqT (ts.getD j .zh) (us.getD j .zh))&&ts.length == us.length)
 | [],[]=>by simp[wy]
 | [],_::_=>by simp[wy]
 | _::_,[]=>by simp[wy]
 | t::ts,u::us=>by
  simp only[wy,tK ts us,AY];rw[show min (ts.length+1) (us.length+1)=min ts.length us.length+1 by lia,C8,List.all_cons,List.all_map];have:(ts.length+1 == us.length+1)=(ts.length == us.length):=by rw[A6];simp
  rw[this,Bool.and_assoc];rfl
theorem zp.length {S:SS}:∀ {ts:List T}{ds:List D},zp S ts ds->ts.length=ds.length
 | [],ds,h=>by simp only[zp] at h;subst h;rfl
 | t::ts,ds,h=>by
  simp only[zp] at h;obtain⟨c,cs,rfl,_,h2⟩:=h;simp[zp.length h2]
section
variable {X:Cx}{pins:List (Addr×Obj)}{B:St}{H:Hp}{s:Shared}{S:SS}
def Yp (I:Inv X pins B H s) {a:Addr}{xs ys:List V}(h1:ye X.K H a xs) (h2:zZ X.K H a ys):False:=by
 obtain⟨_,_,⟨o,e,c,_⟩,_⟩:=I.tuple h1;obtain⟨_,_,⟨o',n,e',c',_⟩,_⟩:=I.list h2;rw[e] at e';cases e';rw[c] at c'
 injection c' with q
 exact absurd q (by decide)
def Sn.xh (p:zT X.K H S) {ts:List T}{d:D}{x:V}(h:Sn S (.lst ts) d) (r:zk X.K H d x):∃ a xs ds,x=.ref a/\zZ X.K H a xs/\zq X.K H ds xs/\zp S ts ds:=by
 simp only[Sn] at h;obtain⟨ds,⟨h,_⟩ | ⟨a,h,e⟩,h2⟩:=h
 .subst h;simp only[zk] at r;obtain⟨a,xs,rfl,g1,g2⟩:=r;exact⟨a,xs,ds,rfl,g1.sq,g2,h2⟩
 .subst h;simp only[zk] at r;obtain⟨xs,g1,g2⟩:=p _ _ e;exact⟨a,xs,ds,r,zZ.of g1,g2,h2⟩
def Sn.xf {ts:List T}{d:D}{x:V}(h:Sn S (.tup ts) d) (r:zk X.K H d x):∃ a xs ds,x=.ref a/\ye X.K H a xs/\zq X.K H ds xs/\zp S ts ds:=by
 simp only[Sn] at h;obtain⟨ds,rfl,h2⟩:=h;simp only[zk] at r;obtain⟨a,xs,rfl,g1,g2⟩:=r;exact⟨a,xs,ds,rfl,g1,g2,h2⟩
def Sn.qU (p:zT X.K H S) {d:D}{x:V}(h:Sn S .yd d) (r:zk X.K H d x):∃ a vs,x=.ref a/\H a=some (.dK vs):=by
 simp only[Sn] at h;obtain⟨a,Aa,rfl,e⟩:=h;simp only[zk] at r;obtain⟨xs,g1,g2⟩:=p _ _ e;exact⟨a,xs,r,g1⟩
def Yt (I:Inv X pins B H s) {a:Addr}{vs:List (Key×V)}(h:H a=some (.dK vs)):∃ o,s.heap.get? a=some o/\o.cls=.type "dict":=by
 obtain⟨_,_,_,_,o,_,_,e,c⟩:=(show x8 X.prog X.w H s.heap a (.dK vs) from I.zC a _ h)
 exact⟨o,e,c.1.1⟩
def Yq (I:Inv X pins B H s) {a:Addr}{xs:List V}{vs:List (Key×V)}(h1:ye X.K H a xs) (h2:H a=some (.dK vs)):False:=by
 obtain⟨_,_,⟨o,e,c,_⟩,_⟩:=I.tuple h1;obtain⟨o',e',c'⟩:=Yt I h2;rw[e] at e';cases e';rw[c] at c'
 injection c' with q
 exact absurd q (by decide)
def Ys (I:Inv X pins B H s) {a:Addr}{xs:List V}{vs:List (Key×V)}(h1:zZ X.K H a xs) (h2:H a=some (.dK vs)):False:=by
 obtain⟨_,_,⟨o,n,e,c,_⟩,_⟩:=I.list h1;obtain⟨o',e',c'⟩:=Yt I h2;rw[e] at e';cases e';rw[c] at c'
 injection c' with q
 exact absurd q (by decide)
theorem Sn.flat {t:T}{d:D}{x:V}(h:Sn S t d) (r:zk X.K H d x):match t with
  | .zh=>x=.zh
  | .bl b=>x=.bl b
  | .int i=>x=.int i
  | .str y=>x=.str y
  | _=>True:=by
 cases t <;> first
  | trivial
  | (simp only[Sn] at h;subst h;simpa only [zk] using r)
mutual
theorem kg (I:Inv X pins B H s) (p:zT X.K H S):∀ (t u:T) {d e:D}{x:V},Sn S t d->Sn S u e->zk X.K H d x->zk X.K H e x->t=u
 | .tup ts,u,d,e,x,h1,h2,r1,r2=>by
  obtain⟨a,xs,ds,rfl,g1,g2,g3⟩:=h1.xf r1;cases u with
  | yd=>obtain⟨_,_,q,g⟩:=h2.qU p r2;cases q;exact (Yq I g1 g).elim
  | tup us=>
   obtain⟨a',xs',ds',q,k1,k2,k3⟩:=h2.xf r2;cases q;have:=I.ir g1 k1;subst this;rw[iq I p ts us g3 k3 g2 k2]
  | lst us=>
   obtain⟨a',xs',ds',q,k1,k2,k3⟩:=h2.xh p r2;cases q;exact (Yp I g1 k1).elim
  | zh=>exact nomatch h2.flat r2
  | bl _=>exact nomatch h2.flat r2
  | int _=>exact nomatch h2.flat r2
  | str _=>exact nomatch h2.flat r2
 | .lst ts,u,d,e,x,h1,h2,r1,r2=>by
  obtain⟨a,xs,ds,rfl,g1,g2,g3⟩:=h1.xh p r1;cases u with
  | yd=>obtain⟨_,_,q,g⟩:=h2.qU p r2;cases q;exact (Ys I g1 g).elim
  | lst us=>
   obtain⟨a',xs',ds',q,k1,k2,k3⟩:=h2.xh p r2;cases q;have:=I.fL g1 k1;subst this;rw[iq I p ts us g3 k3 g2 k2]
  | tup us=>
   obtain⟨a',xs',ds',q,k1,k2,k3⟩:=h2.xf r2;cases q;exact (Yp I k1 g1).elim
  | zh=>exact nomatch h2.flat r2
  | bl _=>exact nomatch h2.flat r2
  | int _=>exact nomatch h2.flat r2
  | str _=>exact nomatch h2.flat r2
 | .zh,u,d,e,x,h1,h2,r1,r2=>by
  have q:=h1.flat r1;subst q;cases u with
  | yd=>obtain⟨_,_,q,g⟩:=h2.qU p r2;cases q
  | zh=>rfl
  | tup us=>obtain⟨_,_,_,q,_⟩:=h2.xf r2;cases q
  | lst us=>obtain⟨_,_,_,q,_⟩:=h2.xh p r2;cases q
  | bl _=>exact nomatch h2.flat r2
  | int _=>exact nomatch h2.flat r2
  | str _=>exact nomatch h2.flat r2
 | .bl b,u,d,e,x,h1,h2,r1,r2=>by
  have q:=h1.flat r1;subst q;cases u with
  | yd=>obtain⟨_,_,q,g⟩:=h2.qU p r2;cases q
  | bl _=>have q:=h2.flat r2;cases q;rfl
  | tup us=>obtain⟨_,_,_,q,_⟩:=h2.xf r2;cases q
  | lst us=>obtain⟨_,_,_,q,_⟩:=h2.xh p r2;cases q
  | zh=>exact nomatch h2.flat r2
  | int _=>exact nomatch h2.flat r2
  | str _=>exact nomatch h2.flat r2
 | .int b,u,d,e,x,h1,h2,r1,r2=>by
  have q:=h1.flat r1;subst q;cases u with
  | yd=>obtain⟨_,_,q,g⟩:=h2.qU p r2;cases q
  | int _=>have q:=h2.flat r2;cases q;rfl
  | tup us=>obtain⟨_,_,_,q,_⟩:=h2.xf r2;cases q
  | lst us=>obtain⟨_,_,_,q,_⟩:=h2.xh p r2;cases q
  | zh=>exact nomatch h2.flat r2
  | bl _=>exact nomatch h2.flat r2
  | str _=>exact nomatch h2.flat r2
 | .str b,u,d,e,x,h1,h2,r1,r2=>by
  have q:=h1.flat r1;subst q;cases u with
  | yd=>obtain⟨_,_,q,g⟩:=h2.qU p r2;cases q
  | str _=>have q:=h2.flat r2;cases q;rfl
  | tup us=>obtain⟨_,_,_,q,_⟩:=h2.xf r2;cases q
  | lst us=>obtain⟨_,_,_,q,_⟩:=h2.xh p r2;cases q
  | zh=>exact nomatch h2.flat r2
  | bl _=>exact nomatch h2.flat r2
  | int _=>exact nomatch h2.flat r2
 | .yd,u,d,e,x,h1,h2,r1,r2=>by
  obtain⟨a,vs,rfl,g⟩:=h1.qU p r1;cases u with
  | yd=>rfl
  | tup us=>obtain⟨_,_,_,q,g1,_⟩:=h2.xf r2;cases q;exact (Yq I g1 g).elim
  | lst us=>obtain⟨_,_,_,q,g1,_⟩:=h2.xh p r2;cases q;exact (Ys I g1 g).elim
  | zh=>exact nomatch h2.flat r2
  | bl _=>exact nomatch h2.flat r2
  | int _=>exact nomatch h2.flat r2
  | str _=>exact nomatch h2.flat r2
theorem iq (I:Inv X pins B H s) (p:zT X.K H S):∀ (ts us:List T) {ds es:List D}{xs:List V},zp S ts ds->zp S us es->zq X.K H ds xs->zq X.K H es xs->ts=us
 | [],us,ds,es,xs,h1,h2,r1,r2=>by
  have e:=h1.length.trans (r1.length.trans (r2.length.symm.trans h2.length.symm));cases us with
  | nil=>rfl
  | cons _ _=>simp at e
 | t::ts,[],ds,es,xs,h1,h2,r1,r2=>by
  have e:=h1.length.trans (r1.length.trans (r2.length.symm.trans h2.length.symm));simp at e
 | t::ts,u::us,ds,es,xs,h1,h2,r1,r2=>by
  simp only[zp] at h1 h2;obtain⟨c,cs,rfl,a1,a2⟩:=h1;obtain⟨c',cs',rfl,b1,b2⟩:=h2;simp only[zq] at r1 r2;obtain⟨y,ys,rfl,g1,g2⟩:=r1;obtain⟨y',ys',q,k1,k2⟩:=r2;cases q;rw[kg I p t u a1 b1 g1 k1,iq I p ts us a2 b2 g2 k2]
end
def zp.get {ts:List T}{ds:List D}(h:zp S ts ds):∀ {j:Nat},j<ts.length->∃ c,ds[j]?=some c/\Sn S (ts.getD j .zh) c:=by
 induction ts generalizing ds with
 | nil=>intro j hj;simp at hj
 | cons t ts ih=>
  intro j hj;simp only[zp] at h;obtain⟨c,cs,rfl,h1,h2⟩:=h;cases j with
  | zero=>exact⟨c,rfl,h1⟩
  | succ j=>
   obtain⟨c',e,h3⟩:=ih h2 (j:=j) (by simpa using hj);exact⟨c',by simpa using e,by simpa using h3⟩
theorem YZ:∀ {ts:List T}{j:Nat},j<ts.length->dep (ts.getD j .zh)<=yM ts
 | [],j,h=>by simp at h
 | t::ts,0,_=>by simp only[yM,List.getD_cons_zero];lia
 | t::ts,j+1,h=>by
  have:=YZ (ts:=ts) (j:=j) (by simpa using h);simp only[yM,List.getD_cons_succ];lia
mutual
theorem YM (I:Inv X pins B H s) (p:zT X.K H S):∀ (t u:T) {A:Around}{d e:D}{x y:V}{a b:Value},A.units+dep t<cLine->A.units+dep u<cLine->Sn S t d->Sn S u e->zk X.K H d x->zk X.K H e y->RelV x a->RelV y b->SeqAt.EqAt A s a b (eqT t u)
 | .zh,u,A,d,e,x,y,a,b,hu,hu',h1,h2,r1,r2,v1,v2=>by
  have q:=h1.flat r1;subst q;cases v1;cases u with
  | yd=>simp only[dep] at hu';lia
  | zh=>have q:=h2.flat r2;subst q;cases v2;simp only[eqT];exact SeqAt.EqAt.same _
  | bl b=>have q:=h2.flat r2;subst q;cases v2;simp only[eqT];exact SeqAt.EqAt.none_bool _
  | int i=>have q:=h2.flat r2;subst q;obtain⟨t,rfl⟩:=v2;simp only[eqT];exact SeqAt.EqAt.none_int _ _
  | str i=>have q:=h2.flat r2;subst q;obtain⟨t,rfl⟩:=v2;simp only[eqT];exact SeqAt.EqAt.none_str _ _
  | tup us=>obtain⟨a',xs',ds',rfl,k1,k2,k3⟩:=h2.xf r2;cases v2;obtain⟨_,_,pt,_⟩:=I.tuple k1;simp only[eqT];exact SeqAt.EqAt.none_tuple pt (by lia)
  | lst us=>obtain⟨a',xs',ds',rfl,k1,k2,k3⟩:=h2.xh p r2;cases v2;obtain⟨_,_,pl,_⟩:=I.list k1;simp only[eqT];exact SeqAt.EqAt.none_list pl.isList (by lia)
 | .bl c,u,A,d,e,x,y,a,b,hu,hu',h1,h2,r1,r2,v1,v2=>by
  have q:=h1.flat r1;subst q;cases v1;cases u with
  | yd=>simp only[dep] at hu';lia
  | zh=>have q:=h2.flat r2;subst q;cases v2;simp only[eqT];exact SeqAt.EqAt.bool_none _
  | bl b=>have q:=h2.flat r2;subst q;cases v2;simp only[eqT];exact SeqAt.EqAt.bool_bool _ _
  | int i=>have q:=h2.flat r2;subst q;obtain⟨t,rfl⟩:=v2;simp only[eqT];exact SeqAt.EqAt.bool_int _ _ _
  | str i=>have q:=h2.flat r2;subst q;obtain⟨t,rfl⟩:=v2;simp only[eqT];exact SeqAt.EqAt.bool_str _ _ _
  | tup us=>obtain⟨a',xs',ds',rfl,k1,k2,k3⟩:=h2.xf r2;cases v2;obtain⟨_,_,pt,_⟩:=I.tuple k1;simp only[eqT];exact SeqAt.EqAt.bool_tuple _ pt (by lia)
  | lst us=>obtain⟨a',xs',ds',rfl,k1,k2,k3⟩:=h2.xh p r2;cases v2;obtain⟨_,_,pl,_⟩:=I.list k1;simp only[eqT];exact SeqAt.EqAt.bool_list _ pl.isList (by lia)
 | .int c,u,A,d,e,x,y,a,b,hu,hu',h1,h2,r1,r2,v1,v2=>by
  have q:=h1.flat r1;subst q;obtain⟨tk,rfl⟩:=v1;cases u with
  | yd=>simp only[dep] at hu';lia
  | zh=>have q:=h2.flat r2;subst q;cases v2;simp only[eqT];exact SeqAt.EqAt.int_none _ _
  | bl b=>have q:=h2.flat r2;subst q;cases v2;simp only[eqT];exact SeqAt.EqAt.int_bool _ _ _
  | int i=>have q:=h2.flat r2;subst q;obtain⟨t,rfl⟩:=v2;simp only[eqT];exact SeqAt.EqAt.int_int _ _ _ _
  | str i=>have q:=h2.flat r2;subst q;obtain⟨t,rfl⟩:=v2;simp only[eqT];exact SeqAt.EqAt.int_str _ _ _ _
  | tup us=>obtain⟨a',xs',ds',rfl,k1,k2,k3⟩:=h2.xf r2;cases v2;obtain⟨_,_,pt,_⟩:=I.tuple k1;simp only[eqT];exact SeqAt.EqAt.int_tuple _ _ pt (by lia)
  | lst us=>obtain⟨a',xs',ds',rfl,k1,k2,k3⟩:=h2.xh p r2;cases v2;obtain⟨_,_,pl,_⟩:=I.list k1;simp only[eqT];exact SeqAt.EqAt.int_list _ _ pl.isList (by lia)
 | .str c,u,A,d,e,x,y,a,b,hu,hu',h1,h2,r1,r2,v1,v2=>by
  have q:=h1.flat r1;subst q;obtain⟨tk,rfl⟩:=v1;cases u with
  | yd=>simp only[dep] at hu';lia
  | zh=>have q:=h2.flat r2;subst q;cases v2;simp only[eqT];exact SeqAt.EqAt.str_none _ _
  | bl b=>have q:=h2.flat r2;subst q;cases v2;simp only[eqT];exact SeqAt.EqAt.str_bool _ _ _
  | int i=>have q:=h2.flat r2;subst q;obtain⟨t,rfl⟩:=v2;simp only[eqT];exact SeqAt.EqAt.str_int _ _ _ _
  | str i=>have q:=h2.flat r2;subst q;obtain⟨t,rfl⟩:=v2;simp only[eqT];exact SeqAt.EqAt.str_str _ _ _ _
  | tup us=>obtain⟨a',xs',ds',rfl,k1,k2,k3⟩:=h2.xf r2;cases v2;obtain⟨_,_,pt,_⟩:=I.tuple k1;simp only[eqT];exact SeqAt.EqAt.str_tuple _ _ pt (by lia)
  | lst us=>obtain⟨a',xs',ds',rfl,k1,k2,k3⟩:=h2.xh p r2;cases v2;obtain⟨_,_,pl,_⟩:=I.list k1;simp only[eqT];exact SeqAt.EqAt.str_list _ _ pl.isList (by lia)
 | .tup ts,u,A,d,e,x,y,a,b,hu,hu',h1,h2,r1,r2,v1,v2=>by
  have hd1:=h1;have hr1:=r1;obtain⟨l,xs,ds,rfl,g1,g2,g3⟩:=h1.xf r1;cases v1;obtain⟨its,w1,pt,_⟩:=I.tuple g1;simp only[dep] at hu;cases u with
  | yd=>simp only[dep] at hu';lia
  | zh=>have q:=h2.flat r2;subst q;cases v2;simp only[eqT];exact SeqAt.EqAt.tuple_none pt (by lia)
  | bl b=>have q:=h2.flat r2;subst q;cases v2;simp only[eqT];exact SeqAt.EqAt.tuple_bool _ pt (by lia)
  | int i=>have q:=h2.flat r2;subst q;obtain⟨t,rfl⟩:=v2;simp only[eqT];exact SeqAt.EqAt.tuple_int _ _ pt (by lia)
  | str i=>have q:=h2.flat r2;subst q;obtain⟨t,rfl⟩:=v2;simp only[eqT];exact SeqAt.EqAt.tuple_str _ _ pt (by lia)
  | tup us=>
   by_cases BQ:(Value.ref l)=b
   .subst BQ;have hy:y=.ref l:=RelV.inj v2 rfl;subst hy;have:=kg I p (.tup ts) (.tup us) hd1 h2 hr1 r2;rw[<- this,eK];exact SeqAt.EqAt.same _
   .obtain⟨l',xs',ds',rfl,k1,k2,k3⟩:=h2.xf r2;cases v2;obtain⟨Ae,w2,pt',_⟩:=I.tuple k1;simp only[dep] at hu';have e1:its.toArray.size=ts.length:=by rw[Aq,<- w1.length,<- g2.length,<- g3.length]
    have e2:Ae.toArray.size=us.length:=by rw[Aq,<- w2.length,<- k2.length,<- k3.length]
    have q:=SeqAt.RcAt.tuples (A:=A) (e:=λ j=>eqT (ts.getD j .zh) (us.getD j .zh)) pt pt' (by lia) λ j h1 h2=>by
     have:=qS I p ts us (A:=A.in1) (by show A.units+1+yM ts<cLine;lia) (by show A.units+1+yM us<cLine;lia) g3 k3 g2 k2 w1 w2 j (by simpa using h1) (by simpa using h2);simpa using this
    rw[e1,e2] at q;have q':=SeqAt.EqAt.of_refs (λ z=>BQ (by rw[z])) q;simp only[eqT,tK];exact q'
  | lst us=>obtain⟨l',xs',ds',rfl,k1,k2,k3⟩:=h2.xh p r2;cases v2;obtain⟨_,_,pl,_⟩:=I.list k1;simp only[eqT];exact SeqAt.EqAt.tuple_list pt pl.isList (by lia)
 | .lst ts,u,A,d,e,x,y,a,b,hu,hu',h1,h2,r1,r2,v1,v2=>by
  have hd1:=h1;have hr1:=r1;obtain⟨l,xs,ds,rfl,g1,g2,g3⟩:=h1.xh p r1;cases v1;obtain⟨its,w1,pl,_⟩:=I.list g1;simp only[dep] at hu;cases u with
  | yd=>simp only[dep] at hu';lia
  | zh=>have q:=h2.flat r2;subst q;cases v2;simp only[eqT];exact SeqAt.EqAt.list_none pl.isList (by lia)
  | bl b=>have q:=h2.flat r2;subst q;cases v2;simp only[eqT];exact SeqAt.EqAt.list_bool _ pl.isList (by lia)
  | int i=>have q:=h2.flat r2;subst q;obtain⟨t,rfl⟩:=v2;simp only[eqT];exact SeqAt.EqAt.list_int _ _ pl.isList (by lia)
  | str i=>have q:=h2.flat r2;subst q;obtain⟨t,rfl⟩:=v2;simp only[eqT];exact SeqAt.EqAt.list_str _ _ pl.isList (by lia)
  | tup us=>obtain⟨l',xs',ds',rfl,k1,k2,k3⟩:=h2.xf r2;cases v2;obtain⟨_,_,pt,_⟩:=I.tuple k1;simp only[eqT];exact SeqAt.EqAt.list_tuple pl.isList pt (by lia)
  | lst us=>
   by_cases BQ:(Value.ref l)=b
   .subst BQ;have hy:y=.ref l:=RelV.inj v2 rfl;subst hy;have:=kg I p (.lst ts) (.lst us) hd1 h2 hr1 r2;rw[<- this,eK];exact SeqAt.EqAt.same _
   .obtain⟨l',xs',ds',rfl,k1,k2,k3⟩:=h2.xh p r2;cases v2;obtain⟨Ae,w2,pl',_⟩:=I.list k1;simp only[dep] at hu';have e1:its.toArray.size=ts.length:=by rw[Aq,<- w1.length,<- g2.length,<- g3.length]
    have e2:Ae.toArray.size=us.length:=by rw[Aq,<- w2.length,<- k2.length,<- k3.length]
    have Ai:l≠l':=λ z=>BQ (by rw[z]);by_cases hsz:ts.length=us.length
    .have q:=SeqAt.RcAt.lists (A:=A) (e:=λ j=>eqT (ts.getD j .zh) (us.getD j .zh)) pl.isList pl'.isList (by rw[e1,e2];exact hsz) (by lia) λ j h1 h2=>by
      have:=qS I p ts us (A:=A.in1) (by show A.units+1+yM ts<cLine;lia) (by show A.units+1+yM us<cLine;lia) g3 k3 g2 k2 w1 w2 j (by simpa using h1) (by simpa using h2);simpa using this
     rw[e1] at q;have q':=SeqAt.EqAt.of_refs Ai q;simp only[eqT,tK];rw[<- hsz,Nat.min_self];simpa using q'
    .have q:=SeqAt.RcAt.lists_lengths (A:=A) pl.isList pl'.isList (by rw[e1,e2];simpa using hsz) (by lia);have q':=SeqAt.EqAt.of_refs Ai q;simp only[eqT,tK];have:(ts.length == us.length)=false:=by simpa using hsz
     rw[this,Cg];exact q'
 | .yd,u,A,d,e,x,y,a,b,hu,hu',h1,h2,r1,r2,v1,v2=>by simp only[dep] at hu;lia
theorem qS (I:Inv X pins B H s) (p:zT X.K H S):∀ (ts us:List T) {A:Around}{ds es:List D}{xs ys:List V}{its Ae:List Value},A.units+yM ts<cLine->A.units+yM us<cLine->zp S ts ds->zp S us es->zq X.K H ds xs->zq X.K H es ys->Vals xs its->Vals ys Ae->
  ∀ (j:Nat) (h1:j<its.length) (h2:j<Ae.length),SeqAt.EqAt A s its[j] Ae[j] (eqT (ts.getD j .zh) (us.getD j .zh))
 | [],us,A,ds,es,xs,ys,its,Ae,hu,hu',s1,s2,r1,r2,v1,v2,j,h1,h2=>by
  rw[<- v1.length,<- r1.length,<- s1.length] at h1;simp at h1
 | t::ts,[],A,ds,es,xs,ys,its,Ae,hu,hu',s1,s2,r1,r2,v1,v2,j,h1,h2=>by
  rw[<- v2.length,<- r2.length,<- s2.length] at h2;simp at h2
 | t::ts,u::us,A,ds,es,xs,ys,its,Ae,hu,hu',s1,s2,r1,r2,v1,v2,j,h1,h2=>by
  simp only[zp] at s1 s2;obtain⟨c,cs,rfl,a1,a2⟩:=s1;obtain⟨c',cs',rfl,b1,b2⟩:=s2;simp only[zq] at r1 r2;obtain⟨y,ys,rfl,g1,g2⟩:=r1;obtain⟨y',ys',rfl,k1,k2⟩:=r2;cases v1 with
  | cons m1 m2=>
   cases v2 with
   | cons n1 n2=>
    simp only[yM] at hu hu';cases j with
    | zero=>simpa using YM I p t u (A:=A) (by lia) (by lia) a1 b1 g1 k1 m1 n1
    | succ j=>simpa using qS I p ts us (A:=A) (by lia) (by lia) a2 b2 g2 k2 m2 n2 j (by simpa using h1) (by simpa using h2)
end
end
section
variable {X:Cx}{pins:List (Addr×Obj)}{B:St}{H:Hp}{s:Shared}{S:SS}
theorem UE (I:Inv X pins B H s) (p:zT X.K H S):∀ (t u:T) {A:Around}{d e:D}{x y:V}{a b:Value},A.units+dep t<cLine->A.units+dep u<cLine->Sn S t d->Sn S u e->zk X.K H d x->zk X.K H e y->RelV x a->RelV y b->SeqAt.RcAt A s a b (eqT t u)
 | .zh,u,A,d,e,x,y,a,b,hu,hu',h1,h2,r1,r2,v1,v2=>by
  have q:=h1.flat r1;subst q;cases v1;cases u with
  | yd=>simp only[dep] at hu';lia
  | zh=>have q:=h2.flat r2;subst q;cases v2;simp only[eqT];exact SeqAt.RcAt.none_none
  | bl c2=>have q:=h2.flat r2;subst q;cases v2;simp only[eqT];exact SeqAt.RcAt.none_bool _
  | int c2=>have q:=h2.flat r2;subst q;obtain⟨tk2,rfl⟩:=v2;simp only[eqT];exact SeqAt.RcAt.none_int _ _
  | str c2=>have q:=h2.flat r2;subst q;obtain⟨tk2,rfl⟩:=v2;simp only[eqT];exact SeqAt.RcAt.none_str _ _
  | tup c2=>obtain⟨l',xs',ds',rfl,k1,k2,k3⟩:=h2.xf r2;cases v2;obtain⟨Ae,w2,pt',_⟩:=I.tuple k1;simp only[dep] at hu';simp only[eqT];exact SeqAt.RcAt.none_tuple pt' (by lia)
  | lst c2=>obtain⟨l',xs',ds',rfl,k1,k2,k3⟩:=h2.xh p r2;cases v2;obtain⟨Ae,w2,pl',_⟩:=I.list k1;simp only[dep] at hu';simp only[eqT];exact SeqAt.RcAt.none_list pl'.isList (by lia)
 | .bl c,u,A,d,e,x,y,a,b,hu,hu',h1,h2,r1,r2,v1,v2=>by
  have q:=h1.flat r1;subst q;cases v1;cases u with
  | yd=>simp only[dep] at hu';lia
  | zh=>have q:=h2.flat r2;subst q;cases v2;simp only[eqT];exact SeqAt.RcAt.bool_none _
  | bl c2=>have q:=h2.flat r2;subst q;cases v2;simp only[eqT];exact SeqAt.RcAt.bool_bool _ _
  | int c2=>have q:=h2.flat r2;subst q;obtain⟨tk2,rfl⟩:=v2;simp only[eqT];exact SeqAt.RcAt.bool_int _ _ _
  | str c2=>have q:=h2.flat r2;subst q;obtain⟨tk2,rfl⟩:=v2;simp only[eqT];exact SeqAt.RcAt.bool_str _ _ _
  | tup c2=>obtain⟨l',xs',ds',rfl,k1,k2,k3⟩:=h2.xf r2;cases v2;obtain⟨Ae,w2,pt',_⟩:=I.tuple k1;simp only[dep] at hu';simp only[eqT];exact SeqAt.RcAt.bool_tuple _ pt' (by lia)
  | lst c2=>obtain⟨l',xs',ds',rfl,k1,k2,k3⟩:=h2.xh p r2;cases v2;obtain⟨Ae,w2,pl',_⟩:=I.list k1;simp only[dep] at hu';simp only[eqT];exact SeqAt.RcAt.bool_list _ pl'.isList (by lia)
 | .int c,u,A,d,e,x,y,a,b,hu,hu',h1,h2,r1,r2,v1,v2=>by
  have q:=h1.flat r1;subst q;obtain⟨tk,rfl⟩:=v1;cases u with
  | yd=>simp only[dep] at hu';lia
  | zh=>have q:=h2.flat r2;subst q;cases v2;simp only[eqT];exact SeqAt.RcAt.int_none _ _
  | bl c2=>have q:=h2.flat r2;subst q;cases v2;simp only[eqT];exact SeqAt.RcAt.int_bool _ _ _
  | int c2=>have q:=h2.flat r2;subst q;obtain⟨tk2,rfl⟩:=v2;simp only[eqT];exact SeqAt.RcAt.int_int _ _ _ _
  | str c2=>have q:=h2.flat r2;subst q;obtain⟨tk2,rfl⟩:=v2;simp only[eqT];exact SeqAt.RcAt.int_str _ _ _ _
  | tup c2=>obtain⟨l',xs',ds',rfl,k1,k2,k3⟩:=h2.xf r2;cases v2;obtain⟨Ae,w2,pt',_⟩:=I.tuple k1;simp only[dep] at hu';simp only[eqT];exact SeqAt.RcAt.int_tuple _ _ pt' (by lia)
  | lst c2=>obtain⟨l',xs',ds',rfl,k1,k2,k3⟩:=h2.xh p r2;cases v2;obtain⟨Ae,w2,pl',_⟩:=I.list k1;simp only[dep] at hu';simp only[eqT];exact SeqAt.RcAt.int_list _ _ pl'.isList (by lia)
 | .str c,u,A,d,e,x,y,a,b,hu,hu',h1,h2,r1,r2,v1,v2=>by
  have q:=h1.flat r1;subst q;obtain⟨tk,rfl⟩:=v1;cases u with
  | yd=>simp only[dep] at hu';lia
  | zh=>have q:=h2.flat r2;subst q;cases v2;simp only[eqT];exact SeqAt.RcAt.str_none _ _
  | bl c2=>have q:=h2.flat r2;subst q;cases v2;simp only[eqT];exact SeqAt.RcAt.str_bool _ _ _
  | int c2=>have q:=h2.flat r2;subst q;obtain⟨tk2,rfl⟩:=v2;simp only[eqT];exact SeqAt.RcAt.str_int _ _ _ _
  | str c2=>have q:=h2.flat r2;subst q;obtain⟨tk2,rfl⟩:=v2;simp only[eqT];exact SeqAt.RcAt.str_str _ _ _ _
  | tup c2=>obtain⟨l',xs',ds',rfl,k1,k2,k3⟩:=h2.xf r2;cases v2;obtain⟨Ae,w2,pt',_⟩:=I.tuple k1;simp only[dep] at hu';simp only[eqT];exact SeqAt.RcAt.str_tuple _ _ pt' (by lia)
  | lst c2=>obtain⟨l',xs',ds',rfl,k1,k2,k3⟩:=h2.xh p r2;cases v2;obtain⟨Ae,w2,pl',_⟩:=I.list k1;simp only[dep] at hu';simp only[eqT];exact SeqAt.RcAt.str_list _ _ pl'.isList (by lia)
 | .tup c,u,A,d,e,x,y,a,b,hu,hu',h1,h2,r1,r2,v1,v2=>by
  obtain⟨l,xs,ds,rfl,g1,g2,g3⟩:=h1.xf r1;cases v1;obtain⟨its,w1,pt,_⟩:=I.tuple g1;simp only[dep] at hu;cases u with
  | yd=>simp only[dep] at hu';lia
  | zh=>have q:=h2.flat r2;subst q;cases v2;simp only[eqT];exact SeqAt.RcAt.tuple_none pt (by lia)
  | bl c2=>have q:=h2.flat r2;subst q;cases v2;simp only[eqT];exact SeqAt.RcAt.tuple_bool _ pt (by lia)
  | int c2=>have q:=h2.flat r2;subst q;obtain⟨tk2,rfl⟩:=v2;simp only[eqT];exact SeqAt.RcAt.tuple_int _ _ pt (by lia)
  | str c2=>have q:=h2.flat r2;subst q;obtain⟨tk2,rfl⟩:=v2;simp only[eqT];exact SeqAt.RcAt.tuple_str _ _ pt (by lia)
  | tup c2=>
   obtain⟨l',xs',ds',rfl,k1,k2,k3⟩:=h2.xf r2;cases v2;obtain⟨Ae,w2,pt',_⟩:=I.tuple k1;simp only[dep] at hu';have e1:its.toArray.size=c.length:=by rw[Aq,<- w1.length,<- g2.length,<- g3.length]
   have e2:Ae.toArray.size=c2.length:=by rw[Aq,<- w2.length,<- k2.length,<- k3.length]
   have q:=SeqAt.RcAt.tuples (A:=A) (e:=λ j=>eqT (c.getD j .zh) (c2.getD j .zh)) pt pt' (by lia) λ j h1 h2=>by
    have:=qS I p c c2 (A:=A.in1) (by show A.units+1+yM c<cLine;lia) (by show A.units+1+yM c2<cLine;lia) g3 k3 g2 k2 w1 w2 j (by simpa using h1) (by simpa using h2);simpa using this
   rw[e1,e2] at q;simp only[eqT,tK];exact q
  | lst c2=>obtain⟨l',xs',ds',rfl,k1,k2,k3⟩:=h2.xh p r2;cases v2;obtain⟨Ae,w2,pl',_⟩:=I.list k1;simp only[dep] at hu';simp only[eqT];exact SeqAt.RcAt.tuple_list pt pl'.isList (by lia)
 | .lst c,u,A,d,e,x,y,a,b,hu,hu',h1,h2,r1,r2,v1,v2=>by
  obtain⟨l,xs,ds,rfl,g1,g2,g3⟩:=h1.xh p r1;cases v1;obtain⟨its,w1,pl,_⟩:=I.list g1;simp only[dep] at hu;cases u with
  | yd=>simp only[dep] at hu';lia
  | zh=>have q:=h2.flat r2;subst q;cases v2;simp only[eqT];exact SeqAt.RcAt.list_none pl.isList (by lia)
  | bl c2=>have q:=h2.flat r2;subst q;cases v2;simp only[eqT];exact SeqAt.RcAt.list_bool _ pl.isList (by lia)
  | int c2=>have q:=h2.flat r2;subst q;obtain⟨tk2,rfl⟩:=v2;simp only[eqT];exact SeqAt.RcAt.list_int _ _ pl.isList (by lia)
  | str c2=>have q:=h2.flat r2;subst q;obtain⟨tk2,rfl⟩:=v2;simp only[eqT];exact SeqAt.RcAt.list_str _ _ pl.isList (by lia)
  | tup c2=>obtain⟨l',xs',ds',rfl,k1,k2,k3⟩:=h2.xf r2;cases v2;obtain⟨Ae,w2,pt',_⟩:=I.tuple k1;simp only[dep] at hu';simp only[eqT];exact SeqAt.RcAt.list_tuple pl.isList pt' (by lia)
  | lst c2=>
   obtain⟨l',xs',ds',rfl,k1,k2,k3⟩:=h2.xh p r2;cases v2;obtain⟨Ae,w2,pl',_⟩:=I.list k1;simp only[dep] at hu';have e1:its.toArray.size=c.length:=by rw[Aq,<- w1.length,<- g2.length,<- g3.length]
   have e2:Ae.toArray.size=c2.length:=by rw[Aq,<- w2.length,<- k2.length,<- k3.length]
   by_cases hsz:c.length=c2.length
   .have q:=SeqAt.RcAt.lists (A:=A) (e:=λ j=>eqT (c.getD j .zh) (c2.getD j .zh)) pl.isList pl'.isList (by rw[e1,e2];exact hsz) (by lia) λ j h1 h2=>by
     have:=qS I p c c2 (A:=A.in1) (by show A.units+1+yM c<cLine;lia) (by show A.units+1+yM c2<cLine;lia) g3 k3 g2 k2 w1 w2 j (by simpa using h1) (by simpa using h2);simpa using this
    rw[e1] at q;simp only[eqT,tK];rw[<- hsz,Nat.min_self];simpa using q
   .have q:=SeqAt.RcAt.lists_lengths (A:=A) pl.isList pl'.isList (by rw[e1,e2];simpa using hsz) (by lia);simp only[eqT,tK];have z:(c.length == c2.length)=false:=by simpa using hsz
    rw[z,Cg];exact q
 | .yd,u,A,d,e,x,y,a,b,hu,hu',h1,h2,r1,r2,v1,v2=>by simp only[dep] at hu;lia
theorem UC (I:Inv X pins B H s) (p:zT X.K H S):∀ (t u:T) {A:Around}{d e:D}{x y:V}{a b:Value},A.units+dep t<cLine->A.units+dep u<cLine->Sn S t d->Sn S u e->zk X.K H d x->zk X.K H e y->RelV x a->RelV y b->SeqAt.RcNeAt A s a b (!eqT t u)
 | .zh,u,A,d,e,x,y,a,b,hu,hu',h1,h2,r1,r2,v1,v2=>by
  have q:=h1.flat r1;subst q;cases v1;cases u with
  | yd=>simp only[dep] at hu';lia
  | zh=>have q:=h2.flat r2;subst q;cases v2;simp only[eqT,AD,AB];exact SeqAt.RcNeAt.none_none
  | bl c2=>have q:=h2.flat r2;subst q;cases v2;simp only[eqT,AD,AB];exact SeqAt.RcNeAt.none_bool _
  | int c2=>have q:=h2.flat r2;subst q;obtain⟨tk2,rfl⟩:=v2;simp only[eqT,AD,AB];exact SeqAt.RcNeAt.none_int _ _
  | str c2=>have q:=h2.flat r2;subst q;obtain⟨tk2,rfl⟩:=v2;simp only[eqT,AD,AB];exact SeqAt.RcNeAt.none_str _ _
  | tup c2=>obtain⟨l',xs',ds',rfl,k1,k2,k3⟩:=h2.xf r2;cases v2;obtain⟨Ae,w2,pt',_⟩:=I.tuple k1;simp only[dep] at hu';simp only[eqT,AD,AB];exact SeqAt.RcNeAt.none_tuple pt' (by lia)
  | lst c2=>obtain⟨l',xs',ds',rfl,k1,k2,k3⟩:=h2.xh p r2;cases v2;obtain⟨Ae,w2,pl',_⟩:=I.list k1;simp only[dep] at hu';simp only[eqT,AD,AB];exact SeqAt.RcNeAt.none_list pl'.isList (by lia)
 | .bl c,u,A,d,e,x,y,a,b,hu,hu',h1,h2,r1,r2,v1,v2=>by
  have q:=h1.flat r1;subst q;cases v1;cases u with
  | yd=>simp only[dep] at hu';lia
  | zh=>have q:=h2.flat r2;subst q;cases v2;simp only[eqT,AD,AB];exact SeqAt.RcNeAt.bool_none _
  | bl c2=>have q:=h2.flat r2;subst q;cases v2;simp only[eqT];exact SeqAt.RcNeAt.bool_bool _ _
  | int c2=>have q:=h2.flat r2;subst q;obtain⟨tk2,rfl⟩:=v2;simp only[eqT];exact SeqAt.RcNeAt.bool_int _ _ _
  | str c2=>have q:=h2.flat r2;subst q;obtain⟨tk2,rfl⟩:=v2;simp only[eqT,AD,AB];exact SeqAt.RcNeAt.bool_str _ _ _
  | tup c2=>obtain⟨l',xs',ds',rfl,k1,k2,k3⟩:=h2.xf r2;cases v2;obtain⟨Ae,w2,pt',_⟩:=I.tuple k1;simp only[dep] at hu';simp only[eqT,AD,AB];exact SeqAt.RcNeAt.bool_tuple _ pt' (by lia)
  | lst c2=>obtain⟨l',xs',ds',rfl,k1,k2,k3⟩:=h2.xh p r2;cases v2;obtain⟨Ae,w2,pl',_⟩:=I.list k1;simp only[dep] at hu';simp only[eqT,AD,AB];exact SeqAt.RcNeAt.bool_list _ pl'.isList (by lia)
 | .int c,u,A,d,e,x,y,a,b,hu,hu',h1,h2,r1,r2,v1,v2=>by
  have q:=h1.flat r1;subst q;obtain⟨tk,rfl⟩:=v1;cases u with
  | yd=>simp only[dep] at hu';lia
  | zh=>have q:=h2.flat r2;subst q;cases v2;simp only[eqT,AD,AB];exact SeqAt.RcNeAt.int_none _ _
  | bl c2=>have q:=h2.flat r2;subst q;cases v2;simp only[eqT];exact SeqAt.RcNeAt.int_bool _ _ _
  | int c2=>have q:=h2.flat r2;subst q;obtain⟨tk2,rfl⟩:=v2;simp only[eqT];exact SeqAt.RcNeAt.int_int _ _ _ _
  | str c2=>have q:=h2.flat r2;subst q;obtain⟨tk2,rfl⟩:=v2;simp only[eqT,AD,AB];exact SeqAt.RcNeAt.int_str _ _ _ _
  | tup c2=>obtain⟨l',xs',ds',rfl,k1,k2,k3⟩:=h2.xf r2;cases v2;obtain⟨Ae,w2,pt',_⟩:=I.tuple k1;simp only[dep] at hu';simp only[eqT,AD,AB];exact SeqAt.RcNeAt.int_tuple _ _ pt' (by lia)
  | lst c2=>obtain⟨l',xs',ds',rfl,k1,k2,k3⟩:=h2.xh p r2;cases v2;obtain⟨Ae,w2,pl',_⟩:=I.list k1;simp only[dep] at hu';simp only[eqT,AD,AB];exact SeqAt.RcNeAt.int_list _ _ pl'.isList (by lia)
 | .str c,u,A,d,e,x,y,a,b,hu,hu',h1,h2,r1,r2,v1,v2=>by
  have q:=h1.flat r1;subst q;obtain⟨tk,rfl⟩:=v1;cases u with
  | yd=>simp only[dep] at hu';lia
  | zh=>have q:=h2.flat r2;subst q;cases v2;simp only[eqT,AD,AB];exact SeqAt.RcNeAt.str_none _ _
  | bl c2=>have q:=h2.flat r2;subst q;cases v2;simp only[eqT,AD,AB];exact SeqAt.RcNeAt.str_bool _ _ _
  | int c2=>have q:=h2.flat r2;subst q;obtain⟨tk2,rfl⟩:=v2;simp only[eqT,AD,AB];exact SeqAt.RcNeAt.str_int _ _ _ _
  | str c2=>have q:=h2.flat r2;subst q;obtain⟨tk2,rfl⟩:=v2;simp only[eqT];exact SeqAt.RcNeAt.str_str _ _ _ _
  | tup c2=>obtain⟨l',xs',ds',rfl,k1,k2,k3⟩:=h2.xf r2;cases v2;obtain⟨Ae,w2,pt',_⟩:=I.tuple k1;simp only[dep] at hu';simp only[eqT,AD,AB];exact SeqAt.RcNeAt.str_tuple _ _ pt' (by lia)
  | lst c2=>obtain⟨l',xs',ds',rfl,k1,k2,k3⟩:=h2.xh p r2;cases v2;obtain⟨Ae,w2,pl',_⟩:=I.list k1;simp only[dep] at hu';simp only[eqT,AD,AB];exact SeqAt.RcNeAt.str_list _ _ pl'.isList (by lia)
 | .tup c,u,A,d,e,x,y,a,b,hu,hu',h1,h2,r1,r2,v1,v2=>by
  obtain⟨l,xs,ds,rfl,g1,g2,g3⟩:=h1.xf r1;cases v1;obtain⟨its,w1,pt,_⟩:=I.tuple g1;simp only[dep] at hu;cases u with
  | yd=>simp only[dep] at hu';lia
  | zh=>have q:=h2.flat r2;subst q;cases v2;simp only[eqT,AD,AB];exact SeqAt.RcNeAt.tuple_none pt (by lia)
  | bl c2=>have q:=h2.flat r2;subst q;cases v2;simp only[eqT,AD,AB];exact SeqAt.RcNeAt.tuple_bool _ pt (by lia)
  | int c2=>have q:=h2.flat r2;subst q;obtain⟨tk2,rfl⟩:=v2;simp only[eqT,AD,AB];exact SeqAt.RcNeAt.tuple_int _ _ pt (by lia)
  | str c2=>have q:=h2.flat r2;subst q;obtain⟨tk2,rfl⟩:=v2;simp only[eqT,AD,AB];exact SeqAt.RcNeAt.tuple_str _ _ pt (by lia)
  | tup c2=>
   obtain⟨l',xs',ds',rfl,k1,k2,k3⟩:=h2.xf r2;cases v2;obtain⟨Ae,w2,pt',_⟩:=I.tuple k1;simp only[dep] at hu';have e1:its.toArray.size=c.length:=by rw[Aq,<- w1.length,<- g2.length,<- g3.length]
   have e2:Ae.toArray.size=c2.length:=by rw[Aq,<- w2.length,<- k2.length,<- k3.length]
   have q:=SeqAt.RcNeAt.tuples (A:=A) (e:=λ j=>eqT (c.getD j .zh) (c2.getD j .zh)) pt pt' (by lia) λ j h1 h2=>by
    have:=qS I p c c2 (A:=A.in1) (by show A.units+1+yM c<cLine;lia) (by show A.units+1+yM c2<cLine;lia) g3 k3 g2 k2 w1 w2 j (by simpa using h1) (by simpa using h2);simpa using this
   rw[e1,e2] at q;simp only[eqT,tK];exact q
  | lst c2=>obtain⟨l',xs',ds',rfl,k1,k2,k3⟩:=h2.xh p r2;cases v2;obtain⟨Ae,w2,pl',_⟩:=I.list k1;simp only[dep] at hu';simp only[eqT,AD,AB];exact SeqAt.RcNeAt.tuple_list pt pl'.isList (by lia)
 | .lst c,u,A,d,e,x,y,a,b,hu,hu',h1,h2,r1,r2,v1,v2=>by
  obtain⟨l,xs,ds,rfl,g1,g2,g3⟩:=h1.xh p r1;cases v1;obtain⟨its,w1,pl,_⟩:=I.list g1;simp only[dep] at hu;cases u with
  | yd=>simp only[dep] at hu';lia
  | zh=>have q:=h2.flat r2;subst q;cases v2;simp only[eqT,AD,AB];exact SeqAt.RcNeAt.list_none pl.isList (by lia)
  | bl c2=>have q:=h2.flat r2;subst q;cases v2;simp only[eqT,AD,AB];exact SeqAt.RcNeAt.list_bool _ pl.isList (by lia)
  | int c2=>have q:=h2.flat r2;subst q;obtain⟨tk2,rfl⟩:=v2;simp only[eqT,AD,AB];exact SeqAt.RcNeAt.list_int _ _ pl.isList (by lia)
  | str c2=>have q:=h2.flat r2;subst q;obtain⟨tk2,rfl⟩:=v2;simp only[eqT,AD,AB];exact SeqAt.RcNeAt.list_str _ _ pl.isList (by lia)
  | tup c2=>obtain⟨l',xs',ds',rfl,k1,k2,k3⟩:=h2.xf r2;cases v2;obtain⟨Ae,w2,pt',_⟩:=I.tuple k1;simp only[dep] at hu';simp only[eqT,AD,AB];exact SeqAt.RcNeAt.list_tuple pl.isList pt' (by lia)
  | lst c2=>
   obtain⟨l',xs',ds',rfl,k1,k2,k3⟩:=h2.xh p r2;cases v2;obtain⟨Ae,w2,pl',_⟩:=I.list k1;simp only[dep] at hu';have e1:its.toArray.size=c.length:=by rw[Aq,<- w1.length,<- g2.length,<- g3.length]
   have e2:Ae.toArray.size=c2.length:=by rw[Aq,<- w2.length,<- k2.length,<- k3.length]
   by_cases hsz:c.length=c2.length
   .have q:=SeqAt.RcNeAt.lists (A:=A) (e:=λ j=>eqT (c.getD j .zh) (c2.getD j .zh)) pl.isList pl'.isList (by rw[e1,e2];exact hsz) (by lia) λ j h1 h2=>by
     have:=qS I p c c2 (A:=A.in1) (by show A.units+1+yM c<cLine;lia) (by show A.units+1+yM c2<cLine;lia) g3 k3 g2 k2 w1 w2 j (by simpa using h1) (by simpa using h2);simpa using this
    rw[e1] at q;simp only[eqT,tK];rw[<- hsz,Nat.min_self];simpa using q
   .have q:=SeqAt.RcNeAt.lists_lengths (A:=A) pl.isList pl'.isList (by rw[e1,e2];simpa using hsz) (by lia);simp only[eqT,tK];have z:(c.length == c2.length)=false:=by simpa using hsz
    rw[z,Cg];exact q
 | .yd,u,A,d,e,x,y,a,b,hu,hu',h1,h2,r1,r2,v1,v2=>by simp only[dep] at hu;lia
end
def gQ (K:Ad) (neg:Bool):R2:=λ x y H Q=>∃ S d e t u,zk K H d x/\zk K H e y/\zT K H S/\Sn S t d/\Sn S u e/\dep t<=60/\dep u<=60/\Q (.bl (cond neg (!eqT t u) (eqT t u))) H
def vD (neg:Bool):xc:=λ x y S Q=>∃ t u,Sn S t x/\Sn S u y/\dep t<=60/\dep u<=60/\Q (.bl (cond neg (!eqT t u) (eqT t u))) S
def vD.mo {neg:Bool}:we (vD neg):=λ _ _ _ _ _ hq ⟨t,u,a,b,c,d,h⟩=>⟨t,u,a,b,c,d,hq _ _ h⟩
def vD.fits {K:Ad}{neg:Bool}:xO K (vD neg) (gQ K neg):=λ x y d e H S Q h1 h2 h3 ⟨t,u,a,b,c,c',h⟩=>⟨S,d,e,t,u,h1,h2,h3,a,b,c,c',h _ H (by simp only[zk]) (.refl H) h3⟩
section
variable {X:Cx}{a b:Expr}{ta tb:zA}{pos:Pos}
def Z8 (hu:X.A.units+64<cLine):yu X (compareOp .Eq) (gQ X.K false):=by
 intro pins s B H x y v u Q I rx ry h;obtain⟨S,d,e,t,u',a1,a2,a3,a4,a5,a6,a7,q⟩:=h;exact UE I a3 t u' (A:=X.A) (by lia) (by lia) a4 a5 a1 a2 rx ry X.prog X.w X.xe _ ⟨.bl _,H,I,rfl,q⟩
def Rf (hu:X.A.units+64<cLine):yu X (compareOp .NotEq) (gQ X.K true):=by
 intro pins s B H x y v u Q I rx ry h;obtain⟨S,d,e,t,u',a1,a2,a3,a4,a5,a6,a7,q⟩:=h;exact UC I a3 t u' (A:=X.A) (by lia) (by lia) a4 a5 a1 a2 rx ry X.prog X.w X.xe _ ⟨.bl _,H,I,rfl,q⟩
def SM {k:Nat}(hr:yI k X.A) (ha:PD X a ta) (hb:PD X b tb):PD X (.Compare a [.Eq] [b] pos) (yA (vD false) ta tb):=oj (Z8 hr.units) vD.fits vD.mo ha hb (vB _)
def wA {k:Nat}(hr:yI k X.A) (ha:PD X a ta) (hb:PD X b tb):xT X (.Compare a [.Eq] [b] pos) (vF (yA (vD false) ta tb)):=sG (Z8 hr.units) vD.fits vD.mo ha hb (vB _)
def kO {k:Nat}(hr:yI k X.A) (ha:PD X a ta) (hb:PD X b tb):xT X (.Compare a [.NotEq] [b] pos) (vF (yA (vD true) ta tb)):=sG (Rf hr.units) vD.fits vD.mo ha hb (vB _)
def aX (K:Ad) (neg:Bool):R2:=λ x y H Q=>∃ S d e u ts ds,zk K H d x/\zk K H e y/\zT K H S/\Sn S u d/\zU e S=some ds/\zp S ts ds/\dep u<=60/\yM ts<=60/\Q (.bl (cond neg (!(ts.any λ t=>eqT t u)) (ts.any λ t=>eqT t u))) H
def rZ (neg:Bool):xc:=λ x y S Q=>∃ u ts ds,Sn S u x/\zU y S=some ds/\zp S ts ds/\dep u<=60/\yM ts<=60/\Q (.bl (cond neg (!(ts.any λ t=>eqT t u)) (ts.any λ t=>eqT t u))) S
def rZ.mo {neg:Bool}:we (rZ neg):=λ _ _ _ _ _ hq ⟨u,ts,ds,a,b,c,d,e,h⟩=>⟨u,ts,ds,a,b,c,d,e,hq _ _ h⟩
def rZ.fits {K:Ad}{neg:Bool}:xO K (rZ neg) (aX K neg):=λ x y d e H S Q h1 h2 h3 ⟨u,ts,ds,a,b,c,c',c2,h⟩=>⟨S,d,e,u,ts,ds,h1,h2,h3,a,b,c,c',c2,h _ H (by simp only[zk]) (.refl H) h3⟩
open Classical in
def tS (its:List Value) (ts:List T) (u:T) (v:Value):Bool:=if h:∃ j,its[j]?=some v then eqT (ts.getD (Classical.choose h) .zh) u else false
def dw {pins:List (Addr×Obj)}{B:St}{H:Hp}{s:Shared}{S:SS}(I:Inv X pins B H s) (p:zT X.K H S) {ts:List T}{ds:List D}{xs:List V}{its:List Value}(h1:zp S ts ds) (h2:zq X.K H ds xs) (h3:Vals xs its) (u:T) {j:Nat}{v:Value}(hj:its[j]?=some v):
  tS its ts u v=eqT (ts.getD j .zh) u:=by
 have h:∃ j,its[j]?=some v:=⟨j,hj⟩
 unfold tS;rw[dif_pos h];have hc:=Classical.choose_spec h;have lt:∀ i,its[i]?=some v->i<ts.length:=λ i hi=>by
  rw[h1.length,h2.length,h3.length];exact (AL.mp hi).1
 obtain⟨c1,e1,s1⟩:=h1.get (lt _ hc);obtain⟨c2,e2,s2⟩:=h1.get (lt _ hj);obtain⟨x1,f1,r1⟩:=h2.get e1;obtain⟨x2,f2,r2⟩:=h2.get e2;obtain⟨v1,g1,q1⟩:=h3.get f1;obtain⟨v2,g2,q2⟩:=h3.get f2;rw[hc] at g1;cases g1;rw[hj] at g2;cases g2;have hx:=q1.inj q2;subst hx;rw[kg I p _ _ s1 s2 r1 r2]
def XO {pins:List (Addr×Obj)}{B:St}{H:Hp}{s:Shared}{S:SS}(I:Inv X pins B H s) (p:zT X.K H S) {ts:List T}{ds:List D}{xs:List V}{its:List Value}(h1:zp S ts ds) (h2:zq X.K H ds xs) (h3:Vals xs its) (u:T):its.any (tS its ts u)=ts.any λ t=>eqT t u:=by
 have hl:ts.length=its.length:=by rw[h1.length,h2.length,h3.length]
 rw[A6,AR,AR];constructor
 .rintro⟨v,hv,h⟩;obtain⟨j,hj,rfl⟩:=BV.mp hv;rw[dw I p h1 h2 h3 u (j:=j) (by simp[hj])] at h;have hj':j<ts.length:=by lia
  exact⟨ts[j],Bj hj',by simpa [hj'] using h⟩
 .rintro⟨t,ht,h⟩;obtain⟨j,hj,rfl⟩:=BV.mp ht;have hj':j<its.length:=by lia
  exact⟨its[j],Bj hj',by rw[dw I p h1 h2 h3 u (j:=j) (by simp[hj'])];simpa [hj] using h⟩
def XQ {pins:List (Addr×Obj)}{B:St}{H:Hp}{s:Shared}{S:SS}(I:Inv X pins B H s) (p:zT X.K H S) {ts:List T}{ds:List D}{xs:List V}{its:List Value}(h1:zp S ts ds) (h2:zq X.K H ds xs) (h3:Vals xs its) {u:T}{d:D}{x:V}{v:Value}(hu:Sn S u d) (hd:zk X.K H d x) (hx:RelV x v) {A:Around}(b1:A.units+yM ts<cLine) (b2:A.units+dep u<cLine) {y:Value}(hy:y∈its):
  SeqAt.EqAt A s y v (tS its ts u y):=by
 obtain⟨j,hj,rfl⟩:=BV.mp hy;have hjt:j<ts.length:=by rw[h1.length,h2.length,h3.length];exact hj
 rw[dw I p h1 h2 h3 u (j:=j) (by simp[hj])];obtain⟨c1,e1,s1⟩:=h1.get hjt;obtain⟨x1,f1,r1⟩:=h2.get e1;obtain⟨v1,g1,q1⟩:=h3.get f1;have:its[j]=v1:=by
  have:=AL.mp g1;exact this.2
 rw[this];have:=YZ hjt;exact YM I p _ u (A:=A) (by lia) b2 s1 hu r1 hd q1 hx
def Rn (hu:X.A.units+64<cLine):yu X (compareOp .In) (aX X.K false):=by
 intro pins s B H x y v w Q I rx ry h;obtain⟨S,d,e,u,ts,ds,a1,a2,a3,a4,a5,a6,a7,a8,q⟩:=h;obtain⟨l,xs,rfl,g1,g2⟩:=zU.sq a2 a3 a5;cases ry;rcases g1 with g1 | g1
 .obtain⟨its,w1,pl,_⟩:=I.list g1;refine SeqAt.in_listAt (tS its ts u) pl.isList (λ y hy=>XQ I a3 a6 g2 w1 a4 a1 rx (A:=X.A.in1) (by show X.A.units+1+_<_;lia) (by show X.A.units+1+_<_;lia) (by simpa using hy)) ⟨.bl _,H,I,rfl,?_⟩;rw[show its.toArray.any (tS its ts u)=its.any (tS its ts u) by simp,XO I a3 a6 g2 w1];exact q
 .obtain⟨its,w1,pt,_⟩:=I.tuple g1;refine SeqAt.in_tupleAt (tS its ts u) pt (λ y hy=>XQ I a3 a6 g2 w1 a4 a1 rx (A:=X.A.in1) (by show X.A.units+1+_<_;lia) (by show X.A.units+1+_<_;lia) (by simpa using hy)) ⟨.bl _,H,I,rfl,?_⟩;rw[show its.toArray.any (tS its ts u)=its.any (tS its ts u) by simp,XO I a3 a6 g2 w1];exact q
def So {k:Nat}(hr:yI k X.A) (ha:PD X a ta) (hb:PD X b tb) (hm:behindInMarks .In b=false:=by rfl):xT X (.Compare a [.In] [b] pos) (vF (yA (rZ false) ta tb)):=sG (Rn hr.units) rZ.fits rZ.mo ha hb hm
end
end L3
namespace L2
open PySem PySem.Spec PyProof.Rows
section
variable {κ:Type} [DecidableEq κ]
noncomputable def wO (Aa:List (κ × V)) (k:κ):Option V:=(Aa.find? λ kv=>decide (kv.1=k)).map (·.2)
noncomputable def putK (Aa:List (κ × V)) (k:κ) (v:V):List (κ × V):=
 if (Aa.any λ kv=>decide (kv.1=k))=true then Aa.map (λ kv=>if kv.1=k then (kv.1,v) else kv) else Aa++[(k,v)]
def ik {p:κ × V}{r:List (κ × V)}{k:κ}(e:p.1=k):wO (p::r) k=some p.2:=by simp[wO,BU,e]
def il {p:κ × V}{r:List (κ × V)}{k:κ}(e:¬ p.1=k):wO (p::r) k=wO r k:=by simp[wO,BU,e]
theorem bL (k:κ):∀ Aa:List (κ × V),(Aa.any λ kv=>decide (kv.1=k))=(wO Aa k).isSome
 | []=>rfl
 | p::r=>by
  rw[Bf];by_cases e:p.1=k
  .simp only[ik e,decide_eq_true e,Bool.true_or,Option.isSome_some]
  .rw[il e,decide_eq_false e,Bool.false_or];exact bL k r
def ZX (Aa:List (κ × V)) (k:κ) (v:V):(putK Aa k v).length<=Aa.length+1:=by
 unfold putK;split
 .rw[Az];lia
 .rw[Ck,AY,De];lia
def uH.OB {o:Option V}{u:Option Value}(r:uH o u):o.isSome=u.isSome:=by
 cases o with
 | none=>cases u with
  | none=>rfl
  | some _=>exact (show False from r).elim
 | some _=>cases u with
  | none=>exact (show False from r).elim
  | some _=>rfl
theorem uH.getD {o:Option V}{u:Option Value}{d:V}{d':Value}(r:uH o u) (rd:RelV d d'):RelV (o.getD d) (u.getD d'):=by
 cases o with
 | none=>cases u with
  | none=>exact rd
  | some _=>exact (show False from r).elim
 | some _=>cases u with
  | none=>exact (show False from r).elim
  | some _=>exact r
def KV.val {Aa:List (κ × V)}{vs:List (κ × Value)}(r:KV Aa vs) (k:κ):uH (wO Aa k) (valueAt vs k):=by
 unfold KV at r
 induction r with
 | nil=>exact True.intro
 | @cons p q ps qs h t ih=>
  obtain⟨h1,h2⟩:=h;by_cases e:p.1=k
  .have e':q.1=k:=h1.symm.trans e;have b:valueAt (q::qs) k=some q.2:=by simp[valueAt,BU,e']
   rw[ik e,b];exact h2
  .have e':¬ q.1=k:=λ z=>e (h1.trans z);have b:valueAt (q::qs) k=valueAt qs k:=by simp[valueAt,BU,e']
   rw[il e,b];exact ih
theorem KV.any {Aa:List (κ × V)}{vs:List (κ × Value)}(r:KV Aa vs) (k:κ):(Aa.any λ kv=>decide (kv.1=k))=vs.any λ kv=>decide (kv.1=k):=by
 unfold KV at r
 induction r with
 | nil=>rfl
 | cons h t ih=>rw[Bf,Bf,ih,h.1]
def KV.t6 {Aa:List (κ × V)}{vs:List (κ × Value)}(r:KV Aa vs) (k:κ) {y:V}{u:Value}(ry:RelV y u):
  KV (Aa.map λ kv=>if kv.1=k then (kv.1,y) else kv) (vs.map λ kv=>if kv.1=k then (kv.1,u) else kv):=by
 unfold KV at r ⊢
 induction r with
 | nil=>exact .nil
 | @cons p q ps qs h t ih=>
  rw[Ar,Ar];refine .cons ?_ ih;obtain⟨h1,h2⟩:=h;by_cases e:p.1=k
  .rw[if_pos e,if_pos (h1.symm.trans e)];exact⟨h1,ry⟩
  .rw[if_neg e,if_neg (λ z=>e (h1.trans z))];exact⟨h1,h2⟩
def KV.put {Aa:List (κ × V)}{vs:List (κ × Value)}(r:KV Aa vs) (k:κ) {y:V}{u:Value}(ry:RelV y u):KV (putK Aa k y) (stored vs k u):=by
 unfold putK stored;rw[r.any k];by_cases e:(vs.any λ kv=>decide (kv.1=k))=true
 .rw[if_pos e,if_pos e];exact r.t6 k ry
 .rw[if_neg e,if_neg e];exact Paired.snoc r ⟨rfl,ry⟩
theorem KV.length {Aa:List (κ × V)}{vs:List (κ × Value)}(r:KV Aa vs):Aa.length=vs.length:=Paired.length r
end
def jh {P:Program}{w:World}{k:Key}{u:Value}(r:RelV (kV k) u):(vf P w).is k u=true:=by
 cases k with
 | inl i=>obtain⟨t,e⟩:=(show ∃ t,u=Value.int i t from r);subst e;exact PN P w i t
 | inr x=>obtain⟨t,e⟩:=(show ∃ t,u=Value.str x t from r);subst e;exact PM P w x t
theorem Yk {P:Program}{w:World}:∀ {ks:List Key}{us:List Value},Vals (ks.map kV) us->ItemsAre (vf P w) ks us
 | [],_,r=>by rw[A9] at r;cases r;exact .nil
 | k::ks,_,r=>by
  rw[Ar] at r;cases r with
  | cons h t=>exact .cons (jh h) (Yk t)
abbrev KT (H:Hp):List (List Key×V)->List (List Key×Addr×Value)->Prop:=Paired λ p q=>p.1=q.1/\H q.2.1=some (.tup (p.1.map kV))/\RelV p.2 q.2.2
def KT.val {H:Hp}{Aa:List (List Key×V)}{xs:List (List Key×Addr×Value)}(r:KT H Aa xs) (k:List Key):uH (wO Aa k) ((atKey xs k).map (·.2)):=by
 induction r with
 | nil=>exact True.intro
 | @cons p q ps qs h t ih=>
  obtain⟨h1,_,h2⟩:=h;by_cases e:p.1=k
  .have e':q.1=k:=h1.symm.trans e;have b:atKey (q::qs) k=some q.2:=by simp[atKey,BU,e']
   rw[ik e,b];exact h2
  .have e':¬ q.1=k:=λ z=>e (h1.trans z);have b:atKey (q::qs) k=atKey qs k:=by simp[atKey,BU,e']
   rw[il e,b];exact ih
def KT.t6 {H:Hp}{Aa:List (List Key×V)}{xs:List (List Key×Addr×Value)}(r:KT H Aa xs) (k:List Key) {y:V}{u:Value}(ry:RelV y u):
  KT H (Aa.map λ kv=>if kv.1=k then (kv.1,y) else kv) (xs.map (putAt k u)):=by
 induction r with
 | nil=>exact .nil
 | @cons p q ps qs h t ih=>
  rw[Ar,Ar];refine .cons ?_ ih;obtain⟨h1,h2,h3⟩:=h;unfold putAt;by_cases e:p.1=k
  .rw[if_pos e,if_pos (h1.symm.trans e)];exact⟨h1,h2,ry⟩
  .rw[if_neg e,if_neg (λ z=>e (h1.trans z))];exact⟨h1,h2,h3⟩
def KT.put {H:Hp}{Aa:List (List Key×V)}{xs:List (List Key×Addr×Value)}(r:KT H Aa xs) (k:List Key) {b:Addr}{y:V}{u:Value}(hb:H b=some (.tup (k.map kV))) (ry:RelV y u):
  KT H (putK Aa k y) (storedH xs k b u):=by
 have e:(Aa.any λ kv=>decide (kv.1=k))=(atKey xs k).isSome:=by
  rw[bL,(r.val k).OB,Option.isSome_map]
 unfold putK storedH;rw[e];by_cases q:(atKey xs k).isSome=true
 .rw[if_pos q,if_pos q];exact r.t6 k ry
 .rw[if_neg q,if_neg q];exact Paired.snoc r ⟨rfl,hb,ry⟩
def KT.keeps {H H':Hp}{Aa:List (List Key×V)}{xs:List (List Key×Addr×Value)}(r:KT H Aa xs) (ht:∀ b ys,H b=some (.tup ys)->H' b=some (.tup ys)):KT H' Aa xs:=
 Paired.jd r λ _ _ z=>⟨z.1,ht _ _ z.2.1,z.2.2⟩
section
variable {P:Program}{w:World}{H:Hp}{h:Heap}{a:Addr}
def aM {u:HO}(ok:xl P w H h) (e:Rd H a u):x8 P w H h a u:=e.ok ok
def oH {Aa:List (Key×V)}(ok:xl P w H h) (e:Rd H a (.dK Aa)):Aa.length<=sizeLine/\(a == sysModules)=false/\∃ vs,KV Aa vs/\h.DictOf (vf P w) a vs:=
 show x8 P w H h a (.dK Aa) from aM ok e
def NT {Aa:List (Key×V)}(ok:xl P w H h) (e:H a=some (.dK Aa)):Aa.length<=sizeLine/\(a == sysModules)=false/\∃ vs,KV Aa vs/\h.DictOf (vf P w) a vs:=oH ok (.inl e)
def jg {ks:List Key}(ok:xl P w H h) (e:H a=some (.tup (ks.map kV))):(tupleKind (vf P w)).is h ks a:=by
 obtain⟨_,its,r,o,h1,h2,n,h3⟩:=(show x8 P w H h a (.tup (ks.map kV)) from ok a _ e)
 exact⟨o,its.toArray,n,h1,h2,h3,by simpa using Yk r⟩
def mR {Aa:List (List Key×V)}(ok:xl P w H h) (e:Rd H a (.dT Aa)):Aa.length<=sizeLine/\(a == sysModules)=false/\
  ∃ xs,KT H Aa xs/\h.DictOfH (tupleKind (vf P w)) a xs:=by
 obtain⟨z,y,xs,r,o,es,ep,h1,h2,h3,h4,h5⟩:=(show x8 P w H h a (.dT Aa) from aM ok e)
 refine⟨z,y,xs,r,o,es,ep,h1,h2,h3,h4,λ x hx=>?_,h5⟩;have all:∀ {l:List (List Key×V)}{m:List (List Key×Addr×Value)},KT H l m->∀ x∈m,(tupleKind (vf P w)).is h x.1 x.2.1:=by
  intro l m q
  induction q with
  | nil=>intro x hx;exact nomatch hx
  | @cons p q ps qs hq t ih=>
   intro x hx;rcases Ah.mp hx with e | hx
   .subst e;exact jg ok (by rw[<- hq.1];exact hq.2.1)
   .exact ih x hx
 exact all r x hx
def NN {Aa:List (List Key×V)}(ok:xl P w H h) (e:H a=some (.dT Aa)):Aa.length<=sizeLine/\(a == sysModules)=false/\
  ∃ xs,KT H Aa xs/\h.DictOfH (tupleKind (vf P w)) a xs:=mR ok (.inl e)
end
def rA (H:Hp) (a:Addr) (y:V) (r:Option V):Prop:=
 (∃ Aa k,Rd H a (.dK Aa)/\y=kV k/\r=wO Aa k)\/∃ Aa k b,Rd H a (.dT Aa)/\y=.ref b/\H b=some (.tup (k.map kV))/\r=wO Aa k
def lX (H:Hp) (a:Addr) (y v:V) (H':Hp):Prop:=
 (∃ Aa k,H a=some (.dK Aa)/\y=kV k/\Aa.length<sizeLine/\H'=upd H a (.dK (putK Aa k v)))\/
 ∃ Aa k b,H a=some (.dT Aa)/\y=.ref b/\H b=some (.tup (k.map kV))/\Aa.length<sizeLine/\H'=upd H a (.dT (putK Aa k v))
theorem rA.k {H:Hp}{a:Addr}{Aa:List (Key×V)}{k:Key}(e:H a=some (.dK Aa)):rA H a (kV k) (wO Aa k):=.inl ⟨Aa,k,.inl e,rfl,rfl⟩
theorem lX.k {H:Hp}{a:Addr}{Aa:List (Key×V)}{k:Key}{v:V}(e:H a=some (.dK Aa)) (hl:Aa.length<sizeLine):lX H a (kV k) v (upd H a (.dK (putK Aa k v))):=.inl ⟨Aa,k,e,rfl,hl,rfl⟩
section
variable {X:Cx}{pins:List (Addr×Obj)}{B:St}{H:Hp}{s:Shared}{a:Addr}{y v:V}{u r:Value}{o:Option V}{A:Around}{E:Value->Shared->Prop}
def Inv.big (I:Inv X pins B H s):sysModules<s.heap.objs.size:=by
 have h:mainGlobals<s.heap.objs.size:=(I.mod.glob.keeps I.bk).lt;exact Dd (by decide) h
def Md {Q:Value->Shared->Prop}(hu:A.units+1<cLine) (I:Inv X pins B H s) (g:rA H a y (some v)) (ry:RelV y u) (h:∀ w' s',Inv X pins B H s'->RelV v w'->Q w' s'):
  wpAny (model X.prog X.w) A (getItem (.ref a) u) Q E s:=by
 rcases g with ⟨Aa,k,e,ey,l⟩ | ⟨Aa,k,b,e,ey,eb,l⟩
 .subst ey;obtain⟨z,hd,vs,rel,dd⟩:=oH I.zC e;obtain⟨w',hw,rw'⟩:=uH.some_of (v:=v) (o:=valueAt vs k) (by rw[l];exact rel.val k);exact wpAny_getItem_of (jh ry) dd.mapOf hw (h w' _ (I.tok _) rw')
 .subst ey;cases (show u=Value.ref b from ry);obtain⟨z,hd,xs,rel,dd⟩:=mR I.zC e;obtain⟨w',hw,rw'⟩:=uH.some_of (v:=v) (o:=(atKey xs k).map (·.2)) (by rw[l];exact rel.val k);obtain⟨p,hp,o9⟩:=AA hw;refine wpAny_getItem_heap (tupleKind_room_in1 hu) (jg I.zC eb) dd hp ?_;rw[o9];exact h w' _ (I.tok _) rw'
def Xc {h':Heap}{t':Nat}{ob:HO}(I:Inv X pins B H s) (mu:lG (H a)) (hs:Heap.SameBut a s.heap h') (he:∃ q,h'.get? a=some q) (new:x8 X.prog X.w (upd H a ob) h' a ob):
  Inv X pins B (upd H a ob) { s with heap:=h',toks:=t' }:=
 I.write (x:=a) (e:=a) mu (.inl rfl) (λ b q hb z=>(hs.2 b hb).trans z) he new
def NU {P:Program}{w:World}{H':Hp}{h':Heap}{Aa:List (Key×V)}{vs:List (Key×Value)}(z:Aa.length<=sizeLine) (hd:(a == sysModules)=false) (rel:KV Aa vs) (dd:h'.DictOf (vf P w) a vs):
  x8 P w H' h' a (.dK Aa):=⟨z,hd,vs,rel,dd⟩
def Mb {H':Hp}{Q:Unit->Shared->Prop}(hu:A.units+1<cLine) (I:Inv X pins B H s) (g:lX H a y v H') (ry:RelV y u) (rv:RelV v r) (h:∀ s',Inv X pins B H' s'->Q () s'):
  wpAny (model X.prog X.w) A (setItem (.ref a) u r) Q E s:=by
 rcases g with ⟨Aa,k,e,ey,l,eH⟩ | ⟨Aa,k,b,e,ey,eb,l,eH⟩
 .subst ey eH;obtain⟨z,hd,vs,rel,dd⟩:=NT I.zC e;have hz:vs.length<=sizeLine:=by rw[<- rel.length];exact z
  have hl:(putK Aa k v).length<=sizeLine:=by have:=ZX Aa k v;lia
  refine wpAny_setItem_pairs (hsz:=hz) (jh ry) dd λ h' dd' hs=>h _ ?_;have he:∃ q,h'.get? a=some q:=let ⟨q,_,_,hq,_⟩:=dd';⟨q,hq⟩
  exact Xc I (by rw[e];exact True.intro) hs he (NU hl hd (rel.put k rv) dd')
 .subst ey eH;cases (show u=Value.ref b from ry);obtain⟨z,hd,xs,rel,dd⟩:=NN I.zC e;have hz:xs.length<=sizeLine:=by rw[<- Paired.length rel];exact z
  have hl:(putK Aa k v).length<=sizeLine:=by have:=ZX Aa k v;lia
  refine wpAny_setItem_heap (hsz:=hz) (tupleKind_room_in1 hu) (jg I.zC eb) dd λ h' dd' hs=>h _ ?_;obtain⟨q,es,ep,hq,h2,h3,h4,_,h5⟩:=dd';refine Xc I (by rw[e];exact True.intro) hs ⟨q,hq⟩ ⟨hl,hd,_,(rel.put k eb rv).keeps λ c ys ec=>?_,q,es,ep,hq,h2,h3,h4,h5⟩;rw[yV (my ec e (λ z=>nomatch z))];exact ec
end
section
variable {X:Cx}{pins:List (Addr×Obj)}{B:St}{H:Hp}{s:Shared}{a:Addr}{Aa:List (Key×V)}{k:Key}{u:Value}{A:Around}{E:Value->Shared->Prop}
def Mc {Q:Value->Shared->Prop}(I:Inv X pins B H s) (e:Rd H a (.dK Aa)) (h:∀ t s',Inv X pins B H s'->Q (.int Aa.length t) s'):wpAny (model X.prog X.w) A (call (.builtin "len") [.ref a]) Q E s:=by
 obtain⟨z,hd,vs,rel,dd⟩:=oH I.zC e;refine call_len_dict hd dd (by rw[<- rel.length];rw[sizeLine_eq] at z;lia) ?_;rw[<- rel.length];exact h _ _ (I.tok _)
end
def dE (i:Expr):Prop:=∀ ov iv,subscripted i false ov iv=operate [ov,iv] (getItem ov iv)
def VI {prog:Program}{w:World}{A:Around}{E:Value->Shared->Prop}{s:Shared}{env:Env}{value slice:Expr}{pos:Pos}{T id:String}{Q:Value->Shared->Prop}
  (hl:typeLookup (.type T) "__getitem__"=pure (some (.builtin id))) (hs:dE slice)
  (h:wpAny (model prog w) A (eval value env) (λ o s₁=>wpAny (model prog w) A (eval slice env) (λ i s₂=>s₂.TypeIs o T/\wpAny (model prog w) A (getItem o i) Q E s₂) E s₁) E s):
  wpAny (model prog w) A (eval (.Subscript value slice pos) env) Q E s:=by
 refine Subscript_ (wpAny_mono h (λ o s₁ h₁=>wpAny_mono h₁ (λ i s₂ h₂=>?_) λ _ _ x=>x) λ _ _ x=>x);obtain⟨hT,h₂⟩:=h₂;unfold subscriptTail;refine Ab ?_;rw[getitemInPython_of_ne hT.not_modules];refine Ab (wpAny_specialOf hT hl ?_);have fin:wpAny (model prog w) A (subscripted slice false o i) (λ r s₃=>wpAny (model prog w) A (letTemporaryGo value o r >>= λ _=>pure r) Q E s₃) E s₂:=by
  rw[hs o i];exact wpAny_operating (wpAny_mono h₂ (λ r s₃ h₃=>Ab (wpAny_letTemporaryGo (Ac h₃))) λ _ _ x=>x)
 first
  | exact Ac (Ab fin)
  | exact Ab (Ac (Ab fin))
  | exact Ab fin
def NW {X:Cx}{pins:List (Addr×Obj)}{B:St}{H:Hp}{s:Shared}{a:Addr}{y:V}{o:Option V}(I:Inv X pins B H s) (g:rA H a y o):s.TypeIs (.ref a) "dict":=by
 rcases g with ⟨Aa,k,e,_,_⟩ | ⟨Aa,k,b,e,_,_,_⟩
 .obtain⟨_,_,vs,_,dd⟩:=oH I.zC e;exact dd.typeIs
 .obtain⟨_,_,xs,_,dd⟩:=mR I.zC e;exact dd.typeIs
def VF (td ty:TE):TE:=fun B H Q=>td B H λ x H1=>ty B H1 λ y H2=>∃ a v,x=.ref a/\rA H2 a y (some v)/\Q v H2
def U3 (td ty tv:TE):TS:=λ D B H=>tv B H λ v H1=>td B H1 λ x H2=>ty B H2 λ y H3=>∃ a H4,x=.ref a/\lX H3 a y v H4/\D.nx B H4
section
variable {X:Cx}{o i e value:Expr}{pos pos' tpos:Pos}{td ty tv:TE}
def Sb (hu:X.A.units+1<cLine) (ho:PE X o td) (hi:PE X i ty) (hs:dE i):PE X (.Subscript o i pos) (VF td ty):=by
 intro pins s B H Q I h;refine VI PySem.F.slot_dict_getitem.lookup hs (zL (ho pins s B H _ I h) λ u s1 ⟨x,H1,I1,rx,q1⟩=>zL (hi pins s1 B H1 _ I1 q1) λ iv s2 ⟨y,H2,I2,ry,a,v,ex,g,q2⟩=>?_);subst ex;obtain rfl:u=Value.ref a:=rx;exact⟨NW I2 g,Md hu I2 g ry λ w' s3 I3 rw'=>⟨v,H2,I3,rw',q2⟩⟩
def Tf (hu:X.A.units+1<cLine) (ho:PE X o td) (hi:PE X i ty) (hv:PE X value tv) (hs:swapsWith value (some (.Subscript o i pos')) pos.line X.env=pure false):
  PS X (.Assign [.Subscript o i pos'] value pos) (U3 td ty tv):=by
 intro pins s B H D I h;refine wpAny_Assign_Subscript (zL (hv pins s B H _ I h) λ r s1 ⟨v,H1,I1,rv,q1⟩=>zL (ho pins s1 B H1 _ I1 q1) λ u s2 ⟨x,H2,I2,rx,q2⟩=>zL (hi pins s2 B H2 _ I2 q2) λ iv s3 ⟨y,H3,I3,ry,a,H4,ex,g,q3⟩=>?_) hs;subst ex;obtain rfl:u=Value.ref a:=rx;exact Mb hu I3 g ry rv λ s4 I4=>⟨B,H4,I4,q3⟩
end
def NV {P:Program}{w:World}{H:Hp}(h:Heap) (hb:sysModules<h.objs.size):x8 P w H (h.push { cls:=.type "dict",data:=.dict #[] }) h.objs.size (.dK []):=
 ⟨AN _,beq_eq_false_iff_ne.mpr (Ne.symm (Ax hb)),[],.nil,Heap.DictOf.new h⟩
def VD:TE:=λ _ H Q=>∀ p,H p=none->Q (.ref p) (upd H p (.dK []))
section
variable {X:Cx}{pos:Pos}
def TZ:PE X (.Dict [] [] pos) VD:=λ pins s B H Q I h=>
 wpAny_Dict_empty ⟨.ref s.heap.objs.size,_,I.laid (a:=s.heap.objs.size) (o:=.dK []) (t':=s.toks) (λ _ _ q=>An _ q) (Ag _) (NV s.heap I.big),rfl,h _ (I.zC.fresh (Ag _))⟩
end
structure M2 (X:Cx) (o:Expr) (m:Str) (apos:Pos) (e f:Expr) (Ak:Pos):Prop where
 base:attributeBase o m X.env (eval o X.env)=eval o X.env
 mK:((backTo Ak (starEach [e,f] X.env)).all (λ x=>!x.1)&&(backToKw Ak (keywordEach [] X.env)).all (λ x=>x.1.isSome)
  && decide (([e,f]:List Expr).length+([]:List Keyword).length+(if ([]:List Keyword).isEmpty then 0 else 1)<30))=true
 line:(apos.endLine == Ak.line)=true
 trees:backTo Ak (starEach [e,f] X.env)=[(false,eval e X.env),(false,eval f X.env)]
def We (H:Hp) (a:Addr):Prop:=(∃ Aa,Rd H a (.dK Aa))\/∃ Aa,Rd H a (.dT Aa)
def OE {X:Cx}{pins:List (Addr×Obj)}{B:St}{H:Hp}{s:Shared}{a:Addr}(I:Inv X pins B H s) (d:We H a):
  s.TypeIs (.ref a) "dict"/\(∀ b,Value.ref a=.ref b->∃ ob,s.heap.get? b=some ob/\ob.dict=none)/\(a == sysModules)=false:=by
 rcases d with ⟨Aa,e⟩ | ⟨Aa,e⟩
 .obtain⟨_,hd,vs,_,dd⟩:=oH I.zC e;refine⟨dd.typeIs,λ b q=>?_,hd⟩;cases q;obtain⟨ob,_,_,h1,h2,_⟩:=dd;exact⟨ob,h1,h2.2.1⟩
 .obtain⟨_,hd,xs,_,dd⟩:=mR I.zC e;refine⟨dd.typeIs,λ b q=>?_,hd⟩;cases q;obtain⟨ob,_,_,h1,h2,_⟩:=dd;exact⟨ob,h1,h2.2.1⟩
section
variable {X:Cx}{pins:List (Addr×Obj)}{B:St}{H:Hp}{s:Shared}{a:Addr}{y d:V}{u r:Value}{o:Option V}{A:Around}{E:Value->Shared->Prop}
def Me {Q:Value->Shared->Prop}(hu:A.units+1<cLine) (I:Inv X pins B H s) (g:rA H a y o) (ry:RelV y u) (rd:RelV d r) (h:∀ w' s',Inv X pins B H s'->RelV (o.getD d) w'->Q w' s'):
  wpAny (model X.prog X.w) A (call (.builtin "dict.get") [.ref a,u,r]) Q E s:=by
 rcases g with ⟨Aa,k,e,ey,l⟩ | ⟨Aa,k,b,e,ey,eb,l⟩
 .subst ey;obtain⟨z,hd,vs,rel,dd⟩:=oH I.zC e;refine call_meetsIn PySem.F.slot_dict_get dd.typeIs PySem.F.entry_dict_get (PySem.F.args_dict_get_3 _ _ _) (meets_dict_get_default (vf X.prog X.w) a (jh ry) hd r) ⟨_,dd.mapOf,h _ _ (I.tok _) ?_⟩;rw[l];exact (rel.val k).getD rd
 .subst ey;cases (show u=Value.ref b from ry);obtain⟨z,hd,xs,rel,dd⟩:=mR I.zC e;refine call_meetsIn PySem.F.slot_dict_get dd.typeIs PySem.F.entry_dict_get (PySem.F.args_dict_get_3 _ _ _) (meetsH_dict_get_default (tupleKind (vf X.prog X.w)) a b hd r) ⟨tupleKind_room_in1 hu,k,xs,jg I.zC eb,dd,h _ _ (I.tok _) ?_⟩;rw[l];exact (rel.val k).getD rd
end
def VE (td ty tx:TE):TE:=fun B H Q=>td B H λ x H1=>∃ a,x=.ref a/\We H1 a/\ty B H1 λ y H2=>tx B H2 λ z H3=>∃ o,rA H3 a y o/\Q (o.getD z) H3
section
variable {X:Cx}{o e f:Expr}{apos Ak:Pos}{td ty tx:TE}
def T_ (hu:X.A.units+1<cLine) (ho:PE X o td) (he:PE X e ty) (hf:PE X f tx) (m:M2 X o "get" apos e f Ak):PE X (.Call (.Attribute o "get" apos) [e,f] [] Ak) (VE td ty tx):=by
 intro pins s B H Q I h;refine wpAny_Call_method m.base m.mK m.line PySem.F.plainAttrs_dict PySem.F.slot_dict_get PySem.F.type_dict_get (zL (ho pins s B H _ I h) λ u s1 ⟨x,H1,I1,rx,a,ex,d,q1⟩=>?_);subst ex;obtain rfl:u=Value.ref a:=rx;obtain⟨t1,t2,_⟩:=OE I1 d;refine⟨t1,t2,?_⟩;rw[m.trees];refine Calls.callWith_builtin rfl (Calls.evalArgs_plain (Calls.spliced_cons (zL (he pins s1 B H1 _ I1 q1) λ iv s2 ⟨y,H2,I2,ry,q2⟩=>
  Calls.spliced_cons (zL (hf pins s2 B H2 _ I2 q2) λ fv s3 ⟨z,H3,I3,rz,ov,g,q3⟩=>Calls.spliced_nil ?_))))
 exact Me hu I3 g ry rz λ w' s4 I4 rw'=>⟨_,H3,I4,rw',q3⟩
end
section
variable {X:Cx}{pins:List (Addr×Obj)}{B:St}{H:Hp}{s:Shared}{a:Addr}{Aa:List (Key×V)}{A:Around}{E:Value->Shared->Prop}
end
section
variable {X:Cx}{pins:List (Addr×Obj)}{B:St}{H:Hp}{s:Shared}{a:Addr}{y:V}{u:Value}{A:Around}{E:Value->Shared->Prop}
end
end L2
namespace L3
open PySem PySem.Spec L2
open PyProof.Rows hiding St
noncomputable def um (Aa:List (Key×D)) (k:Key):Option D:=(Aa.find? λ kv=>decide (kv.1=k)).map (·.2)
noncomputable def putD (Aa:List (Key×D)) (k:Key) (v:D):List (Key×D):=
 if (Aa.any λ kv=>decide (kv.1=k))=true then Aa.map (λ kv=>if kv.1=k then (kv.1,v) else kv) else Aa++[(k,v)]
section
variable {K:Ad}{H:Hp}
theorem xr.val:∀ {Aa:List (Key×D)}{vs:List (Key×V)},xr K H Aa vs->∀ k,(um Aa k=none/\wO vs k=none)\/∃ d v,um Aa k=some d/\wO vs k=some v/\zk K H d v
 | _,_,.nil,k=>.inl ⟨rfl,rfl⟩
 | (a,d)::Aa,(b,v)::vs,.cons ⟨e,r⟩ t,k=>by
  have e':a=b:=e;subst e';by_cases h:a=k
  .subst h;exact .inr ⟨d,v,by simp[um],by simp[wO],r⟩
  .rcases xr.val t k with ⟨h1,h2⟩ | ⟨d',v',h1,h2,h3⟩
   .exact .inl ⟨by simpa [um,h] using h1,by simpa [wO,h] using h2⟩
   .exact .inr ⟨d',v',by simpa [um,h] using h1,by simpa [wO,h] using h2,h3⟩
theorem xr.any {Aa:List (Key×D)}{vs:List (Key×V)}(h:xr K H Aa vs) (k:Key):(Aa.any λ kv=>decide (kv.1=k))=vs.any λ kv=>decide (kv.1=k):=by
 induction h with
 | nil=>rfl
 | cons r _ ih=>rw[Bf,Bf,ih,r.1]
def xr.len {Aa:List (Key×D)}{vs:List (Key×V)}(h:xr K H Aa vs):Aa.length=vs.length:=Paired.length h
theorem xr.t6 {k:Key}{d:D}{v:V}(r:zk K H d v):∀ {Aa:List (Key×D)}{vs:List (Key×V)},xr K H Aa vs->xr K H (Aa.map λ kv=>if kv.1=k then (kv.1,d) else kv) (vs.map λ kv=>if kv.1=k then (kv.1,v) else kv)
 | _,_,.nil=>.nil
 | (a1,a2)::_,(b1,b2)::_,.cons ⟨e,q⟩ t=>by
  have e':a1=b1:=e;subst e';refine .cons ?_ (xr.t6 r t);by_cases hk:a1=k
  .simp[hk,r]
  .simpa [hk] using q
theorem xr.snoc {k:Key}{d:D}{v:V}(r:zk K H d v):∀ {Aa:List (Key×D)}{vs:List (Key×V)},xr K H Aa vs->xr K H (Aa++[(k,d)]) (vs++[(k,v)])
 | _,_,.nil=>.cons ⟨rfl,r⟩ .nil
 | _,_,.cons q t=>.cons q (xr.snoc r t)
def xr.put {Aa:List (Key×D)}{vs:List (Key×V)}(h:xr K H Aa vs) (k:Key) {d:D}{v:V}(r:zk K H d v):xr K H (putD Aa k d) (putK vs k v):=by
 unfold putD putK;rw[h.any k];split
 .exact xr.t6 r h
 .exact xr.snoc r h
end
section
variable {X:Cx}{K:Ad}{o i e f v:Expr}{td ty tx tv:zA}{pos pos' apos Ak:Pos}
def Xm:zA:=λ _ S Q=>∀ p,S p=none->Q (.ref p) (ups S p (.yr []))
def SO:PD X (.Dict [] [] pos) Xm:=by
 refine⟨λ _ _ _ _ hq z p hp=>hq _ _ (z p hp),PE.imp TZ fun B H Q hu p hp=>?_⟩;obtain⟨Y,S,r1,r2,z⟩:=hu;exact z p (r2.none hp) _ _ (by simp only[zk]) (.new hp _) (r2.ups (.new hp _) ⟨[],yK,.nil⟩)
def Xp (td ty:zA):zA:=fun Y S Q=>td Y S λ x S1=>ty Y S1 λ y S2=>∃ p Aa k d,x=.ref p/\y=.int k/\S2 p=some (.yr Aa)/\um Aa (.inl k)=some d/\Q d S2
def Zv {k:Nat}(hr:yI k X.A) (ho:PD X o td) (hi:PD X i ty) (hs:dE i:=by exact λ _ _=>rfl):PD X (.Subscript o i pos) (Xp td ty):=by
 refine⟨fun Y S Q Q' hq z=>ho.mo Y S _ _ (λ x S1 z=>hi.mo Y S1 _ _ (λ y S2 ⟨p,Aa,k,d,a,b,c,e,h⟩=>⟨p,Aa,k,d,a,b,c,e,hq _ _ h⟩) z) z,PE.imp (Sb (fV hr) ho.pe hi.pe hs) fun B H Q hu=>?_⟩;obtain⟨Y,S,r1,r2,z⟩:=hu;refine zV.go ho.mo r1 r2 z λ x S1 w H1 h1 q1 e1 p1=>?_;refine zV.go hi.mo (r1.ext e1) p1 h1 λ y S2 w2 H2 h2 q2 e2 p2=>?_;obtain⟨p,Aa,k,d,rfl,rfl,c1,c2,h⟩:=h2;simp only[zk] at q1 q2;subst q1 q2;obtain⟨vs,g1,g2⟩:=p2 _ _ c1;rcases xr.val g2 (.inl k) with ⟨n1,_⟩ | ⟨d',v',n1,n2,n3⟩
 .rw[c2] at n1;cases n1
 .rw[c2] at n1;cases n1;exact⟨p,v',rfl,n2▸rA.k (k:=Sum.inl k) g1,h v' H2 n3 (e1.trans e2) p2⟩
def Xo (td ty tx:zA):zA:=fun Y S Q=>td Y S λ x S1=>∃ p,x=.ref p/\(∃ Aa,S1 p=some (.yr Aa))/\ty Y S1 λ y S2=>tx Y S2 λ z S3=>∃ k Aa,y=.int k/\S3 p=some (.yr Aa)/\Q ((um Aa (.inl k)).getD z) S3
def SR {k:Nat}(hr:yI k X.A) (ho:PD X o td) (he:PD X e ty) (hf:PD X f tx) (m:M2 X o "get" apos e f Ak:=by exact⟨rfl,rfl,rfl,rfl⟩):PD X (.Call (.Attribute o "get" apos) [e,f] [] Ak) (Xo td ty tx):=by
 refine⟨fun Y S Q Q' hq z=>ho.mo Y S _ _ (λ x S1 ⟨p,a,b,z⟩=>⟨p,a,b,he.mo Y S1 _ _ (λ y S2 z=>hf.mo Y S2 _ _ (λ w S3 ⟨k,Aa,a,b,h⟩=>⟨k,Aa,a,b,hq _ _ h⟩) z) z⟩) z,PE.imp (T_ (fV hr) ho.pe he.pe hf.pe m) fun B H Q hu=>?_⟩;obtain⟨Y,S,r1,r2,z⟩:=hu;refine zV.go ho.mo r1 r2 z λ x S1 w H1 h1 q1 e1 p1=>?_;obtain⟨p,rfl,⟨kvs0,c0⟩,h1⟩:=h1;simp only[zk] at q1;subst q1;obtain⟨vs0,g0,_⟩:=p1 _ _ c0;refine⟨p,rfl,.inl ⟨vs0,.inl g0⟩,?_⟩;refine zV.go he.mo (r1.ext e1) p1 h1 λ y S2 w2 H2 h2 q2 e2 p2=>?_;refine zV.go hf.mo ((r1.ext e1).ext e2) p2 h2 λ y3 S3 w3 H3 h3 q3 e3 p3=>?_;obtain⟨k,Aa,rfl,c1,h⟩:=h3;simp only[zk] at q2;subst q2;obtain⟨vs,g1,g2⟩:=p3 _ _ c1;refine⟨wO vs (.inl k),rA.k (k:=Sum.inl k) g1,?_⟩;rcases xr.val g2 (.inl k) with ⟨n1,n2⟩ | ⟨d',v',n1,n2,n3⟩
 .rw[n1] at h;rw[n2];exact h _ H3 q3 ((e1.trans e2).trans e3) p3
 .rw[n1] at h;rw[n2];exact h _ H3 n3 ((e1.trans e2).trans e3) p3
def Xn (td ty tv:zA):y_:=λ E Y S=>tv Y S λ v S1=>td Y S1 λ x S2=>ty Y S2 λ y S3=>∃ p Aa k,x=.ref p/\y=.int k/\S3 p=some (.yr Aa)/\Aa.length<sizeLine/\E.nx Y (ups S3 p (.yr (putD Aa (.inl k) v)))
theorem Ext.dK {H:Hp}{p:Addr}{Aa:List (Key×V)}(h:H p=some (.dK Aa)) (o:HO):Ext H (upd H p o):=
 ⟨λ b ys q=>by rw[yV (my q h (by intro z;cases z))];exact q,λ b ob u q=>by rw[yV (my q h (by intro z;cases z))];exact q⟩
def Ss {k:Nat}(hr:yI k X.A) (ho:PD X o td) (hi:PD X i ty) (hv:PD X v tv) (hs:swapsWith v (some (.Subscript o i pos')) pos.line X.env=pure false:=by rfl):vK X (.Assign [.Subscript o i pos'] v pos) (Xn td ty tv):=by
 refine⟨λ E E' Y S hE z=>hv.mo Y S _ _ (λ w S1 z=>ho.mo Y S1 _ _ (λ x S2 z=>hi.mo Y S2 _ _ (λ y S3 ⟨p,Aa,k,a,b,c,d,h⟩=>⟨p,Aa,k,a,b,c,d,hE.nx _ _ h⟩) z) z) z,PS.imp (Tf (fV hr) ho.pe hi.pe hv.pe hs) λ D B H hu=>?_⟩;obtain⟨Y,S,r1,r2,z⟩:=hu;refine zV.go hv.mo r1 r2 z λ w S1 w1 H1 h1 q1 e1 p1=>?_;refine zV.go ho.mo (r1.ext e1) p1 h1 λ x S2 w2 H2 h2 q2 e2 p2=>?_;refine zV.go hi.mo ((r1.ext e1).ext e2) p2 h2 λ y S3 w3 H3 h3 q3 e3 p3=>?_;obtain⟨p,Aa,k,rfl,rfl,c1,c2,h⟩:=h3;simp only[zk] at q2 q3;subst q2 q3;obtain⟨vs,g1,g2⟩:=p3 _ _ c1;have e4:Ext H3 (upd H3 p (.dK (putK vs (.inl k) w1))):=.dK g1 _;refine⟨p,_,rfl,lX.k (k:=Sum.inl k) g1 (by rw[<- g2.len];exact c2),?_⟩;exact h B _ ((((r1.ext e1).ext e2).ext e3).ext e4) (((e1.trans e2).trans e3).trans e4) (p3.ups e4 ⟨_,yK,(xr.put g2 _ (zk.ext (e2.trans e3) w q1)).ext e4⟩)
def MF:yU X (.builtin "len") (λ xs H Q=>∃ p Aa,xs=[.ref p]/\H p=some (.dK Aa)/\Q (.int Aa.length) H):=by
 intro pins s B H xs us Q I r h;obtain⟨p,Aa,rfl,e,q⟩:=h;obtain⟨u,rfl,ru⟩:=vals1 r;cases ru;exact Mc I (.inl e) λ t s' I'=>⟨.int _,H,I',⟨_,rfl⟩,q⟩
def YJ:wa:=λ ds S Q=>∃ p Aa,ds=[.ref p]/\S p=some (.yr Aa)/\Q (.int Aa.length) S
def SN {es:List Expr}{tA:yD}{p:Pos}(hm:X.mg "len"=none) (ha:wb X (e::es) tA) (hg:Gl X "len":=by rfl) (he:starEach (e::es) X.env=(false,eval e X.env)::starEach es X.env:=by rfl) (Au:(backTo pos (starEach es X.env)).any (·.1)=false:=by rfl):PD X (.Call (.Name "len" p) (e::es) [] pos) (xZ YJ tA):=
 t8 (sE MF hg hm PySem.boot_len ha.pa (by decide) (by decide) he Au) (λ _ _ _ _ hq ⟨p,Aa,a,b,h⟩=>⟨p,Aa,a,b,hq _ _ h⟩) (λ xs ds H S Q h0 h2 ⟨p,Aa,a,b,h⟩=>by
  subst a;obtain⟨x,rfl,h1⟩:=h0.one;simp only[zk] at h1;subst h1;obtain⟨vs,g1,g2⟩:=h2 _ _ b;refine⟨p,vs,rfl,g1,?_⟩;rw[<- g2.len];exact h _ H (by simp only[zk]) (.refl H) h2) ha.mo
end
end L3
namespace L3
open PySem L2
section
variable {S S':SS}
mutual
theorem Sn.sx (h:Sx S S'):∀ (t:T) {d:D},Sn S t d->Sn S' t d
 | .zh,d,q=>by simpa only [Sn] using q
 | .bl b,d,q=>by simpa only [Sn] using q
 | .int i,d,q=>by simpa only [Sn] using q
 | .str x,d,q=>by simpa only [Sn] using q
 | .tup ts,d,q=>by
  simp only[Sn] at q ⊢;obtain⟨ds,q1,q2⟩:=q;exact⟨ds,q1,zp.sx h ts q2⟩
 | .lst ts,d,q=>by
  simp only[Sn] at q ⊢;obtain⟨ds,q1,q2⟩:=q;refine⟨ds,?_,zp.sx h ts q2⟩;rcases q1 with q1 | ⟨a,q1,q3⟩
  .exact .inl q1
  .exact .inr ⟨a,q1,h _ _ q3⟩
 | .yd,d,q=>by
  simp only[Sn] at q ⊢;obtain⟨a,Aa,q1,q2⟩:=q;exact⟨a,Aa,q1,h _ _ q2⟩
theorem zp.sx (h:Sx S S'):∀ (ts:List T) {ds:List D},zp S ts ds->zp S' ts ds
 | [],ds,q=>by simpa only [zp] using q
 | t::ts,ds,q=>by
  simp only[zp] at q ⊢;obtain⟨c,cs,q1,q2,q3⟩:=q;exact⟨c,cs,q1,Sn.sx h t q2,zp.sx h ts q3⟩
end
def zp.nil:zp S [] []:=by simp only[zp]
def zp.cons {t:T}{ts:List T}{d:D}{ds:List D}(h:Sn S t d) (h':zp S ts ds):zp S (t::ts) (d::ds):=by
 simp only[zp];exact⟨d,ds,rfl,h,h'⟩
theorem zp.append:∀ {ts us:List T}{ds es:List D},zp S ts ds->zp S us es->zp S (ts++us) (ds++es)
 | [],us,ds,es,h,h'=>by simp only[zp] at h;subst h;simpa using h'
 | t::ts,us,ds,es,h,h'=>by
  simp only[zp] at h;obtain⟨c,cs,rfl,h1,h2⟩:=h;exact zp.cons h1 (zp.append h2 h')
theorem zp.e9:∀ {ts:List T}{ds:List D}{i:Nat}{t:T},zp S ts ds->ts[i]?=some t->∃ d,ds[i]?=some d/\Sn S t d
 | [],_,i,t,_,e=>by simp at e
 | u::ts,ds,i,t,h,e=>by
  simp only[zp] at h;obtain⟨c,cs,rfl,h1,h2⟩:=h;cases i with
  | zero=>simp at e;subst e;exact⟨c,rfl,h1⟩
  | succ i=>
   obtain⟨y,e1,e2⟩:=zp.e9 (i:=i) h2 (by simpa using e);exact⟨y,by simpa using e1,e2⟩
theorem zp.jq:∀ {ts:List T}{ds:List D}{i:Nat}{d:D},zp S ts ds->ds[i]?=some d->∃ t,ts[i]?=some t/\Sn S t d
 | [],ds,i,t,h,e=>by simp only[zp] at h;subst h;simp at e
 | u::ts,ds,i,t,h,e=>by
  simp only[zp] at h;obtain⟨c,cs,rfl,h1,h2⟩:=h;cases i with
  | zero=>simp at e;subst e;exact⟨u,rfl,h1⟩
  | succ i=>
   obtain⟨y,e1,e2⟩:=zp.jq (i:=i) h2 (by simpa using e);exact⟨y,by simpa using e1,e2⟩
def zp.len {ts:List T}{ds:List D}(h:zp S ts ds):ds.length=ts.length:=(L3.zp.length h).symm
theorem zp.at {ts:List T}{ds:List D}{i:Int}{t:T}(h:zp S ts ds) (e:L2.zY ts i=some t):∃ d,L2.zY ds i=some d/\Sn S t d:=by
 unfold L2.zY at e ⊢;rw[h.len];cases q:L2.wW ts.length i with
 | none=>rw[q] at e;cases e
 | some j=>
  rw[q] at e;exact h.e9 e
theorem zp.az:∀ {ts:List T}{ds:List D}{t:T}{d:D}(i:Nat),zp S ts ds->Sn S t d->zp S (ts.set i t) (ds.set i d)
 | [],ds,t,d,i,h,_=>by simp only[zp] at h;subst h;simpa using zp.nil
 | u::ts,ds,t,d,0,h,hd=>by
  simp only[zp] at h;obtain⟨c,cs,rfl,h1,h2⟩:=h;exact zp.cons hd h2
 | u::ts,ds,t,d,i+1,h,hd=>by
  simp only[zp] at h;obtain⟨c,cs,rfl,h1,h2⟩:=h;exact zp.cons h1 (zp.az i h2 hd)
theorem zp.take':∀ {ts:List T}{ds:List D}(n:Nat),zp S ts ds->zp S (ts.take n) (ds.take n)
 | ts,ds,0,h=>by simpa using zp.nil
 | [],ds,n+1,h=>by simp only[zp] at h;subst h;simpa using zp.nil
 | t::ts,ds,n+1,h=>by
  simp only[zp] at h;obtain⟨c,cs,rfl,h1,h2⟩:=h;exact zp.cons h1 (zp.take' n h2)
theorem zp.drop':∀ {ts:List T}{ds:List D}(n:Nat),zp S ts ds->zp S (ts.drop n) (ds.drop n)
 | ts,ds,0,h=>h
 | [],ds,n+1,h=>by simp only[zp] at h;subst h;simpa using zp.nil
 | t::ts,ds,n+1,h=>by
  simp only[zp] at h;obtain⟨c,cs,rfl,h1,h2⟩:=h;exact zp.drop' n h2
def zp.empty {ts:List T}{ds:List D}(h:zp S ts ds):ds.isEmpty=ts.isEmpty:=by
 have:=h.len;cases ds <;> cases ts <;> simp_all
theorem zp.XC:∀ {bs:List Bool}{ds:List D},zp S (bs.map T.bl) ds->ds=bs.map D.bl
 | [],ds,h=>by simpa only [A9,zp] using h
 | b::bs,ds,h=>by
  rw[Ar] at h;simp only[zp,Sn] at h;obtain⟨c,cs,rfl,rfl,h3⟩:=h;rw[zp.XC h3];rfl
end
end L3
namespace L5
open PySem L2 L3
noncomputable def zW (S:SS) (Z:Addr->Prop):SS:=open Classical in λ a=>if Z a then none else S a
section
variable {S S' S1:SS}{Z Z':Addr->Prop}{a p:Addr}
def u6 (h:¬ Z a):zW S Z a=S a:=if_neg h
def fW (h:Z a):zW S Z a=none:=if_pos h
def tD {o:O}(h:zW S Z a=some o):¬ Z a/\S a=some o:=by
 by_cases z:Z a
 .rw[fW z] at h;cases h
 .rw[u6 z] at h;exact⟨z,h⟩
def mE (S:SS) (Z:Addr->Prop):Sx (zW S Z) S:=λ _ _ h=>(tD h).2
def vh (h:Sx S S'):Sx (zW S Z) (zW S' Z):=λ b o q=>by
 obtain⟨q1,q2⟩:=tD q;rw[u6 q1];exact h _ _ q2
def tE (h:∀ a,Z' a->Z a):Sx (zW S Z) (zW S Z'):=λ b o q=>by
 obtain⟨q1,q2⟩:=tD q;rw[u6 (λ z=>q1 (h _ z))];exact q2
def oA (h:Sx S S') (hp:S p=none):Sx (zW S Z) (zW S' λ a=>Z a\/a=p):=λ b o q=>by
 obtain⟨q1,q2⟩:=tD q;rw[u6]
 .exact h _ _ q2
 .rintro (z | z)
  .exact q1 z
  .subst z;rw[hp] at q2;cases q2
def OU {o:O}(h:Z p):zW (ups S p o) Z=zW S Z:=by
 funext b;by_cases z:Z b
 .rw[fW z,fW z]
 .rw[u6 z,u6 z,sd (λ e=>z (by rw[e];exact h))]
end
inductive C where
 | lst (ts:List T) | yr (Aa:List (Key×T))
noncomputable def yJ (S:SS):List (Key×T)->List (Key×D)->Prop
 | [],l=>l=[]
 | (k,t)::r,l=>∃ d m,l=(k,d)::m/\Sn S t d/\yJ S r m
theorem yJ.sx {S S':SS}(h:Sx S S'):∀ {a:List (Key×T)}{b:List (Key×D)},yJ S a b->yJ S' a b
 | [],_,q=>q
 | (k,t)::r,_,q=>by
  obtain⟨d,m,q1,q2,q3⟩:=q;exact⟨d,m,q1,Sn.sx h t q2,yJ.sx h q3⟩
noncomputable def tU (S:SS):C->O->Prop
 | .lst ts,.lst ds=>zp S ts ds
 | .yr a,.yr b=>yJ S a b
 | _,_=>False
theorem tU.sx {S S':SS}(h:Sx S S'):∀ {c:C}{o:O},tU S c o->tU S' c o
 | .lst ts,.lst ds,q=>zp.sx h ts q
 | .yr a,.yr b,q=>yJ.sx h q
inductive W where
 | im (t:T) | own (c:C)
abbrev Ev:=List (Option W)
structure ER (S:SS) (Z:Addr->Prop) (Y:yt) (J:Ev):Prop where
 zd:∀ a,Z a->S a≠none
 im:∀ (i:Nat) t,J[i]?=some (some (.im t))->∃ d,Y[i]?=some (some d)/\Sn (zW S Z) t d
 ow:∀ (i:Nat) c,J[i]?=some (some (.own c))->∃ p o,Y[i]?=some (some (.ref p))/\S p=some o/\tU (zW S Z) c o/\Z p
def Vw (S:SS) (Z:Addr->Prop) (y:T) (d:D):Prop:=Sn (zW S Z) y d\/∃ ts p ds,y=.lst ts/\d=.ref p/\S p=some (.lst ds)/\zp (zW S Z) ts ds/\Z p
abbrev Rk:=SS->SS->(Addr->Prop)->T->D->Prop
def XT:Rk:=λ _ S' Z y d=>Vw S' Z y d
def w9:Rk:=λ _ S' Z y d=>Sn (zW S' Z) y d
def zJ:Rk:=λ S S' Z y d=>Sn (zW S' Z) y d/\∀ ts,y=.lst ts->∃ p ds,d=.ref p/\S p=none/\S' p=some (.lst ds)/\zp (zW S' λ a=>Z a\/a=p) ts ds
class Cl (R:Rk):Prop where
 cl:∀ {S S1 S':SS}{Z:Addr->Prop}{y:T}{d:D},Sx S S1->R S1 S' Z y d->R S S' Z y d
 of:∀ {S S':SS}{Z:Addr->Prop}{y:T}{d:D},(∀ ts,y≠.lst ts)->Sn (zW S' Z) y d->R S S' Z y d
instance:Cl XT:=⟨λ _ h=>h,λ _ h=>.inl h⟩
instance:Cl w9:=⟨λ _ h=>h,λ _ h=>h⟩
instance:Cl zJ:=⟨λ s h=>⟨h.1,λ ts e=>by
 obtain⟨p,ds,h1,h2,h3⟩:=h.2 ts e;exact⟨p,ds,h1,s.none h2,h3⟩⟩,λ n h=>⟨h,λ ts e=>absurd e (n ts)⟩⟩
section
variable {S S' S1:SS}{Z Z':Addr->Prop}{Y:yt}{J:Ev}{y:T}{d:D}
def ER.grow (h:ER S Z Y J) (s:Sx S S'):ER S' Z Y J:=
 ⟨λ a z q=>h.zd a z (s.none q),λ i t e=>by
  obtain⟨d,h1,h2⟩:=h.im i t e;exact⟨d,h1,Sn.sx (vh s) t h2⟩,λ i ts e=>by
  obtain⟨p,ds,h1,h2,h3,h4⟩:=h.ow i ts e;exact⟨p,ds,h1,s _ _ h2,tU.sx (vh s) h3,h4⟩⟩
def Vw.grow (h:Vw S Z y d) (s:Sx S S'):Vw S' Z y d:=by
 rcases h with h | ⟨ts,p,ds,h1,h2,h3,h4,h5⟩
 .exact .inl (Sn.sx (vh s) y h)
 .exact .inr ⟨ts,p,ds,h1,h2,s _ _ h3,zp.sx (vh s) ts h4,h5⟩
def Vw.sn (h:Vw S Z y d):Sn S y d:=by
 rcases h with h | ⟨ts,p,ds,rfl,rfl,h3,h4,_⟩
 .exact Sn.sx (mE S Z) y h
 .simp only[Sn];exact⟨ds,.inr ⟨p,rfl,h3⟩,zp.sx (mE S Z) ts h4⟩
theorem Vw.zh (h:Vw S Z .zh d):d=.zh:=by
 rcases h with h | ⟨_,_,_,h,_⟩
 .simpa only [Sn] using h
 .cases h
theorem Vw.bl {b:Bool}(h:Vw S Z (.bl b) d):d=.bl b:=by
 rcases h with h | ⟨_,_,_,h,_⟩
 .simpa only [Sn] using h
 .cases h
theorem Vw.int {b:Int}(h:Vw S Z (.int b) d):d=.int b:=by
 rcases h with h | ⟨_,_,_,h,_⟩
 .simpa only [Sn] using h
 .cases h
theorem Vw.str {b:Str}(h:Vw S Z (.str b) d):d=.str b:=by
 rcases h with h | ⟨_,_,_,h,_⟩
 .simpa only [Sn] using h
 .cases h
theorem Vw.tup {ts:List T}(h:Vw S Z (.tup ts) d):∃ ds,d=.tup ds/\zp (zW S Z) ts ds:=by
 rcases h with h | ⟨_,_,_,h,_⟩
 .simpa only [Sn] using h
 .cases h
theorem Vw.lst {ts:List T}(h:Vw S Z (.lst ts) d):∃ ds,(d=.yW ds\/∃ a,d=.ref a/\S a=some (.lst ds))/\zp (zW S Z) ts ds:=by
 rcases h with h | ⟨us,p,ds,h1,h2,h3,h4,_⟩
 .simp only[Sn] at h;obtain⟨ds,h1,h2⟩:=h;refine⟨ds,?_,h2⟩;rcases h1 with h1 | ⟨a,h1,h3⟩
  .exact .inl h1.1
  .exact .inr ⟨a,h1,(tD h3).2⟩
 .cases h1;exact⟨ds,.inr ⟨p,h2,h3⟩,h4⟩
noncomputable def wj:T->Option (List T)
 | .tup ts=>some ts
 | .lst ts=>some ts
 | _=>none
@[simp] theorem zab (ts:List T):wj (.tup ts)=some ts:=rfl
@[simp] theorem zac (ts:List T):wj (.lst ts)=some ts:=rfl
def Vw.seq {ts:List T}(h:Vw S Z y d) (e:wj y=some ts):∃ ds,zU d S=some ds/\zp (zW S Z) ts ds:=by
 cases y with
 | tup us=>cases e;obtain⟨ds,rfl,h2⟩:=h.tup;exact⟨ds,rfl,h2⟩
 | lst us=>
  cases e;obtain⟨ds,h1 | ⟨a,rfl,h1⟩,h2⟩:=h.lst
  .subst h1;exact⟨ds,rfl,h2⟩
  .exact⟨ds,by unfold zU;dsimp only;rw[h1],h2⟩
 | zh=>cases e
 | bl _=>cases e
 | int _=>cases e
 | str _=>cases e
 | yd=>cases e
theorem Vw.yd (h:Vw S Z .yd d):∃ a Aa,d=.ref a/\S a=some (.yr Aa):=by
 rcases h with h | ⟨_,_,_,h,_⟩
 .simp only[Sn] at h;obtain⟨a,Aa,h1,h2⟩:=h;exact⟨a,Aa,h1,(tD h2).2⟩
 .cases h
def aq:Sn S .zh .zh:=by simp only[Sn]
def vp {b:Bool}:Sn S (.bl b) (.bl b):=by simp only[Sn]
def vo {i:Int}:Sn S (.int i) (.int i):=by simp only[Sn]
def ao {x:Str}:Sn S (.str x) (.str x):=by simp only[Sn]
def qC {ts:List T}{ds:List D}(h:zp S ts ds):Sn S (.tup ts) (.tup ds):=by simp only[Sn];exact⟨ds,rfl,h⟩
def t5 {ts:List T}{ds:List D}{p:Addr}(hz:∀ a,Z a->S a≠none) (hp:S p=none) (h:zp (zW S Z) ts ds):zJ S (ups S p (.lst ds)) Z (.lst ts) (.ref p):=by
 have nz:¬ Z p:=λ z=>hz p z hp;have s:Sx S (ups S p (.lst ds)):=.new hp _;refine⟨?_,λ us e=>?_⟩
 .simp only[Sn];exact⟨ds,.inr ⟨p,rfl,by rw[u6 nz,rC]⟩,zp.sx (vh s) ts h⟩
 .cases e;exact⟨p,ds,rfl,hp,rC,zp.sx (oA s hp) ts h⟩
end
def xU (R:Rk) (f:Ev->Option T) (t:zA):Prop:=∀ S Z Y J y Q,ER S Z Y J->f J=some y->(∀ d S',Sx S S'->R S S' Z y d->Q d S')->t Y S Q
abbrev vL:=xU w9
abbrev yN:=xU XT
abbrev wc:=xU zJ
def xU.imp {R R':Rk}{f:Ev->Option T}{t:zA}(h:xU R f t) (i:∀ S S' Z y d,R S S' Z y d->R' S S' Z y d):xU R' f t:=λ S Z Y J y Q hE e hq=>h S Z Y J y Q hE e λ d S' s r=>hq d S' s (i _ _ _ _ _ r)
def xU.er {f:Ev->Option T}{t:zA}(h:vL f t):yN f t:=h.imp λ _ _ _ _ _ r=>.inl r
def xU.fe {f:Ev->Option T}{t:zA}(h:wc f t):vL f t:=h.imp λ _ _ _ _ _ r=>r.1
def xU.fr {f:Ev->Option T}{t:zA}(h:wc f t):yN f t:=h.fe.er
@[simp] noncomputable def zm (i:Nat):Ev->Option T:=fun J=>match J[i]? with
 | some (some (.im t))=>some t
 | _=>none
@[simp] noncomputable def zf (i:Nat):Ev->Option T:=fun J=>match J[i]? with
 | some (some (.im t))=>some t
 | some (some (.own (.lst ts)))=>some (.lst ts)
 | _=>none
@[simp] noncomputable def cS (t:T):Ev->Option T:=λ _=>some t
def ZC (i:Nat):vL (zm i) (yS i):=λ S Z Y J y Q hE e hq=>by
 unfold zm at e;split at e
 .rename_i t h;cases e;obtain⟨d,h1,h2⟩:=hE.im i _ h;unfold yS;rw[h1];exact hq d S (.refl S) h2
 .cases e
def Qb (i:Nat):yN (zf i) (yS i):=λ S Z Y J y Q hE e hq=>by
 unfold zf at e;split at e
 .rename_i t h;cases e;obtain⟨d,h1,h2⟩:=hE.im i _ h;unfold yS;rw[h1];exact hq d S (.refl S) (.inl h2)
 .rename_i ts h;cases e;obtain⟨p,o,h1,h2,h3,h4⟩:=hE.ow i _ h;unfold yS;rw[h1];cases o with
  | yr _=>exact h3.elim
  | lst ds=>exact hq _ S (.refl S) (.inr ⟨ts,p,ds,rfl,rfl,h2,h3,h4⟩)
 .cases e
def QM (i:Int):wc (cS (.int i)) (dC (.int i)):=λ S Z Y J y Q hE e hq=>by cases e;exact hq _ S (.refl S) (Cl.of (λ _=>nofun) vo)
def Pk (i:Bool):wc (cS (.bl i)) (dC (.bl i)):=λ S Z Y J y Q hE e hq=>by cases e;exact hq _ S (.refl S) (Cl.of (λ _=>nofun) vp)
def Qi (i:Str):wc (cS (.str i)) (dC (.str i)):=λ S Z Y J y Q hE e hq=>by cases e;exact hq _ S (.refl S) (Cl.of (λ _=>nofun) ao)
def Qs:wc (cS .zh) (dC .zh):=λ S Z Y J y Q hE e hq=>by cases e;exact hq _ S (.refl S) (Cl.of (λ _=>nofun) aq)
@[simp] noncomputable def zc (f:T->T->Option T) (fa fb:Ev->Option T):Ev->Option T:=fun J=>(fa J).bind λ x=>(fb J).bind λ y=>f x y
def Good2 (R:Rk) (f:T->T->Option T) (g:xc):Prop:=∀ S Z x y z d e Q,(∀ a,Z a->S a≠none)->Vw S Z x d->Vw S Z y e->f x y=some z->(∀ c S',Sx S S'->R S S' Z z c->Q c S')->g d e S Q
def qL {R:Rk} [Cl R] {f:T->T->Option T}{g:xc}{fa fb:Ev->Option T}{ta tb:zA}(hg:Good2 R f g) (ha:yN fa ta) (hb:yN fb tb):xU R (zc f fa fb) (yA g ta tb):=λ S Z Y J y Q hE e hq=>by
 unfold zc at e;obtain⟨x,e1,e⟩:=Aj e;obtain⟨z,e2,e⟩:=Aj e;refine ha S Z Y J x _ hE e1 λ d S1 s1 r1=>?_;refine hb S1 Z Y J z _ (hE.grow s1) e2 λ d2 S2 s2 r2=>?_;exact hg S2 Z x z y d d2 Q ((hE.grow (s1.trans s2)).zd) (Vw.grow r1 s2) r2 e λ c S' s r=>hq c S' ((s1.trans s2).trans s) (Cl.cl (s1.trans s2) r)
@[simp] noncomputable def i2 (g:Int->Int->T):T->T->Option T
 | .int i,.int j=>some (g i j)
 | _,_=>none
instance {i j:Int}:Decidable (wN i j):=by unfold wN;infer_instance
instance {i j:Int}:Decidable (xF i j):=by unfold xF;infer_instance
instance {i j:Int}:Decidable (pL i j):=by unfold pL;infer_instance
@[simp] noncomputable def mD (C:Int->Int->Prop) [∀ i j,Decidable (C i j)] (g:Int->Int->T):T->T->Option T
 | .int i,.int j=>if C i j then some (g i j) else none
 | _,_=>none
def jo {g:Int->Int->T}{g':Int->Int->D}(h:∀ i j S,Sn S (g i j) (g' i j)) (n:∀ i j ts,g i j≠.lst ts):Good2 zJ (i2 g) (xA g'):=λ S Z x y z d e Q hz hx hy ef hq=>by
 unfold i2 at ef;split at ef
 .cases ef;cases hx.int;cases hy.int;exact hq _ S (.refl S) (Cl.of (n _ _) (h _ _ _))
 .cases ef
def ei {C:Int->Int->Prop} [∀ i j,Decidable (C i j)] {g:Int->Int->T}{g':Int->Int->D}(h:∀ i j S,Sn S (g i j) (g' i j)) (n:∀ i j ts,g i j≠.lst ts):Good2 zJ (mD C g) (fI C g'):=λ S Z x y z d e Q hz hx hy ef hq=>by
 unfold mD at ef;split at ef
 .split at ef
  .rename_i hh;cases ef;cases hx.int;cases hy.int;exact⟨hh,hq _ S (.refl S) (Cl.of (n _ _) (h _ _ _))⟩
  .cases ef
 .cases ef
@[simp] def xQ:T->T->Option T:=i2 λ i j=>.int (i-j)
@[simp] def yc:T->T->Option T:=mD (λ _ j=>0<j) λ i j=>.int (i%j)
@[simp] def yL:T->T->Option T:=mD xF λ i j=>.int (i/j)
@[simp] def Ze:T->T->Option T:=mD pL λ i j=>.int (i ^ j.toNat)
@[simp] def qP:T->T->Option T:=i2 λ i j=>.bl (decide (i<=j))
@[simp] def oB:T->T->Option T:=i2 λ i j=>.bl (decide (j<i))
@[simp] def tG:T->T->Option T:=i2 λ i j=>.bl (decide (j<=i))
section
variable {fa fb:Ev->Option T}{ta tb:zA}
def Qh (ha:yN fa ta) (hb:yN fb tb):wc (zc xQ fa fb) (yA (xA λ i j=>.int (i-j)) ta tb):=qL (jo (λ _ _ _=>vo) λ _ _ _=>nofun) ha hb
def Qw (ha:yN fa ta) (hb:yN fb tb):wc (zc yc fa fb) (yA (fI (λ _ j=>0<j) λ i j=>.int (i%j)) ta tb):=qL (ei (λ _ _ _=>vo) λ _ _ _=>nofun) ha hb
def QR (ha:yN fa ta) (hb:yN fb tb):wc (zc yL fa fb) (yA (fI xF λ i j=>.int (i/j)) ta tb):=qL (ei (λ _ _ _=>vo) λ _ _ _=>nofun) ha hb
def Qo (ha:yN fa ta) (hb:yN fb tb):wc (zc Ze fa fb) (yA (fI pL λ i j=>.int (i ^ j.toNat)) ta tb):=qL (ei (λ _ _ _=>vo) λ _ _ _=>nofun) ha hb
end
def zK (neg:Bool):T->T->Option T:=λ x y=>if dep x<=60/\dep y<=60 then some (.bl (cond neg (!eqT x y) (eqT x y))) else none
def o7 (neg:Bool):T->T->Option T:=λ x y=>match wj y with
 | some ts=>if dep x<=60/\yM ts<=60 then some (.bl (cond neg (!(ts.any λ t=>eqT t x)) (ts.any λ t=>eqT t x))) else none
 | none=>none
def Nn {neg:Bool}:Good2 zJ (zK neg) (vD neg):=λ S Z x y z d e Q hz hx hy ef hq=>by
 unfold zK at ef;split at ef
 .rename_i h;cases ef;exact⟨x,y,hx.sn,hy.sn,h.1,h.2,hq _ S (.refl S) (Cl.of (λ _=>nofun) vp)⟩
 .cases ef
def Nm {neg:Bool}:Good2 zJ (o7 neg) (rZ neg):=λ S Z x y z d e Q hz hx hy ef hq=>by
 unfold o7 at ef;split at ef
 .rename_i ts ht;split at ef
  .rename_i h;cases ef;obtain⟨ds,h1,h2⟩:=hy.seq ht;exact⟨x,ts,ds,hx.sn,h1,zp.sx (mE S Z) ts h2,h.1,h.2,hq _ S (.refl S) (Cl.of (λ _=>nofun) vp)⟩
  .cases ef
 .cases ef
@[simp] def zi:T->T->Option T:=λ x y=>match wj x,y with
 | some ts,.int i=>L2.zY ts i
 | _,_=>none
def Y2:Good2 w9 zi wY:=λ S Z x y z d e Q hz hx hy ef hq=>by
 unfold zi at ef;split at ef
 .rename_i ts i ht;cases hy.int;obtain⟨ds,h1,h2⟩:=hx.seq ht;obtain⟨c,h3,h4⟩:=h2.at ef;unfold zU at h1;split at h1
  .cases h1;exact N9 h3 (hq c S (.refl S) h4)
  .cases h1;exact NA h3 (hq c S (.refl S) h4)
  .split at h1
   .rename_i q;cases h1;exact NB q h3 (hq c S (.refl S) h4)
   .cases h1
  .cases h1
 .cases ef
@[simp] noncomputable def y8:T->T->Option T
 | .int i,.int j=>some (.int (i+j))
 | .str i,.str j=>if i.length+j.length<=sizeLine then some (.str (i++j)) else none
 | .lst ts,.lst us=>if ts.length+us.length<=sizeLine then some (.lst (ts++us)) else none
 | .tup ts,.tup us=>if ts.length+us.length<=sizeLine then some (.tup (ts++us)) else none
 | _,_=>none
def uB:xc:=λ x y S Q=>match x,y with
 | .int i,.int j=>Q (.int (i+j)) S
 | .str i,.str j=>i.length+j.length<=sizeLine/\Q (.str (i++j)) S
 | .tup ds,.tup es=>ds.length+es.length<=sizeLine/\Q (.tup (ds++es)) S
 | .zh,_=>False
 | .bl _,_=>False
 | .int _,_=>False
 | .str _,_=>False
 | .tup _,_=>False
 | x,y=>match zU x S,zU y S with
  | some ds,some es=>(∀ ts,y≠.tup ts)/\ds.length+es.length<=sizeLine/\∀ r,S r=none->Q (.ref r) (ups S r (.lst (ds++es)))
  | _,_=>False
def good_add:Good2 zJ y8 uB:=λ S Z x y z d e Q hz hx hy ef hq=>by
 unfold y8 at ef;split at ef
 .cases ef;cases hx.int;cases hy.int;exact hq _ S (.refl S) (Cl.of (λ _=>nofun) vo)
 .split at ef
  .rename_i h;cases ef;cases hx.str;cases hy.str;exact⟨h,hq _ S (.refl S) (Cl.of (λ _=>nofun) ao)⟩
  .cases ef
 .split at ef
  .rename_i h;cases ef;obtain⟨ds,h1,h2⟩:=hx.seq rfl;obtain⟨es,h3,h4⟩:=hy.seq rfl;have nt:∀ ts,e≠.tup ts:=by
    obtain⟨_,q | ⟨_,q,_⟩,_⟩:=hy.lst <;> subst q <;> exact λ _=>nofun
   have key:(∀ ts,e≠.tup ts)/\ds.length+es.length<=sizeLine/\∀ r,S r=none->Q (.ref r) (ups S r (.lst (ds++es))):=
    ⟨nt,by rw[h2.len,h4.len];exact h,λ r hr=>hq _ _ (.new hr _) (t5 hz hr (h2.append h4))⟩
   obtain⟨_,q | ⟨a,q,_⟩,_⟩:=hx.lst
   .subst q;unfold uB;dsimp only;rw[h1,h3];exact key
   .subst q;unfold uB;dsimp only;rw[h1,h3];exact key
  .cases ef
 .split at ef
  .rename_i h;cases ef;obtain⟨ds,rfl,h2⟩:=hx.tup;obtain⟨es,rfl,h4⟩:=hy.tup;exact⟨by rw[h2.len,h4.len];exact h,hq _ S (.refl S) (Cl.of (λ _=>nofun) (qC (h2.append h4)))⟩
  .cases ef
 .cases ef
def v9 (f:Ev->Option Bool) (t:yT):Prop:=∀ S Z Y J y Q,ER S Z Y J->f J=some y->(∀ S',Sx S S'->Q y S')->t Y S Q
@[simp] noncomputable def zN (f:Ev->Option T):Ev->Option Bool:=fun J=>(f J).bind λ x=>match x with
 | .bl b=>some b
 | _=>none
@[simp] noncomputable def rG:T->Option Bool
 | .zh=>some false
 | .bl b=>some b
 | .int i=>some (i != 0)
 | .str x=>if x.length<=sizeLine then some ((x.length:Int) != 0) else none
 | .tup ts=>some (!ts.isEmpty)
 | .lst ts=>some (!ts.isEmpty)
 | .yd=>none
@[simp] def xm (f:Ev->Option T):Ev->Option Bool:=fun J=>(f J).bind rG
@[simp] noncomputable def uW (f g:Ev->Option Bool):Ev->Option Bool:=fun J=>(f J).bind λ b=>if b=true then g J else some false
@[simp] noncomputable def uE (f g:Ev->Option Bool):Ev->Option Bool:=fun J=>(f J).bind λ b=>if b=true then some true else g J
@[simp] noncomputable def wZ (f:Ev->Option Bool):Ev->Option Bool:=fun J=>(f J).map (!·)
section
variable {f g:Ev->Option T}{t u:zA}{fb gb:Ev->Option Bool}{tb ub:yT}{R:Rk}
def Qd (h:yN f t):v9 (zN f) (vF t):=λ S Z Y J y Q hE e hq=>by
 obtain⟨x,e1,e2⟩:=Aj e;refine h S Z Y J x _ hE e1 λ d S1 s1 r1=>?_;split at e2
 .cases e2;cases Vw.bl r1;exact hq S1 s1
 .cases e2
def Qf (h:yN f t):v9 (xm f) (YT t):=λ S Z Y J y Q hE e hq=>by
 obtain⟨x,e1,e2⟩:=Aj e;refine h S Z Y J x _ hE e1 λ d S1 s1 r1=>?_;cases x with
 | zh=>cases Vw.zh r1;cases e2;exact hq S1 s1
 | bl b=>cases Vw.bl r1;cases e2;exact hq S1 s1
 | int b=>cases Vw.int r1;cases e2;exact hq S1 s1
 | str b=>
  cases Vw.str r1;simp only[rG] at e2;split at e2
  .rename_i hh;cases e2;exact⟨hh,hq S1 s1⟩
  .cases e2
 | tup ts=>
  obtain⟨ds,rfl,h2⟩:=Vw.tup r1;cases e2;show Q (!ds.isEmpty) S1;rw[h2.empty];exact hq S1 s1
 | lst ts=>
  obtain⟨ds,rfl | ⟨a,rfl,h1⟩,h2⟩:=Vw.lst r1
  .cases e2;show Q (!ds.isEmpty) S1;rw[h2.empty];exact hq S1 s1
  .cases e2;refine Vo h1 ?_;rw[h2.empty];exact hq S1 s1
 | yd=>cases e2
def QV (h:v9 fb tb) (h':v9 gb ub):v9 (uW fb gb) (mQ tb ub):=λ S Z Y J y Q hE e hq=>by
 obtain⟨b,e1,e2⟩:=Aj e;refine h S Z Y J b _ hE e1 λ S1 s1=>?_;split at e2
 .rename_i hb;rw[if_pos hb];exact h' S1 Z Y J y _ (hE.grow s1) e2 λ S2 s2=>hq S2 (s1.trans s2)
 .rename_i hb;rw[if_neg hb];cases e2;exact hq S1 s1
def QS (h:v9 fb tb) (h':v9 gb ub):v9 (uE fb gb) (mO tb ub):=λ S Z Y J y Q hE e hq=>by
 obtain⟨b,e1,e2⟩:=Aj e;refine h S Z Y J b _ hE e1 λ S1 s1=>?_;split at e2
 .rename_i hb;rw[if_pos hb];cases e2;exact hq S1 s1
 .rename_i hb;rw[if_neg hb];exact h' S1 Z Y J y _ (hE.grow s1) e2 λ S2 s2=>hq S2 (s1.trans s2)
def QT (h:v9 fb tb):v9 (wZ fb) (mP tb):=λ S Z Y J y Q hE e hq=>by
 unfold wZ at e;obtain⟨b,e1,rfl⟩:=AA e;exact h S Z Y J b _ hE e1 λ S1 s1=>hq S1 s1
@[simp] noncomputable def tT (f g:Ev->Option T):Ev->Option T:=fun J=>(f J).bind λ x=>match x with
 | .bl k=>if k=true then g J else some (.bl false)
 | _=>none
@[simp] noncomputable def f7 (f:Ev->Option T):Ev->Option T:=fun J=>(f J).bind λ x=>match x with
 | .bl k=>some (.bl (!k))
 | _=>none
@[simp] noncomputable def Yz (c:Ev->Option Bool) (f g:Ev->Option T):Ev->Option T:=fun J=>(c J).bind λ b=>if b=true then f J else g J
def Pm [Cl R] (h:yN f t) (h':xU R g u):xU R (tT f g) (mZ t u):=λ S Z Y J y Q hE e hq=>by
 obtain⟨x,e1,e2⟩:=Aj e;refine h S Z Y J x _ hE e1 λ d S1 s1 r1=>?_;split at e2
 .cases Vw.bl r1;split at e2
  .rename_i hb;dsimp only;rw[if_pos hb];exact h' S1 Z Y J y _ (hE.grow s1) e2 λ d S2 s2 r2=>hq d S2 (s1.trans s2) (Cl.cl s1 r2)
  .rename_i hb;dsimp only;rw[if_neg hb];cases e2;exact hq _ S1 s1 (Cl.of (λ _=>nofun) vp)
 .cases e2
def Qr [Cl R] (h:yN f t):xU R (f7 f) (mV t):=λ S Z Y J y Q hE e hq=>by
 obtain⟨x,e1,e2⟩:=Aj e;refine h S Z Y J x _ hE e1 λ d S1 s1 r1=>?_;split at e2
 .cases Vw.bl r1;cases e2;exact hq _ S1 s1 (Cl.of (λ _=>nofun) vp)
 .cases e2
def QO [Cl R] (hc:v9 fb tb) (h:xU R f t) (h':xU R g u):xU R (Yz fb f g) (mX tb t u):=λ S Z Y J y Q hE e hq=>by
 obtain⟨b,e1,e2⟩:=Aj e;refine hc S Z Y J b _ hE e1 λ S1 s1=>?_;split at e2
 .rename_i hb;rw[if_pos hb];exact h S1 Z Y J y _ (hE.grow s1) e2 λ d S2 s2 r2=>hq d S2 (s1.trans s2) (Cl.cl s1 r2)
 .rename_i hb;rw[if_neg hb];exact h' S1 Z Y J y _ (hE.grow s1) e2 λ d S2 s2 r2=>hq d S2 (s1.trans s2) (Cl.cl s1 r2)
end
noncomputable def lD (S:SS) (Z:Addr->Prop):List T->List D->Prop
 | [],ds=>ds=[]
 | t::ts,ds=>∃ c cs,ds=c::cs/\Vw S Z t c/\lD S Z ts cs
def p9 (f:Ev->Option (List T)) (t:yD):Prop:=∀ S Z Y J ys Q,ER S Z Y J->f J=some ys->(∀ ds S',Sx S S'->lD S' Z ys ds->Q ds S')->t Y S Q
def p8 (f:Ev->Option (List T)) (t:yD):Prop:=∀ S Z Y J ys Q,ER S Z Y J->f J=some ys->(∀ ds S',Sx S S'->zp (zW S' Z) ys ds->Q ds S')->t Y S Q
@[simp] noncomputable def zl:Ev->Option (List T):=λ _=>some []
@[simp] noncomputable def zb (f:Ev->Option T) (g:Ev->Option (List T)):Ev->Option (List T):=fun J=>(f J).bind λ x=>(g J).bind λ xs=>some (x::xs)
section
variable {f:Ev->Option T}{g:Ev->Option (List T)}{t:zA}{u:yD}
def RY:p9 zl j6:=λ S Z Y J y Q hE e hq=>by cases e;exact hq [] S (.refl S) rfl
def RW:p8 zl j6:=λ S Z Y J y Q hE e hq=>by cases e;exact hq [] S (.refl S) .nil
def RZ (h:yN f t) (h':p9 g u):p9 (zb f g) (qV t u):=λ S Z Y J y Q hE e hq=>by
 obtain⟨x,e1,e0⟩:=Aj e;obtain⟨xs,e2,e3⟩:=Aj e0;cases e3;refine h S Z Y J x _ hE e1 λ d S1 s1 r1=>?_;refine h' S1 Z Y J xs _ (hE.grow s1) e2 λ ds S2 s2 r2=>?_;exact hq _ S2 (s1.trans s2) ⟨d,ds,rfl,Vw.grow r1 s2,r2⟩
def RX (h:vL f t) (h':p8 g u):p8 (zb f g) (qV t u):=λ S Z Y J y Q hE e hq=>by
 obtain⟨x,e1,e0⟩:=Aj e;obtain⟨xs,e2,e3⟩:=Aj e0;cases e3;refine h S Z Y J x _ hE e1 λ d S1 s1 r1=>?_;refine h' S1 Z Y J xs _ (hE.grow s1) e2 λ ds S2 s2 r2=>?_;exact hq _ S2 (s1.trans s2) (.cons (Sn.sx (vh s2) x r1) r2)
@[simp] noncomputable def tupS (g:Ev->Option (List T)):Ev->Option T:=fun J=>(g J).bind λ xs=>if xs.length<=sizeLine then some (.tup xs) else none
@[simp] noncomputable def xD (g:Ev->Option (List T)):Ev->Option T:=fun J=>(g J).bind λ xs=>if xs.length<=sizeLine then some (.lst xs) else none
def Qc (h:p8 g u):wc (tupS g) (Xd u):=λ S Z Y J y Q hE e hq=>by
 obtain⟨xs,e1,e2⟩:=Aj e;split at e2
 .rename_i hl;cases e2;refine h S Z Y J xs _ hE e1 λ ds S1 s1 r1=>⟨by rw[r1.len];exact hl,hq _ S1 s1 (Cl.of (λ _=>nofun) (qC r1))⟩
 .cases e2
def Qx (h:p8 g u):wc (xD g) (Xj u):=λ S Z Y J y Q hE e hq=>by
 obtain⟨xs,e1,e2⟩:=Aj e;split at e2
 .rename_i hl;cases e2;refine h S Z Y J xs _ hE e1 λ ds S1 s1 r1=>⟨by rw[r1.len];exact hl,λ p hp=>hq _ _ (s1.trans (.new hp _)) (Cl.cl s1 (t5 (hE.grow s1).zd hp r1))⟩
 .cases e2
end
@[simp] noncomputable def zv (F:List T->Option T) (g:Ev->Option (List T)):Ev->Option T:=fun J=>(g J).bind F
def ui (R:Rk) (F:List T->Option T) (f:wa):Prop:=∀ S Z ys z ds Q,(∀ a,Z a->S a≠none)->lD S Z ys ds->F ys=some z->(∀ c S',Sx S S'->R S S' Z z c->Q c S')->f ds S Q
def Pc {R:Rk} [Cl R] {F:List T->Option T}{f:wa}{g:Ev->Option (List T)}{u:yD}(hf:ui R F f) (h:p9 g u):xU R (zv F g) (xZ f u):=λ S Z Y J y Q hE e hq=>by
 obtain⟨xs,e1,e2⟩:=Aj e;refine h S Z Y J xs _ hE e1 λ ds S1 s1 r1=>?_;exact hf S1 Z xs y ds Q (hE.grow s1).zd r1 e2 λ c S' s r=>hq c S' (s1.trans s) (Cl.cl s1 r)
@[simp] noncomputable def xi:List T->Option T
 | [.str z]=>if z.length<=sizeLine then some (.int z.length) else none
 | [y]=>(wj y).map λ ts=>.int ts.length
 | _=>none
def vQ {S:SS}{Z:Addr->Prop}{y:T}{ds:List D}(h:lD S Z [y] ds):∃ d,ds=[d]/\Vw S Z y d:=by
 obtain⟨c,cs,rfl,h1,h2⟩:=h;cases h2;exact⟨c,rfl,h1⟩
def bI {S:SS}{Z:Addr->Prop}{y z:T}{ds:List D}(h:lD S Z [y,z] ds):∃ d e,ds=[d,e]/\Vw S Z y d/\Vw S Z z e:=by
 obtain⟨c,cs,rfl,h1,c2,cs2,rfl,h2,h3⟩:=h;cases h3;exact⟨c,c2,rfl,h1,h2⟩
def Nk:ui zJ xi uA:=λ S Z ys z ds Q hz hv e hq=>by
 unfold xi at e;split at e
 .obtain⟨d,rfl,h1⟩:=vQ hv;split at e
  .rename_i hl;cases e;cases h1.str;exact⟨hl,hq _ S (.refl S) (Cl.of (λ _=>nofun) vo)⟩
  .cases e
 .obtain⟨d,rfl,h1⟩:=vQ hv;obtain⟨ts,e1,rfl⟩:=AA e;obtain⟨es,h2,h3⟩:=h1.seq e1;refine N8 h2 ?_;rw[h3.len];exact hq _ S (.refl S) (Cl.of (λ _=>nofun) vo)
 .cases e
@[simp] noncomputable def listS:List T->Option T
 | [y]=>(wj y).map .lst
 | _=>none
def Nj:ui zJ listS u9:=λ S Z ys z ds Q hz hv e hq=>by
 unfold listS at e;split at e
 .obtain⟨d,rfl,h1⟩:=vQ hv;obtain⟨ts,e1,rfl⟩:=AA e;obtain⟨es,h2,h3⟩:=h1.seq e1;exact N7 h2 λ p hp=>hq _ _ (.new hp _) (t5 hz hp h3)
 .cases e
@[simp] noncomputable def rF:List T->Option T
 | [y]=>(wj y).map .tup
 | _=>none
def Na:ui zJ rF u7:=λ S Z ys z ds Q hz hv e hq=>by
 unfold rF at e;split at e
 .rename_i y;obtain⟨d,rfl,h1⟩:=vQ hv;obtain⟨ts,e1,rfl⟩:=AA e;obtain⟨es,h2,h3⟩:=h1.seq e1;have k:Q (.tup es) S:=hq _ S (.refl S) (Cl.of (λ _=>nofun) (qC h3));unfold zU at h2;split at h2
  .cases h2;exact k
  .cases h2;exact k
  .split at h2
   .rename_i q;cases h2;exact N6 q k
   .cases h2
  .cases h2
 .cases e
@[simp] noncomputable def rW (g:Int->Int->Int):List T->Option T
 | [.int i,.int j]=>some (.int (g i j))
 | _=>none
def Y3 {g:Int->Int->Int}:ui zJ (rW g) (v_ λ i j=>.int (g i j)):=λ S Z ys z ds Q hz hv e hq=>by
 unfold rW at e;split at e
 .obtain⟨d,d',rfl,h1,h2⟩:=bI hv;cases e;cases h1.int;cases h2.int;exact hq _ S (.refl S) (Cl.of (λ _=>nofun) vo)
 .cases e
@[simp] def qM:List T->Option T:=rW λ i j=>if j>i then j else i
@[simp] def uQ:List T->Option T:=rW λ i j=>if j<i then j else i
noncomputable def qd:List T->Option (List Bool)
 | []=>some []
 | .bl b::ts=>(qd ts).map (b::·)
 | _::_=>none
theorem XB:∀ {ts:List T}{bs:List Bool},qd ts=some bs->ts=bs.map T.bl
 | [],bs,h=>by cases h;rfl
 | .bl b::ts,bs,h=>by
  unfold qd at h;obtain⟨cs,h1,rfl⟩:=AA h;rw[Ar,<- XB h1]
 | .zh::ts,bs,h=>by cases h
 | .int _::ts,bs,h=>by cases h
 | .str _::ts,bs,h=>by cases h
 | .tup _::ts,bs,h=>by cases h
 | .lst _::ts,bs,h=>by cases h
def MR (bs:List Bool):qd (bs.map T.bl)=some bs:=by
 induction bs with
 | nil=>rfl
 | cons b bs ih=>rw[Ar];unfold qd;rw[ih];rfl
@[simp] noncomputable def j8 (g:List Bool->Bool):List T->Option T
 | [.lst ts]=>(qd ts).map λ bs=>.bl (g bs)
 | _=>none
def ua (g:List Bool->Bool):wa:=λ ds S Q=>match ds with
 | [.tup _]=>False
 | [d]=>∃ bs:List Bool,zU d S=some (bs.map D.bl)/\Q (.bl (g bs)) S
 | _=>False
def Np {g:List Bool->Bool}:ui zJ (j8 g) (ua g):=λ S Z ys z ds Q hz hv e hq=>by
 unfold j8 at e;split at e
 .obtain⟨d,rfl,h1⟩:=vQ hv;obtain⟨bs,e1,rfl⟩:=AA e;cases XB e1;obtain⟨es,h2,h3⟩:=h1.seq rfl;cases h3.XC;have key:∃ bs:List Bool,zU d S=some (bs.map D.bl)/\Q (.bl (g bs)) S:=⟨bs,h2,hq _ S (.refl S) (Cl.of (λ _=>nofun) vp)⟩
  obtain⟨_,q | ⟨a,q,_⟩,_⟩:=h1.lst
  .subst q;exact key
  .subst q;exact key
 .cases e
structure FR (S0:SS) (Z0:Addr->Prop) (S:SS) (Z:Addr->Prop) (Y:yt) (J:Ev):Prop where
 er:ER S Z Y J
 len:Y.length=J.length
 sx:Sx S0 S
 z0:∀ a,Z0 a->S0 a≠none
 zz:∀ a,Z0 a->Z a
 zn:∀ a,Z a->Z0 a\/S0 a=none
 fr:∀ (i:Nat) ts p,J[i]?=some (some (.own ts))->Y[i]?=some (some (.ref p))->S0 p=none
 dj:∀ (i j:Nat) ts us p,i≠j->J[i]?=some (some (.own ts))->J[j]?=some (some (.own us))->Y[i]?=some (some (.ref p))->Y[j]?=some (some (.ref p))->False
def xg {α:Type}{l:List α}{i j:Nat}{a b:α}(h:(l.set i a)[j]?=some b):(i=j/\i<l.length/\b=a)\/(i≠j/\l[j]?=some b):=by
 rw[DQ] at h;by_cases e:i=j
 .subst e;rw[if_pos rfl] at h;by_cases hl:i<l.length
  .rw[if_pos hl] at h;cases h;exact .inl ⟨rfl,hl,rfl⟩
  .rw[if_neg hl] at h;cases h
 .rw[if_neg e] at h;exact .inr ⟨e,h⟩
def vy {α:Type}{l:List α}{i j:Nat}{a:α}(h:i≠j):(l.set i a)[j]?=l[j]?:=by rw[DQ,if_neg h]
def oD {α:Type}{l:List α}{i:Nat}{a:α}(h:i<l.length):(l.set i a)[i]?=some a:=by rw[DQ,if_pos rfl,if_pos h]
section
variable {S0 S S':SS}{Z0 Z:Addr->Prop}{Y:yt}{J:Ev}{y:T}{d:D}
theorem FR.grow (h:FR S0 Z0 S Z Y J) (s:Sx S S'):FR S0 Z0 S' Z Y J:=⟨h.er.grow s,h.len,h.sx.trans s,h.z0,h.zz,h.zn,h.fr,h.dj⟩
def FR.tw (h:FR S0 Z0 S Z Y J) (i:Nat) (r:Sn (zW S Z) y d):FR S0 Z0 S Z (Y.set i (some d)) (J.set i (some (.im y))):=by
 refine⟨⟨h.er.zd,λ j t e=>?_,λ j ts e=>?_⟩,by simp[h.len],h.sx,h.z0,h.zz,h.zn,λ j ts p e e'=>?_,λ j k ts us p n e1 e2 e3 e4=>?_⟩
 .rcases xg e with ⟨rfl,hl,e⟩ | ⟨n,e⟩
  .cases e;exact⟨d,oD (by rw[h.len];exact hl),r⟩
  .rw[vy n];exact h.er.im j t e
 .rcases xg e with ⟨rfl,hl,e⟩ | ⟨n,e⟩
  .cases e
  .rw[vy n];exact h.er.ow j ts e
 .rcases xg e with ⟨rfl,hl,e⟩ | ⟨n,e⟩
  .cases e
  .rw[vy n] at e';exact h.fr j ts p e e'
 .rcases xg e1 with ⟨rfl,hl,e⟩ | ⟨n1,e1⟩
  .cases e
  rcases xg e2 with ⟨rfl,hl,e⟩ | ⟨n2,e2⟩
  .cases e
  rw[vy n1] at e3;rw[vy n2] at e4;exact h.dj j k ts us p n e1 e2 e3 e4
def FR.ay {ts:C}{ds:O}{p:Addr}(h:FR S0 Z0 S Z Y J) (s:Sx S S') (i:Nat) (hp:S p=none) (hd:S' p=some ds) (r:tU (zW S' λ a=>Z a\/a=p) ts ds):
  FR S0 Z0 S' (λ a=>Z a\/a=p) (Y.set i (some (.ref p))) (J.set i (some (.own ts))):=by
 have np:∀ (j:Nat) us q,J[j]?=some (some (.own us))->Y[j]?=some (some (.ref q))->q≠p:=λ j us q e e' z=>by
  subst z;obtain⟨p',ds',h1,h2,_⟩:=h.er.ow j us e;rw[e'] at h1;cases h1;rw[hp] at h2;cases h2
 refine⟨⟨λ a z=>?_,λ j t e=>?_,λ j us e=>?_⟩,by simp[h.len],h.sx.trans s,h.z0,λ a z=>.inl (h.zz a z),λ a z=>z.elim (h.zn a) (λ q=>.inr (by subst q;exact h.sx.none hp)),λ j us q e e'=>?_,λ j k us vs q n e1 e2 e3 e4=>?_⟩
 .rcases z with z | rfl
  .exact λ q=>h.er.zd a z (s.none q)
  .rw[hd];nofun
 .rcases xg e with ⟨rfl,hl,e⟩ | ⟨n,e⟩
  .cases e
  .rw[vy n];obtain⟨d,h1,h2⟩:=h.er.im j t e;exact⟨d,h1,Sn.sx (oA s hp) t h2⟩
 .rcases xg e with ⟨rfl,hl,e⟩ | ⟨n,e⟩
  .cases e;exact⟨p,ds,oD (by rw[h.len];exact hl),hd,r,.inr rfl⟩
  .rw[vy n];obtain⟨q,es,h1,h2,h3,h4⟩:=h.er.ow j us e;exact⟨q,es,h1,s _ _ h2,tU.sx (oA s hp) h3,.inl h4⟩
 .rcases xg e with ⟨rfl,hl,e⟩ | ⟨n,e⟩
  .rw[oD (by rw[h.len];exact hl)] at e';cases e';exact h.sx.none hp
  .rw[vy n] at e';exact h.fr j us q e e'
 .rcases xg e1 with ⟨rfl,hl,e⟩ | ⟨n1,e1⟩
  .rcases xg e2 with ⟨rfl,_,_⟩ | ⟨n2,e2⟩
   .exact n rfl
   .rw[oD (by rw[h.len];exact hl)] at e3;cases e3;rw[vy n2] at e4;exact np k vs p e2 e4 rfl
  .rcases xg e2 with ⟨rfl,hl,_⟩ | ⟨n2,e2⟩
   .rw[oD (by rw[h.len];exact hl)] at e4;cases e4;rw[vy n1] at e3;exact np j us p e1 e3 rfl
   .rw[vy n1] at e3;rw[vy n2] at e4;exact h.dj j k us vs q n e1 e2 e3 e4
def FR.forget (h:FR S0 Z0 S Z Y J) (i:Nat):FR S0 Z0 S Z Y (J.set i none):=by
 refine⟨⟨h.er.zd,λ j t e=>?_,λ j ts e=>?_⟩,by simp[h.len],h.sx,h.z0,h.zz,h.zn,λ j ts p e e'=>?_,λ j k ts us p n e1 e2 e3 e4=>?_⟩
 .rcases xg e with ⟨rfl,hl,e⟩ | ⟨n,e⟩
  .cases e
  .exact h.er.im j t e
 .rcases xg e with ⟨rfl,hl,e⟩ | ⟨n,e⟩
  .cases e
  .exact h.er.ow j ts e
 .rcases xg e with ⟨rfl,hl,e⟩ | ⟨n,e⟩
  .cases e
  .exact h.fr j ts p e e'
 .rcases xg e1 with ⟨rfl,hl,e⟩ | ⟨n1,e1⟩
  .cases e
  rcases xg e2 with ⟨rfl,hl,e⟩ | ⟨n2,e2⟩
  .cases e
  exact h.dj j k ts us p n e1 e2 e3 e4
@[simp] noncomputable def yF (is:List Nat) (J:Ev):Ev:=is.foldl (fun J i=>J.set i none) J
theorem FR.yF:∀ (is:List Nat) {J:Ev},FR S0 Z0 S Z Y J->FR S0 Z0 S Z Y (yF is J)
 | [],_,h=>h
 | i::is,_,h=>FR.yF is (h.forget i)
def FR.freeze {ts:List T}{p:Addr}(h:FR S0 Z0 S Z Y J) (i:Nat) (e:J[i]?=some (some (.own (.lst ts)))) (ed:Y[i]?=some (some (.ref p))):
  FR S0 Z0 S (λ a=>Z a/\a≠p) Y (J.set i (some (.im (.lst ts))))/\Sn (zW S λ a=>Z a/\a≠p) (.lst ts) (.ref p):=by
 obtain⟨p',o,h1,h2,h3,h4⟩:=h.er.ow i _ e;rw[ed] at h1;cases h1;obtain⟨ds,rfl⟩:∃ ds,o=.lst ds:=by
  cases o with
  | lst ds=>exact⟨ds,rfl⟩
  | yr _=>exact h3.elim
 replace h3:zp (zW S Z) ts ds:=h3;have hS:Sn (zW S λ a=>Z a/\a≠p) (.lst ts) (.ref p):=by
  simp only[Sn];exact⟨ds,.inr ⟨p,rfl,by rw[u6 (λ z=>z.2 rfl)];exact h2⟩,zp.sx (tE λ a z=>z.1) ts h3⟩
 refine⟨?_,hS⟩;refine⟨⟨λ a z=>h.er.zd a z.1,λ j t e'=>?_,λ j us e'=>?_⟩,by simp[h.len],h.sx,h.z0,λ a z=>⟨h.zz a z,λ q=>?_⟩,λ a z=>h.zn a z.1,λ j us q e' ed'=>?_,λ j k us vs q n e1 e2 e3 e4=>?_⟩
 .rcases xg e' with ⟨rfl,hl,e'⟩ | ⟨n,e'⟩
  .cases e';exact⟨_,ed,hS⟩
  .obtain⟨d,g1,g2⟩:=h.er.im j t e';exact⟨d,g1,Sn.sx (tE λ a z=>z.1) t g2⟩
 .rcases xg e' with ⟨rfl,hl,e'⟩ | ⟨n,e'⟩
  .cases e'
  .obtain⟨q,es,g1,g2,g3,g4⟩:=h.er.ow j us e';exact⟨q,es,g1,g2,tU.sx (tE λ a z=>z.1) g3,g4,λ z=>by subst z;exact h.dj i j _ us q n e e' ed g1⟩
 .subst q;exact h.z0 a z (h.fr i _ a e ed)
 .rcases xg e' with ⟨rfl,hl,e'⟩ | ⟨n,e'⟩
  .cases e'
  .exact h.fr j us q e' ed'
 .rcases xg e1 with ⟨rfl,hl,e⟩ | ⟨n1,e1⟩
  .cases e
  rcases xg e2 with ⟨rfl,hl,e⟩ | ⟨n2,e2⟩
  .cases e
  exact h.dj j k us vs q n e1 e2 e3 e4
def FR.mut {ts us:C}{es:O}{p:Addr}(h:FR S0 Z0 S Z Y J) (i:Nat) (e:J[i]?=some (some (.own ts))) (ed:Y[i]?=some (some (.ref p))) (r:tU (zW S Z) us es):
  FR S0 Z0 (ups S p es) Z Y (J.set i (some (.own us))):=by
 obtain⟨p',ds,h1,h2,h3,h4⟩:=h.er.ow i ts e;rw[ed] at h1;cases h1;have hh:zW (ups S p es) Z=zW S Z:=OU h4;have hpn:=h.fr i ts p e ed;refine⟨⟨λ a z=>?_,λ j t e'=>?_,λ j vs e'=>?_⟩,by simp[h.len],λ b o q=>?_,h.z0,h.zz,h.zn,λ j vs q e' ed'=>?_,λ j k vs ws q n e1 e2 e3 e4=>?_⟩
 .by_cases hp:a=p
  .subst hp;rw[rC];nofun
  .rw[sd hp];exact h.er.zd a z
 .rw[hh];rcases xg e' with ⟨rfl,hl,e'⟩ | ⟨n,e'⟩
  .cases e'
  .exact h.er.im j t e'
 .rw[hh];rcases xg e' with ⟨rfl,hl,e'⟩ | ⟨n,e'⟩
  .cases e';exact⟨p,es,ed,rC,r,h4⟩
  .obtain⟨q,es',g1,g2,g3,g4⟩:=h.er.ow j vs e';refine⟨q,es',g1,?_,g3,g4⟩;rw[sd (λ z=>by subst z;exact h.dj i j ts vs q n e e' ed g1)];exact g2
 .rw[sd (λ z=>by subst z;rw[hpn] at q;cases q)];exact h.sx b o q
 .rcases xg e' with ⟨rfl,hl,_⟩ | ⟨n,e'⟩
  .rw[ed] at ed';cases ed';exact hpn
  .exact h.fr j vs q e' ed'
 .rcases xg e1 with ⟨rfl,hl,_⟩ | ⟨n1,e1⟩
  .rcases xg e2 with ⟨rfl,hl,_⟩ | ⟨n2,e2⟩
   .exact n rfl
   .exact h.dj _ k ts ws q n e e2 e3 e4
  .rcases xg e2 with ⟨rfl,hl,_⟩ | ⟨n2,e2⟩
   .exact h.dj j _ vs ts q n e1 e e3 e4
   .exact h.dj j k vs ws q n e1 e2 e3 e4
noncomputable def gM (S0 S:SS) (Z:Addr->Prop):SS:=open Classical in λ a=>if S0 a=none/\Z a then none else S a
def kK {a:Addr}(h:¬ (S0 a=none/\Z a)):gM S0 S Z a=S a:=if_neg h
def gL {a:Addr}(h:S0 a=none/\Z a):gM S0 S Z a=none:=if_pos h
def FR.rebase (h:FR S0 Z0 S Z Y J):∃ S1,Sx S0 S1/\FR S1 Z0 S Z Y J/\Sx (zW S Z) S1:=by
 refine⟨gM S0 S Z,λ b o q=>?_,⟨h.er,h.len,λ b o q=>?_,λ a z=>?_,h.zz,λ a z=>?_,λ i ts p e ed=>?_,h.dj⟩,λ b o q=>?_⟩
 .rw[kK (λ z=>by rw[z.1] at q;cases q)];exact h.sx _ _ q
 .by_cases w:S0 b=none/\Z b
  .rw[gL w] at q;cases q
  .rw[kK w] at q;exact q
 .rw[kK (λ q=>h.z0 a z q.1)];exact h.er.zd a (h.zz a z)
 .rcases h.zn a z with w | w
  .exact .inl w
  .exact .inr (gL ⟨w,z⟩)
 .obtain⟨p',ds,h1,h2,h3,h4⟩:=h.er.ow i ts e;rw[ed] at h1;cases h1;exact gL ⟨h.fr i ts p e ed,h4⟩
 .obtain⟨q1,q2⟩:=tD q;rw[kK (λ z=>q1 z.2)];exact q2
def FR.back {S1:SS}(h:FR S1 Z0 S Z Y J) (s:Sx S0 S1) (z0:∀ a,Z0 a->S0 a≠none):FR S0 Z0 S Z Y J:=⟨h.er,h.len,s.trans h.sx,z0,h.zz,λ a z=>(h.zn a z).imp id s.none,λ i ts p e ed=>s.none (h.fr i ts p e ed),h.dj⟩
def FR.Ug {S1:SS}{Z1:Addr->Prop}(h:FR S0 Z0 S Z Y J) (b:Sx (zW S1 Z1) S0) (zz:∀ a,Z0 a->Z1 a):Sx (zW S1 Z1) (zW S Z):=λ a o q=>by
 have q0:=b _ _ q;obtain⟨q1,q2⟩:=tD q;rw[u6]
 .exact h.sx _ _ q0
 .intro z;rcases h.zn a z with w | w
  .exact q1 (zz a w)
  .rw[w] at q0;cases q0
end
inductive Out where
 | nx (J:Ev) | rt (t:T) | bk (J:Ev) | ct (J:Ev)
abbrev Sm:=Ev->Option Out
def Lf (R:Rk) (S0:SS) (Z0:Addr->Prop) (o:Out) (E:qx):Prop:=match o with
 | .nx J=>∀ S Z Y,FR S0 Z0 S Z Y J->E.nx Y S
 | .bk J=>∀ S Z Y,FR S0 Z0 S Z Y J->E.bk Y S
 | .ct J=>∀ S Z Y,FR S0 Z0 S Z Y J->E.ct Y S
 | .rt y=>∀ d S,Sx S0 S->R S0 S Z0 y d->E.rt d S
def yX (R:Rk) (g:Sm) (t:y_):Prop:=∀ S0 Z0 S Z Y J o E,FR S0 Z0 S Z Y J->g J=some o->Lf R S0 Z0 o E->t E Y S
class Lo (R:Rk):Prop extends Cl R where
 lo:∀ {S0 S S':SS}{Z0 Z:Addr->Prop}{y:T}{d:D},Sx S0 S->(∀ a,Z0 a->Z a)->R S S' Z y d->R S0 S' Z0 y d
instance:Lo w9:=⟨λ _ z h=>Sn.sx (tE z) _ h⟩
instance:Lo zJ:=⟨λ s z h=>⟨Sn.sx (tE z) _ h.1,λ ts e=>by
 obtain⟨p,ds,h1,h2,h3,h4⟩:=h.2 ts e;exact⟨p,ds,h1,s.none h2,h3,zp.sx (tE λ a q=>q.imp (z a) id) ts h4⟩⟩⟩
@[simp] noncomputable def zt (g h:Sm):Sm:=fun J=>(g J).bind λ o=>match o with
 | .nx J'=>h J'
 | o=>some o
@[simp] noncomputable def ym:Sm:=fun J=>some (.nx J)
@[simp] noncomputable def zF (i:Nat) (f:Ev->Option T):Sm:=fun J=>(f J).map λ y=>.nx (J.set i (some (.im y)))
@[simp] noncomputable def vI (i:Nat) (f:Ev->Option T):Sm:=fun J=>(f J).bind λ y=>match y with
 | .lst ts=>some (.nx (J.set i (some (.own (.lst ts)))))
 | y=>some (.nx (J.set i (some (.im y))))
@[simp] noncomputable def qT (f:Ev->Option T):Sm:=fun J=>(f J).map λ _=>.nx J
@[simp] noncomputable def retS (f:Ev->Option T):Sm:=fun J=>(f J).map .rt
@[simp] noncomputable def pU (i:Nat):Sm:=fun J=>match J[i]? with
 | some (some (.own (.lst ts)))=>some (.rt (.lst ts))
 | _=>none
@[simp] noncomputable def yo (c:Ev->Option Bool) (g h:Sm):Sm:=fun J=>(c J).bind λ b=>if b=true then g J else h J
@[simp] noncomputable def eC (i:Nat) (J:Ev):Ev:=match J[i]? with
 | some (some (.own (.lst ts)))=>J.set i (some (.im (.lst ts)))
 | _=>J
@[simp] def eB (i:Nat) (g:Sm):Sm:=fun J=>g (eC i J)
section
variable {R:Rk}{g h:Sm}{t u:y_}{f:Ev->Option T}{te:zA}
def Rz (hg:yX R g t) (hh:yX R h u):yX R (zt g h) (mU t u):=λ S0 Z0 S Z Y J o E F e P=>by
 obtain⟨o1,e1,e2⟩:=Aj e;refine hg S0 Z0 S Z Y J o1 { E with nx:=u E } F e1 ?_;cases o1 with
 | nx J1=>exact λ S1 Z1 Y1 F1=>hh S0 Z0 S1 Z1 Y1 J1 o E F1 e2 P
 | rt y=>cases e2;exact P
 | bk y=>cases e2;exact P
 | ct y=>cases e2;exact P
def Ry:yX R ym Xg:=λ S0 Z0 S Z Y J o E F e P=>by cases e;exact P S Z Y F
def RC (i:Nat) (hf:vL f te):yX R (zF i f) (vG te (hName i)):=λ S0 Z0 S Z Y J o E F e P=>by
 obtain⟨y,e1,rfl⟩:=AA e;exact hf S Z Y J y _ F.er e1 λ d S1 s1 r1=>P S1 Z _ ((F.grow s1).tw i r1)
def RB (i:Nat) (hf:wc f te):yX R (vI i f) (vG te (hName i)):=λ S0 Z0 S Z Y J o E F e P=>by
 obtain⟨y,e1,e2⟩:=Aj e;refine hf S Z Y J y _ F.er e1 λ d S1 s1 r1=>?_;cases y with
 | lst ts=>
  cases e2;obtain⟨p,ds,rfl,h1,h2,h3⟩:=r1.2 ts rfl;exact P S1 _ _ (F.ay (ts:=.lst ts) (ds:=.lst ds) s1 i h1 h2 h3)
 | zh=>cases e2;exact P S1 Z _ ((F.grow s1).tw i r1.1)
 | bl _=>cases e2;exact P S1 Z _ ((F.grow s1).tw i r1.1)
 | int _=>cases e2;exact P S1 Z _ ((F.grow s1).tw i r1.1)
 | str _=>cases e2;exact P S1 Z _ ((F.grow s1).tw i r1.1)
 | tup _=>cases e2;exact P S1 Z _ ((F.grow s1).tw i r1.1)
 | yd=>cases e2;exact P S1 Z _ ((F.grow s1).tw i r1.1)
def R8 (hf:yN f te):yX R (qT f) (j7 te):=λ S0 Z0 S Z Y J o E F e P=>by
 obtain⟨y,e1,rfl⟩:=AA e;exact hf S Z Y J y _ F.er e1 λ d S1 s1 r1=>P S1 Z _ (F.grow s1)
def R0 [Lo R] (hf:xU R f te):yX R (retS f) (eT te):=λ S0 Z0 S Z Y J o E F e P=>by
 obtain⟨y,e1,rfl⟩:=AA e;exact hf S Z Y J y _ F.er e1 λ d S1 s1 r1=>P d S1 (F.sx.trans s1) (Lo.lo F.sx F.zz r1)
def ZA (i:Nat):yX zJ (pU i) (eT (yS i)):=λ S0 Z0 S Z Y J o E F e P=>by
 unfold pU at e;split at e
 .rename_i ts h;cases e;obtain⟨p,ob,h1,h2,h3,h4⟩:=F.er.ow i _ h;obtain⟨ds,rfl⟩:∃ ds,ob=.lst ds:=by
   cases ob with
   | lst ds=>exact⟨ds,rfl⟩
   | yr _=>exact h3.elim
  replace h3:zp (zW S Z) ts ds:=h3;have hn:=F.fr i _ p h h1;have nz:¬ Z0 p:=λ z=>F.z0 p z hn;show yS i Y S E.rt;unfold yS;rw[h1];refine P _ S F.sx ⟨?_,λ us e=>?_⟩
  .simp only[Sn];exact⟨ds,.inr ⟨p,rfl,by rw[u6 nz];exact h2⟩,zp.sx (tE F.zz) ts h3⟩
  .cases e;exact⟨p,ds,rfl,hn,h2,zp.sx (tE λ a q=>q.elim (F.zz a) λ q=>q▸h4) ts h3⟩
 .cases e
def R4 {c:Ev->Option Bool}{tc:yT}(hc:v9 c tc) (hg:yX R g t) (hh:yX R h u):yX R (yo c g h) (Xl tc t u):=λ S0 Z0 S Z Y J o E F e P=>by
 obtain⟨b,e1,e2⟩:=Aj e;refine hc S Z Y J b _ F.er e1 λ S1 s1=>?_;split at e2
 .rename_i hb;rw[if_pos hb];exact hg S0 Z0 S1 Z Y J o E (F.grow s1) e2 P
 .rename_i hb;rw[if_neg hb];exact hh S0 Z0 S1 Z Y J o E (F.grow s1) e2 P
def FR.fz {S0 S:SS}{Z0 Z:Addr->Prop}{Y:yt}{J:Ev}(F:FR S0 Z0 S Z Y J) (i:Nat):∃ Z',FR S0 Z0 S Z' Y (eC i J):=by
 unfold eC;split
 .rename_i ts h;obtain⟨p,ds,h1,_⟩:=F.er.ow i _ h;exact⟨_,(F.freeze i h h1).1⟩
 .exact⟨Z,F⟩
def R5 (i:Nat) (hg:yX R g t):yX R (eB i g) t:=λ S0 Z0 S Z Y J o E F e P=>by
 obtain⟨Z',F'⟩:=F.fz i;exact hg S0 Z0 S Z' Y _ o E F' e P
def lF (g:T->Ev->Option Ev) (t:xE):Prop:=∀ S0 Z0 S Z Y J J' y d Q,FR S0 Z0 S Z Y J->Sn (zW S Z) y d->g y J=some J'->(∀ Y',FR S0 Z0 S Z Y' J'->Q Y' S)->t d Y S Q
def jH (g:List T->Ev->Option Ev) (t:vk):Prop:=∀ S0 Z0 S Z Y J J' ys ds Q,FR S0 Z0 S Z Y J->zp (zW S Z) ys ds->g ys J=some J'->(∀ Y',FR S0 Z0 S Z Y' J'->Q Y' S)->t ds Y S Q
@[simp] noncomputable def zB (i:Nat):T->Ev->Option Ev:=λ y J=>some (J.set i (some (.im y)))
@[simp] noncomputable def wu:List T->Ev->Option Ev
 | [],J=>some J
 | _::_,_=>none
@[simp] noncomputable def yk (g:T->Ev->Option Ev) (h:List T->Ev->Option Ev):List T->Ev->Option Ev
 | y::ys,J=>(g y J).bind fun J'=>h ys J'
 | [],_=>none
@[simp] noncomputable def xP (n:Nat) (g:List T->Ev->Option Ev):T->Ev->Option Ev
 | .tup ys,J=>if ys.length=n then g ys J else none
 | _,_=>none
def RO (i:Nat):lF (zB i) (hName i):=λ S0 Z0 S Z Y J J' y d Q F r e hq=>by cases e;exact hq _ (F.tw i r)
def RK:jH wu fX:=λ S0 Z0 S Z Y J J' ys ds Q F r e hq=>by
 cases ys with
 | nil=>simp only[zp] at r;subst r;cases e;exact⟨rfl,hq _ F⟩
 | cons _ _=>cases e
def RL {g:T->Ev->Option Ev}{h:List T->Ev->Option Ev}{t:xE}{u:vk}(hg:lF g t) (hh:jH h u):jH (yk g h) (fY t u):=λ S0 Z0 S Z Y J J' ys ds Q F r e hq=>by
 cases ys with
 | nil=>cases e
 | cons y ys=>
  simp only[zp] at r;obtain⟨c,cs,rfl,r1,r2⟩:=r;obtain⟨J1,e1,e2⟩:=Aj e;exact hg S0 Z0 S Z Y J J1 y c _ F r1 e1 fun Y1 F1=>hh S0 Z0 S Z Y1 J1 J' ys cs Q F1 r2 e2 hq
def RM {n:Nat}{g:List T->Ev->Option Ev}{t:vk}(hg:jH g t):lF (xP n g) (jn n t):=λ S0 Z0 S Z Y J J' y d Q F r e hq=>by
 cases y with
 | tup ys=>
  simp only[Sn] at r;obtain⟨ds,rfl,r⟩:=r;simp only[xP] at e;split at e
  .rename_i hl;exact⟨by rw[r.len];exact hl,hg S0 Z0 S Z Y J J' ys ds Q F r e hq⟩
  .cases e
 | zh=>cases e
 | bl _=>cases e
 | int _=>cases e
 | str _=>cases e
 | lst _=>cases e
 | yd=>cases e
@[simp] noncomputable def bX (f:Ev->Option T) (g:T->Ev->Option Ev):Sm:=fun J=>(f J).bind λ y=>(g y J).map .nx
def Rx {g:T->Ev->Option Ev}{tg:xE}(hf:vL f te) (hg:lF g tg):yX R (bX f g) (vG te tg):=λ S0 Z0 S Z Y J o E F e P=>by
 obtain⟨y,e1,e2⟩:=Aj e;obtain⟨J',e3,rfl⟩:=AA e2;exact hf S Z Y J y _ F.er e1 λ d S1 s1 r1=>hg S0 Z0 S1 Z Y J J' y d _ (F.grow s1) r1 e3 fun Y' F'=>P S1 Z Y' F'
def ql (free:Bool) (f:Ev->Option (List T)) (ti:vj):Prop:=∀ S Z Y J ts Q,ER S Z Y J->f J=some ts->(∀ I S',Sx S S'->zp (zW S' Z) ts I.items->(∀ S'',Sx (if free=true then zW S' Z else S') S''->I.keep S'')->Q I S')->ti Y S Q
@[simp] def xw (f:Ev->Option T):Ev->Option (List T):=fun J=>(f J).bind wj
def RF {f:Ev->Option T}{te:zA}(hf:yN f te):ql false (xw f) (fQ te):=λ S Z Y J ts Q hE e hq=>by
 obtain⟨y,e1,e2⟩:=Aj e;refine hf S Z Y J y _ hE e1 λ d S1 s1 r1=>?_;cases y with
 | tup us=>
  cases e2;obtain⟨ds,rfl,h2⟩:=Vw.tup r1;exact hq _ S1 s1 h2 λ _ _=>trivial
 | lst us=>
  cases e2;obtain⟨ds,rfl | ⟨a,rfl,h1⟩,h2⟩:=Vw.lst r1
  .exact hq _ S1 s1 h2 λ _ _=>trivial
  .dsimp only;rw[h1];exact hq ⟨ds,_⟩ S1 s1 h2 λ S'' s=>s _ _ h1
 | zh=>cases e2
 | bl _=>cases e2
 | int _=>cases e2
 | str _=>cases e2
 | yd=>cases e2
def RG {f:Ev->Option T}{te:zA}(hf:vL f te):ql true (xw f) (fQ te):=λ S Z Y J ts Q hE e hq=>by
 obtain⟨y,e1,e2⟩:=Aj e;refine hf S Z Y J y _ hE e1 λ d S1 s1 r1=>?_;cases y with
 | tup us=>
  cases e2;obtain⟨ds,rfl,h2⟩:=Vw.tup (.inl r1);exact hq _ S1 s1 h2 λ _ _=>trivial
 | lst us=>
  cases e2;have r2:=r1;unfold w9 at r2;simp only[Sn] at r2;obtain⟨ds,⟨rfl,_⟩ | ⟨a,rfl,h1⟩,h2⟩:=r2
  .exact hq _ S1 s1 h2 λ _ _=>trivial
  .dsimp only;rw[(tD h1).2];exact hq ⟨ds,_⟩ S1 s1 h2 λ S'' s=>s _ _ h1
 | zh=>cases e2
 | bl _=>cases e2
 | int _=>cases e2
 | str _=>cases e2
 | yd=>cases e2
noncomputable def rangeT (lo:Int) (n:Nat):List T:=(List.range n).map λ(k:Nat)=>T.int (lo+(k:Int))
def ak {S:SS}(lo:Int) (n:Nat):zp S (rangeT lo n) (vT lo n):=by
 unfold rangeT vT
 induction List.range n with
 | nil=>exact .nil
 | cons k l ih=>exact .cons vo ih
noncomputable def inR (j:Int):Bool:=decide (-100000000<=j)&&decide (j<=100000000)
def Yy {j:Int}:inR j=true↔-100000000<=j/\j<=100000000:=by simp[inR]
def OO {j:Int}(h:inR j=true):-(2 ^ 62)<=j/\j<2 ^ 62:=by have:=Yy.mp h;lia
noncomputable def sC:List T->Option (List T)
 | [.int j]=>if inR j=true then some (rangeT 0 j.toNat) else none
 | _=>none
@[simp] noncomputable def vg (F:List T->Option (List T)) (g:Ev->Option (List T)):Ev->Option (List T):=fun J=>(g J).bind F
def RH {b:Bool}{g:Ev->Option (List T)}{tA:yD}(h:p9 g tA):ql b (vg sC g) (fR tA):=λ S Z Y J ts Q hE e hq=>by
 obtain⟨ys,e1,e2⟩:=Aj e;refine h S Z Y J ys _ hE e1 λ ds S1 s1 r1=>?_;unfold sC at e2;split at e2
 .split at e2
  .rename_i hc;cases e2;obtain⟨d,rfl,h1⟩:=vQ r1;cases h1.int;exact⟨OO hc,hq _ S1 s1 (ak _ _) λ _ _=>trivial⟩
  .cases e2
 .cases e2
noncomputable def wJ (is:List Nat) (g:T->Ev->Option Ev) (b:Sm):List T->Ev->Option Out
 | [],J=>some (.nx (yF is J))
 | y::ys,J=>(g y (yF is J)).bind fun J1=>(b J1).bind λ o=>match o with
  | .nx J2=>wJ is g b ys J2
  | .ct J2=>wJ is g b ys J2
  | .bk J2=>some (.nx (yF is J2))
  | .rt t=>some (.rt t)
@[simp] def wx (is:List Nat) (f:Ev->Option (List T)) (g:T->Ev->Option Ev) (b:Sm):Sm:=fun J=>(f J).bind λ ts=>wJ is g b ts J
def R6 {is:List Nat}{fi:Ev->Option (List T)}{ti:vj}{g:T->Ev->Option Ev}{tg:xE}{b:Sm}{tb:y_} [Lo R] (hi:ql true fi ti) (hg:lF g tg) (hb:yX R b tb):yX R (wx is fi g b) (mY ti tg tb):=λ S0 Z0 S Z Y J o E F e P=>by
 obtain⟨ts,e1,e2⟩:=Aj e;refine hi S Z Y J ts _ F.er e1 λ I S1 s1 r1 hk=>?_;rw[if_pos rfl] at hk;obtain⟨SB,b1,FB,b2⟩:=(F.grow s1).rebase;have lo:∀ S' d y,R SB S' Z0 y d->R S0 S' Z0 y d:=λ S' d y r=>Lo.lo b1 (λ _ z=>z) r;have zz:=F.zz;refine⟨λ i Y' S'=>∃ Z' J',FR SB Z0 S' Z' Y' J'/\wJ is g b (ts.drop i) J'=some o,⟨Z,J,FB,e2⟩,λ i Y' S' ⟨Z',J',F',_⟩=>hk S' (b2.trans F'.sx),λ i d Y' S' hd ⟨Z',J',F',e'⟩=>?_,fun Y' S' ⟨Z',J',F',e'⟩=>?_⟩
 .obtain⟨y,hy,r2⟩:=r1.jq hd;have Al:=(AL.mp hy).1;have EL:ts.drop i=y::ts.drop (i+1):=by
   rw[List.drop_eq_getElem_cons Al,(AL.mp hy).2]
  rw[EL] at e';unfold wJ at e';obtain⟨J1,g1,e'⟩:=Aj e';obtain⟨o1,g2,e'⟩:=Aj e';refine hg SB Z0 S' Z' Y' _ J1 y d _ (F'.yF is) (Sn.sx (F'.Ug b2 zz) y r2) g1 fun Y2 F2=>?_
  refine hb SB Z0 S' Z' Y2 J1 o1 _ F2 g2 ?_;cases o1 with
  | nx J2=>exact λ S3 Z3 Y3 F3=>⟨Z3,J2,F3,e'⟩
  | ct J2=>exact λ S3 Z3 Y3 F3=>⟨Z3,J2,F3,e'⟩
  | bk J2=>cases e';exact λ S3 Z3 Y3 F3=>P S3 Z3 Y3 ((F3.yF is).back b1 F.z0)
  | rt y=>cases e';exact λ d S3 s3 r3=>P d S3 (b1.trans s3) (lo _ _ _ r3)
 .rw[show I.items.length=ts.length from r1.len,List.drop_length] at e';unfold wJ at e';cases e';exact P S' Z' Y' ((F'.yF is).back b1 F.z0)
end
@[simp] noncomputable def ue (i:Nat) (f:Ev->Option T):Sm:=fun J=>match J[i]? with
 | some (some (.own (.lst ts)))=>(f J).bind λ y=>if ts.length<sizeLine then some (.nx (J.set i (some (.own (.lst (ts++[y])))))) else none
 | _=>none
section
variable {R:Rk}{f:Ev->Option T}{te:zA}
def RD (i:Nat) (hf:vL f te):yX R (ue i f) (j7 (qb (yS i) te)):=λ S0 Z0 S Z Y J o E F e P=>by
 unfold ue at e;split at e
 .rename_i ts h;obtain⟨y,e1,e2⟩:=Aj e;split at e2
  .rename_i hl;cases e2;obtain⟨p,ob,h1,h2,h3,h4⟩:=F.er.ow i _ h;obtain⟨ds,rfl⟩:∃ ds,ob=.lst ds:=by
    cases ob with
    | lst ds=>exact⟨ds,rfl⟩
    | yr _=>exact h3.elim
   replace h3:zp (zW S Z) ts ds:=h3;show qb (yS i) te Y S _;unfold qb yS;rw[h1];refine⟨⟨ds,h2⟩,hf S Z Y J y _ F.er e1 λ d S1 s1 r1=>?_⟩;dsimp only;rw[s1 _ _ h2];have F1:=F.grow s1;refine⟨by rw[h3.len];exact hl,P _ Z Y (F1.mut (us:=.lst (ts++[y])) (es:=.lst (ds++[d])) i h h1 ((zp.sx (vh s1) ts h3).append (.cons r1 .nil)))⟩
  .cases e2
 .cases e
end
def sX (pick:List (Option Nat)) (ti:vj) (g:xE) (tc:yT) (te:zA):zA:=fun Y S Q=>ti Y S λ I S1=>I.items.length<=sizeLine/\(∀ S,Sx S1 S->I.keep S)/\∀ p,S1 p=none->∃ W:Nat->SS->List D->Prop,W 0 S1 []/\
 (∀ i S S' acc,(∀ b o,b≠p->S b=some o->S' b=some o)->W i S acc->W i S' acc)/\
 (∀ i d S acc,I.items[i]?=some d->Sx S1 S->S p=some (.lst acc)->W i S acc->g d (uw pick Y) S fun Y2 S2=>px (uw pick Y) Y2/\tc Y2 S2 λ b S3=>if b=true then te Y2 S3 λ y S4=>Sx S S4/\W (i+1) S4 (acc++[y]) else Sx S S3/\W (i+1) S3 acc)/\
 ∀ S2 acc,Sx S1 S2->S2 p=some (.lst acc)->W I.items.length S2 acc->Q (.ref p) S2
@[simp] noncomputable def me (pick:List (Option Nat)) (J:Ev):Ev:=pick.map λ o=>o.bind λ i=>(J[i]?).join
noncomputable def qW (h:T->Option (Option T)):List T->Option (List T)
 | []=>some []
 | y::ys=>(h y).bind λ o=>(qW h ys).map λ zs=>match o with
  | some z=>z::zs
  | none=>zs
@[simp] def o4 (pick:List (Option Nat)) (g:T->Ev->Option Ev) (c:Ev->Option Bool) (f:Ev->Option T) (J:Ev) (y:T):Option (Option T):=
 (g y (me pick J)).bind fun J2=>(c J2).bind λ b=>if b=true then (f J2).map some else some none
def wV (pick:List (Option Nat)) (it:Ev->Option (List T)) (g:T->Ev->Option Ev) (c:Ev->Option Bool) (f:Ev->Option T):Ev->Option T:=fun J=>(it J).bind λ ts=>if ts.length<=sizeLine then (qW (o4 pick g c f J) ts).map .lst else none
@[simp] noncomputable def qc:Ev->Option Bool:=λ _=>some true
def Qe:v9 qc YS:=λ S Z Y J y Q hE e hq=>by cases e;exact hq S (.refl S)
def jJ (pick:List (Option Nat)) (g:T->Ev->Option Ev) (t:xE):Prop:=∀ B S Z Y J J' y d Q,(∀ i:Nat,pick[i]?=some none->B[i]?=some none)->px B Y->Y.length=J.length->ER S Z Y J->Sn (zW S Z) y d->g y J=some J'->
 (∀ Y',ER S Z Y' J'->px B Y'->Y'.length=J'.length->Q Y' S)->t d Y S Q
def jI (pick:List (Option Nat)) (g:List T->Ev->Option Ev) (t:vk):Prop:=∀ B S Z Y J J' y d Q,(∀ i:Nat,pick[i]?=some none->B[i]?=some none)->px B Y->Y.length=J.length->ER S Z Y J->zp (zW S Z) y d->g y J=some J'->
 (∀ Y',ER S Z Y' J'->px B Y'->Y'.length=J'.length->Q Y' S)->t d Y S Q
def ER.tw {S:SS}{Z:Addr->Prop}{Y:yt}{J:Ev}{y:T}{d:D}(h:ER S Z Y J) (hl:Y.length=J.length) (i:Nat) (r:Sn (zW S Z) y d):ER S Z (Y.set i (some d)) (J.set i (some (.im y))):=by
 refine⟨h.zd,λ j t e=>?_,λ j ts e=>?_⟩
 .rcases xg e with ⟨rfl,hl',e⟩ | ⟨n,e⟩
  .cases e;exact⟨d,oD (by rw[hl];exact hl'),r⟩
  .rw[vy n];exact h.im j t e
 .rcases xg e with ⟨rfl,hl',e⟩ | ⟨n,e⟩
  .cases e
  .rw[vy n];exact h.ow j ts e
variable {pick:List (Option Nat)}
def RT (i:Nat) (hi:pick[i]?=some none:=by rfl):jJ pick (zB i) (hName i):=λ B S Z Y J J' y d Q hB hs hl hE r e hq=>by
 cases e;refine hq _ (hE.tw hl i r) ⟨by rw[DS];exact hs.1,λ j c q=>?_⟩ (by simp[hl]);by_cases hj:i=j
 .subst hj;rw[hB i hi] at q;cases q
 .rw[vy hj];exact hs.2 j c q
def RP:jI pick wu fX:=λ B S Z Y J J' y d Q hB hs hl hE r e hq=>by
 cases y with
 | nil=>simp only[zp] at r;subst r;cases e;exact⟨rfl,hq _ hE hs hl⟩
 | cons _ _=>cases e
def RQ {g:T->Ev->Option Ev}{h:List T->Ev->Option Ev}{t:xE}{u:vk}(hg:jJ pick g t) (hh:jI pick h u):jI pick (yk g h) (fY t u):=λ B S Z Y J J' y d Q hB hs hl hE r e hq=>by
 cases y with
 | nil=>cases e
 | cons y ys=>
  simp only[zp] at r;obtain⟨c,cs,rfl,r1,r2⟩:=r;obtain⟨J1,e1,e2⟩:=Aj e;exact hg B S Z Y J J1 y c _ hB hs hl hE r1 e1 fun Y1 E1 s1 l1=>hh B S Z Y1 J1 J' ys cs Q hB s1 l1 E1 r2 e2 hq
def RS {n:Nat}{g:List T->Ev->Option Ev}{t:vk}(hg:jI pick g t):jJ pick (xP n g) (jn n t):=λ B S Z Y J J' y d Q hB hs hl hE r e hq=>by
 cases y with
 | tup ys=>
  simp only[Sn] at r;obtain⟨ds,rfl,r⟩:=r;simp only[xP] at e;split at e
  .rename_i hn;exact⟨by rw[r.len];exact hn,hg B S Z Y J J' ys ds Q hB hs hl hE r e hq⟩
  .cases e
 | zh=>cases e
 | bl _=>cases e
 | int _=>cases e
 | str _=>cases e
 | lst _=>cases e
 | yd=>cases e
def Zg {J:Ev}{i:Nat}{w:W}(h:(me pick J)[i]?=some (some w)):∃ j:Nat,pick[i]?=some (some j)/\J[j]?=some (some w):=by
 unfold me at h;rw[Aw] at h;cases q:pick[i]? with
 | none=>rw[q] at h;cases h
 | some o=>
  rw[q] at h;cases o with
  | none=>simp at h
  | some j=>
   simp only[Option.map_some,A_,Option.some.injEq] at h;refine⟨j,rfl,?_⟩;cases q2:J[j]? with
   | none=>rw[q2] at h;cases h
   | some o2=>rw[q2] at h;simp only[Option.join_some] at h;rw[h]
def Zh {Y:yt}{i j:Nat}{d:D}(h:pick[i]?=some (some j)) (h':Y[j]?=some (some d)):(uw pick Y)[i]?=some (some d):=by
 unfold uw;rw[Aw,h];simp[h']
def ER.Tr {S:SS}{Z:Addr->Prop}{Y:yt}{J:Ev}(h:ER S Z Y J):ER S Z (uw pick Y) (me pick J):=by
 refine⟨h.zd,λ i t e=>?_,λ i ts e=>?_⟩
 .obtain⟨j,h1,h2⟩:=Zg e;obtain⟨d,h3,h4⟩:=h.im j t h2;exact⟨d,Zh h1 h3,h4⟩
 .obtain⟨j,h1,h2⟩:=Zg e;obtain⟨p,ds,h3,h4⟩:=h.ow j ts h2;exact⟨p,ds,Zh h1 h3,h4⟩
def ER.hide {S S':SS}{Z:Addr->Prop}{Y:yt}{J:Ev}{p:Addr}(h:ER S Z Y J) (s:Sx S S') (hp:S p=none) (hp':S' p≠none):ER S' (λ a=>Z a\/a=p) Y J:=by
 refine⟨λ a z q=>?_,λ i t e=>?_,λ i ts e=>?_⟩
 .rcases z with z | rfl
  .exact h.zd a z (s.none q)
  .exact hp' q
 .obtain⟨d,h1,h2⟩:=h.im i t e;exact⟨d,h1,Sn.sx (oA s hp) t h2⟩
 .obtain⟨q,ds,h1,h2,h3,h4⟩:=h.ow i ts e;exact⟨q,ds,h1,s _ _ h2,tU.sx (oA s hp) h3,.inl h4⟩
def Q0 {it:Ev->Option (List T)}{ti:vj}{g:T->Ev->Option Ev}{tg:xE}{c:Ev->Option Bool}{tc:yT}{f:Ev->Option T}{te:zA}{b:Bool}(hi:ql b it ti) (hg:jJ pick g tg) (hc:v9 c tc) (hf:vL f te):
  wc (wV pick it g c f) (sX pick ti tg tc te):=λ S Z Y J y Q hE e hq=>by
 obtain⟨ts,e1,e2⟩:=Aj e;split at e2
 case isFalse=>cases e2
 rename_i hlen;obtain⟨zs,e3,rfl⟩:=AA e2;refine hi S Z Y J ts _ hE e1 λ I S1 s1 r1 hk=>⟨by rw[r1.len];exact hlen,λ S' s'=>hk S' ?_,λ p hp=>?_⟩
 .cases b
  .exact s'
  .exact (mE _ _).trans s'
 have E1:=hE.grow s1;have nz:¬ Z p:=λ z=>E1.zd p z hp;refine⟨λ i S' acc=>∃ us ws,zp (zW S' λ a=>Z a\/a=p) us acc/\qW (o4 pick g c f J) (ts.drop i)=some ws/\zs=us++ws,⟨[],zs,.nil,e3,rfl⟩,λ i S' S'' acc hh ⟨us,ws,h1,h2⟩=>⟨us,ws,zp.sx (λ a o q=>?_) us h1,h2⟩,λ i d S2 acc hd s2 AQ ⟨us,ws,h1,h2,h3⟩=>?_,λ S2 acc s2 AQ ⟨us,ws,h1,h2,h3⟩=>?_⟩
 .obtain⟨q1,q2⟩:=tD q;rw[u6 q1];exact hh a o (λ z=>q1 (.inr z)) q2
 .obtain⟨x,hx,rx⟩:=r1.jq hd;have Al:=(AL.mp hx).1;have EL:ts.drop i=x::ts.drop (i+1):=by rw[List.drop_eq_getElem_cons Al,(AL.mp hx).2]
  rw[EL] at h2;unfold qW at h2;obtain⟨o,o1,h2⟩:=Aj h2;obtain⟨ws',o2,rfl⟩:=AA h2;have E2:=(E1.hide s2 hp (by rw[AQ];nofun)).Tr (pick:=pick);unfold o4 at o1;obtain⟨J2,g1,o1⟩:=Aj o1;obtain⟨bb,g2,o1⟩:=Aj o1;refine hg (uw pick Y) S2 _ _ _ J2 x d _ (λ j hj=>?_) ⟨rfl,λ _ _ q=>q⟩ (by unfold uw me;simp) E2 (Sn.sx (oA s2 hp) x rx) g1 fun Y2 E3 l3 _=>⟨l3,?_⟩
  .unfold uw;rw[Aw,hj];rfl
  refine hc S2 _ Y2 J2 bb _ E3 g2 λ S3 s3=>?_;split at o1
  .rename_i hb;rw[if_pos hb];obtain⟨z,g3,rfl⟩:=AA o1;refine hf S3 _ Y2 J2 z _ (E3.grow s3) g3 λ dz S4 s4 r4=>⟨s3.trans s4,us++[z],ws',?_,o2,by rw[h3];simp⟩;exact (zp.sx (vh (s3.trans s4)) us h1).append (.cons r4 .nil)
  .rename_i hb;rw[if_neg hb];cases o1;exact⟨s3,us,ws',zp.sx (vh s3) us h1,o2,h3⟩
 .rw[show I.items.length=ts.length from r1.len,List.drop_length] at h2;cases h2;rw[CO] at h3;subst h3;refine hq _ S2 (s1.trans s2) ⟨?_,λ vs e=>?_⟩
  .simp only[Sn];exact⟨acc,.inr ⟨p,rfl,by rw[u6 nz];exact AQ⟩,zp.sx (tE λ a z=>.inl z) zs h1⟩
  .cases e;exact⟨p,acc,rfl,s1.none hp,AQ,h1⟩
class Sr (R:Rk):Prop extends Lo R where
 sn:∀ {S S':SS}{Z:Addr->Prop}{y:T}{d:D},R S S' Z y d->Sn (zW S' Z) y d
instance:Sr w9:=⟨λ h=>h⟩
instance:Sr zJ:=⟨λ h=>h.1⟩
def zS (R:Rk) (F:List T->Option T):qh:=λ ds S Q=>∃ Z ys y,(∀ a,Z a->S a≠none)/\zp (zW S Z) ys ds/\F ys=some y/\∀ d S',Sx S S'->R S S' Z y d->Q d S'
def zS.mo {R:Rk}{F:List T->Option T}:dF (zS R F):=λ _ _ _ _ hq ⟨Z,ys,y,h1,h2,h3,h4⟩=>⟨Z,ys,y,h1,h2,h3,λ d S' s r=>hq _ _ (h4 d S' s r)⟩
def fu {R:Rk} [Lo R] {F:List T->Option T}{g:Ev->Option (List T)}{u:yD}(h:p8 g u):xU R (zv F g) (eU (zS R F) u):=λ S Z Y J y Q hE e hq=>by
 obtain⟨xs,e1,e2⟩:=Aj e;refine h S Z Y J xs _ hE e1 λ ds S1 s1 r1=>?_;exact⟨Z,xs,y,(hE.grow s1).zd,r1,e2,λ d S' s r=>hq d S' (s1.trans s) (Cl.cl s1 r)⟩
@[simp] noncomputable def qA (N:List Str) (ys:List T):Ev:=ys.map (λ y=>some (.im y))++List.replicate (N.length-ys.length) none
@[simp] noncomputable def Zy:Option Out->Option T
 | some (.rt y)=>some y
 | some (.nx _)=>some .zh
 | _=>none
@[simp] def ya (N:List Str) (n:Nat) (g:Sm):List T->Option T:=λ ys=>if ys.length=n then Zy (g (qA N ys)) else none
theorem zS.len {R:Rk}{N:List Str}{n:Nat}{g:Sm}{ds:List D}{S:SS}{Q:DK}(hs:zS R (ya N n g) ds S Q):ds.length=n:=by
 obtain⟨Z,ys,y,hz,r,e,hq⟩:=hs;unfold ya at e;split at e
 .rename_i h;rw[r.len];exact h
 .cases e
def VO {N:List Str}{ds:List D}{i:Nat}{d:D}(h:ds[i]?=some d):(sr N ds)[i]?=some (some d):=by
 have hi:=(AL.mp h).1;unfold sr;rw[Cv (by simpa using hi),Aw,h];rfl
def ky {N:List Str}{ys:List T}{i:Nat}{w:W}(h:(qA N ys)[i]?=some (some w)):∃ y,ys[i]?=some y/\w=.im y:=by
 unfold qA at h;have hi:i<ys.length:=by
  rcases A7 i ys.length with q | q
  .exact q
  .rw[Dg (by simpa using q),Df] at h;split at h <;> cases h
 rw[Cv (by simpa using hi),Aw] at h;cases q:ys[i]? with
 | none=>rw[q] at h;cases h
 | some y=>rw[q] at h;cases h;exact⟨y,rfl,rfl⟩
def MP {R:Rk} [Lo R] {N:List Str}{n:Nat}{g:Sm}{t:y_}(h:yX R g t) {ds:List D}{S:SS}{Q:DK}(hs:zS R (ya N n g) ds S Q):t { nx:=λ _ S'=>Q .zh S',rt:=Q } (sr N ds) S:=by
 obtain⟨Z,ys,y,hz,r,e,hq⟩:=hs;unfold ya at e;split at e
 case isFalse=>cases e
 obtain⟨o,e1,e2⟩:∃ o,g (qA N ys)=some o/\Zy (some o)=some y:=by
  cases q:g (qA N ys) with
  | none=>rw[q] at e;cases e
  | some o=>exact⟨o,rfl,by rw[<- q];exact e⟩
 refine h S Z S Z _ _ o _ ⟨⟨hz,λ i t e=>?_,λ i ts e=>?_⟩,?_,.refl S,hz,λ _ z=>z,λ _ z=>.inl z,λ i ts p e _=>?_,λ i j ts us p _ e _ _ _=>?_⟩ e1 ?_
 .obtain⟨y',h1,h2⟩:=ky e;cases h2;obtain⟨d,h3,h4⟩:=r.e9 h1;exact⟨d,VO h3,h4⟩
 .obtain⟨y',h1,h2⟩:=ky e;cases h2
 .unfold sr qA;have:=r.len;simp[this]
 .obtain⟨y',h1,h2⟩:=ky e;cases h2
 .obtain⟨y',h1,h2⟩:=ky e;cases h2
 .cases o with
  | rt y'=>cases e2;exact λ d S' s r=>hq d S' s r
  | nx J'=>
   cases e2;exact λ S' Z' Y' F=>hq .zh S' F.sx (Cl.of (λ _=>nofun) aq)
  | bk _=>cases e2
  | ct _=>cases e2
noncomputable def xG (Aa:List (Key×T)) (k:Key):Option T:=(Aa.find? λ kv=>decide (kv.1=k)).map (·.2)
noncomputable def ur (Aa:List (Key×T)) (k:Key) (v:T):List (Key×T):=
 if (Aa.any λ kv=>decide (kv.1=k))=true then Aa.map (λ kv=>if kv.1=k then (kv.1,v) else kv) else Aa++[(k,v)]
section
variable {S:SS}
theorem yJ.len:∀ {a:List (Key×T)}{b:List (Key×D)},yJ S a b->b.length=a.length
 | [],_,h=>by cases h;rfl
 | (k,t)::r,_,h=>by
  obtain⟨d,m,rfl,_,h2⟩:=h;simp[yJ.len h2]
theorem yJ.val:∀ {a:List (Key×T)}{b:List (Key×D)}(k:Key),yJ S a b->(xG a k=none/\um b k=none)\/∃ t d,xG a k=some t/\um b k=some d/\Sn S t d
 | [],_,k,h=>by cases h;exact .inl ⟨rfl,rfl⟩
 | (j,t)::r,_,k,h=>by
  obtain⟨d,m,rfl,h1,h2⟩:=h;by_cases e:j=k
  .subst e;exact .inr ⟨t,d,by simp[xG],by simp[um],h1⟩
  .rcases yJ.val k h2 with ⟨g1,g2⟩ | ⟨t',d',g1,g2,g3⟩
   .exact .inl ⟨by simpa [xG,e] using g1,by simpa [um,e] using g2⟩
   .exact .inr ⟨t',d',by simpa [xG,e] using g1,by simpa [um,e] using g2,g3⟩
theorem yJ.any:∀ {a:List (Key×T)}{b:List (Key×D)}(k:Key),yJ S a b->(b.any λ kv=>decide (kv.1=k))=a.any λ kv=>decide (kv.1=k)
 | [],_,k,h=>by cases h;rfl
 | (j,t)::r,_,k,h=>by
  obtain⟨d,m,rfl,h1,h2⟩:=h;rw[Bf,Bf,yJ.any k h2]
theorem yJ.t6 {k:Key}{t:T}{d:D}(r:Sn S t d):∀ {a:List (Key×T)}{b:List (Key×D)},yJ S a b->yJ S (a.map λ kv=>if kv.1=k then (kv.1,t) else kv) (b.map λ kv=>if kv.1=k then (kv.1,d) else kv)
 | [],_,h=>by cases h;rfl
 | (j,u)::a,_,h=>by
  obtain⟨e,m,rfl,h1,h2⟩:=h;rw[Ar,Ar];by_cases q:j=k
  .rw[if_pos q,if_pos q];exact⟨d,_,rfl,r,yJ.t6 r h2⟩
  .rw[if_neg q,if_neg q];exact⟨e,_,rfl,h1,yJ.t6 r h2⟩
theorem yJ.snoc {k:Key}{t:T}{d:D}(r:Sn S t d):∀ {a:List (Key×T)}{b:List (Key×D)},yJ S a b->yJ S (a++[(k,t)]) (b++[(k,d)])
 | [],_,h=>by cases h;exact⟨d,[],rfl,r,rfl⟩
 | (j,u)::a,_,h=>by
  obtain⟨e,m,rfl,h1,h2⟩:=h;exact⟨e,_,rfl,h1,yJ.snoc r h2⟩
def yJ.put {a:List (Key×T)}{b:List (Key×D)}(h:yJ S a b) (k:Key) {t:T}{d:D}(r:Sn S t d):yJ S (ur a k t) (putD b k d):=by
 unfold ur putD;rw[h.any k];split
 .exact yJ.t6 r h
 .exact yJ.snoc r h
end
@[simp] noncomputable def YW (i:Nat):Sm:=fun J=>some (.nx (J.set i (some (.own (.yr [])))))
@[simp] def eQ (i:Nat) (f:Ev->Option T):Ev->Option T:=fun J=>(f J).bind λ y=>match J[i]?,y with
 | some (some (.own (.yr Aa))),.int k=>xG Aa (.inl k)
 | _,_=>none
@[simp] def YX (i:Nat) (f g:Ev->Option T):Ev->Option T:=fun J=>(f J).bind λ y=>(g J).bind λ z=>match J[i]?,y with
 | some (some (.own (.yr Aa))),.int k=>some ((xG Aa (.inl k)).getD z)
 | _,_=>none
@[simp] def YV (i:Nat) (f v:Ev->Option T):Sm:=fun J=>(v J).bind λ z=>(f J).bind λ y=>match J[i]?,y with
 | some (some (.own (.yr Aa))),.int k=>if Aa.length<sizeLine then some (.nx (J.set i (some (.own (.yr (ur Aa (.inl k) z)))))) else none
 | _,_=>none
@[simp] noncomputable def eP (i:Nat):Ev->Option T:=fun J=>match J[i]? with
 | some (some (.own (.yr Aa)))=>some (.int Aa.length)
 | _=>none
def kU {S:SS}{Z:Addr->Prop}{Y:yt}{J:Ev}(hE:ER S Z Y J) {i:Nat}{Aa:List (Key×T)}(h:J[i]?=some (some (.own (.yr Aa)))):∃ p b,Y[i]?=some (some (.ref p))/\S p=some (.yr b)/\yJ (zW S Z) Aa b:=by
 obtain⟨p,o,h1,h2,h3,_⟩:=hE.ow i _ h;cases o with
 | yr b=>exact⟨p,b,h1,h2,h3⟩
 | lst _=>exact h3.elim
section
variable {R:Rk}{f g v:Ev->Option T}{ty tx tv:zA}
def RA (i:Nat):yX R (YW i) (vG Xm (hName i)):=λ S0 Z0 S Z Y J o E F e P=>by
 cases e;intro p hp;exact P _ _ _ (F.ay (ts:=.yr []) (ds:=.yr []) (.new hp _) i hp rC rfl)
def ZD (i:Nat) (hf:yN f ty):vL (eQ i f) (Xp (yS i) ty):=λ S Z Y J y Q hE e hq=>by
 obtain⟨x,e1,e2⟩:=Aj e;split at e2
 .rename_i Aa k h;obtain⟨p,b,h1,h2,h3⟩:=kU hE h;show yS i Y S _;unfold yS;rw[h1];refine hf S Z Y J _ _ hE e1 λ d S1 s1 r1=>?_;cases Vw.int r1;rcases (yJ.sx (vh s1) h3).val (.inl k) with ⟨g1,_⟩ | ⟨t,d,g1,g2,g3⟩
  .rw[g1] at e2;cases e2
  .rw[g1] at e2;cases e2;exact⟨p,b,k,d,rfl,rfl,s1 _ _ h2,g2,hq d S1 s1 g3⟩
 .cases e2
def ZE (i:Nat) (hf:yN f ty) (hg:vL g tx):vL (YX i f g) (Xo (yS i) ty tx):=λ S Z Y J y Q hE e hq=>by
 obtain⟨x,e1,e⟩:=Aj e;obtain⟨z,e2,e3⟩:=Aj e;split at e3
 .rename_i Aa k h;cases e3;obtain⟨p,b,h1,h2,h3⟩:=kU hE h;show yS i Y S _;unfold yS;rw[h1];refine⟨p,rfl,⟨b,h2⟩,hf S Z Y J _ _ hE e1 λ d S1 s1 r1=>?_⟩;cases Vw.int r1;refine hg S1 Z Y J z _ (hE.grow s1) e2 λ dz S2 s2 r2=>⟨k,b,rfl,(s1.trans s2) _ _ h2,?_⟩;rcases (yJ.sx (vh (s1.trans s2)) h3).val (.inl k) with ⟨g1,g2⟩ | ⟨t,d,g1,g2,g3⟩
  .rw[g2];rw[g1] at hq;exact hq _ S2 (s1.trans s2) r2
  .rw[g2];rw[g1] at hq;exact hq _ S2 (s1.trans s2) g3
 .cases e3
def R9 (i:Nat) (hf:yN f ty) (hv:vL v tv):yX R (YV i f v) (Xn (yS i) ty tv):=λ S0 Z0 S Z Y J o E F e P=>by
 obtain⟨z,e1,e⟩:=Aj e;obtain⟨x,e2,e3⟩:=Aj e;split at e3
 .rename_i Aa k h;split at e3
  .rename_i hl;cases e3;refine hv S Z Y J z _ F.er e1 λ dz S1 s1 r1=>?_;have F1:=F.grow s1;obtain⟨p,b,h1,h2,h3⟩:=kU F1.er h;show yS i Y S1 _;unfold yS;rw[h1];refine hf S1 Z Y J _ _ F1.er e2 λ d S2 s2 r2=>?_;cases Vw.int r2;have h4:=yJ.sx (vh s2) h3;exact⟨p,b,k,rfl,rfl,s2 _ _ h2,by rw[h4.len];exact hl,P _ Z Y ((F1.grow s2).mut (us:=.yr (ur Aa (.inl k) z)) (es:=.yr (putD b (.inl k) dz)) i h h1 (h4.put _ (Sn.sx (vh s2) z r1)))⟩
  .cases e3
 .cases e3
def QW (i:Nat):wc (eP i) (xZ YJ (qV (yS i) j6)):=λ S Z Y J y Q hE e hq=>by
 unfold eP at e;split at e
 .rename_i Aa h;cases e;obtain⟨p,b,h1,h2,h3⟩:=kU hE h;show yS i Y S _;unfold yS;rw[h1];refine⟨p,b,rfl,h2,?_⟩;rw[h3.len];exact hq _ S (.refl S) (Cl.of (λ _=>nofun) vo)
 .cases e
end
@[simp] noncomputable def ux (f:Ev->Option T):Ev->Option T:=fun J=>(f J).bind λ x=>match x with
 | .int i=>some (.int (-i))
 | _=>none
def Xi (ta:zA):zA:=fun Y S Q=>ta Y S λ x S1=>match x with
 | .int i=>Q (.int (-i)) S1
 | _=>False
def Qv {f:Ev->Option T}{te:zA}(h:yN f te):wc (ux f) (Xi te):=λ S Z Y J y Q hE e hq=>by
 obtain⟨x,e1,e2⟩:=Aj e;refine h S Z Y J x _ hE e1 λ d S1 s1 r1=>?_;split at e2
 .cases Vw.int r1;cases e2;exact hq _ S1 s1 (Cl.of (λ _=>nofun) vo)
 .cases e2
def Nh:ui zJ qM YI:=Y3
def Ng:ui zJ uQ YH:=Y3
noncomputable def u5:List T->Option (List Int)
 | []=>some []
 | .int i::ts=>(u5 ts).map (i::·)
 | _::_=>none
noncomputable def uq:List T->Option (List (List Int))
 | []=>some []
 | .tup r::ts=>(u5 r).bind λ x=>(uq ts).map (x::·)
 | _::_=>none
noncomputable def y7 (r:List Int):T:=.tup (r.map T.int)
theorem mC:∀ {ts:List T}{is:List Int},u5 ts=some is->ts=is.map T.int
 | [],is,h=>by cases h;rfl
 | .int b::ts,is,h=>by
  unfold u5 at h;obtain⟨cs,h1,rfl⟩:=AA h;rw[Ar,<- mC h1]
 | .zh::ts,bs,h=>by cases h
 | .bl _::ts,bs,h=>by cases h
 | .str _::ts,bs,h=>by cases h
 | .tup _::ts,bs,h=>by cases h
 | .lst _::ts,bs,h=>by cases h
theorem gI:∀ {ts:List T}{rs:List (List Int)},uq ts=some rs->ts=rs.map y7
 | [],is,h=>by cases h;rfl
 | .tup r::ts,is,h=>by
  unfold uq at h;obtain⟨x,h1,h⟩:=Aj h;obtain⟨cs,h2,rfl⟩:=AA h;rw[Ar,<- gI h2,mC h1];rfl
 | .zh::ts,bs,h=>by cases h
 | .bl _::ts,bs,h=>by cases h
 | .str _::ts,bs,h=>by cases h
 | .int _::ts,bs,h=>by cases h
 | .lst _::ts,bs,h=>by cases h
def Yv (is:List Int):u5 (is.map T.int)=some is:=by
 induction is with
 | nil=>rfl
 | cons b bs ih=>rw[Ar];unfold u5;rw[ih];rfl
def gJ (rs:List (List Int)):uq (rs.map y7)=some rs:=by
 induction rs with
 | nil=>rfl
 | cons b bs ih=>
  show uq (.tup (b.map T.int)::bs.map y7)=_;unfold uq;rw[Yv,ih];rfl
theorem sy {S:SS}:∀ {is:List Int}{ds:List D},zp S (is.map T.int) ds↔ds=is.map D.int
 | [],ds=>by simp only[A9,zp]
 | i::is,ds=>by
  rw[Ar];simp only[zp,Sn];constructor
  .rintro⟨c,cs,rfl,rfl,h⟩;rw[sy.mp h];rfl
  .rintro rfl;exact⟨.int i,_,rfl,rfl,sy.mpr rfl⟩
theorem pP {S:SS}:∀ {rs:List (List Int)}{ds:List D},zp S (rs.map y7) ds↔ds=rs.map wG
 | [],ds=>by simp only[A9,zp]
 | r::rs,ds=>by
  rw[Ar];simp only[zp,y7,Sn];constructor
  .rintro⟨c,cs,rfl,⟨es,rfl,h1⟩,h⟩;rw[pP.mp h,sy.mp h1];rfl
  .rintro rfl;exact⟨wG r,_,rfl,⟨_,rfl,sy.mpr rfl⟩,pP.mpr rfl⟩
@[simp] noncomputable def bU:T->String
 | .zh=>"NoneType"
 | .bl _=>"bool"
 | .int _=>"int"
 | .str _=>"str"
 | .tup _=>"tuple"
 | .lst _=>"list"
 | .yd=>"dict"
@[simp] def instS (ty:String) (f:Ev->Option T):Ev->Option T:=fun J=>(f J).map λ x=>.bl (vY (bU x) ty)
def QN {ty:String}{f:Ev->Option T}{te:zA}(hf:yN f te):wc (instS ty f) (mW ty te):=λ S Z Y J y Q hE e hq=>by
 obtain⟨x,e1,rfl⟩:=AA e;refine hf S Z Y J x _ hE e1 λ d S1 s1 r1=>?_;have key:rE d S1=some (bU x):=by
  cases x with
  | zh=>cases Vw.zh r1;rfl
  | bl _=>cases Vw.bl r1;rfl
  | int _=>cases Vw.int r1;rfl
  | str _=>cases Vw.str r1;rfl
  | tup _=>obtain⟨ds,rfl,_⟩:=Vw.tup r1;rfl
  | lst _=>
   obtain⟨ds,rfl | ⟨a,rfl,h1⟩,h2⟩:=Vw.lst r1
   .rfl
   .unfold rE;dsimp only;rw[h1];rfl
  | yd=>
   obtain⟨a,Aa,rfl,h1⟩:=Vw.yd r1;unfold rE;dsimp only;rw[h1];rfl
 rw[key];exact hq _ S1 s1 (Cl.of (λ _=>nofun) vp)
@[simp] noncomputable def isNone:T->Bool
 | .zh=>true
 | _=>false
noncomputable def o6:D->Bool
 | .zh=>true
 | _=>false
noncomputable def zj (p:Int×Int):T:=.tup [.int p.1,.int p.2]
noncomputable def z_ (ns:List Int):T:=.lst (ns.map .int)
@[simp] theorem zaa:sizeLine=16777216:=rfl
def Ob {n:Nat}(h:n<=10000):n<=sizeLine:=Bi h (by decide)
def x_ {α:Type}{xs:List α}{k:Nat}{x:α}(h:xs[k]?=some x):L2.zY xs (k:Int)=some x:=by
 unfold L2.zY L2.wW;have hk:=(AL.mp h).1;rw[if_pos (by lia),if_pos (by lia)];simpa using h
@[simp] theorem ph {α:Type}{xs:List α}{x:α}:L2.zY (xs++[x]) (-1)=some x:=by
 unfold L2.zY L2.wW;rw[if_neg (by lia),if_pos (by simp;lia)];have:(-1+((xs++[x]).length:Int)).toNat=xs.length:=by simp;lia
 rw[A_,this];simp
@[simp] theorem zah {α:Type}{x:α}{xs:List α}:L2.zY (x::xs) 0=some x:=x_ (k:=0) rfl
@[simp] theorem zag {α:Type}{x y:α}{xs:List α}:L2.zY (x::y::xs) 1=some y:=x_ (k:=1) rfl
@[simp] theorem zaf {α:Type}{x y z:α}{xs:List α}:L2.zY (x::y::z::xs) 2=some z:=x_ (k:=2) rfl
@[simp] theorem zae {α:Type}{x y z w:α}{xs:List α}:L2.zY (x::y::z::w::xs) 3=some w:=x_ (k:=3) rfl
theorem eW {α:Type}(enc:α->T) (g:α->Option T) (h:T->Option (Option T)):∀ (xs:List α),(∀ x∈xs,h (enc x)=some (g x))->qW h (xs.map enc)=some (xs.filterMap g)
 | [],_=>rfl
 | x::xs,hh=>by
  rw[Ar];unfold qW;rw[hh x Am,eW enc g h xs λ y hy=>hh y (Av _ hy)];cases q:g x <;> simp[q]
def Mm {α:Type}(enc:α->T) (g:α->T) (h:T->Option (Option T)) (xs:List α) (hh:∀ x∈xs,h (enc x)=some (some (g x))):qW h (xs.map enc)=some (xs.map g):=by
 rw[eW enc (λ x=>some (g x)) h xs hh];simp
def qQ {α:Type}(enc:α->T) (h:α->T) {pick:List (Option Nat)}{it:Ev->Option (List T)}{g:T->Ev->Option Ev}{c:Ev->Option Bool}{f:Ev->Option T}{J:Ev}(xs:List α) (hi:it J=some (xs.map enc)) (hl:xs.length<=16777216)
  (hh:∀ x∈xs,o4 pick g c f J (enc x)=some (some (h x))):wV pick it g c f J=some (.lst (xs.map h)):=by
 unfold wV;rw[hi,A_,if_pos (by rw[Az];exact hl),Mm enc h _ xs hh];rfl
def m6 {α:Type}(enc:α->T) (h:α->Option T) {pick:List (Option Nat)}{it:Ev->Option (List T)}{g:T->Ev->Option Ev}{c:Ev->Option Bool}{f:Ev->Option T}{J:Ev}(xs:List α) (hi:it J=some (xs.map enc)) (hl:xs.length<=16777216)
  (hh:∀ x∈xs,o4 pick g c f J (enc x)=some (h x)):wV pick it g c f J=some (.lst (xs.filterMap h)):=by
 unfold wV;rw[hi,A_,if_pos (by rw[Az];exact hl),eW enc h _ xs hh];rfl
section
variable {α:Type}{is:List Nat}{g:T->Ev->Option Ev}{b:Sm}
noncomputable def turn (g:T->Ev->Option Ev) (b:Sm) (y:T) (J:Ev):Option Out:=(g y J).bind b
theorem fH (y:T) (ys:List T) (J:Ev):wJ is g b (y::ys) J=(turn g b y (yF is J)).bind λ o=>match o with
  | .nx J2=>wJ is g b ys J2
  | .ct J2=>wJ is g b ys J2
  | .bk J2=>some (.nx (yF is J2))
  | .rt t=>some (.rt t):=by
 unfold turn;rw[wJ];cases g y (yF is J) <;> rfl
theorem fJ (enc:α->T) (test:α->Bool) (v:T) (J0:Ev):∀ (xs:List α) (J:Ev),yF is J=J0->(∀ x∈xs,∃ J',yF is J'=J0/\turn g b (enc x) J0=some (if test x=true then .rt v else .nx J'))->wJ is g b (xs.map enc) J=some (if xs.any test=true then .rt v else .nx J0)
 | [],J,h,_=>by rw[A9,wJ,h];rfl
 | x::xs,J,h,hs=>by
  obtain⟨J',h1,h2⟩:=hs x Am;rw[Ar,fH,h,h2,Bf];cases q:test x with
  | true=>simp
  | false=>
   have ih:=fJ enc test v J0 xs J' h1 λ y hy=>hs y (Av _ hy);simpa using ih
theorem ZT (enc:α->T) (I:List α->Ev->Prop):∀ (xs:List α) (pre:List α) (J:Ev),I pre (yF is J)->
  (∀ p x q,pre++xs=p++x::q->∀ J,I p J->∃ J',turn g b (enc x) J=some (.nx J')/\I (p++[x]) (yF is J'))->∃ J',wJ is g b (xs.map enc) J=some (.nx J')/\I (pre++xs) J'
 | [],pre,J,h,_=>⟨yF is J,by rw[A9,wJ],by simpa using h⟩
 | x::xs,pre,J,h,hs=>by
  obtain⟨J',h1,h2⟩:=hs pre x xs rfl _ h;rw[Ar,fH,h1];have ih:=ZT enc I xs (pre++[x]) J' h2 λ p y q e=>hs p y q (by rw[<- e];simp);simpa using ih
def uz (enc:α->T) (I:List α->Ev->Prop) (xs:List α) (J:Ev) (h:I [] (yF is J))
  (hs:∀ p x q,xs=p++x::q->∀ J,I p J->∃ J',turn g b (enc x) J=some (.nx J')/\I (p++[x]) (yF is J')):∃ J',wJ is g b (xs.map enc) J=some (.nx J')/\I xs J':=ZT enc I xs [] J h hs
end
def pT (n:Nat) (h:n<=100000):sC [.int (n:Int)]=some ((List.range n).map λ(k:Nat)=>T.int (0+(k:Int))):=by
 show (if inR (n:Int)=true then some (rangeT 0 (n:Int).toNat) else none)=_;rw[if_pos (Yy.mpr ⟨by lia,by lia⟩)];rfl
def qz (a:Key) (b:T) (Aa:List (Key×T)) (j:Key):xG ((a,b)::Aa) j=if a=j then some b else xG Aa j:=by
 by_cases h:a=j <;> simp[xG,h]
theorem bN (k j:Key) (d:T):∀ Aa:List (Key×T),xG (Aa.map λ kv=>if kv.1=k then (kv.1,d) else kv) j=(xG Aa j).map λ x=>if j=k then d else x
 | []=>rfl
 | (a,b)::Aa=>by
  have ih:=bN k j d Aa;rw[Ar];by_cases hk:a=k
  .rw[if_pos hk,qz,qz,ih];by_cases hj:a=j
   .subst hj;subst hk;simp
   .rw[if_neg hj,if_neg hj]
  .rw[if_neg hk,qz,qz,ih];by_cases hj:a=j
   .subst hj;simp[hk]
   .rw[if_neg hj,if_neg hj]
theorem bM (k j:Key) (d:T):∀ Aa:List (Key×T),(∀ kv∈Aa,¬ kv.1=k)->xG (Aa++[(k,d)]) j=if j=k then some d else xG Aa j
 | [],_=>by
  show xG [(k,d)] j=_;rw[qz];by_cases h:j=k
  .subst h;simp
  .rw[if_neg h,if_neg (λ z=>h z.symm)]
 | (a,b)::Aa,hn=>by
  have ih:=bM k j d Aa λ kv EC=>hn kv (Av _ EC);have ha:¬ a=k:=hn (a,b) Am;show xG ((a,b)::(Aa++[(k,d)])) j=_;rw[qz,qz,ih];by_cases hj:a=j
  .subst hj;simp[ha]
  .rw[if_neg hj,if_neg hj]
def XN (Aa:List (Key×T)) (k:Key):(Aa.any λ kv=>decide (kv.1=k))=(xG Aa k).isSome:=by
 unfold xG;rw[Option.isSome_map,A6,AR,List.find?_isSome]
def ke (Aa:List (Key×T)) (k j:Key) (d:T):xG (ur Aa k d) j=if j=k then some d else xG Aa j:=by
 unfold ur;split
 .rename_i h;rw[XN] at h;rw[bN];by_cases hj:j=k
  .subst hj;obtain⟨x,hx⟩:=DT.mp h;simp[hx]
  .simp[hj]
 .rename_i h;exact bM k j d Aa λ kv EC z=>h (AR.mpr ⟨kv,EC,decide_eq_true z⟩)
def ZY (Aa:List (Key×T)) (k:Key) (d:T):(ur Aa k d).length=if (xG Aa k).isSome=true then Aa.length else Aa.length+1:=by
 have e:=XN Aa k;unfold ur;rw[e];split <;> simp
noncomputable def vS (p:Int×Int):List Int:=[p.1,p.2]
def su (ps:List (Int×Int)):List (Int×Int):=(L4.wg (ps.map vS)).map λ r=>(r.getD 0 0,r.getD 1 0)
def ai (ps:List (Int×Int)):(su ps).map vS=L4.wg (ps.map vS):=by
 unfold su;rw[AW]
 conv=>rhs;rw[<- List.map_id (L4.wg (ps.map vS))]
 refine CN λ r hr=>?_;obtain⟨p,_,rfl⟩:=Ap.mp ((L4.uO _).mem_iff.mp hr);rfl
def iD (ps:List (Int×Int)):(su ps).Perm ps:=by
 have h:=L4.uO (ps.map vS);have:(su ps).Perm ((ps.map vS).map λ r=>(r.getD 0 0,r.getD 1 0)):=h.map _
 rwa [AW,show ((λ r:List Int=>(r.getD 0 0,r.getD 1 0)) ∘ vS)=id from rfl,List.map_id] at this
def oy (p q:Int×Int):Prop:=p.1<q.1\/(p.1=q.1/\p.2<=q.2)
def ah (ps:List (Int×Int)):(su ps).Pairwise oy:=by
 have h:=L4.iC (ps.map vS);rw[<- ai,Cf] at h;refine h.imp λ{p q} CF=>?_;unfold vS at CF;rw[HT.rR,HT.rR] at CF;unfold oy;by_cases e:q.1=p.1
 .rw[if_pos e] at CF;by_cases e2:q.2=p.2
  .omega
  .rw[if_neg e2] at CF;have:=of_decide_eq_false CF;lia
 .rw[if_neg e] at CF;have:=of_decide_eq_false CF;lia
def U6 (ps:List (Int×Int)):uq (ps.map zj)=some (ps.map vS):=by
 have:=gJ (ps.map vS)
 rwa [AW,show y7 ∘ vS=zj from rfl] at this
noncomputable def wB (q p:Int×Int):Bool:=decide (p.1<=q.1)&&decide (p.2<=q.2)
def zM (ps:List (Int×Int)) (q:Int×Int):Bool:=ps.any (wB q)
def yG {ps:List (Int×Int)}{q:Int×Int}:zM ps q=true↔∃ p∈ps,p.1<=q.1/\p.2<=q.2:=by
 unfold zM wB;simp[AR]
def Mh {ps qs:List (Int×Int)}(h:ps.Perm qs) (q:Int×Int):zM ps q=zM qs q:=by
 rw[A6,yG,yG];exact⟨λ⟨p,h1,h2⟩=>⟨p,h.mem_iff.mp h1,h2⟩,λ⟨p,h1,h2⟩=>⟨p,h.mem_iff.mpr h1,h2⟩⟩
def Mj (ps qs:List (Int×Int)) (q:Int×Int):zM (ps++qs) q=(zM ps q||zM qs q):=by
 unfold zM;rw[List.any_append]
def vN (ps:List (Int×Int)):Prop:=ps.Pairwise λ p q=>p.1<q.1/\q.2<p.2
theorem vN.eq:∀ {ps qs:List (Int×Int)},vN ps->vN qs->(∀ q,zM ps q=zM qs q)->ps=qs
 | [],[],_,_,_=>rfl
 | [],q::qs,_,_,h=>by
  have:=h q;rw[show zM [] q=false from rfl] at this;have h2:zM (q::qs) q=true:=yG.mpr ⟨q,Am,AI _,AI _⟩;rw[h2] at this;cases this
 | p::ps,[],_,_,h=>by
  have:=h p;rw[show zM [] p=false from rfl] at this;have h2:zM (p::ps) p=true:=yG.mpr ⟨p,Am,AI _,AI _⟩;rw[h2] at this;cases this
 | p::ps,q::qs,hp,hq,h=>by
  have hp1:=Bp.mp hp;have hq1:=Bp.mp hq;have a1:∃ r∈q::qs,r.1<=p.1/\r.2<=p.2:=yG.mp (by rw[<- h];exact yG.mpr ⟨p,Am,AI _,AI _⟩);have a2:∃ r∈p::ps,r.1<=q.1/\r.2<=q.2:=yG.mp (by rw[h];exact yG.mpr ⟨q,Am,AI _,AI _⟩);obtain⟨r,hr,r1,r2⟩:=a1;obtain⟨u,hu,u1,u2⟩:=a2;have qr:q.1<=r.1:=by
   rcases Ah.mp hr with e | e
   .subst e;exact AI _
   .exact Int.le_of_lt (hq1.1 r e).1
  have pu:p.1<=u.1:=by
   rcases Ah.mp hu with e | e
   .subst e;exact AI _
   .exact Int.le_of_lt (hp1.1 u e).1
  have e1:p.1=q.1:=by lia
  have er:r=q:=by
   rcases Ah.mp hr with e | e
   .exact e
   .have:=(hq1.1 r e).1;lia
  have eu:u=p:=by
   rcases Ah.mp hu with e | e
   .exact e
   .have:=(hp1.1 u e).1;lia
  subst er eu;have e2:u.2=r.2:=by lia
  have epq:u=r:=Prod.ext e1 e2;subst epq;rw[vN.eq hp1.2 hq1.2 λ x=>?_];have hx:=h x;unfold zM at hx ⊢;rw[Bf,Bf] at hx;cases g:wB x u with
  | false=>rw[g] at hx;simpa using hx
  | true=>
   have gx:u.1<=x.1/\u.2<=x.2:=by simpa [wB] using g
   have key:∀ {l:List (Int×Int)},(∀ v∈l,u.1<v.1/\v.2<u.2)->l.any (wB x)=l.any (wB (x.1,u.2-1)):=by
    intro l hl;rw[A6,AR,AR];constructor
    .rintro⟨v,hv,hg⟩;have:=hl v hv;have hg':v.1<=x.1/\v.2<=x.2:=by simpa [wB] using hg
     exact⟨v,hv,by simp[wB];lia⟩
    .rintro⟨v,hv,hg⟩;have:=hl v hv;have hg':v.1<=x.1/\v.2<=u.2-1:=by simpa [wB] using hg
     exact⟨v,hv,by simp[wB];lia⟩
   rw[key hp1.1,key hq1.1];have hy:=h (x.1,u.2-1);unfold zM at hy;rw[Bf,Bf] at hy;have gn:wB (x.1,u.2-1) u=false:=by
    unfold wB;rw[show decide (u.2<=(x.1,u.2-1).2)=false from decide_eq_false (by show ¬ u.2<=u.2-1;lia),Cg]
   rw[gn] at hy;simpa using hy
noncomputable def tQ (l:Option Int) (x:Int):Bool:=match l with
 | none=>true
 | some m=>decide (x<m)
noncomputable def yY:List (Int×Int)->Option Int->List (Int×Int)
 | [],_=>[]
 | p::ps,l=>if tQ l p.2=true then p::yY ps (some p.2) else yY ps l
def vv (ps:List (Int×Int)):List (Int×Int):=yY (su ps) none
theorem mF:∀ (ps:List (Int×Int)) (l:Option Int) (q:Int×Int),q∈yY ps l->q∈ps/\∀ m,l=some m->q.2<m
 | [],l,q,h=>by simp[yY] at h
 | p::ps,l,q,h=>by
  unfold yY at h;split at h
  .rename_i c;have hm:∀ m,l=some m->p.2<m:=λ m e=>by subst e;simpa [tQ] using c
   rcases Ah.mp h with e | e
   .subst e;exact⟨Am,hm⟩
   .obtain⟨h1,h2⟩:=mF ps _ q e;exact⟨Av _ h1,λ m e=>by have:=h2 _ rfl;have:=hm m e;lia⟩
  .obtain⟨h1,h2⟩:=mF ps _ q h;exact⟨Av _ h1,h2⟩
theorem fZ:∀ (ps:List (Int×Int)) (l:Option Int),ps.Pairwise oy->vN (yY ps l)
 | [],l,_=>by simp[yY,vN]
 | p::ps,l,h=>by
  have h1:=Bp.mp h;unfold yY;split
  .refine Bp.mpr ⟨λ q hq=>?_,fZ ps _ h1.2⟩;obtain⟨g1,g2⟩:=mF ps _ q hq;have:=h1.1 q g1;have:=g2 _ rfl;unfold oy at *;lia
  .exact fZ ps _ h1.2
theorem f_:∀ (ps:List (Int×Int)) (l:Option Int),ps.Pairwise oy->∀ p∈ps,(∃ q∈yY ps l,q.1<=p.1/\q.2<=p.2)\/∃ m,l=some m/\m<=p.2
 | [],l,_,p,hp=>by cases hp
 | r::ps,l,h,p,hp=>by
  have h1:=Bp.mp h;unfold yY;split
  .rename_i c;rcases Ah.mp hp with e | e
   .subst e;exact .inl ⟨p,Am,AI _,AI _⟩
   .rcases f_ ps (some r.2) h1.2 p e with ⟨q,q1,q2⟩ | ⟨m,e1,e2⟩
    .exact .inl ⟨q,Av _ q1,q2⟩
    .cases e1;have:=h1.1 p e;unfold oy at this;exact .inl ⟨r,Am,by lia,e2⟩
  .rename_i c;rcases Ah.mp hp with e | e
   .subst e;cases l with
    | none=>simp[tQ] at c
    | some m=>exact .inr ⟨m,rfl,by simpa [tQ] using c⟩
   .exact f_ ps l h1.2 p e
def fO (ps:List (Int×Int)):vN (vv ps):=fZ _ _ (ah ps)
def Oh {ps:List (Int×Int)}{q:Int×Int}(h:q∈vv ps):q∈ps:=(iD ps).mem_iff.mp (mF _ _ q h).1
def ox (ps:List (Int×Int)) (q:Int×Int):zM (vv ps) q=zM ps q:=by
 rw[<- Mh (iD ps) q,A6,yG,yG];constructor
 .rintro⟨p,h1,h2⟩;exact⟨p,(mF _ _ p h1).1,h2⟩
 .rintro⟨p,h1,h2⟩;rcases f_ (su ps) none (ah ps) p h1 with ⟨r,r1,r2⟩ | ⟨m,e,_⟩
  .exact⟨r,r1,by lia,by lia⟩
  .cases e
end L5
namespace L2
open PySem PySem.Spec PyProof.Rows
section
variable {X:Cx}
def Za (K:Ad):R2:=λ x y H Q=>∃ l b xs zs,x=.ref l/\y=.ref b/\zZ K H l xs/\zZ K H b zs/\xs.length+zs.length<=sizeLine/\∀ p,H p=none->Q (.ref p) (upd H p (.lst (xs++zs)))
def Rr:yu X (binaryOp .Add) (Za X.K):=by
 intro pins s B H x y v u Q I rx ry h;obtain⟨l,b,xs,zs,rfl,rfl,hH,hB,hz,q⟩:=h;cases rx;cases ry;obtain⟨its,r,p1,_⟩:=I.list hH;obtain⟨its2,r2,p2,_⟩:=I.list hB;obtain⟨⟨cls,dd,data,sl⟩,ho,hc,n,hd⟩:=p1.isList;obtain⟨⟨cls2,dd2,data2,sl2⟩,ho2,hc2,n2,hd2⟩:=p2.isList;simp only at hc hd hc2 hd2;subst hc hd hc2 hd2;have e:its.toArray++its2.toArray=(its++its2).toArray:=by simp
 refine concat_meets ⟨_,ho,rfl⟩ ⟨_,ho2,rfl⟩ noFill_list_add seq_list_add PySem.F.slot_list_add PySem.F.entry_list_add (PySem.F.args_list_add_2 _ _) (list_addW l b its.toArray its2.toArray n n2 dd dd2 sl sl2 (by rw[Aq,Aq,<- r.length,<- r2.length];exact hz)) ⟨ho,ho2,?_⟩;rw[e];exact⟨.ref _,_,I.P_ (t':=s.toks) (r.append r2) (by rw[Ck];lia),rfl,q _ I.fresh⟩
def aZ (K:Ad):R2:=λ x y H Q=>∃ a b ys,x=.ref a/\y=.ref b/\ye K H a []/\ye K H b ys/\Q (.ref b) H
def Rp:yu X (binaryOp .Add) (aZ X.K):=by
 intro pins s B H x y v u Q I rx ry h;obtain⟨l,b,ys,rfl,rfl,hH,hB,q⟩:=h;cases rx;cases ry;obtain⟨its,r,p1,_⟩:=I.tuple hH;obtain⟨its2,r2,p2,_⟩:=I.tuple hB;obtain⟨⟨cls,dd,data,sl⟩,ho,hc,n,hd⟩:=id p1;obtain⟨⟨cls2,dd2,data2,sl2⟩,ho2,hc2,n2,hd2⟩:=id p2;simp only at hc hd hc2 hd2;subst hc hd hc2 hd2;exact concat_meets ⟨_,ho,rfl⟩ ⟨_,ho2,rfl⟩ noFill_tuple_add seq_tuple_add PySem.F.slot_tuple_add PySem.F.entry_tuple_add (PySem.F.args_tuple_add_2 _ _)
   (tuple_addW0 l b its.toArray its2.toArray n n2 dd dd2 sl sl2 (by cases r;rfl)) ⟨ho,ho2,⟨.ref b,H,I,rfl,q⟩⟩
end
end L2
namespace L5
open PySem PySem.Spec L2 L3
open PyProof.Rows hiding St
section
variable {X:Cx}{K:Ad}{a b c e:Expr}{es:List Expr}{ta tb tc te:zA}{tA:yD}{pos p:Pos}
def uB.mo:we uB:=λ x y S Q Q' hq h=>by
 cases x with
 | zh=>exact h
 | bl _=>exact h
 | int i=>cases y <;> first | exact hq _ _ h | exact h
 | str i=>cases y <;> first | exact⟨h.1,hq _ _ h.2⟩ | exact h
 | tup i=>cases y <;> first | exact⟨h.1,hq _ _ h.2⟩ | exact h
 | yW ds=>
  unfold uB at h ⊢;dsimp only at h ⊢;split at h
  .exact⟨h.1,h.2.1,λ r hr=>hq _ _ (h.2.2 r hr)⟩
  .exact h.elim
 | ref q=>
  unfold uB at h ⊢;dsimp only at h ⊢;split at h
  .exact⟨h.1,h.2.1,λ r hr=>hq _ _ (h.2.2 r hr)⟩
  .exact h.elim
def sA {H:Hp}{S:SS}{d:D}{v:V}{ds:List D}(r:zk K H d v) (p:zT K H S) (e:zU d S=some ds) (n:∀ ts,d≠.tup ts):∃ a xs,v=.ref a/\zZ K H a xs/\zq K H ds xs:=by
 unfold zU at e;split at e
 .exact absurd rfl (n _)
 .cases e;simp only[zk] at r;obtain⟨a,xs,h1,h2,h3⟩:=r;exact⟨a,xs,h1,h2.sq,h3⟩
 .split at e
  .rename_i q;cases e;simp only[zk] at r;subst r;obtain⟨xs,h1,h2⟩:=p _ _ q;exact⟨_,xs,rfl,zZ.of h1,h2⟩
  .cases e
 .cases e
abbrev Zc (K:Ad):R2:=λ x y H Q=>vq (λ i j=>.int (i+j)) x y H Q\/((∃ i j,x=.str i/\y=.str j/\i.length+j.length<=sizeLine/\Q (.str (i++j)) H)\/(Za K x y H Q\/(aZ K x y H Q\/a_ K x y H Q)))
def uB.fits:xO K uB (Zc K):=λ x y d e H S Q h1 h2 h3 h=>by
 have lst:(∀ ts,d≠.tup ts)->(match zU d S,zU e S with
  | some ds,some es=>(∀ ts,e≠.tup ts)/\ds.length+es.length<=sizeLine/\∀ r,S r=none->va K H Q (.ref r) (ups S r (.lst (ds++es)))
  | _,_=>False)->Zc K x y H Q:=λ n h=>by
  split at h
  .rename_i ds es q1 q2;obtain⟨a,xs,rfl,g1,g2⟩:=sA h1 h3 q1 n;obtain⟨b,ys,rfl,g3,g4⟩:=sA h2 h3 q2 h.1;refine .inr (.inr (.inl ⟨a,b,xs,ys,rfl,rfl,g1,g3,by rw[<- g2.length,<- g4.length];exact h.2.1,λ p hp=>?_⟩));exact h.2.2 p (h3.none hp) _ _ (by simp only[zk]) (.new hp _) (h3.ups (.new hp _) ⟨_,yK,zq.ext (.new hp _) _ (g2.append g4)⟩)
  .exact h.elim
 cases d with
 | zh=>exact h.elim
 | bl _=>exact h.elim
 | int i=>
  cases e with
  | int j=>
   simp only[zk] at h1 h2;exact .inl ⟨_,_,h1,h2,h _ H (by simp only[zk]) (.refl H) h3⟩
  | zh=>exact h.elim
  | bl _=>exact h.elim
  | str _=>exact h.elim
  | tup _=>exact h.elim
  | yW _=>exact h.elim
  | ref _=>exact h.elim
 | str i=>
  cases e with
  | str j=>
   simp only[zk] at h1 h2;exact .inr (.inl ⟨_,_,h1,h2,h.1,h.2 _ H (by simp only[zk]) (.refl H) h3⟩)
  | zh=>exact h.elim
  | bl _=>exact h.elim
  | int _=>exact h.elim
  | tup _=>exact h.elim
  | yW _=>exact h.elim
  | ref _=>exact h.elim
 | tup ds=>
  cases e with
  | tup es=>
   have h1':=h1;have h2':=h2;simp only[zk] at h1 h2;obtain⟨a,xs,rfl,g1,g2⟩:=h1;obtain⟨b,ys,rfl,g3,g4⟩:=h2;have hl:=g2.length;have hl':=g4.length;by_cases hx:xs=[]
   .subst hx;have:ds=[]:=by cases ds <;> simp_all
    subst this;exact .inr (.inr (.inr (.inl ⟨a,b,ys,rfl,rfl,g1,g3,h.2 _ H h2' (.refl H) h3⟩)))
   .refine .inr (.inr (.inr (.inr ⟨a,b,xs,ys,rfl,rfl,g1,g3,hx,by rw[<- hl,<- hl'];exact h.1,λ hy=>?_,λ hy p hp=>?_⟩)))
    .subst hy;have:es=[]:=by cases es <;> simp_all
     subst this;refine h.2 _ H ?_ (.refl H) h3;rw[CO];exact h1'
    .refine h.2 _ _ ?_ (.new hp _) (h3.new hp);simp only[zk];exact⟨p,_,rfl,ye.of yK,zq.ext (.new hp _) _ (g2.append g4)⟩
  | zh=>exact h.elim
  | bl _=>exact h.elim
  | int _=>exact h.elim
  | str _=>exact h.elim
  | yW _=>exact h.elim
  | ref _=>exact h.elim
 | yW ds=>exact lst (λ _=>nofun) h
 | ref q=>exact lst (λ _=>nofun) h
def xp (ha:PD X a ta) (hb:PD X b tb):PD X (.BinOp a .Add b pos) (yA uB ta tb):=og (Ru.or (Rt.or (Rr.or (Rp.or Rq)))) uB.fits uB.mo ha hb
def ua.mo {g:List Bool->Bool}:uh (ua g):=λ ds S Q Q' hq h=>by
 unfold ua at h ⊢;split at h
 .exact h.elim
 .obtain⟨bs,h1,h2⟩:=h;exact⟨bs,h1,hq _ _ h2⟩
 .exact h.elim
def ua.fits {g:List Bool->Bool}:tm K (ua g) (λ xs H Q=>∃ p,∃ bs:List Bool,xs=[.ref p]/\zZ K H p (bs.map V.bl)/\Q (.bl (g bs)) H):=λ xs ds H S Q h0 h2 h=>by
 unfold ua at h;split at h
 .exact h.elim
 .rename_i d hn;obtain⟨x,hx,h1⟩:=h0.one;subst hx;obtain⟨bs,e,h⟩:=h;obtain⟨a,ys,rfl,g1,g2⟩:=sA h1 h2 e (λ ts z=>hn ts z);rw[g2.bools] at g1;exact⟨a,bs,rfl,g1,h _ H (by simp only[zk]) (.refl H) h2⟩
 .exact h.elim
def SX (hm:X.mg "all"=none) (ha:wb X (e::es) tA) (hc:X.calm=true:=by rfl) (hg:Gl X "all":=by rfl) (he:starEach (e::es) X.env=(false,eval e X.env)::starEach es X.env:=by rfl) (Au:(backTo pos (starEach es X.env)).any (·.1)=false:=by rfl):PD X (.Call (.Name "all" p) (e::es) [] pos) (xZ (ua λ bs=>bs.all id) tA):=
 t8 (sE (MJ hc) hg hm boot_all ha.pa (by decide) (by decide) he Au) ua.mo ua.fits ha.mo
def SW (hm:X.mg "any"=none) (ha:wb X (e::es) tA) (hc:X.calm=true:=by rfl) (hg:Gl X "any":=by rfl) (he:starEach (e::es) X.env=(false,eval e X.env)::starEach es X.env:=by rfl) (Au:(backTo pos (starEach es X.env)).any (·.1)=false:=by rfl):PD X (.Call (.Name "any" p) (e::es) [] pos) (xZ (ua λ bs=>bs.any id) tA):=
 t8 (sE (MI hc) hg hm boot_any ha.pa (by decide) (by decide) he Au) ua.mo ua.fits ha.mo
def Yl {H:Hp}{d:D}{v:V}(r:zk K H d v):decide (v=.zh)=o6 d:=by
 cases d with
 | zh=>simp only[zk] at r;subst r;rfl
 | bl _=>simp only[zk] at r;subst r;rfl
 | int _=>simp only[zk] at r;subst r;rfl
 | str _=>simp only[zk] at r;subst r;rfl
 | tup _=>simp only[zk] at r;obtain⟨a,xs,rfl,_⟩:=r;rfl
 | yW _=>simp only[zk] at r;obtain⟨a,xs,rfl,_⟩:=r;rfl
 | ref _=>simp only[zk] at r;subst r;rfl
def rM (ha:PD X a ta):PD X (.UnaryOp .USub a pos) (Xi ta):=by
 refine⟨fun Y S Q Q' hq h=>ha.mo Y S _ _ (λ x S1 z=>by
  cases x <;> first
   | exact hq _ _ z
   | exact z) h,PE.imp (T9 Ve ha.pe) fun B H Q hu=>?_⟩
 obtain⟨Y,S,r1,r2,h⟩:=hu;refine zV.go ha.mo r1 r2 h λ x S1 v H1 h1 q1 e1 p1=>?_;cases x with
 | int i=>simp only[zk] at q1;exact⟨i,q1,h1 _ H1 (by simp only[zk]) e1 p1⟩
 | zh=>exact h1.elim
 | bl _=>exact h1.elim
 | str _=>exact h1.elim
 | tup _=>exact h1.elim
 | yW _=>exact h1.elim
 | ref _=>exact h1.elim
section
variable {N':List Str}{pick:List (Option Nat)}{scope:Scope}{tg elt iter:Expr}{ifs:List Expr}{ti:vj}{g:xE}{tcc:yT}
def sX.mo (hi:jL ti):yv (sX pick ti g tcc te):=fun Y S Q Q' hq z=>hi Y S _ _ (λ I S1 ⟨h1,h2,h3⟩=>⟨h1,h2,λ p hp=>by
 obtain⟨W,w0,w1,w2,w3⟩:=h3 p hp;exact⟨W,w0,w1,w2,λ S2 acc a b c=>hq _ _ (w3 S2 acc a b c)⟩⟩) z
def bO (hi:jL ti) (hg:lH g) (hc:vn tcc) (he:yv te) {B:St}{H:Hp}{Q:VK}(hu:zV K (sX pick ti g tcc te) B H Q):i4 pick (vb K ti) (nJ K g) (wQ K tcc) (zV K te) B H Q:=by
 obtain⟨Y,S,r1,r2,z⟩:=hu;refine⟨Y,S,r1,r2,hi Y S _ _ (λ I S1 hF J H1 e1 p1 rep D hD=>?_) z⟩;obtain⟨hlen,hk,hF⟩:=hF;have hS1:S1 D=none:=p1.none hD;obtain⟨W,w0,wm,wstep,wfin⟩:=hF D hS1;refine⟨λ i m B H2=>m=I.items.length-i/\i<=I.items.length/\Ext H1 H2/\xb K H2 (uw pick Y) B/\∃ S2 acc,zT K H2 S2/\Sx S1 S2/\S2 D=some (.lst acc)/\acc.length<=i/\W i S2 acc,⟨_,rfl,AN _,.new hD _,((r1.ext e1).pick pick).ext (.new hD _),ups S1 D (.lst []),[],?_,.new hS1 _,rC,Ag _,?_⟩,?_⟩
 .exact p1.ups (.new hD _) ⟨[],yK,.nil⟩
 .exact wm 0 S1 _ [] (λ b o hb q=>by rw[sd hb];exact q) w0
 rintro i m B2 H2 ⟨rfl,hi',x2,q1,S2,acc,q2,sx,hS2,AQ,hW⟩;obtain⟨g1,g2⟩:=rep i H2 S2 x2 q2 (hk S2 sx);by_cases hl:i<I.items.length
 .have hd:I.items[i]?=some I.items[i]:=by simp[hl]
  obtain⟨go,yl⟩:=g1 _ hd;refine .inr ⟨go,λ x H3 hy=>?_⟩;obtain⟨x3,p3,d3⟩:=yl x H3 hy;refine⟨_,_,S2,d3,q1.ext x3,p3,hg _ _ S2 _ _ (fun Y4 S4 z4 B4 H4 a1 a2 a3=>?_) (wstep i _ S2 acc hd sx hS2 hW)⟩;obtain⟨hle,z4⟩:=z4;refine wQ.go hc a1 a3 z4 λ b S5 H5 z5 x5 p5=>vw (λ z5=>?_) (λ z5=>?_) z5
  .refine zV.go he (a1.ext x5) p5 z5 λ y S6 v H6 z6 q6 x6 p6=>?_;obtain⟨s6,hW6⟩:=z6;obtain⟨ys,h6,r6⟩:=p6 _ _ (s6 _ _ hS2);have e6:Ext H6 (upd H6 D (.lst (ys++[v]))):=.lst h6 _;have hlen2:ys.length<=i:=by rw[<- r6.length];exact AQ
   refine⟨ys,I.items.length-(i+1),h6,by lia,by lia,rfl,hl,((((x2.trans x3).trans a2).trans x5).trans x6).trans e6,hle.rep ((a1.ext (x5.trans x6)).ext e6),ups S6 D (.lst (acc++[y])),acc++[y],?_,λ b o hb=>?_,rC,by simp;lia,?_⟩
   .exact p6.ups e6 ⟨_,yK,zq.ext e6 _ (r6.snoc q6)⟩
   .rw[sd (by intro q;subst q;rw[hS1] at hb;cases hb)];exact s6 _ _ (sx _ _ hb)
   .exact wm _ S6 _ _ (λ b o hb q=>by rw[sd hb];exact q) hW6
  .obtain⟨s5,hW5⟩:=z5;exact⟨I.items.length-(i+1),by lia,rfl,hl,((x2.trans x3).trans a2).trans x5,hle.rep (a1.ext x5),S5,acc,p5,sx.trans s5,s5 _ _ hS2,by lia,hW5⟩
 .have e:i=I.items.length:=by lia
  subst e;exact .inl ⟨g2 (Ag _),wfin S2 acc sx hS2 hW _ H2 (by simp only[zk]) (e1.trans x2) q2⟩
def rN (Sc:pK X N' pick scope) (hc:X.calm=true) (hi:qk X tg iter ti) (hg:∀ cl C s H fp,rb (xj X N' scope cl C s H fp) tg g) (hf:∀ cl C s H fp,jF (xj X N' scope cl C s H fp) ifs tcc) (he:∀ cl C s H fp,PD (xj X N' scope cl C s H fp) elt te)
  (hs:∀ x,foldedSetIterable iter X.env x=pure x:=by intro _;rfl):
  PD X (.ListComp elt [⟨tg,iter,ifs,0⟩] scope pos) (sX pick ti g tcc te):=
 ⟨sX.mo hi.mo,λ pins s B H Q I hu=>TR (g:=nJ X.K g) (tc:=wQ X.K tcc) (te:=zV X.K te) Sc hc hi.pi (λ cl C s H fp=>(hg cl C s H fp).pg) (λ cl C s H fp=>(hf cl C s H fp).pf) (λ cl C s H fp=>(he cl C s H fp).pe) hs pins s B H Q I (bO hi.mo (hg [] 0 s H []).mo (hf [] 0 s H []).mo (he [] 0 s H []).mo hu)⟩
def kS {i:Nat}{y:Str}{py BF:Pos}(Sc:pK X N' pick scope) (hc:X.calm=true) (hi:qk X tg iter ti) (hg:∀ cl C s H fp,rb (xj X N' scope cl C s H fp) tg g) (hf:∀ cl C s H fp,jF (xj X N' scope cl C s H fp) ifs tcc) (he:∀ cl C s H fp,PD (xj X N' scope cl C s H fp) elt te)
  (hN:X.N.Nodup) (hy:X.N[i]?=some y) (hx:Loc X.env.scope y)
  (CA:swapsWith (.ListComp elt [⟨tg,iter,ifs,0⟩] scope pos) (some (.Name y py)) BF.line X.env=pure true:=by rfl)
  (CH:X.fn y=true\/X.env.scope.names.lookup y=some .local:=by first | exact .inl rfl | exact .inr rfl | assumption)
  (hs:∀ x,foldedSetIterable iter X.env x=pure x:=by intro _;rfl):
  vK X (.Assign [.Name y py] (.ListComp elt [⟨tg,iter,ifs,0⟩] scope pos) BF) (vG (sX pick ti g tcc te) (hName i)):=by
 refine⟨vG.mo (sX.mo hi.mo) λ _ _ _ _ _ hq z=>hq _ _ z,λ pins s B H D I hu=>U_ (g:=nJ X.K g) (tc:=wQ X.K tcc) (te:=zV X.K te) Sc hc hi.pi (λ cl C s H fp=>(hg cl C s H fp).pg) (λ cl C s H fp=>(hf cl C s H fp).pf) (λ cl C s H fp=>(he cl C s H fp).pe) hN hy hx CA CH hs pins s B H D I ?_⟩;obtain⟨Y,S,r1,r2,z⟩:=hu;refine bO hi.mo (hg [] 0 s H []).mo (hf [] 0 s H []).mo (he [] 0 s H []).mo ⟨Y,S,r1,r2,sX.mo hi.mo Y S _ _ (λ x S1 z v H1 q1 e1 p1=>?_) z⟩;exact z _ H1 ((r1.ext e1).set i q1) e1 p1
end
end
section
variable {P:Program}{w:World}{K:Ad}{mg:Str->Option Value}{base:Heap}{f:Addr}{fd:FuncData}
def YB {R:Rk} [Lo R] {x:Str}{st:Stmt}{N ps:List Str}{k n:Nat}{g:Sm}(F:tj K x x st f fd) (Sc:yb N ps (zD st)) (hn:n=ps.length)
  (hbody:∀ (Af:Value) (A:Around) (outer:List Env) (s:Shared) (H:Hp) (E:XK),yI k (A.deeper (envOfC x (zD st) s.heap.objs.size f Af))->
   ∃ t,uJ (tN vP P w K mg base N x (zD st) f Af A outer s H E).rO (vE st) t/\yX R g t):uM P w K mg base vP (k+1) f fd ps (se K (zS R (ya N n g))):=
 Nv F Sc (λ ds S Q h=>by rw[h.len,hn]) λ Af A outer s H E hr=>by
  obtain⟨t,h1,h2⟩:=hbody Af A outer s H E hr;exact⟨t,h1,λ ds S Q h=>MP h2 h⟩
def N5 {R:Rk} [Lo R] {x:Str}{st:Stmt}{N ps:List Str}{k n:Nat}{g:Sm}(F:tj K x x st f fd) (hm:mg x=some (.ref f)) (Sc:yb N ps (zD st)) (hn:n=ps.length)
  (hb:∀ (kV doc pm:Value) (an:Option Addr) (Af ct:Value) (us:List Value),us.length=ps.length->bindArgs (PySem.W.fnOf x x (sW st) (vE st) (zD st) .none kV doc pm an Af ct) ⟨us,[]⟩=pure (ps.zip us))
  (hbody:∀ (Af:Value) (A:Around) (outer:List Env) (s:Shared) (H:Hp) (E:XK),yI k (A.deeper (envOfC x (zD st) s.heap.objs.size f Af))->
   ∃ t,uJ (tN vP P w K mg base N x (zD st) f Af A outer s H E).rO (vE st) t/\yX R g t):FD P w K mg base x (k+1) ps (zS R (ya N n g)):=
 ⟨⟨f,fd,YB F Sc hn hbody,hm,F.kp,F.binds hb⟩,zS.mo⟩
def Ow {R:Rk} [Sr R] {F:List T->Option T}(hF:∀ ns:List Int,ns.length<=63->F [.lst (ns.map T.int)]=some (.bl true)) {H:Hp}{a:Addr}{ns:List Int}{E:XK}(hO:jG H) (hS:zZ K H a (ns.map V.int)) (hl:ns.length<=63):se K (zS R F) [.ref a] H (λ v _=>v=.bl true) E:=by
 have hFz:oX K H a (ns.map V.int):=by
  rcases hS with (h | h) | h
  .rcases hO a with z | ⟨o,xs,z⟩
   .rw[h] at z;cases z
   .rw[h] at z;cases z
  .exact .inl h
  .exact .inr h
 refine⟨[.yW (ns.map D.int)],λ _=>none,.cons ?_ .nil,(λ a o z=>nomatch z),λ _=>False,[.lst (ns.map T.int)],.bl true,nofun,.cons ?_ .nil,hF ns hl,λ d S' s r v H' rv _ _=>?_⟩
 .simp only[zk];exact⟨a,_,rfl,hFz,zq.fw ns⟩
 .simp only[Sn];exact⟨_,.inl ⟨rfl,Rv ns⟩,sy.mpr rfl⟩
 .have:=Sr.sn r;simp only[Sn] at this;subst this;simpa only [zk] using rv
end
end L5
namespace ST
open PySem PySem.SetTable
def tf (xs:List Nat):Prop:=xs.Pairwise (· < ·)
def eA {xs:Array Nat}{m d:Nat}(h:m<xs.size):xs.getD m d=xs[m]:=by simp[Array.getD,h]
theorem dm (xs:Array Nat) (j:Nat) (hr:tf xs.toList):∀ (f lo hi:Nat),hi-lo<=f->lo<=hi->hi<=xs.size->(∀ i (h:i<xs.size),i<lo->xs[i]<j)->(∀ i (h:i<xs.size),hi<=i->j<=xs[i])->
  below.go xs j f lo hi<=xs.size/\(∀ i (h:i<xs.size),i<below.go xs j f lo hi->xs[i]<j)/\∀ i (h:i<xs.size),below.go xs j f lo hi<=i->j<=xs[i]
 | 0,lo,hi,h1,h2,h3,h4,h5=>by
  unfold below.go;have:lo=hi:=by lia
  subst this;exact⟨h3,h4,h5⟩
 | f+1,lo,hi,h1,h2,h3,h4,h5=>by
  unfold below.go;have vd:∀ i k (hi:i<xs.size) (hk:k<xs.size),i<=k->xs[i]<=xs[k]:=λ i k hi hk DY=>by
   rcases A7 i k with q | q
   .have r:=Cu.mp hr i k (by simpa using hi) (by simpa using hk) q;rw[Ct,Ct] at r;exact BE r
   .have:i=k:=by lia
    subst this;exact Ag _
  by_cases hl:lo<hi
  .rw[if_pos hl];dsimp only;have hm:(lo+hi)/2<xs.size:=by lia
   rw[eA hm];by_cases c:xs[(lo+hi)/2]<j
   .rw[if_pos c];refine dm xs j hr f _ hi (by lia) (by lia) h3 (λ i hi' Al=>?_) h5;have:=vd i ((lo+hi)/2) hi' hm (by lia);lia
   .rw[if_neg c];refine dm xs j hr f lo _ (by lia) (by lia) (by lia) h4 (λ i hi' hge=>?_);have:=vd ((lo+hi)/2) i hm hi' hge;lia
  .rw[if_neg hl];have:lo=hi:=by lia
   subst this;exact⟨h3,h4,h5⟩
def j9 {xs:Array Nat}{j:Nat}(hr:tf xs.toList):below xs j<=xs.size/\(∀ i (h:i<xs.size),i<below xs j->xs[i]<j)/\∀ i (h:i<xs.size),below xs j<=i->j<=xs[i]:=
 dm xs j hr xs.size 0 xs.size (by lia) (by lia) (Ag _) (λ i h q=>by lia) (λ i h q=>by lia)
def below_at {xs:Array Nat}{j i:Nat}(hr:tf xs.toList) (h:xs[i]?=some j):below xs j=i:=by
 obtain⟨h1,h2,h3⟩:=j9 (j:=j) hr;obtain⟨hi,e⟩:=Array.getElem?_eq_some_iff.mp h;have a:¬ i<below xs j:=λ q=>by have:=h2 i hi q;lia
 have b:¬ below xs j<i:=λ q=>by
  have:=h3 (below xs j) (by lia) (Ag _);have r:=Cu.mp hr (below xs j) i (by simp;lia) (by simpa using hi) q;simp at r;lia
 lia
def MU {xs:Array Nat}{j:Nat}(hr:tf xs.toList):(xs[below xs j]?=some j)↔j∈xs.toList:=by
 constructor
 .intro h;obtain⟨hi,e⟩:=Array.getElem?_eq_some_iff.mp h;rw[<- e];simp
 .intro h;obtain⟨i,hi,e⟩:=BV.mp h;have hx:xs[i]?=some j:=by
   simp at hi;simp[hi] at e ⊢;exact e
  rw[below_at hr hx];exact hx
noncomputable def uG (M:Nat) (p:Probe):Probe:=
 if p.more>0 then { p with j:=p.j+1,more:=p.more-1 } else
 let (i,perturb):=leap M p.i p.perturb
 { p with j:=i,more:=runEnd M i-i,i,perturb }
def d7 (t:SetTable) (p:Probe):t.advance p=uG t.mask p:=rfl
noncomputable def pS (M i perturb:Nat):Probe:={ j:=i,more:=runEnd M i-i,i:=i,perturb:=perturb,dummy:=none }
noncomputable def way (M:Nat) (h:Int):Nat->Probe
 | 0=>pS M (bits h%(M+1)) (bits h)
 | k+1=>uG M (way M h k)
def M_ (M:Nat) (p:Probe) (h:p.dummy=none):(uG M p).dummy=none:=by
 unfold uG;split
 .exact h
 .exact h
theorem ij (M:Nat) (h:Int):∀ k,(way M h k).dummy=none
 | 0=>rfl
 | k+1=>M_ M _ (ij M h k)
noncomputable def yg (M:Nat) (h:Int):Nat->Nat×Nat
 | 0=>(bits h%(M+1),bits h)
 | n+1=>leap M (yg M h n).1 (yg M h n).2
theorem gH (M i pt:Nat) (h:Int) (k:Nat) (hk:way M h k=pS M i pt):∀ m,m<=runEnd M i-i->way M h (k+m)={ j:=i+m,more:=runEnd M i-i-m,i:=i,perturb:=pt,dummy:=none }
 | 0,_=>by rw[Nat.add_zero,hk];rfl
 | m+1,hm=>by
  have ih:=gH M i pt h k hk m (by lia);show uG M (way M h (k+m))=_;rw[ih];unfold uG;rw[if_pos (by show runEnd M i-i-m>0;lia)];simp only[Probe.mk.injEq];exact⟨by lia,by lia,trivial,trivial,trivial⟩
def U5 (M i:Nat):runEnd M i-i<=9:=by unfold runEnd;split <;> lia
def aG (M:Nat) (h:Int) (n k:Nat) (hk:way M h k=pS M (yg M h n).1 (yg M h n).2):way M h (k+(runEnd M (yg M h n).1-(yg M h n).1)+1)=pS M (yg M h (n+1)).1 (yg M h (n+1)).2:=by
 have:=gH M _ _ h k hk _ (Ag _);show uG M (way M h (k+_))=_;rw[this];unfold uG;rw[if_neg (by show ¬ _-_-(_-_)>0;lia)];rfl
theorem aH (M:Nat) (h:Int):∀ n,∃ k,k<=10*n/\way M h k=pS M (yg M h n).1 (yg M h n).2
 | 0=>⟨0,by lia,rfl⟩
 | n+1=>by
  obtain⟨k,h1,h2⟩:=aH M h n;have:=U5 M (yg M h n).1;exact⟨_,by lia,aG M h n k h2⟩
def MS (h:Int):bits h<2 ^ 64:=by
 unfold bits;have h1:=BO h (show (2 ^ 64:Int)≠0 by decide);have h2:=Cy h (show (0:Int)<2 ^ 64 by decide);lia
theorem Zi (M:Nat) (h:Int):∀ n,(yg M h n).2*32 ^ n<=bits h
 | 0=>by simp[yg]
 | n+1=>by
  have ih:=Zi M h n;show ((yg M h n).2/32)*32 ^ (n+1)<=_;have:(yg M h n).2/32*32<=(yg M h n).2:=Nat.div_mul_le_self _ _
  calc (yg M h n).2/32*32 ^ (n+1)=((yg M h n).2/32*32)*32 ^ n:=by rw[Nat.pow_succ,DM (32 ^ n) 32,Nat.mul_assoc]
   _<=(yg M h n).2*32 ^ n:=Nat.mul_le_mul_right _ this
   _<=_:=ih
def T6 (M:Nat) (h:Int) (n:Nat) (hn:13<=n):(yg M h n).2=0:=by
 rcases Nat.eq_zero_or_pos (yg M h n).2 with q | q
 .exact q
 .have h1:=Zi M h n;have h2:=MS h;have h3:32 ^ 13<=32 ^ n:=Nat.pow_le_pow_right (by decide) hn;have h4:1*32 ^ n<=(yg M h n).2*32 ^ n:=Nat.mul_le_mul_right _ q;have h5:(2:Nat) ^ 64<32 ^ 13:=by decide
  lia
noncomputable def sO (M:Nat) (i:Nat):Nat->Nat
 | 0=>i
 | n+1=>(sO M i n*5+1)%(M+1)
theorem Z_ (M:Nat) (h:Int):∀ n,(yg M h (13+n)).1=sO M (yg M h 13).1 n
 | 0=>rfl
 | n+1=>by
  have ih:=Z_ M h n;have hz:=T6 M h (13+n) (by lia);show ((yg M h (13+n)).1*5+1+(yg M h (13+n)).2/32)%(M+1)=_;rw[hz,ih];rfl
theorem mr (M i:Nat):∀ a b,sO M i (a+b)=sO M (sO M i a) b
 | a,0=>rfl
 | a,b+1=>by
  show (sO M i (a+b)*5+1)%(M+1)=_;rw[mr M i a b];rfl
noncomputable def mq (M:Nat):Nat->Nat->List Nat
 | 0,_=>[]
 | n+1,i=>i::mq M n ((i*5+1)%(M+1))
theorem fk (M:Nat):∀ n i x,x∈mq M n i->∃ k,k<n/\sO M i k=x
 | 0,i,x,h=>by cases h
 | n+1,i,x,h=>by
  rcases Ah.mp h with e | e
  .exact⟨0,by lia,e.symm⟩
  .obtain⟨k,h1,h2⟩:=fk M n _ x e;exact⟨k+1,by lia,by rw[Nat.add_comm,mr];exact h2⟩
def vM (M:Nat):Prop:=M=7\/M=31\/M=127
def Ra (M:Nat) (hM:vM M):(∀ e,e<=M->e∈mq M (M+1) 0)/\sO M 0 (M+1)=0:=by
 have key:∀ M,((List.range (M+1)).all λ e=>(mq M (M+1) 0).contains e)=true->∀ e,e<=M->e∈mq M (M+1) 0:=λ M h e he=>by
  have:=BD.mp h e (AE.mpr (by lia));simpa using this
 rcases hM with rfl | rfl | rfl
 .exact⟨key 7 (by decide +kernel),by decide +kernel⟩
 .exact⟨key 31 (by decide +kernel),by decide +kernel⟩
 .exact⟨key 127 (by decide +kernel),by decide +kernel⟩
def S_ (M:Nat) (hM:vM M) (i e:Nat) (hi:i<=M) (he:e<=M):∃ n,n<=M/\sO M i n=e:=by
 obtain⟨h1,h2⟩:=Ra M hM;obtain⟨a,a1,a2⟩:=fk M _ _ _ (h1 i hi);obtain⟨b,b1,b2⟩:=fk M _ _ _ (h1 e he);rcases A7 b a with q | q
 .refine⟨M+1+b-a,by lia,?_⟩;rw[<- a2,<- mr,show a+(M+1+b-a)=(M+1)+b by lia,mr,h2,b2]
 .refine⟨b-a,by lia,?_⟩;rw[<- a2,<- mr,show a+(b-a)=b by lia,b2]
theorem Oi (M:Nat) (h:Int):∀ n,(yg M h n).1<=M
 | 0=>by have:=C7 (bits h) (show 0<M+1 by lia);show bits h%(M+1)<=M;lia
 | n+1=>by
  have:=C7 ((yg M h n).1*5+1+(yg M h n).2/32) (show 0<M+1 by lia);show (_%(M+1):Nat)<=M;lia
def Ya (M:Nat) (hM:vM M) (h:Int) (e:Nat) (he:e<=M):∃ n,n<M+14/\(yg M h n).1=e:=by
 obtain⟨n,h1,h2⟩:=S_ M hM (yg M h 13).1 e (Oi M h 13) he;exact⟨13+n,by lia,by rw[Z_,h2]⟩
def WV (M:Nat) (hM:vM M) (h:Int) (e:Nat) (he:e<=M):∃ k,k<10*(M+15)/\(way M h k).j=e:=by
 obtain⟨n,h1,h2⟩:=Ya M hM h e he;obtain⟨k,k1,k2⟩:=aH M h n;exact⟨k,by lia,by rw[k2];exact h2⟩
theorem bH (M:Nat) (h:Int):∀ k,(way M h k).j+(way M h k).more<=M/\(way M h k).i<=M
 | 0=>by
  have h1:bits h%(M+1)<=M:=by have:=C7 (bits h) (show 0<M+1 by lia);lia
  refine⟨?_,h1⟩;show bits h%(M+1)+(runEnd M (bits h%(M+1))-bits h%(M+1))<=M;unfold runEnd;split <;> lia
 | k+1=>by
  obtain⟨h1,h2⟩:=bH M h k;show (uG M (way M h k)).j+(uG M (way M h k)).more<=M/\(uG M (way M h k)).i<=M;unfold uG;split
  .rename_i c;exact⟨by show (way M h k).j+1+((way M h k).more-1)<=M;lia,h2⟩
  .have h3:((way M h k).i*5+1+(way M h k).perturb/32)%(M+1)<=M:=by have:=C7 ((way M h k).i*5+1+(way M h k).perturb/32) (show 0<M+1 by lia);lia
   refine⟨?_,h3⟩;show _%(M+1)+(runEnd M (_%(M+1))-_%(M+1))<=M;unfold runEnd;split <;> lia
def ig (M:Nat) (h:Int) (k:Nat):(way M h k).j<=M:=by have:=(bH M h k).1;lia
structure Tab (t:SetTable) (hs:List Int):Prop where
 mask:vM t.mask
 r_:t.dummies=#[]
 len:t.place.size=hs.length
 vd:tf t.place.toList
 yf:∀ j∈t.place.toList,j<=t.mask
 nZ:∀ (i:Nat) h j,hs[i]?=some h->t.place[i]?=some j->∃ k,(way t.mask h k).j=j/\∀ k'<k,(way t.mask h k').j∈t.place.toList
theorem Tab.live {t:SetTable}{hs:List Int}(T:Tab t hs) {i j:Nat}(h:t.place[i]?=some j):t.slot j=.live i:=by
 unfold SetTable.slot;dsimp only;rw[below_at T.vd h,if_pos (by rw[h];simp)]
theorem Tab.empty {t:SetTable}{hs:List Int}(T:Tab t hs) {j:Nat}(h:j∉t.place.toList):t.slot j=.empty:=by
 unfold SetTable.slot;dsimp only;have n1:¬ (t.place[below t.place j]? == some j)=true:=λ q=>h ((MU T.vd).mp (by simpa using q));rw[if_neg n1,if_neg (by rw[T.r_];simp[has])]
theorem Tab.at {t:SetTable}{hs:List Int}(T:Tab t hs) {j:Nat}(h:j∈t.place.toList):∃ (i:Nat) (g:Int),t.place[i]?=some j/\hs[i]?=some g:=by
 obtain⟨i,hi,e⟩:=BV.mp h;have hi':i<t.place.size:=by simpa using hi
 refine⟨i,hs[i]'(by rw[<- T.len];exact hi'),?_,by simp⟩;rw[Bk hi'];rw[Ct] at e;rw[e]
theorem Y4 {t:SetTable}{hs:List Int}(T:Tab t hs) {hashAt:Nat->Int}(hA:∀ (i:Nat) g,hs[i]?=some g->hashAt i=g) (h:Int):∀ (f k:Nat),(∃ e,k<=e/\e<k+f/\(way t.mask h e).j∉t.place.toList)->
  ∃ k1,k<=k1/\(∀ m,k<=m->m<k1->∃ (i:Nat) (g:Int),t.place[i]?=some (way t.mask h m).j/\hs[i]?=some g/\g≠h)/\
   ((way t.mask h k1).j∉t.place.toList/\probe.go t hashAt h f (way t.mask h k)=some (.empty (way t.mask h k1).j none)\/
    ∃ i,t.place[i]?=some (way t.mask h k1).j/\hs[i]?=some h/\probe.go t hashAt h f (way t.mask h k)=some (.candidate (way t.mask h k1).j i (way t.mask h (k1+1))))
 | 0,k,⟨e,h1,h2,_⟩=>by lia
 | f+1,k,⟨e,h1,h2,h3⟩=>by
  by_cases hm:(way t.mask h k).j∈t.place.toList
  .obtain⟨i,g,p1,p2⟩:=T.at hm;by_cases hg:g=h
   .refine⟨k,Ag _,λ m a b=>by lia,.inr ⟨i,p1,by rw[<- hg];exact p2,?_⟩⟩;unfold probe.go;rw[T.live p1];dsimp only;rw[hA i g p2,if_pos (by simp[hg]),d7];rfl
   .have Ai:e≠k:=λ q=>by subst q;exact h3 hm
    obtain⟨k1,q1,q2,q3⟩:=Y4 T hA h f (k+1) ⟨e,by lia,by lia,h3⟩;have eq:probe.go t hashAt h (f+1) (way t.mask h k)=probe.go t hashAt h f (way t.mask h (k+1)):=by
     conv=>lhs;unfold probe.go
     rw[T.live p1];dsimp only;rw[hA i g p2,if_neg (by simp[hg]),d7];rfl
    rw[eq];refine⟨k1,by lia,λ m a b=>?_,q3⟩;rcases Nat.eq_or_lt_of_le a with w | w
    .subst w;exact⟨i,g,p1,p2,hg⟩
    .exact q2 m w b
  .refine⟨k,Ag _,λ m a b=>by lia,.inl ⟨hm,?_⟩⟩;unfold probe.go;rw[T.empty hm,ij]
def ZG {xs ys:List Nat}(hx:xs.Nodup) (h:∀ x∈xs,x∈ys):xs.length<=ys.length:=by
 induction xs generalizing ys with
 | nil=>simp
 | cons x xs ih=>
  have h1:=Bg.mp hx;have hxy:=h x Am;have:=ih h1.2 (ys:=ys.erase x) λ z hz=>by
   have Ai:z≠x:=λ e=>h1.1 (e▸hz);exact (Ea Ai).mpr (h z (Av _ hz))
  rw[D_ hxy] at this;have hp:=D9 hxy;simp only[AY];lia
def least {P:Nat->Prop}(k:Nat) (h:P k):∃ m,m<=k/\P m/\∀ m'<m,¬ P m':=by
 induction k using Nat.strongRecOn with
 | ind k ih=>
  rcases Classical.em (∃ m',m'<k/\P m') with ⟨m',h1,h2⟩ | q
  .obtain⟨m,g1,g2⟩:=ih m' h1 h2;exact⟨m,by lia,g2⟩
  .exact⟨k,Ag _,h,λ m' hm hp=>q ⟨m',hm,hp⟩⟩
def Ny {xs:List Nat}{M:Nat}(h:xs.length<=M):∃ e,e<=M/\e∉xs:=by
 rcases Classical.em (∃ e,e<=M/\e∉xs) with q | q
 .exact q
 .have:=ZG (xs:=List.range (M+1)) (ys:=xs) DL λ e he=>by
   have:=AE.mp he;rcases Classical.em (e∈xs) with w | w
   .exact w
   .exact absurd ⟨e,by lia,w⟩ q
  simp at this;lia
def c6 (t:SetTable) (h:Int) (j:Nat):Prop:=j∉t.place.toList/\∃ k,(way t.mask h k).j=j/\∀ k'<k,(way t.mask h k').j∈t.place.toList
def Tab.first {t:SetTable}{hs:List Int}(T:Tab t hs) (hl:hs.length<=t.mask) (h:Int):∃ K,K<10*(t.mask+15)/\(way t.mask h K).j∉t.place.toList/\∀ k'<K,(way t.mask h k').j∈t.place.toList:=by
 obtain⟨e,e1,e2⟩:=Ny (xs:=t.place.toList) (M:=t.mask) (by rw[Bo,T.len];exact hl);obtain⟨k,k1,k2⟩:=WV t.mask T.mask h e e1;obtain⟨K,q1,q2,q3⟩:=least (P:=λ n=>(way t.mask h n).j∉t.place.toList) k (by rw[k2];exact e2);exact⟨K,by lia,q2,λ k' hk=>Classical.not_not.mp (q3 k' hk)⟩
def U8 {xs:List Nat}{j p:Nat}(h:tf xs) (h1:∀ x∈xs.take p,x<j) (h2:∀ x∈xs.drop p,j<x):tf (xs.take p++j::xs.drop p):=by
 refine DJ.mpr ⟨h.sublist (List.take_sublist _ _),Bp.mpr ⟨h2,h.sublist (List.drop_sublist _ _)⟩,λ a ha b hb=>?_⟩;rcases Ah.mp hb with e | e
 .subst e;exact h1 a ha
 .have:=h1 a ha;have:=h2 b e;lia
def Yw {α:Type}{xs:List α}{p i:Nat}{x y:α}(hp:p<=xs.length) (h:(xs.take p++x::xs.drop p)[i]?=some y):(i=p/\y=x)\/(i<p/\xs[i]?=some y)\/(p<i/\xs[i-1]?=some y):=by
 have hl:(xs.take p).length=p:=by rw[Dh];lia
 rcases DI i p with q | q | q
 .rw[Cv (by lia),List.getElem?_take,if_pos q] at h;exact .inr (.inl ⟨q,h⟩)
 .subst q;rw[Dg (by lia),hl] at h;simp at h;exact .inl ⟨rfl,h.symm⟩
 .rw[Dg (by lia),hl] at h;obtain⟨d,hd⟩:∃ d,i-p=d+1:=⟨i-p-1,by lia⟩
  rw[hd] at h;simp only[C6,List.getElem?_drop] at h;refine .inr (.inr ⟨q,?_⟩);rw[show i-1=p+d by lia];exact h
theorem Tab.put {t:SetTable}{hs:List Int}(T:Tab t hs) {h:Int}{j:Nat}(F:c6 t h j):
  (t.put j).2<=hs.length/\(t.put j).1={ t with place:=insertAt t.place (t.put j).2 j }/\Tab (t.put j).1 (hs.take (t.put j).2++h::hs.drop (t.put j).2):=by
 obtain⟨b1,b2,b3⟩:=j9 (xs:=t.place) (j:=j) T.vd;obtain⟨fn,K,k1,k2⟩:=F;have e2:(t.put j).2=below t.place j:=rfl;have e1:(t.put j).1={ t with place:=insertAt t.place (t.put j).2 j }:=by
  show ({ t with place:=insertAt t.place (below t.place j) j,dummies:=_ }:SetTable)=_;rw[if_neg (by rw[T.r_];simp[has]),e2]
 have pl:(insertAt t.place (below t.place j) j).toList=t.place.toList.take (below t.place j)++j::t.place.toList.drop (below t.place j):=toList_insertAt _ _ _;have old:∀ x∈t.place.toList,x∈(insertAt t.place (below t.place j) j).toList:=λ x hx=>by
  rw[pl];have:=D8 (below t.place j) t.place.toList;rw[<- this] at hx;rcases AU.mp hx with q | q
  .exact Cj _ q
  .exact AZ _ (Av _ q)
 rw[e2] at e1 ⊢;refine⟨by rw[<- T.len];exact b1,e1,?_⟩;rw[e1];refine⟨T.mask,T.r_,?_,?_,?_,?_⟩
 .show (insertAt t.place (below t.place j) j).size=_;rw[<- Bo,pl];simp[T.len]
 .show tf (insertAt t.place (below t.place j) j).toList;rw[pl];refine U8 T.vd (λ x hx=>?_) (λ x hx=>?_)
  .obtain⟨i,hi,e⟩:=BV.mp hx;rw[Dh] at hi;rw[List.getElem_take,Ct] at e;rw[<- e];exact b2 i (by simp at hi;lia) (by lia)
  .obtain⟨i,hi,e⟩:=BV.mp hx;rw[Ec] at hi;rw[List.getElem_drop,Ct] at e;have h3:=b3 (below t.place j+i) (by simp at hi;lia) (by lia);have hm:x∈t.place.toList:=List.mem_of_mem_drop hx;have Ai:x≠j:=λ q=>fn (q▸hm);lia
 .intro x hx;show x<=t.mask;have hx:x∈(insertAt t.place (below t.place j) j).toList:=hx;rw[pl] at hx;rcases AU.mp hx with q | q
  .exact T.yf x (List.mem_of_mem_take q)
  .rcases Ah.mp q with e | e
   .subst e;rw[<- k1];exact ig _ _ _
   .exact T.yf x (List.mem_of_mem_drop e)
 .intro i g x hg hx;show ∃ k,(way t.mask g k).j=x/\∀ k'<k,(way t.mask g k').j∈(insertAt t.place (below t.place j) j).toList;have hx:(insertAt t.place (below t.place j) j)[i]?=some x:=hx;rw[<- Bx,pl] at hx;have Au:below t.place j<=t.place.toList.length:=by simpa using b1
  have Er:below t.place j<=hs.length:=by rw[<- T.len];exact b1
  rcases Yw Au hx with ⟨c1,c2⟩ | ⟨c1,c2⟩ | ⟨c1,c2⟩ <;> rcases Yw Er hg with ⟨d1,d2⟩ | ⟨d1,d2⟩ | ⟨d1,d2⟩ <;> first
   | lia
   | (subst c2 d2;exact⟨K,k1,λ k' hk=>old _ (k2 k' hk)⟩)
   | (obtain⟨k,g1,g2⟩:=T.nZ _ g x d2 (by rw[<- Bx];exact c2)
      exact⟨k,g1,λ k' hk=>old _ (g2 k' hk)⟩)
def qm (owner:Array (Option Nat)) (j:Nat):Prop:=∃ k,owner[j]?=some (some k)
def N4 {P:Nat->Bool}{n k:Nat}(h:(List.range n).find? P=some k):k<n/\P k=true/\∀ k'<k,P k'=false:=by
 obtain⟨h1,as,bs,h2,h3⟩:=List.find?_eq_some_iff_append.mp h;have hlen:as.length=k:=by
  have e:(List.range n)[as.length]?=some k:=by rw[h2];simp
  have:=(AL.mp e)
  obtain⟨q1,q2⟩:=this;rw[Eb] at q2;exact q2
 have hk:k<n:=by
  have:k∈List.range n:=by rw[h2];simp
  exact AE.mp this
 refine⟨hk,h1,λ k' hk'=>?_⟩;have:k'∈as:=by
  have e:(List.range n)[k']?=some k':=D7 (by lia);rw[h2,Cv (by lia)] at e;exact AX e
 have:=h3 k' this;simpa using this
def getD_none {owner:Array (Option Nat)}{j:Nat}(h:((owner.getD j (some 0)).isNone)=true):owner[j]?=some none:=by
 unfold Array.getD at h;split at h
 .rename_i hj;have e:owner[j]=none:=by simpa using h
  rw[Bk hj,e]
 .simp at h
def Y6 {owner:Array (Option Nat)}{j:Nat}(hj:j<owner.size) (h:((owner.getD j (some 0)).isNone)=false):qm owner j:=by
 unfold Array.getD at h;rw[dif_pos hj] at h;cases q:owner[j] with
 | none=>simp[q] at h
 | some k=>exact⟨k,by rw[Bk hj,q]⟩
theorem YA (M:Nat) (owner:Array (Option Nat)) (hsz:owner.size=M+1) (h:Int):∀ (fuel n kn:Nat),way M h kn=pS M (yg M h n).1 (yg M h n).2->(∀ q<kn,qm owner (way M h q).j)->
  (∃ n',n<=n'/\n'<n+fuel/\owner[(yg M h n').1]?=some none)->
  ∃ j q,layClean.free M owner fuel (yg M h n).1 (yg M h n).2=some j/\(way M h q).j=j/\owner[j]?=some none/\∀ q'<q,qm owner (way M h q').j
 | 0,n,kn,_,_,⟨n',h1,h2,_⟩=>by lia
 | fuel+1,n,kn,hk,ho,⟨n',h1,h2,h3⟩=>by
  have hre:runEnd M (yg M h n).1+1-(yg M h n).1=runEnd M (yg M h n).1-(yg M h n).1+1:=by unfold runEnd;split <;> lia
  have hwalk:∀ m,m<=runEnd M (yg M h n).1-(yg M h n).1->(way M h (kn+m)).j=(yg M h n).1+m:=λ m hm=>by rw[gH M _ _ h kn hk m hm]
  unfold layClean.free;cases hf:(List.range (runEnd M (yg M h n).1+1-(yg M h n).1)).find? (λ k=>(owner.getD ((yg M h n).1+k) (some 0)).isNone) with
  | some k=>
   obtain⟨f1,f2,f3⟩:=N4 hf;refine⟨_,kn+k,rfl,hwalk k (by lia),getD_none f2,λ q' hq=>?_⟩;rcases A7 q' kn with w | w
   .exact ho q' w
   .have e:(way M h q').j=(yg M h n).1+(q'-kn):=by
     have:=hwalk (q'-kn) (by lia)
     rwa [show kn+(q'-kn)=q' by lia] at this
    have hle:=ig M h q';rw[e] at hle ⊢;exact Y6 (by lia) (f3 (q'-kn) (by lia))
  | none=>
   have f3:=DH.mp hf;have occ:∀ m,m<=runEnd M (yg M h n).1-(yg M h n).1->qm owner ((yg M h n).1+m):=λ m hm=>by
    have hle:=ig M h (kn+m);rw[hwalk m hm] at hle;exact Y6 (by lia) (Bool.eq_false_iff.mpr (f3 m (AE.mpr (by lia))))
   have Ai:n'≠n:=λ e=>by
    subst e;obtain⟨k,hk'⟩:=occ 0 (AN _);rw[Nat.add_zero] at hk';rw[hk'] at h3;cases h3
   dsimp only;obtain⟨j,q,r1,r2⟩:=YA M owner hsz h fuel (n+1) _ (aG M h n kn hk) (λ q hq=>by
    rcases A7 q kn with w | w
    .exact ho q w
    .have e:=hwalk (q-kn) (by lia);rw[show kn+(q-kn)=q by lia] at e;rw[e];exact occ _ (by lia)) ⟨n',by lia,by lia,h3⟩
   exact⟨j,q,r1,r2⟩
structure Lay (M:Nat) (hs:List Int) (owner:Array (Option Nat)) (m:Nat):Prop where
 size:owner.size=M+1
 below:∀ (j k:Nat),owner[j]?=some (some k)->k<m
 each:∀ (k:Nat),k<m->∃ (j:Nat),owner[j]?=some (some k)
 once:∀ (i j k:Nat),owner[i]?=some (some k)->owner[j]?=some (some k)->i=j
 nZ:∀ (j k:Nat) h,owner[j]?=some (some k)->hs[k]?=some h->∃ q,(way M h q).j=j/\∀ q'<q,qm owner (way M h q').j
theorem Lay.none {M:Nat}(hM:vM M) {hs:List Int}{owner:Array (Option Nat)}{m:Nat}(L:Lay M hs owner m) (hm:m<=M):∃ (e:Nat),e<=M/\owner[e]?=some Option.none:=by
 rcases Classical.em (∃ (e:Nat),e<=M/\owner[e]?=some Option.none) with q | q
 .exact q
 .exfalso;have Ay:∀ (e:Nat),e<=M->∃ (k:Nat),owner[e]?=some (some k):=λ e he=>by
   have Al:e<owner.size:=by rw[L.size];lia
   cases w:owner[e] with
   | none=>exact absurd ⟨e,he,by rw[Bk Al,w]⟩ q
   | some k=>exact⟨k,by rw[Bk Al,w]⟩
  have:=ZG (xs:=(List.range (M+1)).map λ e=>((owner[e]?).getD Option.none).getD 0) (ys:=List.range m) (by
   refine Cf.mpr (List.Pairwise.imp_of_mem ?_ DL);intro a b ha hb Ai e;refine Ai ?_;obtain⟨k,hk⟩:=Ay a (by have:=AE.mp ha;lia);obtain⟨k',hk'⟩:=Ay b (by have:=AE.mp hb;lia);rw[hk,hk'] at e;simp at e;subst e;exact L.once a b k hk hk') (λ x hx=>by
   obtain⟨e,he,rfl⟩:=Ap.mp hx;obtain⟨k,hk⟩:=Ay e (by have:=AE.mp he;lia);rw[hk];exact AE.mpr (L.below e k hk))
  simp at this;lia
def k7 {α:Type}{xs:Array α}{j i:Nat}{a b:α}(h:(xs.setIfInBounds j a)[i]?=some b):(i=j/\b=a)\/(i≠j/\xs[i]?=some b):=by
 rw[DG] at h;by_cases e:j=i
 .subst e;rw[if_pos rfl] at h;split at h
  .cases h;exact .inl ⟨rfl,rfl⟩
  .cases h
 .rw[if_neg e] at h;exact .inr ⟨λ q=>e q.symm,h⟩
def Lay.step {M:Nat}(hM:vM M) {hs:List Int}{owner:Array (Option Nat)}{m:Nat}{h:Int}(L:Lay M hs owner m) (hm:m<=M) (hh:hs[m]?=some h):
  ∃ j,layClean.free M owner (turns M) (bits h%(M+1)) (bits h)=some j/\Lay M hs (owner.setIfInBounds j (some m)) (m+1):=by
 obtain⟨e,e1,e2⟩:=L.none hM hm;obtain⟨n',n1,n2⟩:=Ya M hM h e e1;obtain⟨j,q,r1,r2,r3,r4⟩:=YA M owner L.size h (turns M) 0 0 rfl (λ q hq=>by lia) ⟨n',by lia,by unfold turns;lia,by rw[n2];exact e2⟩;have hj:j<owner.size:=(Array.getElem?_eq_some_iff.mp r3).1;have keep:∀ x,qm owner x->qm (owner.setIfInBounds j (some m)) x:=λ x ⟨k,hk⟩=>by
  have Ai:j≠x:=λ w=>by subst w;rw[r3] at hk;cases hk
  exact⟨k,by rw[DG,if_neg Ai];exact hk⟩
 have self:(owner.setIfInBounds j (some m))[j]?=some (some m):=by rw[DG,if_pos rfl,if_pos hj]
 refine⟨j,r1,⟨by simp[L.size],λ x k hx=>?_,λ k hk=>?_,λ x y k hx hy=>?_,λ x k g hx hg=>?_⟩⟩
 .rcases k7 hx with ⟨_,w⟩ | ⟨_,w⟩
  .cases w;lia
  .have:=L.below x k w;lia
 .rcases A7 k m with w | w
  .obtain⟨x,hx⟩:=L.each k w;have Ai:j≠x:=λ w=>by subst w;rw[r3] at hx;cases hx
   exact⟨x,by rw[DG,if_neg Ai];exact hx⟩
  .have:k=m:=by lia
   subst this;exact⟨j,self⟩
 .rcases k7 hx with ⟨w1,w⟩ | ⟨w1,w⟩ <;> rcases k7 hy with ⟨v1,v⟩ | ⟨v1,v⟩
  .omega
  .cases w;have:=L.below y _ v;lia
  .cases v;have:=L.below x _ w;lia
  .exact L.once x y k w v
 .rcases k7 hx with ⟨w1,w⟩ | ⟨w1,w⟩
  .cases w;rw[hh] at hg;cases hg;subst w1;exact⟨q,r2,λ q' hq=>keep _ (r4 q' hq)⟩
  .obtain⟨q,g1,g2⟩:=L.nZ x k g w hg;exact⟨q,g1,λ q' hq=>keep _ (g2 q' hq)⟩
theorem Yd {M:Nat}(hM:vM M) {hs:List Int}(hl:hs.length<=M+1):∀ (rest:List Int) (owner:Array (Option Nat)) (m:Nat),m<=hs.length->hs.drop m=rest->Lay M hs owner m->
  ∃ owner',rest.foldl (λ acc h=>do
   let (owner,k) <- acc
   let j <- layClean.free M owner (turns M) (bits h%(M+1)) (bits h)
   pure (owner.setIfInBounds j (some k),k+1)) (some (owner,m))=some (owner',hs.length)/\Lay M hs owner' hs.length
 | [],owner,m,hl2,hd,L=>by
  have hm:hs.length<=m:=List.drop_eq_nil_iff.mp hd;have e:m=hs.length:=by lia
  subst e;exact⟨owner,rfl,L⟩
 | h::rest,owner,m,hl2,hd,L=>by
  have hm:hs[m]?=some h:=by
   have:=congrArg (λ l=>l[0]?) hd;simpa using this
  have Al:m<hs.length:=(AL.mp hm).1;obtain⟨j,j1,j2⟩:=L.step hM (by lia) hm;have hd':hs.drop (m+1)=rest:=by
   have:=congrArg List.tail hd;simpa using this
  obtain⟨o',h1,h2⟩:=Yd hM hl rest _ (m+1) (by lia) hd' j2;refine⟨o',?_,h2⟩;rw[DF,<- h1];show _=_;congr 1;show ((layClean.free M owner (turns M) (bits h%(M+1)) (bits h)).bind λ j=>some (owner.setIfInBounds j (some m),m+1))=_;rw[j1];rfl
def Oo (M:Nat) (hs:List Int):Lay M hs (Array.replicate (M+1) Option.none) 0:=by
 have no:∀ (j k:Nat),(Array.replicate (M+1) (Option.none:Option Nat))[j]?≠some (some k):=λ j k h=>by
  rw[Array.getElem?_replicate] at h;split at h <;> cases h
 exact⟨by simp,λ j k h=>absurd h (no j k),λ k hk=>by lia,λ i j k h=>absurd h (no i k),λ j k h e=>absurd e (no j k)⟩
def Oq {M:Nat}(hM:vM M) (hashes:Array Int) (hl:hashes.size<=M+1):∃ owner,layClean M hashes=some owner/\Lay M hashes.toList owner hashes.size:=by
 obtain⟨o,h1,h2⟩:=Yd hM (hs:=hashes.toList) (by simpa using hl) hashes.toList _ 0 (AN _) (by simp) (Oo M _);refine⟨o,?_,by simpa using h2⟩;unfold layClean;rw[<- Array.foldl_toList,h1];rfl
noncomputable def lives (M:Nat) (owner:Array (Option Nat)):List (Nat×Nat):=(List.range (M+1)).filterMap λ j=>(owner.getD j Option.none).map (j,·)
def getD_some {owner:Array (Option Nat)}{j k:Nat}:owner.getD j Option.none=some k↔owner[j]?=some (some k):=by
 unfold Array.getD;split
 .rename_i h;rw[Bk h];simp
 .rename_i h;rw[CM (by lia)];simp
def qN {M:Nat}{owner:Array (Option Nat)}(hs:owner.size=M+1) {j k:Nat}:(j,k)∈lives M owner↔owner[j]?=some (some k):=by
 unfold lives;rw[DU];constructor
 .rintro⟨x,hx,e⟩;obtain⟨y,e1,e2⟩:=AA e;cases e2;exact getD_some.mp e1
 .intro h;have hj:=(Array.getElem?_eq_some_iff.mp h).1;exact⟨j,AE.mpr (by lia),by rw[getD_some.mpr h];rfl⟩
def ZV (M:Nat) (owner:Array (Option Nat)):(lives M owner).Pairwise λ a b=>a.1<b.1:=by
 unfold lives;rw[List.pairwise_filterMap];refine List.Pairwise.imp ?_ List.pairwise_lt_range;intro a b C1 x hx y hy;obtain⟨_,_,e1⟩:=AA hx;obtain⟨_,_,e2⟩:=AA hy;subst e1 e2;exact C1
def Ye {M:Nat}(hM:vM M) (finger moves:Nat) (led plain:Bool) (hashes:Array Int) (hl:hashes.size<=M+1):
  ∃ t order,laid M finger moves led plain hashes=some (t,order)/\t.mask=M/\t.finger=finger/\t.led=led/\t.plain=plain/\order.toList.Perm (List.range hashes.size)/\Tab t (order.toList.map λ k=>hashes.toList.getD k 0):=by
 obtain⟨owner,h1,L⟩:=Oq hM hashes hl;refine⟨_,_,by unfold laid;rw[h1];rfl,rfl,rfl,rfl,rfl,?_,?_⟩
 .show ((lives M owner).map (·.2)).toArray.toList.Perm _;rw[C5];refine (D6 ?_ DL).mpr λ k=>?_
  .refine Cf.mpr (List.Pairwise.imp_of_mem ?_ (ZV M owner));intro a b ha hb C1 e;have h2:=(qN L.size (j:=a.1) (k:=a.2)).mp ha;have h3:=(qN L.size (j:=b.1) (k:=b.2)).mp hb;have e:a.2=b.2:=e;rw[e] at h2;have:=L.once _ _ _ h2 h3;lia
  .rw[AE];constructor
   .intro h;obtain⟨⟨j,k'⟩,h2,rfl⟩:=Ap.mp h;exact L.below j _ ((qN L.size).mp h2)
   .intro h;obtain⟨j,hj⟩:=L.each k h;exact Ap.mpr ⟨(j,k),(qN L.size).mpr hj,rfl⟩
 .have pl:∀ x,x∈(lives M owner).map (·.1)↔qm owner x:=λ x=>by
   constructor
   .intro h;obtain⟨⟨j,k⟩,h2,rfl⟩:=Ap.mp h;exact⟨k,(qN L.size).mp h2⟩
   .rintro⟨k,hk⟩;exact Ap.mpr ⟨(x,k),(qN L.size).mpr hk,rfl⟩
  refine⟨hM,rfl,?_,?_,?_,?_⟩
  .show ((lives M owner).map (·.1)).toArray.size=(((lives M owner).map (·.2)).toArray.toList.map _).length;simp
  .show tf ((lives M owner).map (·.1)).toArray.toList;rw[C5];exact Cf.mpr (ZV M owner)
  .intro x hx;show x<=M;have hx:x∈((lives M owner).map (·.1)).toArray.toList:=hx;rw[C5] at hx;obtain⟨k,hk⟩:=(pl x).mp hx;have:=(Array.getElem?_eq_some_iff.mp hk).1;rw[L.size] at this;lia
  .intro i g x hg hx;have hx:((lives M owner).map (·.1)).toArray[i]?=some x:=hx;have hg:(((lives M owner).map (·.2)).toArray.toList.map λ k=>hashes.toList.getD k 0)[i]?=some g:=hg;rw[List.getElem?_toArray,Aw] at hx;rw[C5,Aw,Aw] at hg;obtain⟨p,p1,p2⟩:=AA hx;rw[p1] at hg;simp only[Option.map_some,Option.some.injEq] at hg;obtain⟨j,k⟩:=p;cases p2;have hm:=(qN L.size).mp (AX p1);have hk:=L.below _ _ hm;obtain⟨q,q1,q2⟩:=L.nZ _ k g hm (by rw[<- hg];simp[hk]);refine⟨q,q1,λ q' hq=>?_⟩;show _∈((lives M owner).map (·.1)).toArray.toList;rw[C5];exact (pl _).mpr (q2 q' hq)
section
variable {prog:Program}{w:World}{A:Around}{E:Value->Shared->Prop}{s:Shared}
abbrev rk (prog:Program) (w:World):HeapKind prog w (List Int):=tupleKind (intKind prog w)
def items_int {ks:List Int}{vs:List Value}(h:ItemsAre (intKind prog w) ks vs):∀ v∈vs,∃ n t,v=.int n t:=by
 induction h with
 | nil=>intro v hv;cases hv
 | cons h1 _ ih=>
  intro v hv;rcases Ah.mp hv with rfl | hv
  .obtain⟨t,e⟩:=Value.isInt_shape h1;exact⟨_,t,e⟩
  .exact ih v hv
def ZJ {ks:List Int}{a:Addr}{Q:Bool->Shared->Prop}(hk:IsTupleKey (intKind prog w) s.heap ks a) (h:Q false s):wpAny (model prog w) A (ofAClassStatement 8 (.ref a)) Q E s:=by
 have hT:=hk.typeIs;obtain⟨o,items,n,ho,_,hd,hi⟩:=hk;unfold ofAClassStatement;refine Ab (wpAny_typeOf hT ?_);show wpAny _ _ (pure true >>= _) _ _ s;refine Ab (Ac ?_);simp only[AB,Ba,if_false];refine Ab (wpAny_seqItems ho hd ?_);dsimp only;refine Ab ?_;show wpAny _ _ (forIn items _ _) _ _ s;rw[<- Array.forIn_toList];refine wpAny_forIn_list _ (λ rest r s'=>r.1=none/\s'=s/\∀ v∈rest,∃ n t,v=.int n t) _ ?_ ?_ _ _ ⟨rfl,rfl,items_int hi⟩
 .rintro v rest r s' ⟨hr,rfl,Ay⟩;obtain⟨m,t,rfl⟩:=Ay v Am;show wpAny _ _ (pure false >>= _) _ _ _;refine Ab (Ac ?_);simp only[Ba,if_false];exact Ac ⟨rfl,rfl,λ u hu=>Ay u (Av _ hu)⟩
 .rintro⟨r1,r2⟩ s' ⟨hr,rfl,_⟩;simp only at hr;subst hr;exact Ac h
def OX {ks:List Int}{a:Addr}{Q:Bool->Shared->Prop}(hk:IsTupleKey (intKind prog w) s.heap ks a) (h:Q true s):wpAny (model prog w) A (hashByValue 8 (.ref a)) Q E s:=by
 have hT:=hk.typeIs;obtain⟨o,items,n,ho,_,hd,hi⟩:=hk;unfold hashByValue;refine Ab (wpAny_specialOf hT F.slot_tuple_hash.lookup ?_);dsimp only;refine Ab (wpAny_seqItems ho hd ?_);refine Ab ?_;show wpAny _ _ (forIn items _ _) _ _ s;rw[<- Array.forIn_toList];refine wpAny_forIn_list _ (λ rest r s'=>r.1=none/\s'=s/\∀ v∈rest,∃ n t,v=.int n t) _ ?_ ?_ _ _ ⟨rfl,rfl,items_int hi⟩
 .rintro v rest r s' ⟨hr,rfl,Ay⟩;obtain⟨m,t,rfl⟩:=Ay v Am;show wpAny _ _ (pure true >>= _) _ _ _;refine Ab (Ac ?_);simp only[AB,Ba,if_false];exact Ac ⟨rfl,rfl,λ u hu=>Ay u (Av _ hu)⟩
 .rintro⟨r1,r2⟩ s' ⟨hr,rfl,_⟩;simp only at hr;subst hr;exact Ac h
def Vd {ks:List Int}{b:Addr}{Q:Bool->Shared->Prop}(hk:IsTupleKey (intKind prog w) s.heap ks b) (l:List Value) (hl:∀ v∈l,∃ k c,v=.ref c/\IsTupleKey (intKind prog w) s.heap k c) (h:Q false s):
  wpAny (model prog w) A (searchCouldBeSeen (.ref b) l) Q E s:=by
 unfold searchCouldBeSeen;refine Ab ?_;refine wpAny_forIn_list _ (λ rest r s'=>r.1=none/\s'=s/\∀ v∈rest,∃ k c,v=.ref c/\IsTupleKey (intKind prog w) s.heap k c) _ ?_ ?_ _ _ ⟨rfl,rfl,hl⟩
 .rintro v rest r s' ⟨hr,rfl,Ay⟩;obtain⟨k,c,rfl,hc⟩:=Ay v Am;have rest':∀ u∈rest,∃ k c,u=Value.ref c/\IsTupleKey (intKind prog w) s'.heap k c:=λ u hu=>Ay u (Av _ hu);dsimp only;by_cases e:(b == c||(carriedByValue (.ref b)&&carriedByValue (.ref c)))=true
  .rw[if_pos e];exact Ac ⟨rfl,rfl,rest'⟩
  .rw[if_neg e];refine Ab ((rk prog w).quiet hk ?_);simp only[AB,Ba,if_false];refine Ab ((rk prog w).quiet hc ?_);simp only[AB,Ba,if_false];refine Ab (ZJ hk ?_);simp only[Ba,if_false];refine Ab (ZJ hc ?_);simp only[Ba,if_false];exact Ac ⟨rfl,rfl,rest'⟩
 .rintro⟨r1,r2⟩ s' ⟨hr,rfl,_⟩;simp only at hr;subst hr;exact Ac h
structure qy (h:Heap) (es:Array (Int×Value)) (t:SetTable) (xs:List (List Int×Addr)):Prop where
 es:es.toList=xs.map λ e=>((rk prog w).hash e.1,Value.ref e.2)
 is:∀ e∈xs,IsTupleKey (intKind prog w) h e.1 e.2
 tab:Tab t (xs.map λ e=>(rk prog w).hash e.1)
 mK:xs.length<=t.mask
theorem qy.fits {h:Heap}{es:Array (Int×Value)}{t:SetTable}{xs:List (List Int×Addr)}(X:qy (prog:=prog) (w:=w) h es t xs):t.fits es.size=true:=by
 have hl:es.size=xs.length:=by have:=congrArg List.length X.es;simpa using this
 have h1:=X.tab.len;rw[Az] at h1;have h2:=X.mK;unfold SetTable.fits SetTable.fill;rw[X.tab.r_,hl,h1];simp;lia
def qy.at {h:Heap}{es:Array (Int×Value)}{t:SetTable}{xs:List (List Int×Addr)}(X:qy (prog:=prog) (w:=w) h es t xs) {i:Nat}{e:List Int×Addr}(he:xs[i]?=some e):es[i]?=some ((rk prog w).hash e.1,Value.ref e.2):=by
 rw[<- Bx,X.es,Aw,he];rfl
theorem a9 {a:Addr}{o:Obj}{es:Array (Int×Value)}{ep:Nat}{t:SetTable}{xs:List (List Int×Addr)}{key:List Int}{b:Addr}{Q:SetFound->Shared->Prop}
  (hu:A.units<cLine) (ho:s.heap.get? a=some o) (hd:o.data=.set es ep t) (X:qy (prog:=prog) (w:=w) s.heap es t xs) (hb:IsTupleKey (intKind prog w) s.heap key b)
  (h1:key∈xs.map (·.1)->Q (.there none) s) (h2:key∉xs.map (·.1)->∀ j,c6 t ((rk prog w).hash key) j->Q (.free j false) s):
  ∀ (fuel k:Nat) (stand:Option Probe),stand.getD (t.probeStart ((rk prog w).hash key))=way t.mask ((rk prog w).hash key) k->(∀ m<k,∃ (i:Nat) (e:List Int×Addr),t.place[i]?=some (way t.mask ((rk prog w).hash key) m).j/\xs[i]?=some e/\e.1≠key)->(∃ K,k<=K/\K<k+fuel/\K<10*(t.mask+15)/\(way t.mask ((rk prog w).hash key) K).j∉t.place.toList/\∀ m<K,(way t.mask ((rk prog w).hash key) m).j∈t.place.toList)->
   wpAny (model prog w) A (setSearchFrom a (.ref b) ((rk prog w).hash key) true fuel stand) Q E s
 | 0,k,stand,_,_,⟨K,q1,q2,_⟩=>by lia
 | fuel+1,k,stand,AH,hpast,⟨K,q1,q2,q3,q4,q5⟩=>by
  have T:=X.tab;have Ex:t.gaveWay=false:=by
   unfold SetTable.gaveWay;rcases T.mask with e | e | e <;> rw[e] <;> rfl
  unfold setSearchFrom;refine Ab (wpAny_setState_of ho hd X.fits ?_);dsimp only;rw[Ex];simp only[Ba,if_false];have hA:∀ (i:Nat) g,(xs.map λ e=>(rk prog w).hash e.1)[i]?=some g->((es[i]?).map (·.1)).getD 0=g:=λ i g hg=>by
   rw[Aw] at hg;obtain⟨e,e1,e2⟩:=AA hg;rw[X.at e1];exact e2
  obtain⟨k1,g1,g2,g3⟩:=Y4 T (hashAt:=λ i=>((es[i]?).map (·.1)).getD 0) hA ((rk prog w).hash key) (10*turns t.mask) k ⟨K,q1,by unfold turns;lia,q4⟩;rw[AH];have look:∀ (i:Nat) g,(xs.map λ e=>(rk prog w).hash e.1)[i]?=some g->∃ e,xs[i]?=some e/\(rk prog w).hash e.1=g:=λ i g hg=>by
   rw[Aw] at hg;obtain⟨e,e1,e2⟩:=AA hg;exact⟨e,e1,e2⟩
  have hpast':∀ m<k1,∃ (i:Nat) (e:List Int×Addr),t.place[i]?=some (way t.mask ((rk prog w).hash key) m).j/\xs[i]?=some e/\e.1≠key:=λ m hm=>by
   rcases A7 m k with c | c
   .exact hpast m c
   .obtain⟨i,g,p1,p2,p3⟩:=g2 m c hm;obtain⟨e,e1,e2⟩:=look i g p2;exact⟨i,e,p1,e1,λ q=>p3 (by rw[<- e2,q])⟩
  rcases g3 with ⟨n1,n2⟩ | ⟨i,n1,n2,n3⟩
  .have n2':t.probe _ ((rk prog w).hash key) (way t.mask ((rk prog w).hash key) k)=_:=n2;simp only[SetTable.probe] at n2' ⊢
   erw [n2]
   dsimp only;refine Ac (h2 (λ hm=>?_) _ ⟨n1,k1,rfl,λ m hm=>?_⟩)
   .obtain⟨e,he,ek⟩:=Ap.mp hm;obtain⟨i,hi⟩:=DE.mp he;have hh:(xs.map λ e=>(rk prog w).hash e.1)[i]?=some ((rk prog w).hash key):=by rw[Aw,hi,<- ek];rfl
    have CW:i<t.place.size:=by rw[T.len];exact (AL.mp hh).1
    obtain⟨kk,w1,w2⟩:=T.nZ i _ _ hh (Bk CW);rcases DI kk k1 with c | c | c
    .obtain⟨i',e',p1,p2,p3⟩:=hpast' kk c;rw[w1] at p1;have:i=i':=by
      rw[<- below_at T.vd (Bk CW),<- below_at T.vd p1]
     subst this;rw[hi] at p2;cases p2;exact p3 ek
    .subst c;rw[w1] at n1;exact n1 (by simp)
    .exact n1 (w2 k1 c)
   .obtain⟨i',e',p1,_⟩:=hpast' m hm;exact AX (by rw[Bx];exact p1)
  .simp only[SetTable.probe]
   erw [n3]
   dsimp only;obtain⟨e,e1,e2⟩:=look i _ n2;have hes:=X.at e1;have hey:=X.is e (AX e1);have main:wpAny (model prog w) A (holding [Value.ref e.2] (eqBool (.ref e.2) (.ref b)) >>= λ equal=>setState a >>= λ x=>match x with
     | (es',_,t')=>if (true&&equal)=true then pure (SetFound.there none) else
      match t'.sameMemory t.moves t.mask with
      | some same=>
       have jp:=λ still=>match still with
        | none=>do
         rule "set.search.anew"
         setSearchFrom a (.ref b) ((rk prog w).hash key) true fuel none
        | some i'=>if equal=true then pure (SetFound.there (some i')) else setSearchFrom a (.ref b) ((rk prog w).hash key) true fuel (some (way t.mask ((rk prog w).hash key) (k1+1)))
       match if same=true then t'.slot (way t.mask ((rk prog w).hash key) k1).j else Slot.empty with
       | .live i'=>match es'[i']? with
        | some (_,y')=>do
         let r <- isSame y' (.ref e.2)
         let still <- pure (if r=true then some i' else none)
         jp still
        | none=>do
         let still <- pure none
         jp still
       | _=>do
        let still <- pure none
        jp still
      | _=>unsupported "set.changed-during-lookup:is-the-new-block-at-the-old-address") Q E s:=by
    refine Ab (wpAny_holding ((rk prog w).eqBool hu hey hb ?_));refine Ab (wpAny_setState_of ho hd X.fits ?_);dsimp only;by_cases hk:e.1=key
    .rw[decide_eq_true hk];simp only[DN,if_true];exact Ac (h1 (Ap.mpr ⟨e,AX e1,hk⟩))
    .rw[decide_eq_false hk];simp only[Cg,Ba,if_false];have sm:t.sameMemory t.moves t.mask=some true:=by unfold SetTable.sameMemory;simp
     rw[sm];dsimp only;rw[if_pos rfl,T.live n1];dsimp only;rw[hes];dsimp only;refine Ab (wpAny_isSame_ref_self ?_);refine Ab (Ac ?_);rw[if_pos rfl];dsimp only;have hKk:k1<K:=by
      rcases DI K k1 with c | c | c
      .obtain⟨i',e',p1,_⟩:=hpast' K c;exact absurd (AX (by rw[Bx];exact p1)) q4
      .subst c;exact absurd (AX (by rw[Bx];exact n1)) q4
      .exact c
     refine a9 hu ho hd X hb h1 h2 fuel (k1+1) _ rfl (λ m hm=>?_) ⟨K,by lia,by lia,q3,q4,q5⟩;rcases A7 m k1 with c | c
     .exact hpast' m c
     .have:m=k1:=by lia
      subst this;exact⟨i,e,n1,e1,hk⟩
   rw[hes];by_cases hl:t.led=true
   .rw[hl];simp only[AB,Ba,if_false];exact main
   .have hl':t.led=false:=by simpa using hl
    rw[hl'];simp only[AD,if_true];refine Ab (Vd hb _ (λ v hv=>?_) ?_)
    .obtain⟨p,hp,rfl⟩:=Ap.mp hv;rw[Array.toList_filter,A0,X.es] at hp;obtain⟨⟨e',he',rfl⟩,_⟩:=(And.intro (Ap.mp hp.1) hp.2)
     exact⟨e'.1,e'.2,rfl,X.is e' he'⟩
    .simp only[Ba,if_false];exact main
end
section
variable {prog:Program}{w:World}{A:Around}{E:Value->Shared->Prop}{s:Shared}
structure uf (prog:Program) (w:World) (h:Heap) (a:Addr) (xs:List (List Int×Addr)) (led:Bool):Prop where
 ex:∃ es ep t,h.get? a=some { cls:=.type "set",dict:=none,data:=.set es ep t }/\qy (prog:=prog) (w:=w) h es t xs/\t.led=led/\t.plain=true/\xs.length*5<t.mask*3
 nd:(xs.map (·.1)).Nodup
def iu {h h':Heap}{ks:List Int}{b a:Addr}{es:Array (Int×Value)}{ep:Nat}{t:SetTable}{c:Value}{d:Option Addr}{sl:Array (Option Value)}(x:IsTupleKey (intKind prog w) h ks b) (ho:h.get? a=some { cls:=c,dict:=d,data:=.set es ep t,slots:=sl }) (hs:Heap.SameBut a h h'):IsTupleKey (intKind prog w) h' ks b:=by
 obtain⟨o',items,n,ho',hc,hd',hi⟩:=x;have Ai:b≠a:=by
  rintro rfl;obtain rfl:o'=_:=A5 (ho'.symm.trans ho);cases hd'
 exact⟨o',items,n,(hs.2 b Ai).trans ho',hc,hd',hi⟩
def kN {h:Heap}{a:Addr}{es es':Array (Int×Value)}{ep:Nat}{t t':SetTable}(ho:h.get? a=some { cls:=.type "set",dict:=none,data:=.set es ep t }):(h.update a (Obj.putSet es' t')).get? a=some { cls:=.type "set",dict:=none,data:=.set es' (ep+1) t' }:=by
 have e:Obj.putSet es' t' { cls:=.type "set",dict:=none,data:=.set es ep t }={ cls:=.type "set",dict:=none,data:=.set es' (ep+1) t' }:=putSet_of es' t' rfl;have:=Heap.get?_update_self (Obj.putSet es' t') ho (by rw[e];rfl);rw[e] at this;exact this
theorem gX {α β:Type}(l:List α) (f:α->β) (d:β):∀ (order:List Nat),(∀ k∈order,k<l.length)->order.map (λ k=>(l.map f).getD k d)=(order.filterMap λ k=>l[k]?).map f
 | [],_=>rfl
 | k::order,h=>by
  have hk:=h k Am;have ih:=gX l f d order λ j hj=>h j (Av _ hj);rw[Ar,Br,AG hk];dsimp only;rw[Ar,ih];congr 1;simp[hk]
def UA {a:Addr}{es:Array (Int×Value)}{ep:Nat}{t:SetTable}{xs:List (List Int×Addr)}{led:Bool}{wanted M:Nat}{Q:Unit->Shared->Prop}
  (ho:s.heap.get? a=some { cls:=.type "set",dict:=none,data:=.set es ep t }) (X:qy (prog:=prog) (w:=w) s.heap es t xs) (Bs:t.led=led) (Au:t.plain=true) (hM:vM M) (hw:sizeAbove wanted=M+1) (AJ:xs.length*5<M*3) (Cb:(xs.map (·.1)).Nodup)
  (h:∀ h' xs',Heap.SameBut a s.heap h'->uf prog w h' a xs' led->xs'.Perm xs->Q () { s with heap:=h' }):wpAny (model prog w) A (setRelay a wanted) Q E s:=by
 have hlen:es.size=xs.length:=by have:=congrArg List.length X.es;simpa using this
 have EG:(es.map (·.1)).toList=xs.map λ e=>(rk prog w).hash e.1:=by rw[Array.toList_map,X.es,AW];rfl
 have hsz:(es.map (·.1)).size=xs.length:=by rw[C_,hlen]
 obtain⟨t',order,h1,h2,h3,h4,h5,h6,h7⟩:=Ye hM t.finger (t.movedTo M) t.led t.plain (es.map (·.1)) (by rw[hsz];lia);rw[hsz] at h6;have Al:∀ k∈order.toList,k<xs.length:=λ k hk=>by simpa using h6.mem_iff.mp hk
 unfold setRelay;refine Ab (wpAny_setState_of ho rfl X.fits ?_);dsimp only;rw[if_neg (by rw[hw];rcases hM with e | e | e <;> rw[e] <;> decide)];have hr:t.relaid (es.map (·.1)) wanted=some (t',order):=by
  unfold SetTable.relaid;rw[hw,Nat.add_sub_cancel];exact h1
 rw[hr];have BI:(order.filterMap (es[·]?)).toList=(order.toList.filterMap λ k=>xs[k]?).map λ e=>((rk prog w).hash e.1,Value.ref e.2):=by
  rw[Array.toList_filterMap,List.map_filterMap];congr 1;funext k;rw[<- Bx,X.es,Aw]
 have hperm:(order.toList.filterMap λ k=>xs[k]?).Perm xs:=(h6.filterMap _).trans (by rw[List.filterMap_getElem?_range_length]);have BG:(order.filterMap (es[·]?)).size=es.size:=by
  rw[<- Bo,BI,Az,hperm.length_eq,hlen]
 refine Ab (m:=_) ?_;show wpAny _ _ (do
  let some (t,order):=some (t',order) | unsupported "internal:set-table-without-room"
  let es':=order.filterMap (es[·]?)
  if es'.size != es.size then unsupported "internal:set-table-lost-an-element"
  pure (es',t)) _ _ _
 dsimp only;rw[if_neg (by rw[BG];simp)];refine Ac ?_;have A8:(order.filterMap (es[·]?)).size<=sizeLine:=by
  rw[BG,hlen];have:sizeLine=16777216:=rfl;rcases hM with e | e | e <;> subst e <;> lia
 refine wpAny_storeSet_of ho rfl ?_ A8;have sb:=Heap.SameBut.update s.heap a (Obj.putSet (order.filterMap (es[·]?)) t');refine h _ _ sb ⟨⟨_,ep+1,t',kN ho,⟨BI,λ e he=>iu (X.is e (hperm.mem_iff.mp he)) ho sb,?_,?_⟩,by rw[h4];exact Bs,by rw[h5];exact Au,?_⟩,(hperm.map _).nodup_iff.mpr Cb⟩ hperm
 .rw[<- gX xs (λ e=>(rk prog w).hash e.1) 0 order.toList Al,<- EG];exact h7
 .rw[hperm.length_eq,h2];lia
 .rw[hperm.length_eq,h2];exact AJ
def ax (n:Nat) (M:Nat) (hM:vM M) (h1:n*5<M*3) (h2:M*3<=(n+1)*5) (hn:n<70):∃ M',vM M'/\sizeAbove (grown (n+1))=M' + 1/\(n+1)*5<M'*3:=by
 rcases hM with e | e | e <;> subst e
 .have:n=4:=by lia
  subst this;exact⟨31,.inr (.inl rfl),by decide +kernel,by lia⟩
 .have:n=18:=by lia
  subst this;exact⟨127,.inr (.inr rfl),by decide +kernel,by lia⟩
 .omega
def Lb {a:Addr}{xs:List (List Int×Addr)}{key:List Int}{b:Addr}{led:Bool}{Q:Bool->Shared->Prop}(hu:A.units<cLine) (S:uf prog w s.heap a xs led) (hb:IsTupleKey (intKind prog w) s.heap key b) (hn:xs.length<70)
  (h:∀ h' xs' r,Heap.SameBut a s.heap h'->uf prog w h' a xs' led->(key∈xs.map (·.1)/\xs'=xs\/key∉xs.map (·.1)/\xs'.Perm (xs++[(key,b)]))->Q r { s with heap:=h' }):
  wpAny (model prog w) A (setAddHashed a (.ref b) ((rk prog w).hash key)) Q E s:=by
 obtain⟨⟨es,ep,t,ho,X,Bs,Au,AJ⟩,Cb⟩:=S;have hlen:es.size=xs.length:=by have:=congrArg List.length X.es;simpa using this
 unfold setAddHashed setAddHashedIn;refine wpAny_holding (Ab (wpAny_setState_of ho rfl X.fits ?_));dsimp only;rw[if_neg (by simp[byScan,Value.scannable])];obtain⟨K,k1,k2,k3⟩:=X.tab.first (by rw[Az];exact X.mK) ((rk prog w).hash key);have hmk:t.mask<=127:=by rcases X.tab.mask with e | e | e <;> lia
 refine Ab ?_;unfold setSearch;refine a9 (key:=key) (b:=b) hu ho rfl X hb (λ hm=>?_) (λ hm j F=>?_) 100000 0 none rfl (λ m hm=>by lia) ⟨K,by lia,by lia,k1,k2,k3⟩
 .dsimp only;refine Ac ?_;have:=h s.heap xs false ⟨rfl,λ _ _=>rfl⟩ ⟨⟨es,ep,t,ho,X,Bs,Au,AJ⟩,Cb⟩ (.inl ⟨hm,rfl⟩);exact this
 .dsimp only;refine Ab (wpAny_setState_of ho rfl X.fits ?_);dsimp only;obtain⟨p1,p2,p3⟩:=X.tab.put F;rw[Az] at p1;have B8:(t.put j).1.plain=true:=by rw[p2];exact Au
  have Cc:(t.put j).1.mask=t.mask:=by rw[p2]
  have Al:(t.put j).1.led=led:=by rw[p2];exact Bs
  generalize hT:(t.put j)=P at *;obtain⟨t1,p⟩:=P;dsimp only at *;rw[B8];simp only[if_true];refine Ab (OX hb ?_);simp only[if_true]
  let xs1:=xs.take p++(key,b)::xs.drop p
  have hperm:xs1.Perm (xs++[(key,b)]):=by
   have e:xs.take p++xs.drop p=xs:=D8 p xs;have:xs1.Perm ((key,b)::(xs.take p++xs.drop p)):=List.perm_middle;rw[e] at this;exact this.trans (List.perm_append_singleton _ _).symm
  have hl1:xs1.length=xs.length+1:=by rw[hperm.length_eq];simp
  have hes1:(insertAt es p ((rk prog w).hash key,Value.ref b)).toList=xs1.map λ e=>((rk prog w).hash e.1,Value.ref e.2):=by
   rw[toList_insertAt,X.es];simp[xs1,DD,DC]
  have hsz1:(insertAt es p ((rk prog w).hash key,Value.ref b)).size=xs.length+1:=by rw[<- Bo,hes1,Az,hl1]
  have A8:(insertAt es p ((rk prog w).hash key,Value.ref b)).size<=sizeLine:=by
   rw[hsz1];have:sizeLine=16777216:=rfl;lia
  refine Ab (wpAny_storeSet_of ho rfl ?_ A8);have sb:=Heap.SameBut.update s.heap a (Obj.putSet (insertAt es p ((rk prog w).hash key,Value.ref b)) t1);have ho1:=kN (es':=insertAt es p ((rk prog w).hash key,Value.ref b)) (t':=t1) ho;have hm7:7<=t.mask:=by rcases X.tab.mask with e | e | e <;> lia
  have X1:qy (prog:=prog) (w:=w) (s.heap.update a (Obj.putSet (insertAt es p ((rk prog w).hash key,Value.ref b)) t1)) (insertAt es p ((rk prog w).hash key,Value.ref b)) t1 xs1:=by
   refine⟨hes1,λ e he=>?_,?_,by rw[hl1,Cc];lia⟩
   .rcases AU.mp (hperm.mem_iff.mp he) with q | q
    .exact iu (X.is e q) ho sb
    .cases AO.mp q;exact iu hb ho sb
   .have:xs1.map (λ e=>(rk prog w).hash e.1)=(xs.map λ e=>(rk prog w).hash e.1).take p++(rk prog w).hash key::(xs.map λ e=>(rk prog w).hash e.1).drop p:=by simp[xs1,DD,DC]
    rw[this];exact p3
  have hnd1:(xs1.map (·.1)).Nodup:=by
   refine (hperm.map _).nodup_iff.mpr ?_;rw[Bh,D5];refine⟨Cb,by simp,λ x hx y hy=>?_⟩;simp at hy;subst hy;exact λ e=>hm (e▸hx)
  by_cases hf:t1.tooFull=true
  .rw[hf];simp only[AD,DN,if_true];have hfill:t1.fill=xs.length+1:=by
    unfold SetTable.fill;rw[p3.r_,p3.len];simp;lia
   have hfull:t.mask*3<=(xs.length+1)*5:=by
    have:=hf;unfold SetTable.tooFull at this;rw[hfill,Cc] at this;simpa using this
   obtain⟨M',g1,g2,g3⟩:=ax xs.length t.mask X.tab.mask AJ hfull hn;rw[hlen];refine Ab (UA (led:=led) ho1 X1 Al B8 g1 g2 (by rw[hl1];exact g3) hnd1 λ h' xs' sb' S' pm=>?_);refine Ac ?_;exact h h' xs' true (sb.trans sb') S' (.inr ⟨hm,pm.trans hperm⟩)
  .have hf':t1.tooFull=false:=by simpa using hf
   rw[hf'];simp only[AD,Cg,Ba,if_false];refine Ac ?_;have hfill:t1.fill=xs.length+1:=by
    unfold SetTable.fill;rw[p3.r_,p3.len];simp;lia
   have hfull:(xs.length+1)*5<t.mask*3:=by
    have:=hf';unfold SetTable.tooFull at this;rw[hfill,Cc] at this;simpa using this
   exact h _ xs1 true sb ⟨⟨_,ep+1,t1,ho1,X1,Al,B8,by rw[hl1,Cc];exact hfull⟩,hnd1⟩ (.inr ⟨hm,hperm⟩)
end
noncomputable def vV (w:World):Bool:=!w.params.followText "set-order"
def xo (w:World):Obj:={ cls:=.type "set",dict:=none,data:=.set #[] 0 (.fresh 0 0 (vV w)) }
section
variable {prog:Program}{w:World}{A:Around}{E:Value->Shared->Prop}{s:Shared}
set_option maxHeartbeats 3200000 in
def Xu (a:Value) {Q:Value->Shared->Prop}(h:Q (.ref s.heap.objs.size) { s with heap:=s.heap.push (xo w) }):
  codeAny (model prog w) A (.call (.builtin "set.__new__") ⟨[.type "set",a],[]⟩) (wants Q E) s:=by
 refine codeAny_of_tree ?_;show wpAny _ A.in1 (checkBuiltinCall "set.__new__" ⟨[.type "set",a],[]⟩ >>= λ _=>again (.builtin "set.__new__" ⟨[.type "set",a],[]⟩)) _ _ s;refine Ab (wpAny_of_eq (F.newCall_set_1 a) (Ac ⟨plainId_quiet F.plain_set_new _,codeAny_builtin F.entry_set_new ?_⟩));rw[Around.under_plainId F.plain_set_new _];unfold Builtin.«set.__new__» Builtin.Frozenset.newClass newSet setsByText;have sub:=sub_set_self;obtain⟨hp,g,d,tk,os⟩:=s;dsimp only
 wp_walk
 refine wpAny_askSetting (Ac ?_);dsimp only;simp only[newObj];exact Ab (wpAny_alloc (Ac (Ac h)))
def Ud {h:Heap}{a:Addr}(ho:h.get? a=some (xo w)):uf prog w h a [] (vV w):=
 ⟨⟨#[],0,_,ho,⟨rfl,λ e he=>(by cases he),⟨.inl rfl,rfl,rfl,.nil,λ j hj=>(by cases hj),λ i g j hg=>(by cases hg)⟩,by simp⟩,rfl,rfl,by show 0*5<7*3;lia⟩,.nil⟩
end
end ST
namespace ST
open PySem PySem.SetTable PyProof.Rows
structure Up (its:Array Value) (rows:List (List Int)) (i:Nat) (xs:List (List Int×Addr)):Prop where
 own:∀ e∈xs,∃ j,j<i/\its[j]?=some (.ref e.2)/\rows[j]?=some e.1
 all:∀ (j:Nat) r,j<i->rows[j]?=some r->r∈xs.map (·.1)
def Up.len {its:Array Value}{rows:List (List Int)}{i:Nat}{xs:List (List Int×Addr)}(U:Up its rows i xs) (nd:(xs.map (·.1)).Nodup):xs.length<=i:=by
 have:∀ x∈xs.map (·.1),x∈(List.range i).map λ j=>rows.getD j []:=λ x hx=>by
  obtain⟨e,he,rfl⟩:=Ap.mp hx;obtain⟨j,h1,_,h3⟩:=U.own e he;refine Ap.mpr ⟨j,AE.mpr h1,?_⟩;rw[AK,h3];rfl
 have key:∀ (l m:List (List Int)),l.Nodup->(∀ x∈l,x∈m)->l.length<=m.length:=by
  intro l
  induction l with
  | nil=>intro m _ _;exact AN _
  | cons x l ih=>
   intro m hn hs;have h1:=Bg.mp hn;have hx:=hs x Am;have:=ih (m.erase x) h1.2 λ z hz=>(Ea (λ e:z=x=>h1.1 (by rw[<- e];exact hz))).mpr (hs z (Av _ hz));rw[D_ hx] at this;have:=D9 hx;simp only[AY];lia
 have:=key _ _ nd this;simpa using this
def Up.step {its:Array Value}{rows:List (List Int)}{i:Nat}{xs xs':List (List Int×Addr)}{key:List Int}{b:Addr}(U:Up its rows i xs) (hi:its[i]?=some (.ref b)) (hr:rows[i]?=some key)
  (h:key∈xs.map (·.1)/\xs'=xs\/key∉xs.map (·.1)/\xs'.Perm (xs++[(key,b)])):Up its rows (i+1) xs':=by
 rcases h with ⟨hm,rfl⟩ | ⟨_,hp⟩
 .refine⟨λ e he=>?_,λ j r hj Bl=>?_⟩
  .obtain⟨j,h1,h2⟩:=U.own e he;exact⟨j,by lia,h2⟩
  .rcases A7 j i with q | q
   .exact U.all j r q Bl
   .have:j=i:=by lia
    subst this;rw[hr] at Bl;cases Bl;exact hm
 .refine⟨λ e he=>?_,λ j r hj Bl=>?_⟩
  .rcases AU.mp (hp.mem_iff.mp he) with q | q
   .obtain⟨j,h1,h2⟩:=U.own e q;exact⟨j,by lia,h2⟩
   .cases AO.mp q;exact⟨i,by lia,hi,hr⟩
  .have hp':=hp.map (·.1);rw[hp'.mem_iff,Bh];rcases A7 j i with q | q
   .exact Cj _ (U.all j r q Bl)
   .have:j=i:=by lia
    subst this;rw[hr] at Bl;cases Bl;exact AZ _ Am
section
variable {prog:Program}{w:World}{A:Around}{R:Result->Shared->Prop}{I:Addr}{fp wr:List Addr}{G:Array GenState->Array GenState->Prop}{n:Nat}{P:Nat->Value->Prop}{St:Nat->Shared->Prop}
def pj (prog:Program) (w:World) (h:Heap) (its:Array Value) (rows:List (List Int)):Prop:=∀ (i:Nat) v,its[i]?=some v->∃ b r,v=.ref b/\rows[i]?=some r/\IsTupleKey (intKind prog w) h r b
def pj.at {h h':Heap}{its:Array Value}{rows:List (List Int)}(T:pj prog w h its rows) (k:∀ (i:Nat) b,its[i]?=some (.ref b)->∀ o,h.get? b=some o->h'.get? b=some o):pj prog w h' its rows:=λ i v hv=>by
 obtain⟨b,r,rfl,h1,o,items,m,h2,h3⟩:=T i v hv;exact⟨b,r,rfl,h1,o,items,m,k i b hv o h2,h3⟩
def PY (W:WalksS prog w A.in1 I fp wr G n (λ i v=>P i v) St) (Sa:Addr) (hSf:Sa∉fp) {its:Array Value}{rows:List (List Int)}(hP:∀ i v,P i v->its[i]?=some v) (hn:n<70) (hu:A.units+1<cLine) (led:Bool)
  (B_:∀ (i:Nat) b,its[i]?=some (.ref b)->b∉Sa::wr):∀ (k i:Nat) (s:Shared) (xs:List (List Int×Addr)),n-i=k->i<=n->St i s->uf prog w s.heap Sa xs led->pj prog w s.heap its rows->Up its rows i xs->
   (∀ s' xs',Moved (Sa::wr) G s s'->uf prog w s'.heap Sa xs' led->Up its rows n xs'->R (.ok (.ret .none)) s')->
   codeAny (model prog w) A (.builtin "set.update.loop" ⟨[.ref Sa,.ref I],[]⟩) R s:=by
 have hSw:Sa∉wr:=λ z=>hSf (W.sub _ z);have more:∀ b∈wr,b∈Sa::wr:=λ b hb=>Av _ hb;have keepS:∀ {s s':Shared}{xs:List (List Int×Addr)}{wr':List Addr},Sa∉wr'->(∀ e∈xs,e.2∉wr')->Moved wr' G s s'->uf prog w s.heap Sa xs led->uf prog w s'.heap Sa xs led:=λ{s s' xs wr'} h1 h2 hm ⟨⟨es,ep,t,ho,X,r1,r2,r3⟩,nd⟩=>
  ⟨⟨es,ep,t,hm.heap Sa _ h1 ho,⟨X.es,λ e he=>by
   obtain⟨o,items,m,g1,g2⟩:=X.is e he;exact⟨o,items,m,hm.heap _ _ (h2 e he) g1,g2⟩,X.tab,X.mK⟩,r1,r2,r3⟩,nd⟩
 intro k
 induction k with
 | zero=>
  intro i s xs hk hi AH hS hT hU hR;have e:i=n:=by lia
  subst e;refine codeAny_builtin F.entry_set_update_loop ?_;rw[Around.under_plainId F.plain_set_update_loop _];show wpAny _ A.in1 (pyNext (.ref I) >>= _) _ _ s;refine Ab (W.done s _ _ AH λ s' hm=>?_);refine Ac (hR s' xs (hm.mono more) (keepS hSw (λ e he=>?_) hm hS) hU);obtain⟨j,_,h2,_⟩:=hU.own e he;exact λ z=>B_ j e.2 h2 (more _ z)
 | succ k ih=>
  intro i s xs hk hi AH hS hT hU hR;have Al:i<n:=by lia
  refine codeAny_builtin F.entry_set_update_loop ?_;rw[Around.under_plainId F.plain_set_update_loop _];show wpAny _ A.in1 (pyNext (.ref I) >>= _) _ _ s;refine Ab (W.item i s _ _ Al AH λ v s1 hPv hst1 hm=>?_);have hv:=hP i v hPv;have T1:pj prog w s1.heap its rows:=hT.at λ j b hj o e=>hm.heap b o (λ z=>B_ j b hj (more _ z)) e;obtain⟨b,r,rfl,hr,hb⟩:=T1 i v hv;have S1:uf prog w s1.heap Sa xs led:=keepS hSw (λ e he=>by
   obtain⟨j,_,h2,_⟩:=hU.own e he;exact λ z=>B_ j e.2 h2 (more _ z)) hm hS
  have hl:xs.length<70:=by have:=hU.len hS.nd;lia
  show wpAny _ A.in1 (holding [Value.ref b] (setAdd Sa (.ref b)) >>= _) _ _ s1;refine Ab (wpAny_holding ?_);unfold setAdd;refine wpAny_holding (Ab ((rk prog w).pyHash (k:=r) (a:=b) (A:=A.in1) hu hb ?_));refine Lb (s:={ s1 with toks:=s1.toks+(rk prog w).draws r }) (A:=A.in1) hu S1 hb hl λ h' xs' rr sb S' hx=>?_;have fr:=W.frame (i+1) s1 h' (s1.toks+(rk prog w).draws r) hst1 (Ce _ _) λ c hc o e=>(sb.2 c (λ z:c=Sa=>hSf (z▸hc))).trans e;refine Ac ⟨plainId_quiet F.plain_set_update_loop _,ih (i+1) _ xs' (by lia) Al fr S' (T1.at λ j c hj o e=>?_) (hU.step hv hr hx) λ s2 xs2 hm2 S2 U2=>?_⟩
  .exact (sb.2 c (λ z=>B_ j c hj (z▸Am))).trans e
  .refine hR s2 xs2 (Moved.trans W.gtrans ((hm.mono more).then_heap (Ce _ _) λ c o hc e=>?_) hm2) S2 U2;exact (sb.2 c (λ z=>hc (z▸Am))).trans e
end
section
variable {prog:Program}{w:World}{A:Around}{E:Value->Shared->Prop}{s:Shared}
set_option maxHeartbeats 6400000 in
def M7 {l:Addr}{its:Array Value}{rows:List (List Int)}{Q:Value->Shared->Prop}(hh:A.handled=none) (hu:A.units+64<cLine) (hl:s.heap.IsList l its) (hT:pj prog w s.heap its rows) (hn:its.size<70)
  (h:∀ (h':Heap) (tk:Nat) xs,uf prog w h' s.heap.objs.size xs (vV w)->Up its rows its.size xs->(∀ b o,b<s.heap.objs.size->s.heap.get? b=some o->h'.get? b=some o)->Q (.ref s.heap.objs.size) { s with heap:=h',toks:=tk }):
  wpAny (model prog w) A (call (.type "set") [.ref l]) Q E s:=by
 obtain⟨c,tl,EA⟩:=F.called_set.mro;have made:=F.called_set.made;have subm:=F.called_set.sub;refine wpAny_call (codeAny_of_tree ?_);show wpAny _ _ (callAny (.type "set") _) _ _ _;refine Ac ⟨Code.quiet_builtin _ (by decide +kernel),codeAny_builtin F.entry_type_call ?_⟩;rw[Around.under_plain (weight_type_call_type "set" [.ref l] []) rfl];have nt:=F.called_set.notType;have cc:=F.called_set.canCreate;have tc:=F.typeCall_set_1 (.ref l)
 repeat (any_goals (first | assumption | wp_step))
 refine codeAny_mono (Xu (.ref l) (E:=E) (Q:=λ obj s₁=>obj=.ref s.heap.objs.size/\s₁={ s with heap:=s.heap.push (xo w) }) ⟨rfl,rfl⟩) λ r s₁ hr=>?_;cases r with
 | error e=>exact hr
 | ok fl=>
  cases fl with
  | ret obj=>
   obtain⟨rfl,rfl⟩:=hr;have hS:(s.heap.push (xo w)).get? s.heap.objs.size=some (xo w):=AF _ rfl;have hTy:Shared.TypeIs { s with heap:=s.heap.push (xo w) } (.ref s.heap.objs.size) "set":=⟨_,hS,rfl⟩
   have li:=F.called_set.init.lookup;have bi:=F.called_set.init.bind (.ref s.heap.objs.size)
   repeat (any_goals (first | assumption | wp_step))
   let s1:Shared:={ s with heap:=s.heap.push (xo w) }
   refine codeAny_mono (codeAny_call_builtin (R:=wants (λ r s₂=>r=.none/\∃ h' tk xs,s₂={ s with heap:=h',toks:=tk }/\uf prog w h' s.heap.objs.size xs (vV w)/\Up its rows its.size xs/\
     ∀ b o,b<s.heap.objs.size->s.heap.get? b=some o->h'.get? b=some o) E) F.called_set.init.plain F.entry_set_init (check_set_init_1 hTy ?_)) λ r₂ s₂ hr₂=>?_
   .obtain⟨⟨ocls,odict,odata,oslots⟩,Dm,AM,nl,Cp⟩:=id hl;simp only at AM Cp;subst AM Cp;have hol1:(s.heap.push (xo w)).get? l=some { cls:=.type "list",dict:=odict,data:=.seq its nl,slots:=oslots }:=An _ Dm;have sls:=F.sub_list_set;have slf:=F.sub_list_frozenset;have nd:(Value.type "list" == Value.type "dict")=false:=by decide
    have hl1:(s.heap.push (xo w)).IsList l its:=⟨_,hol1,rfl,nl,rfl⟩
    unfold Builtin.«set.__init__» noKeywords Builtin.Frozenset.updateFrom;generalize hPI:pyIter=PI;unfold xo at *
    wp_walk
    subst hPI;refine wpAny_pyIter_list hl1 (Ab (wpAny_runValue ?_));have hlS:l<s.heap.objs.size:=Ao Dm;have hsz:(s.heap.push (xo w)).objs.size=s.heap.objs.size+1:=Heap.size_push _ _;have hneI:l≠(s.heap.push (xo w)).objs.size:=by rw[hsz];exact Ax (Bv hlS)
    have szne:s.heap.objs.size≠(s.heap.push (xo w)).objs.size:=by rw[hsz];exact Ax (Cz _)
    have low:∀ b:Addr,b<s.heap.objs.size->b≠(s.heap.push (xo w)).objs.size:=λ b hb=>by rw[hsz];exact Ax (Bv hb)
    have tin:∀ (i:Nat) b,its[i]?=some (.ref b)->b<s.heap.objs.size:=λ i b hb=>by
     obtain⟨b',r,e,_,o,_,_,ho,_⟩:=hT i _ hb;cases e;exact Ao ho
    refine PY (A:=A.in1.in1) (P:=λ i v=>its[i]?=some v) ((Walks.list (A:=A.in1.in1.in1) (by simp[hh]) _ l hneI its).toS) s.heap.objs.size ?_ (its:=its) (rows:=rows) (λ _ _ q=>q) hn (show A.units+1+1+1<cLine by lia) (vV w) ?_ its.size 0 _ [] (by lia) (AN _)
     ⟨⟨_,AF _ rfl,rfl,rfl⟩,hl1.push _⟩ (Ud (w:=w) (An _ hS)) (hT.at λ i b _ o e=>An _ (An _ e)) ⟨λ e he=>(by cases he),λ j r hj=>(by lia)⟩ ?_
    .intro hm;rcases Ah.mp hm with q | q
     .exact szne q
     .exact BW hlS (AO.mp q)
    .intro i b hb hm;have Al:=tin i b hb;rcases Ah.mp hm with q | q
     .exact Ax Al q
     .exact low b Al (AO.mp q)
    .intro s' xs' hm S' U';obtain⟨h',g',d',tk',os'⟩:=s';obtain rfl:g'=s.gens:=hm.gens;obtain rfl:d'=s.drawn:=hm.drawn;obtain rfl:os'=s.os:=hm.os;refine Ac (Ac ⟨rfl,h',tk',xs',rfl,S',U',λ b o hb e=>?_⟩);refine hm.heap b o (λ q=>?_) (An _ (An _ e));rcases Ah.mp q with q | q
     .exact Ax hb q
     .exact low b hb (AO.mp q)
   .cases r₂ with
    | error e=>exact hr₂
    | ok fl₂=>
     cases fl₂ with
     | ret r=>
      obtain⟨rfl,h',tk,xs,rfl,g1,g2,g3⟩:=hr₂
      repeat (any_goals (first | assumption | wp_step))
      exact h h' tk xs g1 g2 g3
     | _=>exact hr₂.elim
  | _=>exact hr.elim
end
end ST
namespace ST
open PySem PySem.SetTable
section facts
def Zx:Manifest.owners.lookup (String.ofList ['r','o','t','a','r','e','t','i','_','t','e','s'].reverse)=some Manifest.sig_set_iterator:=by kernel_rfl
def pQ:Slot "set_iterator" "__next__" "set_iterator.__next__":=
 .of (owner:="set_iterator") (n:="__next__") (by rw[typeLookup_type,builtinLookup_eq_fast];kernel_rfl) (by decide +kernel) (by decide +kernel) (by decide +kernel) (by first | exact .inl (by decide +kernel) | exact .inr (by decide +kernel)) (by rw[isSubtype_type];kernel_rfl)
def YN:entryFor table "set_iterator.__next__"=some Builtin.«set_iterator.__next__»:=entryFor_of_tree (by kernel_rfl)
def XJ (a:Value):argsOk "set_iterator.__next__" ⟨[a],[]⟩:=by
 unfold argsOk;rw[signature?_of (id:="set_iterator.__next__") (n:=['_','_','t','x','e','n','_','_']) (o:=['r','o','t','a','r','e','t','i','_','t','e','s']) (by kernel_rfl) Zx]
 kernel_rfl
def NI:entryFor table "set.__iter__"=some Builtin.«frozenset.__iter__»:=entryFor_alias (id':="frozenset.__iter__") (by kernel_rfl) rfl (by decide +kernel) (by kernel_rfl)
def aw:Slot "set_iterator" "__iter__" "set_iterator.__iter__":=
 .of (owner:="set_iterator") (n:="__iter__") (by rw[typeLookup_type,builtinLookup_eq_fast];kernel_rfl) (by decide +kernel) (by decide +kernel) (by decide +kernel) (by first | exact .inl (by decide +kernel) | exact .inr (by decide +kernel)) (by rw[isSubtype_type];kernel_rfl)
def NH:entryFor table "set_iterator.__iter__"=some Builtin.«dict_keyiterator.__iter__»:=entryFor_alias (id':="dict_keyiterator.__iter__") (by kernel_rfl) rfl (by decide +kernel) (by kernel_rfl)
def MW (a:Value):argsOk "set_iterator.__iter__" ⟨[a],[]⟩:=by
 unfold argsOk;rw[signature?_of (id:="set_iterator.__iter__") (n:=['_','_','r','e','t','i','_','_']) (o:=['r','o','t','a','r','e','t','i','_','t','e','s']) (by kernel_rfl) Zx]
 kernel_rfl
end facts
theorem YK {α:Type}:∀ (l:List α) (i:Nat) (x:α),l[i]?=some x->l.Perm (x::l.eraseIdx i)
 | [],i,x,h=>by simp at h
 | y::l,0,x,h=>by simp at h;subst h;simp
 | y::l,i+1,x,h=>by
  have ih:=YK l i x (by simpa using h);rw[List.eraseIdx_cons_succ];exact (ih.cons y).trans (.swap x y _)
theorem Zf {α:Type}(next:Nat->Nat):∀ (f k:Nat) (left:List α) (out:Array α),left.length=f->(pickOrder.go next f k left out).toList.Perm (out.toList++left)
 | 0,k,left,out,h=>by
  cases left with
  | nil=>unfold pickOrder.go;simp
  | cons _ _=>simp at h
 | f+1,k,left,out,h=>by
  unfold pickOrder.go;have Al:next k%left.length<left.length:=C7 _ (by lia);rw[AG Al];dsimp only;refine (Zf next f (k+1) _ _ (by rw[List.length_eraseIdx_of_lt Al];lia)).trans ?_;rw[Array.toList_push,D4];exact (YK left _ _ (AG Al)).symm.append_left _
def Tp {α:Type}(next:Nat->Nat) (xs:Array α):(pickOrder next xs).toList.Perm xs.toList:=by
 unfold pickOrder;simpa using Zf next xs.size 0 xs.toList #[] (by simp)
noncomputable def comes (w:World) (a:Addr) (es:Array (Int×Value)) (ep:Nat):Array (Int×Value):=if w.params.followText "set-order"=true then pickOrder (w.params.setOrder a ep) es else es
def oJ (w:World) (a:Addr) (es:Array (Int×Value)) (ep:Nat):(comes w a es ep).toList.Perm es.toList:=by
 unfold comes;split
 .exact Tp _ _
 .exact .refl _
noncomputable def rV (a:Addr) (slot i n ep:Nat):Obj:={ cls:=.type "set_iterator",data:=.fields #[rawInt slot,rawInt i,.ref a,rawInt n,rawInt ep] }
noncomputable def slotAt (t:SetTable):Nat->Nat
 | 0=>0
 | i+1=>t.place.getD i 0+1
theorem MT {t:SetTable}(hr:tf t.place.toList):∀ i,i<=t.place.size->below t.place (slotAt t i)=i
 | 0,_=>by
  obtain⟨h1,h2,h3⟩:=j9 (xs:=t.place) (j:=0) hr;rcases Nat.eq_zero_or_pos (below t.place 0) with q | q
  .exact q
  .have:=h2 0 (by lia) q;lia
 | i+1,hi=>by
  have hd:t.place.getD i 0=t.place[i]:=eA (by lia);show below t.place (t.place.getD i 0+1)=i+1;rw[hd];obtain⟨h1,h2,h3⟩:=j9 (xs:=t.place) (j:=t.place[i] + 1) hr;have vd:∀ a b (ha:a<t.place.size) (hb:b<t.place.size),a<b->t.place[a]<t.place[b]:=λ a b ha hb C1=>by
   have r:=Cu.mp hr a b (by simpa using ha) (by simpa using hb) C1;rw[Ct,Ct] at r;exact r
  rcases DI (below t.place (t.place[i] + 1)) (i+1) with q | q | q
  .have:=h3 i (by lia) (by lia);lia
  .exact q
  .have a:=h2 (i+1) (by lia) q;have b:=vd i (i+1) (by lia) (by lia) (by lia);lia
structure vm (w:World) (h:Heap) (a:Addr) (es:Array (Int×Value)) (ep:Nat) (t:SetTable):Prop where
 get:h.get? a=some { cls:=.type "set",dict:=none,data:=.set es ep t }
 fits:t.fits es.size=true
 vd:tf t.place.toList
 led:t.led=vV w
 plain:t.plain=true
theorem vm.size {w:World}{h:Heap}{a:Addr}{es:Array (Int×Value)}{ep:Nat}{t:SetTable}(S:vm w h a es ep t):t.place.size=es.size:=by
 have:=S.fits;simp only[SetTable.fits,BP,beq_iff_eq] at this;exact this.1
section
variable {prog:Program}{w:World}{A:Around}{E:Value->Shared->Prop}{s:Shared}
def ZK {a:Addr}{es:Array (Int×Value)}{ep:Nat}{t:SetTable}{i:Nat}{Q:Option (Value×Nat)->Shared->Prop}(S:vm w s.heap a es ep t) (hi:i<=es.size) (slot:Nat) (hs:w.params.followText "set-order"=false->slot=slotAt t i)
  (h:∀ slot',(w.params.followText "set-order"=false->slot'=slotAt t (i+1))->Q ((comes w a es ep)[i]?.map λ e=>(e.2,slot')) s):wpAny (model prog w) A (setNext a slot i ep) Q E s:=by
 unfold setNext setsByText;refine Ab (wpAny_setState_of S.get rfl S.fits ?_);dsimp only;refine Ab (Ab (wpAny_askSetting (Ac ?_)));show wpAny _ A (if w.params.followText "set-order"=true then _ else _) Q E s;cases hb:w.params.followText "set-order" with
 | true=>
  rw[if_pos rfl,if_neg (by simp)];unfold setWalk setsByText;refine Ab (Ab (wpAny_setState_of S.get rfl S.fits ?_));dsimp only;refine Ab (Ab (wpAny_askSetting (Ac ?_)));show wpAny _ A (if w.params.followText "set-order"=true then _ else _) _ E s;rw[if_pos hb];refine Ab (wpAny_askSetting (Ac ?_));refine Ac ?_;have:=h slot (λ q=>by rw[hb] at q;cases q);unfold comes at this;rw[if_pos hb] at this;exact this
 | false=>
  rw[if_neg (by simp)];split
  .rename_i hd;have hd':(!t.plain&&decide (es.size>1))=true:=hd;rw[S.plain] at hd';simp at hd'
  .show wpAny _ A ((if (!t.led&&!es.isEmpty)=true then unsupported "set:maker-not-led" else pure ()) >>= _) Q E s;have hl:t.led=true:=by rw[S.led];unfold vV;rw[hb];rfl
   rw[if_neg (by rw[hl];simp)];refine Ab (Ac (Ac ?_));have A8:=hs hb;have hz:=S.size;rw[A8,MT S.vd i (by rw[hz];exact hi)];have:=h (slotAt t (i+1)) (λ _=>rfl);unfold comes at this;rw[if_neg (by rw[hb];simp)] at this;rcases A7 i es.size with q | q
   .have hp:i<t.place.size:=by rw[hz];exact q
    rw[Bk q] at this;rw[Bk q,Bk hp];have e:slotAt t (i+1)=t.place[i] + 1:=by show t.place.getD i 0+1=_;rw[eA hp]
    rw[e] at this;exact this
   .rw[CM q] at this;rw[CM q];exact this
def qR {a I:Addr}{slot i n ep:Nat}(ho:s.heap.get? I=some (rV a slot i n ep)):s.TypeIs (.ref I) "set_iterator":=⟨_,ho,rfl⟩
def bW (k:Nat):((k:Int)).toNat=k:=CL k
def Ub {I a:Addr}{es:Array (Int×Value)}{ep:Nat}{t:SetTable}{i slot:Nat}{e:Int×Value}{Q:Option Value->Shared->Prop}(ho:s.heap.get? I=some (rV a slot i es.size ep)) (S:vm w s.heap a es ep t) (hs:w.params.followText "set-order"=false->slot=slotAt t i) (he:(comes w a es ep)[i]?=some e)
  (hi:i<es.size) (h:∀ h' slot',(w.params.followText "set-order"=false->slot'=slotAt t (i+1))->h'.get? I=some (rV a slot' (i+1) es.size ep)->Heap.SameBut I s.heap h'->Q (some e.2) { s with heap:=h' }):wpAny (model prog w) A (pyNext (.ref I)) Q E s:=by
 unfold pyNext;refine Ab (wpAny_attempt (wpAny_callSpecial?_slot (name:=Str.ofString "__next__") (qR ho) pQ (wpAny_call_entry pQ (qR ho) YN ?_ (XJ _))));refine Ab (Ac ?_);dsimp only;refine Ab (wpAny_fieldsOf ho rfl ?_);dsimp only[rawInt];refine Ab (Ab (wpAny_setState_of S.get rfl S.fits (Ac ?_)));rw[if_neg (by simp)];refine Ab (ZK S (by lia) slot hs λ slot' hs'=>?_);rw[bW] at hs' ⊢;rw[he];dsimp only[Option.map_some];refine Ab (wpAny_setField ho rfl (by simp) ?_);have o1:=Heap.get?_update_self (Obj.mapFields (·.set! 0 (Value.int (slot':Int) 0))) ho rfl;refine Ab (wpAny_setField o1 rfl (by simp) ?_);have o2:=Heap.get?_update_self (Obj.mapFields (·.set! 1 (Value.int ((i:Int)+1) 0))) o1 rfl;refine Ac ⟨_,rfl,Ac (h _ slot' hs' o2 ((Heap.SameBut.update ..).trans (Heap.SameBut.update ..)))⟩
def Uc {I a:Addr}{es:Array (Int×Value)}{ep:Nat}{t:SetTable}{slot:Nat}{Q:Option Value->Shared->Prop}(hh:A.handled=none) (ho:s.heap.get? I=some (rV a slot es.size es.size ep)) (S:vm w s.heap a es ep t) (hs:w.params.followText "set-order"=false->slot=slotAt t es.size)
  (h:∀ h',Heap.ExtBut I s.heap h'->Q none { s with heap:=h' }):wpAny (model prog w) A (pyNext (.ref I)) Q E s:=by
 have hn:(comes w a es ep)[es.size]?=none:=by
  have:=(oJ w a es ep).length_eq;simp only[Bo] at this;rw[CM (by lia)]
 unfold pyNext;refine Ab (wpAny_attempt (wpAny_callSpecial?_slot (name:=Str.ofString "__next__") (qR ho) pQ (wpAny_call_entry pQ (qR ho) YN ?_ (XJ _))));refine Ab (Ac ?_);dsimp only;refine Ab (wpAny_fieldsOf ho rfl ?_);dsimp only[rawInt];refine Ab (Ab (wpAny_setState_of S.get rfl S.fits (Ac ?_)));rw[if_neg (by simp)];refine Ab (ZK S (by simp) slot (by simpa using hs) λ slot' hs'=>?_);rw[bW,hn];dsimp only[Option.map_none];refine Ab (wpAny_setField ho rfl (by simp) ?_);refine Ab ?_;simp only[newExc,newTuple];refine Ab (wpAny_newObj_type ?_ (by size_fits));refine Ab (m:=firstArgMember _ _) (wpAny_of_eq (a:=Value.none) (by first | rfl | (simp only[firstArgMember];rfl)) (wpAny_newObj_type ?_ (by size_fits)));unfold raiseNew;refine Ab (wpAny_handled ?_);rw[show A.in1.handled=none from hh];refine Ab ((Ac (wpAny_throw ?_)));refine Ab ((wpAny_isInstance (T:="StopIteration") (b:=true) ⟨_,AF _ rfl,rfl⟩ isSubtype_stop ?_));exact Ac (h _ (((Heap.SameBut.update ..).extBut.push _).push _))
def Ua {I a:Addr}{slot i n ep:Nat}{Q:Value->Shared->Prop}(ho:s.heap.get? I=some (rV a slot i n ep)) (h:Q (.ref I) s):wpAny (model prog w) A (pyIter (.ref I)) Q E s:=by
 refine wpAny_pyIter_slot (qR ho) aw (wpAny_call_entry aw (qR ho) NH ?_ (MW _));exact Ac ⟨_,rfl,"set_iterator",_,qR ho,pQ.lookup,h⟩
def vm.keep {h h':Heap}{a:Addr}{es:Array (Int×Value)}{ep:Nat}{t:SetTable}(S:vm w h a es ep t) (k:∀ o,h.get? a=some o->h'.get? a=some o):vm w h' a es ep t:=⟨k _ S.get,S.fits,S.vd,S.led,S.plain⟩
def WX (hh:A.handled=none) (I a:Addr) (Ai:a≠I) (es:Array (Int×Value)) (ep:Nat) (t:SetTable):
  Walks prog w A I [I,a] [I] es.size (λ i v=>∃ e,(comes w a es ep)[i]?=some e/\v=e.2) (λ i h=>(∃ slot,(w.params.followText "set-order"=false->slot=slotAt t i)/\h.get? I=some (rV a slot i es.size ep))/\vm w h a es ep t) where
 sub:=λ b hb=>by simp at hb;simp[hb]
 frame:=λ _ _ _ st k=>by
  obtain⟨⟨slot,h1,h2⟩,S⟩:=st;exact⟨⟨slot,h1,k I (by simp) _ h2⟩,S.keep λ o e=>k a (by simp) o e⟩
 item:=λ i s Q E hi st hQ=>by
  obtain⟨⟨slot,h1,h2⟩,S⟩:=st;have hl:i<(comes w a es ep).size:=by
   have:=(oJ w a es ep).length_eq;simp only[Bo] at this;lia
  refine Ub h2 S h1 (Bk hl) hi λ h' slot' g1 g2 g3=>?_;exact hQ _ h' s.toks ⟨_,Bk hl,rfl⟩ ⟨⟨slot',g1,g2⟩,S.keep λ o e=>(g3.2 a Ai).trans e⟩ λ b o hb e=>(g3.2 b (λ z=>hb (by simp[z]))).trans e
 done:=λ s Q E st hQ=>by
  obtain⟨⟨slot,h1,h2⟩,S⟩:=st;exact Uc hh h2 S h1 λ h' g=>hQ h' s.toks λ b o hb e=>g b o (λ z=>hb (by simp[z])) e
 self:=λ _ _ _ _ st hQ=>by
  obtain⟨⟨slot,h1,h2⟩,S⟩:=st;exact Ua h2 hQ
end
section
variable {prog:Program}{w:World}{A:Around}{E:Value->Shared->Prop}{s:Shared}
def Oa:typeLookup (.type "set") "__len__"=pure (some (.builtin "set.__len__")):=F.slot_set_len.lookup
def split_len:splitId "set.__len__"=some ("set","__len__"):=by decide +kernel
def Pr {a:Addr}{es:Array (Int×Value)}{ep:Nat}{t:SetTable}{Q:Bool->Shared->Prop}(S:vm w s.heap a es ep t) (h:Q false s):wpAny (model prog w) A (setDrawn a) Q E s:=by
 unfold setDrawn setsByText;refine Ab (wpAny_setState_of S.get rfl S.fits ?_);dsimp only;refine Ab (Ab (wpAny_askSetting (Ac (Ac ?_))));show Q (!w.params.followText "set-order"&&(!t.plain&&decide (es.size>1))) s;rw[S.plain];simpa using h
set_option maxHeartbeats 4000000 in
def Pw {a:Addr}{es:Array (Int×Value)}{ep:Nat}{t:SetTable}{Q:Bool->Shared->Prop}(S:vm w s.heap a es ep t) (h:Q false s):wpAny (model prog w) A (Builtin.List.listLengthHint (.ref a)) Q E s:=by
 have Ty:s.TypeIs (.ref a) "set":=⟨_,S.get,rfl⟩
 unfold Builtin.List.listLengthHint;refine Ab (wpAny_specialOf Ty Oa ?_);dsimp only;rw[split_len];dsimp only;refine Ab (wpAny_isInstance (b:=true) Ty sub_set_self ?_);rw[if_neg (by decide)];rw[if_pos (by decide +kernel)];refine Ab (wpAny_typeOf Ty ?_);exact Ac h
set_option maxHeartbeats 4000000 in
def Mn {a:Addr}{es:Array (Int×Value)}{ep:Nat}{t:SetTable}{Q:List Value->Shared->Prop}(hh:A.handled=none) (S:vm w s.heap a es ep t) (hn:es.size<=sizeLine)
  (h:∀ (h':Heap) (tk:Nat),(∀ b o,b<s.heap.objs.size->s.heap.get? b=some o->h'.get? b=some o)->s.heap.objs.size<=h'.objs.size->Q ((comes w a es ep).toList.map (·.2)) { s with heap:=h',toks:=tk }):wpAny (model prog w) A (collect (.ref a)) Q E s:=by
 have ha:a<s.heap.objs.size:=Ao S.get;unfold collect;refine Ab (wpAny_runValue (codeAny_builtin F.entry_proto_collect ?_));rw[Around.under_plainId F.plain_proto_collect _];show wpAny _ A.in1 (newList [] >>= λ l=>again (.builtin "list.__iadd__" ⟨[l,.ref a],[]⟩)) _ _ s;refine Ab (wpAny_newObj_type (Ac ⟨plainId_quiet F.plain_list_iadd _,codeAny_builtin F.entry_list_iadd ?_⟩));rw[Around.under_plainId F.plain_list_iadd _]
 let L0:Obj:={ cls:=.type "list",data:=.seq ([]:List Value).toArray }
 have S1:vm w (s.heap.push L0) a es ep t:=S.keep λ o e=>An _ e;have T1:Shared.TypeIs { s with heap:=s.heap.push L0 } (.ref a) "set":=⟨_,S1.get,rfl⟩
 show wpAny _ A.in1 (Builtin.List.listExtendWith (.ref s.heap.objs.size) (.ref a) (.ref s.heap.objs.size)) _ _ { s with heap:=s.heap.push L0 };unfold Builtin.List.listExtendWith;refine Ab (wpAny_typeOf T1 ?_);have Ai:s.heap.objs.size≠a:=BW ha;have c1:Builtin.List.listSameRef (.ref s.heap.objs.size) (.ref a)=false:=by simp[Builtin.List.listSameRef,Ai]
 rw[if_neg (by rw[c1];decide)];refine Ab (wpAny_pyIter_slot T1 F.slot_set_iter (wpAny_call_entry F.slot_set_iter T1 NI ?_ (F.args_set_iter_1 _)));refine Ab (Ab (Ac (Ac ?_)));refine Ab (Ab (Ab (wpAny_setState_of S1.get rfl S1.fits (Ac (Ac ?_)))));refine Ab (Pr S1 ?_);rw[if_neg (by decide)];refine Ab (Ac ?_);refine Ab (wpAny_setEpoch_of S1.get rfl S1.fits ?_);refine Ab (wpAny_newObj_type (Ac ⟨_,rfl,"set_iterator",_,⟨_,AF _ rfl,rfl⟩,pQ.lookup,?_⟩))
 let I:=(s.heap.push L0).objs.size
 let h2:=(s.heap.push L0).push (rV a 0 0 es.size ep)
 have S2:vm w h2 a es ep t:=S1.keep λ o e=>An _ e;have hI:h2.get? I=some (rV a 0 0 es.size ep):=AF _ rfl;have hL:h2.get? s.heap.objs.size=some L0:=An _ (AF _ rfl);have hsz:(s.heap.push L0).objs.size=s.heap.objs.size+1:=Heap.size_push _ _;show wpAny _ A.in1 _ _ _ { s with heap:=h2 };refine Ab (wpAny_holding (Pw (s:={ s with heap:=h2 }) S2 ?_));rw[if_pos (by decide +kernel)];refine Ab (wpAny_rule ?_);refine Ab ?_;show wpAny _ A.in1 (updateSeq s.heap.objs.size (·.push .none) >>= λ _=>updateSeq s.heap.objs.size (·.pop)) _ _ { s with heap:=h2 };refine Ab (wpAny_updateSeq hL rfl ?_);have hL2:=Heap.get?_update_self (Obj.mapSeq (·.push Value.none)) hL rfl;refine wpAny_updateSeq hL2 rfl ?_;have hL3:=Heap.get?_update_self (Obj.mapSeq (·.pop)) hL2 rfl
 let h3:=(h2.update s.heap.objs.size (Obj.mapSeq (·.push Value.none))).update s.heap.objs.size (Obj.mapSeq (·.pop))
 have oth:∀ b o,b≠s.heap.objs.size->h2.get? b=some o->h3.get? b=some o:=λ b o hb e=>(Heap.get?_update_other _ _ (Ne.symm hb)).trans ((Heap.get?_update_other _ _ (Ne.symm hb)).trans e);have haI:a≠I:=by show a≠(s.heap.push L0).objs.size;rw[hsz];exact Ax (Bv ha)
 have hIn:I≠s.heap.objs.size:=by show (s.heap.push L0).objs.size≠_;rw[hsz];exact BW (Cz _)
 refine Ac ⟨plainId_quiet F.plain_extend_loop _,codeAny_extend_loopS ((WX (A:=A.in1) hh I a haI es ep t).toS) hn s.heap.objs.size ?_ _ es.size 0 { s with heap:=h3 } #[] _ rfl (AN _) ⟨⟨0,λ _=>rfl,oth I _ hIn hI⟩,S2.keep λ o e=>oth a o (Ne.symm Ai) e⟩ hL3 (ItemsOf.nil _) λ s' acc c' hm hS' AQ=>?_⟩
 .intro hm;rcases Ah.mp hm with q | q
  .exact hIn q.symm
  .exact Ai (AO.mp q)
 .refine Ab (wpAny_load hS' (Ac ?_));obtain⟨h',g',d',tk',os'⟩:=s';obtain rfl:g'=s.gens:=hm.gens;obtain rfl:d'=s.drawn:=hm.drawn;obtain rfl:os'=s.os:=hm.os;have hcm:(comes w a es ep).size=es.size:=by
   have:=(oJ w a es ep).length_eq;simpa using this
  have e:acc.toList=(comes w a es ep).toList.map (·.2):=by
   refine List.ext_getElem? λ j=>?_;rw[Aw];rcases A7 j es.size with q | q
   .have Dq:j<acc.size:=by rw[AQ.1];exact q
    have hj:acc[j]?=some acc[j]:=Bk Dq;obtain⟨e,e1,e2⟩:=AQ.2 j _ hj;rw[Bx,Bx,hj,e1,e2];rfl
   .rw[Bx,Bx,CM (by rw[AQ.1];exact q),CM (by rw[hcm];exact q)];rfl
  rw[e];refine h h' tk' (λ b o hb e=>hm.heap b o (λ q=>?_) (oth b o (Ax hb) (An _ (An _ e)))) ?_
  .rcases Ah.mp q with q | q
   .exact Ax hb q
   .have q':b=(s.heap.push L0).objs.size:=AO.mp q;rw[hsz] at q';exact Ax (Bv hb) q'
  .exact BE (Ao hS')
end
end ST
namespace ST
open PySem PySem.SetTable PyProof.Rows L4
section
variable {prog:Program}{w:World}{A:Around}{E:Value->Shared->Prop}{s:Shared}
def af {a:Addr}{es:Array (Int×Value)}{ep:Nat}{t:SetTable}{Q:Value->Shared->Prop}{Out:Array Value->Prop}(hh:A.handled=none) (S:vm w s.heap a es ep t) (hz:es.size<=sizeLine)
  (core:∀ s6:Shared,2<=es.size->(∀ b o,s.heap.get? b=some o->s6.heap.get? b=some o)->Core prog w A.in1.in1 E ((comes w a es ep).toList.map (·.2)) Out s6) (short:es.size<2->Out ((comes w a es ep).toList.map (·.2)).toArray)
  (fin:∀ (out:Array Value) (h':Heap) (tk l:Nat),Out out->out.size=es.size->s.heap.objs.size<=l->(∀ b o,s.heap.get? b=some o->h'.get? b=some o)->(∃ e,h'.get? l=some (seqObj "list" out e))->Q (.ref l) { s with heap:=h',toks:=tk }):
  wpAny (model prog w) A (call (.builtin "sorted") [.ref a]) Q E s:=by
 have AM:((comes w a es ep).toList.map (·.2)).length=es.size:=by
  have:=(oJ w a es ep).length_eq;rw[Az,this,Bo]
 refine Calls.call_function_entry kind_sorted plain_sorted entry_sorted (args_sorted1 _) ?_;unfold Builtin.«sorted»;refine Ab (m:=checkCount "sorted" 1 1 _) (Ac (Ab (Mn (A:=A.in1) hh S hz λ h1 tk k1 k2=>Ab (wpAny_newList ?_ (by rw[AM];exact hz)))));generalize hvs:(comes w a es ep).toList.map (·.2)=vs at *;have hoL:(h1.push (seqObj "list" vs.toArray 0)).get? h1.objs.size=some (seqObj "list" vs.toArray 0):=AF _ rfl;have k3:∀ b o,s.heap.get? b=some o->h1.get? b=some o:=λ b o q=>k1 b o (Ao q) q;show wpAny _ _ _ _ _ { s with heap:=h1.push (seqObj "list" vs.toArray 0),toks:=tk };refine Ab (wpAny_holding (wpAny_call_entry slot_list_sort ⟨_,hoL,rfl⟩ entry_list_sort (fK hoL (by rw[AM];exact hz) (λ h2 s6 k=>core s6 (by rw[<- AM];exact h2) λ b o q=>k b o ?_ (An _ (k3 b o q))) (λ h2=>short (by rw[<- AM];exact h2)) λ out g1 g2=>⟨_,rfl,?_⟩) (args_list_sort _)))
 .exact Ax (Bb (Ao q) k2)
 .refine Ac ⟨_,rfl,fin out _ tk h1.objs.size g1 (by rw[g2,AM]) k2 (λ b o q=>?_) (sortedHeap_at (n:=0) hoL)⟩;have Al:b<h1.objs.size:=Ao (k3 b o q);rw[sortedHeap_old (Ax Al) (by rw[size_push'];exact Bv Al),Heap.get?_push_ne _ _ _ (Ax Al)];exact k3 b o q
end
end ST
namespace ST
open PySem PySem.SetTable PySem.Spec PyProof.Rows L2
def xa (w:World) (a:Addr) (us:List Value):Heap->Prop:=λ h=>∃ es ep t,vm w h a es ep t/\es.toList.map (·.2)=us
def xa.sk {w:World}{a:Addr}{us:List Value}{h1 h2:Heap}(S:xa w a us h1) (k:∀ o,h1.get? a=some o->h2.get? a=some o):xa w a us h2:=by
 obtain⟨es,ep,t,S,e⟩:=S;exact⟨es,ep,t,S.keep k,e⟩
def uf.at {prog:Program}{w:World}{h:Heap}{a:Addr}{xs:List (List Int×Addr)}(S:uf prog w h a xs (vV w)):xa w a (xs.map λ e=>Value.ref e.2) h:=by
 obtain⟨⟨es,ep,t,ho,X,h1,h2,h3⟩,_⟩:=S;exact⟨es,ep,t,⟨ho,X.fits,X.tab.vd,h1,h2⟩,by rw[X.es,AW];rfl⟩
section
variable {X:Cx}
abbrev jC (K:Ad) (H:Hp) (ys:List V) (rows:List (List Int)):Prop:=Paired (λ v r=>r≠[]/\∃ b,v=V.ref b/\ye K H b (r.map V.int)) ys rows
theorem Yj:∀ {ns:List Int}{us:List Value},Vals (ns.map V.int) us->∀ {prog:Program}{w:World},ItemsAre (intKind prog w) ns us
 | [],_,.nil,_,_=>.nil
 | n::ns,_,.cons r t,prog,w=>by
  obtain⟨tk,rfl⟩:=r;exact .cons (intKind_is _ _ _ _) (Yj t)
structure p7 (ys:List V) (rows:List (List Int)) (vs:List V) (rs:List (List Int)):Prop where
 sub:∀ (i:Nat) v r,vs[i]?=some v->rs[i]?=some r->∃ (j:Nat),ys[j]?=some v/\rows[j]?=some r
 len:vs.length=rs.length
 nd:rs.Nodup
 all:∀ r∈rows,r∈rs
def M4 (hc:X.calm=true) (hu:X.A.units+64<cLine):yU X (.type "set") (λ xs H Q=>∃ p ys,∃ rows:List (List Int),xs=[.ref p]/\zZ X.K H p ys/\jC X.K H ys rows/\rows.length<64/\
  ∀ (l:Addr) (us:List Value) (vs:List V) (rs:List (List Int)),H l=none->Vals vs us->p7 ys rows vs rs->Q (.ref l) (upd H l (.ext (xa X.w l us)))):=by
 intro pins s B H xs us Q I r h;obtain⟨p,ys,rows,rfl,hq,hr,h64,q⟩:=h;obtain⟨u,rfl,ru⟩:=vals1 r;cases ru;obtain⟨its,rv,pl,hz⟩:=I.list hq;have hl:=rv.length;have Co:ys.length=rows.length:=Paired.length hr;have tu:pj X.prog X.w s.heap its.toArray rows:=λ i v hv=>by
  have hv':its[i]?=some v:=by simpa using hv
  have hi:i<its.length:=(AL.mp hv').1;obtain⟨Ai,b,hb,BH⟩:=L4.Paired.at' hr (i:=i) (by lia) V.zh ([]:List Int);have hy:ys[i]?=some (V.ref b):=by
   rw[AG (by lia)];have:ys.getD i V.zh=ys[i]'(by lia):=by simp[show i<ys.length by lia]
   rw[this] at hb;rw[hb]
  obtain⟨v',e1,e2⟩:=rv.get hy;rw[hv'] at e1;cases e1;cases (show v=Value.ref b from e2);obtain⟨its2,rv2,⟨o,e,AM,n,hd⟩,_⟩:=I.tuple BH;refine⟨b,rows.getD i [],rfl,?_,o,its2.toArray,n,e,AM,hd,by simpa using Yj rv2⟩;simp[show i<rows.length by lia]
 have hh:X.A.handled=none:=I.ok.hd hc;refine M7 (A:=X.A) hh hu pl.isList tu (by rw[Aq];lia) λ h' tk xs S U k=>?_;have kk:∀ b o,s.heap.get? b=some o->h'.get? b=some o:=λ b o e=>k b o (Ao e) e;have A1:H s.heap.objs.size=none:=I.zC.fresh (Ag _);have hSO:=S.at;have vals:Vals (xs.map λ e=>V.ref e.2) (xs.map λ e=>Value.ref e.2):=by
  clear S U hSO
  induction xs with
  | nil=>exact .nil
  | cons e xs ih=>exact .cons rfl ih
 refine⟨.ref s.heap.objs.size,_,I.laid (t':=tk) (o:=.ext (xa X.w s.heap.objs.size (xs.map λ e=>Value.ref e.2))) kk (Ag _) ?_,rfl,q _ _ (xs.map λ e=>V.ref e.2) (xs.map (·.1)) A1 vals ⟨λ i v r hv hr'=>?_,by simp,S.nd,λ r hr'=>?_⟩⟩
 .obtain⟨es,ep,t,St,e⟩:=id hSO;exact⟨hSO,⟨_,St.get⟩,λ h1 h2 S1 k=>S1.sk k⟩
 .rw[Aw] at hv hr';obtain⟨e,e1,rfl⟩:=AA hv;rw[e1] at hr';cases hr';obtain⟨j,j1,j2,j3⟩:=U.own e (AX e1);refine⟨j,?_,j3⟩;have hj':its[j]?=some (Value.ref e.2):=by simpa using j2
  have Dq:j<ys.length:=by rw[hl];exact (AL.mp hj').1
  obtain⟨v',e2,e3⟩:=rv.get (AG Dq);rw[hj'] at e2;cases e2;obtain⟨Ai,b,hb,_⟩:=L4.Paired.at' hr (i:=j) (by lia) V.zh ([]:List Int);have:ys.getD j V.zh=ys[j]:=by simp[Dq]
  rw[this] at hb;rw[hb] at e3;cases (show Value.ref e.2=Value.ref b from e3);rw[AG Dq,hb]
 .obtain⟨j,hj⟩:=DE.mp hr';exact U.all j r (by have:=(AL.mp hj).1;rw[Aq];lia) hj
theorem Paired.mk {α β:Type}{F:α->β->Prop}:∀ {l:List α}{m:List β},l.length=m.length->(∀ (i:Nat) a b,l[i]?=some a->m[i]?=some b->F a b)->Paired F l m
 | [],[],_,_=>.nil
 | a::l,b::m,h,f=>.cons (f 0 a b rfl rfl) (Paired.mk (by simpa using h) λ i x y hx hy=>f (i+1) x y (by simpa using hx) (by simpa using hy))
 | [],_::_,h,_=>by simp at h
 | _::_,[],h,_=>by simp at h
def M1 (hc:X.calm=true):yU X (.builtin "sorted") (λ xs H Q=>∃ l us vs,∃ rs:List (List Int),xs=[.ref l]/\H l=some (.ext (xa X.w l us))/\Vals vs us/\jC X.K H vs rs/\rs.length<64/\
  ∀ (p:Addr) (idx:List Nat),H p=none->idx.Perm (List.range vs.length)->(idx.map λ i=>rs.getD i []).Pairwise (λ a b=>HT.lexLt b a=false)->Q (.ref p) (upd H p (.lst (idx.map λ i=>vs.getD i .zh)))):=by
 intro pins s B H xs us0 Q I r h;obtain⟨l,us,vs,rs,rfl,hl,hv,hr,h64,q⟩:=h;obtain⟨u,rfl,ru⟩:=vals1 r;cases ru;obtain⟨⟨es,ep,t,S,eu⟩,-,-⟩:=(show x8 X.prog X.w H s.heap l (.ext (xa X.w l us)) from I.zC l _ hl)
 have hlen:es.size=us.length:=by rw[<- eu];simp
 have hvl:=hv.length;have hrl:vs.length=rs.length:=Paired.length hr;have hh:X.A.handled=none:=I.ok.hd hc;obtain⟨ix,ix1,ix2⟩:∃ ix:List Nat,ix.Perm (List.range us.length)/\(comes X.w l es ep).toList.map (·.2)=ix.map λ i=>us.getD i Value.none:=by
  have hp:((comes X.w l es ep).toList.map (·.2)).Perm us:=by rw[<- eu];exact (oJ X.w l es ep).map _
  generalize (comes X.w l es ep).toList.map (·.2)=cs at hp;clear eu hl hv hvl hlen
  induction hp with
  | nil=>exact⟨[],.refl _,rfl⟩
  | @cons x a b _ ih=>
   obtain⟨ix,i1,i2⟩:=ih;refine⟨0::ix.map (· + 1),?_,?_⟩
   .rw[AY,C8];exact (i1.map _).cons 0
   .rw[Ar,AW,i2];rfl
  | @swap x y a=>
   refine⟨1::0::(List.range a.length).map (· + 2),?_,?_⟩
   .rw[AY,AY,C8,C8,Ar,AW];exact .swap _ _ _
   .rw[Ar,Ar,AW];refine congrArg _ (congrArg _ ?_);refine BB (by simp) λ i h1 h2=>?_;simp[h1]
  | @trans a b c _ _ ih1 ih2=>
   obtain⟨i1,p1,e1⟩:=ih1;obtain⟨i2,p2,e2⟩:=ih2;have BQ:b.length=c.length:=by rw[e2,Az,p2.length_eq];simp
   refine⟨i1.map λ i=>i2.getD i 0,?_,?_⟩
   .refine (p1.map _).trans ?_;have e:(List.range b.length).map (λ i=>i2.getD i 0)=i2:=by
     have hl2:i2.length=b.length:=by rw[p2.length_eq,BQ];simp
     rw[<- hl2];refine BB (by simp) λ i h1 h2=>?_;simp[h2]
    rw[e];exact p2
   .rw[e1,AW];refine CN λ i hi=>?_;have hi':i<b.length:=by simpa using p1.mem_iff.mp hi
    have hl2:i<i2.length:=by rw[p2.length_eq,<- BQ];simpa using hi'
    show b.getD i _=c.getD (i2.getD i 0) _;rw[e2];simp[hl2]
 have Be:∀ i∈ix,i<us.length:=λ i hi=>by simpa using ix1.mem_iff.mp hi
 have rows_at:∀ h6:Heap,(∀ b o,s.heap.get? b=some o->h6.get? b=some o)->L4.ra h6 ((comes X.w l es ep).toList.map (·.2)) (ix.map λ i=>rs.getD i []):=λ h6 k=>by
  rw[ix2];refine Paired.mk (by simp) λ j a b ha hb=>?_;rw[Aw] at ha hb;obtain⟨i,hi,rfl⟩:=AA ha;rw[hi] at hb;cases hb;have CW:=Be i (AX hi);obtain⟨Ai,b,hbv,BH⟩:=L4.Paired.at' hr (i:=i) (by lia) V.zh ([]:List Int);obtain⟨u',e1,e2⟩:=hv.get (i:=i) (x:=vs.getD i V.zh) (by simp[show i<vs.length by lia]);rw[hbv] at e2;cases (show u'=Value.ref b from e2);obtain⟨its2,rv2,⟨o,e,AM,n,hd⟩,_⟩:=I.tuple BH;have eg:us.getD i Value.none=Value.ref b:=by simp[e1]
  refine⟨Ai,b,o,its2.toArray,n,eg,k _ _ e,AM,hd,by simpa using intsAre_of rv2⟩
 have AM:((comes X.w l es ep).toList.map (·.2)).length=us.length:=by rw[ix2,Az,ix1.length_eq];simp
 refine af (Out:=L4.lE ((comes X.w l es ep).toList.map (·.2)) (ix.map λ i=>rs.getD i [])) hh S (by rw[hlen];have:sizeLine=16777216:=rfl;lia) (λ s6 h2 k=>L4.eV (rows_at _ k) (by rw[AM,<- hlen];exact h2) (by rw[AM];lia)) (λ h1=>?_) λ out h' tk p ho hs hp k Cq=>?_
 .refine⟨List.range ((comes X.w l es ep).toList.map (·.2)).length,.refl _,?_,?_⟩
  .refine BB (by simp) λ i h1 h2=>?_;simp at h2;simp[h2]
  .rw[Cf,Cu];intro i j hi hj A3;rw[AM] at hi hj;simp at hi hj;lia
 .obtain⟨idx,g1,g2,g3⟩:=ho;obtain⟨e,he⟩:=Cq;rw[AM] at g1;have A1:H p=none:=I.zC.fresh hp;have Dt:∀ i∈idx,i<us.length:=λ i hi=>by simpa using g1.mem_iff.mp hi
  have hxl:ix.length=us.length:=by rw[ix1.length_eq];simp
  let jx:=idx.map λ i=>ix.getD i 0
  have hjp:jx.Perm (List.range vs.length):=by
   rw[hvl];refine (g1.map _).trans ?_;have e:(List.range us.length).map (λ i=>ix.getD i 0)=ix:=by
    rw[<- hxl];refine BB (by simp) λ i h1 h2=>?_;simp[h2]
   rw[e];exact ix1
  have hjr:(jx.map λ i=>rs.getD i [])=idx.map λ i=>(ix.map λ i=>rs.getD i []).getD i []:=by
   rw[AW];refine CN λ i hi=>?_;have:=Dt i hi;simp[show i<ix.length by lia]
  refine⟨.ref p,_,I.laid (t':=tk) (o:=.lst (jx.map λ i=>vs.getD i .zh)) k hp ?_,rfl,q p jx A1 hjp (by rw[hjr];exact g3)⟩;refine⟨by rw[Az,hjp.length_eq,Bz];have:sizeLine=16777216:=rfl;lia,out.toList,e,?_,by simpa using he⟩;rw[g2,ix2];refine Paired.mk (by simp[jx]) λ j a b ha hb=>?_;rw[Aw] at ha hb;obtain⟨i,hi,rfl⟩:=AA hb;simp only[jx,Aw,hi,Option.map_some,Option.some.injEq] at ha;have CW:=Dt i (AX hi);have hx:ix.getD i 0<us.length:=by
   have:ix.getD i 0∈ix:=by simp[show i<ix.length by lia]
   exact Be _ this
  obtain⟨u',e1,e2⟩:=hv.get (i:=ix.getD i 0) (x:=vs.getD (ix.getD i 0) V.zh) (by
   have hx':ix.getD i 0<vs.length:=by lia
   generalize ix.getD i 0=q at hx';rw[AK,AG hx'];rfl)
  subst ha;have e3:(ix.map λ i=>us.getD i Value.none).getD i Value.none=u':=by
   simp[show i<ix.length by lia] at e1 ⊢;simp[e1]
  rw[e3];exact e2
end
end ST
namespace L5
open PySem PySem.Spec L2 L3
open PyProof.Rows hiding St
noncomputable def wU:List (List Int)->List (List Int)
 | []=>[]
 | r::rs=>if r∈wU rs then wU rs else r::wU rs
theorem ou {r:List Int}:∀ {rs:List (List Int)},r∈wU rs↔r∈rs
 | []=>.rfl
 | x::rs=>by
  unfold wU;split
  .rename_i h;rw[ou,Ah];exact⟨.inr,λ h'=>h'.elim (λ e=>e▸ou.mp h) id⟩
  .rw[Ah,Ah,ou]
theorem f6:∀ rs:List (List Int),(wU rs).Nodup
 | []=>.nil
 | x::rs=>by
  unfold wU;split
  .exact f6 rs
  .rename_i h;exact Bg.mpr ⟨h,f6 rs⟩
theorem k_:∀ rs:List (List Int),(wU rs).length<=rs.length
 | []=>Ag _
 | x::rs=>by
  unfold wU;have:=k_ rs;split <;> simp only[AY] <;> lia
def uU:wa:=λ ds S Q=>match ds with
 | [.tup _]=>False
 | [d]=>∃ rows:List (List Int),zU d S=some (rows.map wG)/\rows.length<64/\(∀ r∈rows,r≠[])/\∀ l,S l=none->Q (.ref l) (ups S l (.lst ((L4.wg (wU rows)).map wG)))
 | _=>False
noncomputable def k6:List T->Option T
 | [.lst ts]=>(uq ts).bind λ rs=>if rs.length<64/\∀ r∈rs,r≠[] then some (.lst ((L4.wg (wU rs)).map y7)) else none
 | _=>none
def Nc:ui zJ k6 uU:=λ S Z ys z ds Q hz hv e hq=>by
 unfold k6 at e;split at e
 .obtain⟨d,rfl,h1⟩:=vQ hv;obtain⟨rs,e1,e2⟩:=Aj e;split at e2
  .rename_i hc;cases e2;cases gI e1;obtain⟨es,h2,h3⟩:=h1.seq rfl;cases pP.mp h3;have key:∃ rows:List (List Int),zU d S=some (rows.map wG)/\rows.length<64/\(∀ r∈rows,r≠[])/\∀ l,S l=none->Q (.ref l) (ups S l (.lst ((L4.wg (wU rows)).map wG))):=
    ⟨rs,h2,hc.1,hc.2,λ l hl=>hq _ _ (.new hl _) (t5 hz hl (pP.mpr rfl))⟩
   obtain⟨_,q | ⟨a,q,_⟩,_⟩:=h1.lst
   .subst q;exact key
   .subst q;exact key
  .cases e2
 .cases e
section
variable {X:Cx}{K:Ad}{e:Expr}{tA:yD}{pos pos2 p p2:Pos}
def uU.mo:uh uU:=λ ds S Q Q' hq h=>by
 unfold uU at h ⊢;split at h
 .exact h.elim
 .obtain⟨rows,h1,h2,h3,h4⟩:=h;exact⟨rows,h1,h2,h3,λ l hl=>hq _ _ (h4 l hl)⟩
 .exact h.elim
def zq.pick {H:Hp}{ys vs:List V}{rows rs:List (List Int)}(h:zq K H (rows.map wG) ys) (P:ST.p7 ys rows vs rs):zq K H (rs.map wG) vs:=by
 have key:∀ (vs:List V) (rs:List (List Int)),vs.length=rs.length->(∀ (i:Nat) v r,vs[i]?=some v->rs[i]?=some r->∃ (j:Nat),ys[j]?=some v/\rows[j]?=some r)->zq K H (rs.map wG) vs:=by
  intro vs
  induction vs with
  | nil=>intro rs hl _;cases rs with
   | nil=>exact .nil
   | cons _ _=>simp at hl
  | cons v vs ih=>intro rs hl hp;cases rs with
   | nil=>simp at hl
   | cons r rs=>
    refine .cons ?_ (ih rs (by simpa using hl) λ i v r hv hr=>hp (i+1) v r (by simpa using hv) (by simpa using hr));obtain⟨j,j1,j2⟩:=hp 0 v r rfl rfl;obtain⟨x,e1,e2⟩:=h.get (i:=j) (d:=wG r) (by rw[Aw,j2];rfl);rw[j1] at e1;cases e1;exact e2
 exact key vs rs P.len P.sub
def p7.mem {ys vs:List V}{rows rs:List (List Int)}(P:ST.p7 ys rows vs rs) {r:List Int}:r∈rs↔r∈rows:=by
 refine⟨λ h=>?_,P.all r⟩;obtain⟨i,hi⟩:=DE.mp h;have hl:i<vs.length:=by rw[P.len];exact (AL.mp hi).1
 obtain⟨j,_,j2⟩:=P.sub i _ r (AG hl) hi;exact AX j2
def uU.fits {w:World}:tm K uU (λ xs H Q=>∃ p ys,∃ rows:List (List Int),xs=[.ref p]/\zZ K H p ys/\ST.jC K H ys rows/\rows.length<64/\
  ∀ (l:Addr) (us:List Value) (vs:List V) (rs:List (List Int)),H l=none->Vals vs us->ST.p7 ys rows vs rs->
   ∃ l' us' vs',∃ rs':List (List Int),[V.ref l]=[.ref l']/\(upd H l (.ext (ST.xa w l us))) l'=some (.ext (ST.xa w l' us'))/\Vals vs' us'/\ST.jC K (upd H l (.ext (ST.xa w l us))) vs' rs'/\rs'.length<64/\
    ∀ (p:Addr) (idx:List Nat),(upd H l (.ext (ST.xa w l us))) p=none->idx.Perm (List.range vs'.length)->(idx.map λ i=>rs'.getD i []).Pairwise (λ a b=>HT.lexLt b a=false)->Q (.ref p) (upd (upd H l (.ext (ST.xa w l us))) p (.lst (idx.map λ i=>vs'.getD i .zh)))):=λ xs ds H S Q h0 h2 h=>by
 unfold uU at h;split at h
 .exact h.elim
 .rename_i d hn;obtain⟨x,hx,h1⟩:=h0.one;subst hx;obtain⟨rows,e,h64,Ai,h⟩:=h;obtain⟨a,ys,rfl,g1,g2⟩:=sA h1 h2 e (λ ts z=>hn ts z);refine⟨a,ys,rows,rfl,g1,nV g2 Ai,h64,λ l us vs rs hf hv P=>?_⟩;have g3:=zq.pick g2 P;have x1:Ext H (upd H l (.ext (ST.xa w l us))):=.new hf _;have Dk:rs.Perm (wU rows):=(D6 P.nd (f6 rows)).mpr λ r=>by rw[p7.mem P,ou]
  refine⟨l,us,vs,rs,rfl,yK,hv,nV (zq.ext x1 _ g3) λ r hr=>Ai r ((p7.mem P).mp hr),by rw[Dk.length_eq];have:=k_ rows;lia,λ p idx hp hi hs=>?_⟩;rw[P.len] at hi;have heq:=L4.ag ((ZR hi).trans Dk) hs;have Au:p≠l:=λ z=>by subst z;rw[yK] at hp;cases hp
  have hpH:H p=none:=by rw[yV Au] at hp;exact hp
  have x2:Ext (upd H l (.ext (ST.xa w l us))) (upd (upd H l (.ext (ST.xa w l us))) p (.lst (idx.map λ i=>vs.getD i .zh))):=.new hp _;have r1:zT K (upd H l (.ext (ST.xa w l us))) S:=h2.new hf;refine h p (h2.none hpH) _ _ (by simp only[zk]) (x1.trans x2) (r1.ups x2 ⟨_,yK,?_⟩);rw[<- heq];exact zq.ext (x1.trans x2) _ (zq.perm g3 λ i h=>by simpa using hi.mem_iff.mp h)
 .exact h.elim
end
end L5
namespace ST
open PySem PySem.SetTable PyProof.Rows
theorem Y5 {t:SetTable}{hs:List Int}(T:Tab t hs) (h:Int):∀ (f k K:Nat),k<=K->K<k+f->(way t.mask h K).j∉t.place.toList->(∀ m<K,(way t.mask h m).j∈t.place.toList)->probe.go t (λ _=>h+1) h f (way t.mask h k)=some (.empty (way t.mask h K).j none)
 | 0,k,K,h1,h2,_,_=>by lia
 | f+1,k,K,h1,h2,h3,h4=>by
  by_cases e:k=K
  .subst e;unfold probe.go;rw[T.empty h3,ij]
  .obtain⟨i,g,p1,_⟩:=T.at (h4 k (by lia));have ih:=Y5 T h f (k+1) K (by lia) (by lia) h3 h4
   conv=>lhs;unfold probe.go
   rw[T.live p1];dsimp only;rw[if_neg (by intro q;have:=eq_of_beq q;lia),d7];exact ih
def Nz {t:SetTable}{hs:List Int}(T:Tab t hs) (hl:hs.length<=t.mask) (h:Int):∃ j,t.freeSlot h=some (j,false)/\c6 t h j:=by
 obtain⟨K,k1,k2,k3⟩:=T.first hl h;refine⟨(way t.mask h K).j,?_,⟨k2,K,rfl,k3⟩⟩;have g:=Y5 T h (10*turns t.mask) 0 K (AN _) (by unfold turns;lia) k2 k3;unfold SetTable.freeSlot;have e:t.probe (λ _=>h+1) h (t.probeStart h)=some (.empty (way t.mask h K).j none):=g;rw[e];rfl
structure ug (prog:Program) (w:World) (h:Heap) (a:Addr) (xs:List (Int×Tok)) (led:Bool):Prop where
 ex:∃ es ep t,h.get? a=some { cls:=.type "set",dict:=none,data:=.set es ep t }/\es.toList=xs.map (λ e=>((intKind prog w).hash e.1,Value.int e.1 e.2))/\Tab t (xs.map λ e=>(intKind prog w).hash e.1)/\t.led=led/\t.plain=true/\xs.length*5<t.mask*3
 nd:(xs.map (·.1)).Nodup
section
variable {prog:Program}{w:World}{A:Around}{E:Value->Shared->Prop}{s:Shared}
def fits_of {es:Array (Int×Value)}{t:SetTable}{hs:List Int}{n:Nat}(h1:es.size=n) (T:Tab t hs) (h2:hs.length=n) (h3:n<=t.mask):t.fits es.size=true:=by
 have l:=T.len;unfold SetTable.fits SetTable.fill;rw[T.r_,h1,l,h2];simp;lia
def mB {n m:Int}{t:Tok}:(intKind prog w).is n (.int m t)=true↔n=m:=by
 constructor
 .intro h;obtain⟨t',e⟩:=Value.isInt_shape (show Value.isInt n (.int m t)=true from h);cases e;rfl
 .rintro rfl;exact intKind_is _ _ _ _
def NJ {es:Array (Int×Value)}{xs:List (Int×Tok)}(h:es.toList=xs.map (λ e=>((intKind prog w).hash e.1,Value.int e.1 e.2))):ElemsOf (intKind prog w) es.toList:=λ e he=>by
 rw[h] at he;obtain⟨x,_,rfl⟩:=Ap.mp he;exact⟨⟨x.1,mB.mpr rfl,rfl⟩,rfl⟩
def UB {es:Array (Int×Value)}{t:SetTable}{xs:List (Int×Tok)}{M wanted:Nat}(he:es.toList=xs.map (λ e=>((intKind prog w).hash e.1,Value.int e.1 e.2))) (hM:vM M) (hw:sizeAbove wanted=M+1) (AJ:xs.length*5<M*3):
  ∃ es' t',∃ xs':List (Int×Tok),relayAll t es wanted=(es',t',false)/\es'.toList=xs'.map (λ e=>((intKind prog w).hash e.1,Value.int e.1 e.2))/\xs'.Perm xs/\Tab t' (xs'.map λ e=>(intKind prog w).hash e.1)/\t'.mask=M/\t'.led=t.led/\t'.plain=t.plain/\es'.size=es.size:=by
 have hlen:es.size=xs.length:=by have:=congrArg List.length he;simpa using this
 have EG:(es.map (·.1)).toList=xs.map λ e=>(intKind prog w).hash e.1:=by rw[Array.toList_map,he,AW];rfl
 have hsz:(es.map (·.1)).size=xs.length:=by rw[C_,hlen]
 obtain⟨t',order,h1,h2,h3,h4,h5,h6,h7⟩:=Ye hM t.finger (t.movedTo M) t.led t.plain (es.map (·.1)) (by rw[hsz];lia);rw[hsz] at h6;have Al:∀ k∈order.toList,k<xs.length:=λ k hk=>by simpa using h6.mem_iff.mp hk
 have hr:t.relaid (es.map (·.1)) wanted=some (t',order):=by
  unfold SetTable.relaid;rw[hw,Nat.add_sub_cancel];exact h1
 have BI:(order.filterMap (es[·]?)).toList=(order.toList.filterMap λ k=>xs[k]?).map λ e=>((intKind prog w).hash e.1,Value.int e.1 e.2):=by
  rw[Array.toList_filterMap,List.map_filterMap];congr 1;funext k;rw[<- Bx,he,Aw]
 have hperm:(order.toList.filterMap λ k=>xs[k]?).Perm xs:=(h6.filterMap _).trans (by rw[List.filterMap_getElem?_range_length]);have BG:(order.filterMap (es[·]?)).size=es.size:=by
  rw[<- Bo,BI,Az,hperm.length_eq,hlen]
 have hT:Tab t' ((order.toList.filterMap λ k=>xs[k]?).map λ e=>(intKind prog w).hash e.1):=by
  rw[<- gX xs (λ e=>(intKind prog w).hash e.1) 0 order.toList Al,<- EG];exact h7
 refine⟨_,t',_,?_,BI,hperm,hT,h2,h4,h5,BG⟩;have zM:coversAll order es.size=true:=by
  unfold coversAll;rw[List.isPerm_iff,hlen];exact h6
 have fit:t'.fits (order.filterMap (es[·]?)).size=true:=fits_of (n:=xs.length) (by rw[BG,hlen]) hT (by rw[Az,hperm.length_eq]) (by rw[h2];lia);unfold relayAll;rw[hr];dsimp only;rw[zM,fit];rfl
def add_int {a:Addr}{xs:List (Int×Tok)}{n:Int}{tk:Tok}{led:Bool}{Q:Bool->Shared->Prop}(S:ug prog w s.heap a xs led) (hn:xs.length<70)
  (h:∀ h' xs' r,Heap.SameBut a s.heap h'->ug prog w h' a xs' led->(n∈xs.map (·.1)/\xs'=xs\/n∉xs.map (·.1)/\xs'.Perm (xs++[(n,tk)]))->Q r { s with heap:=h' }):
  wpAny (model prog w) A (setAddHashed a (.int n tk) ((intKind prog w).hash n)) Q E s:=by
 have S0:=S;obtain⟨⟨es,ep,t,ho,he,T,Bs,Au,AJ⟩,Cb⟩:=S;have hlen:es.size=xs.length:=by have:=congrArg List.length he;simpa using this
 have hm7:7<=t.mask/\t.mask<=127:=by rcases T.mask with e | e | e <;> lia
 have fit:t.fits es.size=true:=fits_of (n:=xs.length) hlen T (by simp) (by lia);have hel:=NJ (prog:=prog) (w:=w) he;unfold setAddHashed setAddHashedIn;refine wpAny_holding (Ab (wpAny_setState_of ho rfl fit ?_));dsimp only;have bs:byScan (.int n tk) es=true:=by
  have h1:decide (es.size<scanBound)=true:=decide_eq_true (by unfold scanBound;lia);have h2:es.all (·.2.scannable)=true:=by
   rw[Array.all_eq_true_iff_forall_mem];intro e hm;exact (hel e (by simpa using hm)).2
  unfold byScan;rw[h1,h2];rfl
 rw[if_pos bs];refine Ab ?_;unfold setAddByScan;refine Ab (wpAny_rule (Ab (wpAny_setScan_of (k:=n) (mB.mpr rfl) ho rfl fit hel ?_)));have hfind:(es.toList.findIdx? (λ e=>(intKind prog w).is n e.2)).isSome=true↔n∈xs.map (·.1):=by
  rw[he,List.findIdx?_isSome,AR];constructor
  .rintro⟨e,hm,q⟩;obtain⟨x,hx,rfl⟩:=Ap.mp hm;exact Ap.mpr ⟨x,hx,(mB.mp q).symm⟩
  .intro hm;obtain⟨x,hx,rfl⟩:=Ap.mp hm;exact⟨_,Ap.mpr ⟨x,hx,rfl⟩,mB.mpr rfl⟩
 cases hc:es.toList.findIdx? (λ e=>(intKind prog w).is n e.2) with
 | some j=>
  dsimp only;have hm:=hfind.mp (by rw[hc];rfl);refine Ac ?_;dsimp only;exact Ac (h s.heap xs false ⟨rfl,λ _ _=>rfl⟩ S0 (.inl ⟨hm,rfl⟩))
 | none=>
  dsimp only;have hm:n∉xs.map (·.1):=λ q=>by have:=hfind.mpr q;rw[hc] at this;cases this
  obtain⟨j,fs,F⟩:=Nz T (by rw[Az];lia) ((intKind prog w).hash n);obtain⟨p1,p2,p3⟩:=T.put F;rw[Az] at p1;have B8:(t.put j).1.plain=true:=by rw[p2];exact Au
  have Cc:(t.put j).1.mask=t.mask:=by rw[p2]
  have Al:(t.put j).1.led=led:=by rw[p2];exact Bs
  generalize hT:(t.put j)=P at *;obtain⟨t1,p⟩:=P;dsimp only at *
  let xs1:=xs.take p++(n,tk)::xs.drop p
  have hperm:xs1.Perm (xs++[(n,tk)]):=by
   have e:xs.take p++xs.drop p=xs:=D8 p xs;have:xs1.Perm ((n,tk)::(xs.take p++xs.drop p)):=List.perm_middle;rw[e] at this;exact this.trans (List.perm_append_singleton _ _).symm
  have hl1:xs1.length=xs.length+1:=by rw[hperm.length_eq];simp
  have hes1:(insertAt es p ((intKind prog w).hash n,Value.int n tk)).toList=xs1.map λ e=>((intKind prog w).hash e.1,Value.int e.1 e.2):=by
   rw[toList_insertAt,he];simp[xs1,DD,DC]
  have hsz1:(insertAt es p ((intKind prog w).hash n,Value.int n tk)).size=xs.length+1:=by rw[<- Bo,hes1,Az,hl1]
  have T1:Tab t1 (xs1.map λ e=>(intKind prog w).hash e.1):=by
   have:xs1.map (λ e=>(intKind prog w).hash e.1)=(xs.map λ e=>(intKind prog w).hash e.1).take p++(intKind prog w).hash n::(xs.map λ e=>(intKind prog w).hash e.1).drop p:=by simp[xs1,DD,DC]
   rw[this];exact p3
  have fit1:t1.fits (insertAt es p ((intKind prog w).hash n,Value.int n tk)).size=true:=fits_of (n:=xs.length+1) hsz1 T1 (by rw[Az,hl1]) (by rw[Cc];lia);have Dp:layNew t es ((intKind prog w).hash n) (.int n tk)=(insertAt es p ((intKind prog w).hash n,Value.int n tk),t1,false,false):=by
   unfold layNew;rw[fs];dsimp only;rw[hT];dsimp only;unfold SetTable.orStandIn;rw[fit1];rfl
  have A8:(insertAt es p ((intKind prog w).hash n,Value.int n tk)).size<=sizeLine:=by
   rw[hsz1];have:sizeLine=16777216:=rfl;lia
  have hnd1:(xs1.map (·.1)).Nodup:=by
   refine (hperm.map _).nodup_iff.mpr ?_;rw[Bh,D5];refine⟨Cb,by simp,λ x hx y hy=>?_⟩;simp at hy;subst hy;exact λ e=>hm (e▸hx)
  have ho1:=kN (es':=insertAt es p ((intKind prog w).hash n,Value.int n tk)) (t':=t1) ho;have sb:=Heap.SameBut.update s.heap a (Obj.putSet (insertAt es p ((intKind prog w).hash n,Value.int n tk)) t1);have hfill:t1.fill=xs.length+1:=by
   have l:=T1.len;rw[Az,hl1] at l;unfold SetTable.fill;rw[T1.r_,l];simp
  rw[Dp];dsimp only;refine Ab (m:=pure ()) (Ac ?_);rw[B8];simp only[if_true];refine Ab (m:=pure true) (Ac ?_);simp only[if_true];refine Ab (wpAny_storeSet_of ho rfl ?_ A8);by_cases hf:t1.tooFull=true
  .rw[hf];simp only[AD,DN,if_true];have hfull:t.mask*3<=(xs.length+1)*5:=by
    have:=hf;unfold SetTable.tooFull at this;rw[hfill,Cc] at this;simpa using this
   obtain⟨M',g1,g2,g3⟩:=ax xs.length t.mask T.mask AJ hfull hn;obtain⟨es2,t2,xs2,r1,r2,r3,r4,r5,r6,r7,r8⟩:=UB (prog:=prog) (w:=w) (t:=t1) hes1 g1 (wanted:=grown (insertAt es p ((intKind prog w).hash n,Value.int n tk)).size) (by rw[hsz1];exact g2) (by rw[hl1];exact g3);rw[r1];dsimp only;refine Ab (m:=pure ()) (Ac (Ab (wpAny_storeSet_of ho1 rfl ?_ (by rw[r8];exact A8))));refine Ac ?_;dsimp only;refine Ac (h _ xs2 true (sb.trans (Heap.SameBut.update _ a _)) ⟨⟨es2,ep+1+1,t2,kN ho1,r2,r4,by rw[r6];exact Al,by rw[r7];exact B8,by rw[r3.length_eq,hl1,r5];exact g3⟩,(r3.map _).nodup_iff.mpr hnd1⟩ (.inr ⟨hm,r3.trans hperm⟩))
  .have hf':t1.tooFull=false:=by simpa using hf
   rw[hf'];simp only[AD,Cg,Ba,if_false];have hfull:(xs.length+1)*5<t.mask*3:=by
    have:=hf';unfold SetTable.tooFull at this;rw[hfill,Cc] at this;simpa using this
   refine Ac ?_;dsimp only;exact Ac (h _ xs1 true sb ⟨⟨_,ep+1,t1,ho1,hes1,T1,Al,B8,by rw[hl1,Cc];exact hfull⟩,hnd1⟩ (.inr ⟨hm,hperm⟩))
end
structure sZ (its:Array Value) (ns:List Int) (i:Nat) (xs:List (Int×Tok)):Prop where
 own:∀ e∈xs,∃ j,j<i/\ns[j]?=some e.1
 all:∀ (j:Nat) r,j<i->ns[j]?=some r->r∈xs.map (·.1)
theorem f9:∀ (l m:List Int),l.Nodup->(∀ x∈l,x∈m)->l.length<=m.length
 | [],m,_,_=>AN _
 | x::l,m,hn,hs=>by
  have h1:=Bg.mp hn;have hx:=hs x Am;have:=f9 l (m.erase x) h1.2 λ z hz=>(Ea (λ e:z=x=>h1.1 (by rw[<- e];exact hz))).mpr (hs z (Av _ hz));rw[D_ hx] at this;have:=D9 hx;simp only[AY];lia
def sZ.len {its:Array Value}{ns:List Int}{i:Nat}{xs:List (Int×Tok)}(U:sZ its ns i xs) (nd:(xs.map (·.1)).Nodup):xs.length<=i:=by
 have:=f9 (xs.map (·.1)) ((List.range i).map λ j=>ns.getD j 0) nd λ x hx=>by
  obtain⟨e,he,rfl⟩:=Ap.mp hx;obtain⟨j,h1,h3⟩:=U.own e he;exact Ap.mpr ⟨j,AE.mpr h1,by rw[AK,h3];rfl⟩
 simpa using this
def sZ.step {its:Array Value}{ns:List Int}{i:Nat}{xs xs':List (Int×Tok)}{n:Int}{t:Tok}(U:sZ its ns i xs) (hr:ns[i]?=some n)
  (h:n∈xs.map (·.1)/\xs'=xs\/n∉xs.map (·.1)/\xs'.Perm (xs++[(n,t)])):sZ its ns (i+1) xs':=by
 have eqi:∀ j:Nat,j<i+1->¬ j<i->j=i:=λ j a b=>by lia
 rcases h with ⟨hm,rfl⟩ | ⟨_,hp⟩
 .refine⟨λ e he=>?_,λ j r hj Bl=>?_⟩
  .obtain⟨j,h1,h2⟩:=U.own e he;exact⟨j,Bv h1,h2⟩
  .by_cases q:j<i
   .exact U.all j r q Bl
   .rw[eqi j hj q,hr] at Bl;cases Bl;exact hm
 .refine⟨λ e he=>?_,λ j r hj Bl=>?_⟩
  .rcases AU.mp (hp.mem_iff.mp he) with q | q
   .obtain⟨j,h1,h2⟩:=U.own e q;exact⟨j,Bv h1,h2⟩
   .cases AO.mp q;exact⟨i,Cz i,hr⟩
  .rw[(hp.map (·.1)).mem_iff,Bh];by_cases q:j<i
   .exact Cj _ (U.all j r q Bl)
   .rw[eqi j hj q,hr] at Bl;cases Bl;exact AZ _ Am
def Nums (its:Array Value) (ns:List Int):Prop:=∀ (i:Nat) v,its[i]?=some v->∃ n t,v=.int n t/\ns[i]?=some n
section
variable {prog:Program}{w:World}{A:Around}{R:Result->Shared->Prop}{I:Addr}{fp wr:List Addr}{G:Array GenState->Array GenState->Prop}{n:Nat}{P:Nat->Value->Prop}{St:Nat->Shared->Prop}
def ug.keep {h h':Heap}{a:Addr}{xs:List (Int×Tok)}{led:Bool}(S:ug prog w h a xs led) (k:∀ o,h.get? a=some o->h'.get? a=some o):ug prog w h' a xs led:=
 let ⟨⟨es,ep,t,ho,r⟩,nd⟩:=S;⟨⟨es,ep,t,k _ ho,r⟩,nd⟩
def PZ (W:WalksS prog w A.in1 I fp wr G n (λ i v=>P i v) St) (Sa:Addr) (hSf:Sa∉fp) {its:Array Value}{ns:List Int}(hP:∀ i v,P i v->its[i]?=some v) (hn:n<70) (led:Bool) (hN:Nums its ns):
  ∀ (k i:Nat) (s:Shared) (xs:List (Int×Tok)),n-i=k->i<=n->St i s->ug prog w s.heap Sa xs led->sZ its ns i xs->
   (∀ s' xs',Moved (Sa::wr) G s s'->ug prog w s'.heap Sa xs' led->sZ its ns n xs'->R (.ok (.ret .none)) s')->
   codeAny (model prog w) A (.builtin "set.update.loop" ⟨[.ref Sa,.ref I],[]⟩) R s:=by
 have hSw:Sa∉wr:=λ z=>hSf (W.sub _ z);have more:∀ b∈wr,b∈Sa::wr:=λ b hb=>Av _ hb;intro k
 induction k with
 | zero=>
  intro i s xs hk hi AH hS hU hR;have e:i=n:=by lia
  subst e;refine codeAny_builtin F.entry_set_update_loop ?_;rw[Around.under_plainId F.plain_set_update_loop _];show wpAny _ A.in1 (pyNext (.ref I) >>= _) _ _ s;exact Ab (W.done s _ _ AH λ s' hm=>Ac (hR s' xs (hm.mono more) (hS.keep λ o e=>hm.heap _ o hSw e) hU))
 | succ k ih=>
  intro i s xs hk hi AH hS hU hR;have Al:i<n:=by lia
  refine codeAny_builtin F.entry_set_update_loop ?_;rw[Around.under_plainId F.plain_set_update_loop _];show wpAny _ A.in1 (pyNext (.ref I) >>= _) _ _ s;refine Ab (W.item i s _ _ Al AH λ v s1 hPv hst1 hm=>?_);obtain⟨m,t,rfl,hr⟩:=hN i v (hP i v hPv);have S1:ug prog w s1.heap Sa xs led:=hS.keep λ o e=>hm.heap _ o hSw e;have hl:xs.length<70:=by have:=hU.len hS.nd;lia
  show wpAny _ A.in1 (holding [Value.int m t] (setAdd Sa (.int m t)) >>= _) _ _ s1;refine Ab (wpAny_holding ?_);unfold setAdd;refine wpAny_holding (Ab ((intKind prog w).pyHash (A:=A.in1) (k:=m) (mB.mpr rfl) ?_));refine add_int (s:={ s1 with toks:=s1.toks+1 }) (A:=A.in1) S1 hl λ h' xs' rr sb S' hx=>?_;have fr:=W.frame (i+1) s1 h' (s1.toks+1) hst1 (Ce _ _) λ c hc o e=>(sb.2 c (λ z:c=Sa=>hSf (z▸hc))).trans e;refine Ac ⟨plainId_quiet F.plain_set_update_loop _,ih (i+1) _ xs' (by lia) Al fr S' (hU.step hr hx) λ s2 xs2 hm2 S2 U2=>?_⟩;refine hR s2 xs2 (Moved.trans W.gtrans ((hm.mono more).then_heap (Ce _ _) λ c o hc e=>?_) hm2) S2 U2;exact (sb.2 c (λ z=>hc (z▸Am))).trans e
end
section
variable {prog:Program}{w:World}{A:Around}{E:Value->Shared->Prop}{s:Shared}
def Ue {h:Heap}{a:Addr}(ho:h.get? a=some (xo w)):ug prog w h a [] (vV w):=
 ⟨⟨#[],0,_,ho,rfl,⟨.inl rfl,rfl,rfl,.nil,λ j hj=>(by cases hj),λ i g j hg=>(by cases hg)⟩,rfl,rfl,by show 0*5<7*3;lia⟩,.nil⟩
set_option maxHeartbeats 6400000 in
def M6 {l:Addr}{its:Array Value}{ns:List Int}{Q:Value->Shared->Prop}(hh:A.handled=none) (hl:s.heap.IsList l its) (hT:Nums its ns) (hn:its.size<70)
  (h:∀ (h':Heap) (tk:Nat) xs,ug prog w h' s.heap.objs.size xs (vV w)->sZ its ns its.size xs->(∀ b o,b<s.heap.objs.size->s.heap.get? b=some o->h'.get? b=some o)->Q (.ref s.heap.objs.size) { s with heap:=h',toks:=tk }):
  wpAny (model prog w) A (call (.type "set") [.ref l]) Q E s:=by
 obtain⟨c,tl,EA⟩:=F.called_set.mro;have made:=F.called_set.made;have subm:=F.called_set.sub;refine wpAny_call (codeAny_of_tree ?_);show wpAny _ _ (callAny (.type "set") _) _ _ _;refine Ac ⟨Code.quiet_builtin _ (by decide +kernel),codeAny_builtin F.entry_type_call ?_⟩;rw[Around.under_plain (weight_type_call_type "set" [.ref l] []) rfl];have nt:=F.called_set.notType;have cc:=F.called_set.canCreate;have tc:=F.typeCall_set_1 (.ref l)
 repeat (any_goals (first | assumption | wp_step))
 refine codeAny_mono (Xu (.ref l) (E:=E) (Q:=λ obj s₁=>obj=.ref s.heap.objs.size/\s₁={ s with heap:=s.heap.push (xo w) }) ⟨rfl,rfl⟩) λ r s₁ hr=>?_;cases r with
 | error e=>exact hr
 | ok fl=>
  cases fl with
  | ret obj=>
   obtain⟨rfl,rfl⟩:=hr;have hS:(s.heap.push (xo w)).get? s.heap.objs.size=some (xo w):=AF _ rfl;have hTy:Shared.TypeIs { s with heap:=s.heap.push (xo w) } (.ref s.heap.objs.size) "set":=⟨_,hS,rfl⟩
   have li:=F.called_set.init.lookup;have bi:=F.called_set.init.bind (.ref s.heap.objs.size)
   repeat (any_goals (first | assumption | wp_step))
   let s1:Shared:={ s with heap:=s.heap.push (xo w) }
   refine codeAny_mono (codeAny_call_builtin (R:=wants (λ r s₂=>r=.none/\∃ h' tk xs,s₂={ s with heap:=h',toks:=tk }/\ug prog w h' s.heap.objs.size xs (vV w)/\sZ its ns its.size xs/\
     ∀ b o,b<s.heap.objs.size->s.heap.get? b=some o->h'.get? b=some o) E) F.called_set.init.plain F.entry_set_init (check_set_init_1 hTy ?_)) λ r₂ s₂ hr₂=>?_
   .obtain⟨⟨ocls,odict,odata,oslots⟩,Dm,AM,nl,Cp⟩:=id hl;simp only at AM Cp;subst AM Cp;have hol1:(s.heap.push (xo w)).get? l=some { cls:=.type "list",dict:=odict,data:=.seq its nl,slots:=oslots }:=An _ Dm;have sls:=F.sub_list_set;have slf:=F.sub_list_frozenset;have nd:(Value.type "list" == Value.type "dict")=false:=by decide
    have hl1:(s.heap.push (xo w)).IsList l its:=⟨_,hol1,rfl,nl,rfl⟩
    unfold Builtin.«set.__init__» noKeywords Builtin.Frozenset.updateFrom;generalize hPI:pyIter=PI;unfold xo at *
    wp_walk
    subst hPI;refine wpAny_pyIter_list hl1 (Ab (wpAny_runValue ?_));have hlS:l<s.heap.objs.size:=Ao Dm;have hsz:(s.heap.push (xo w)).objs.size=s.heap.objs.size+1:=Heap.size_push _ _;have hneI:l≠(s.heap.push (xo w)).objs.size:=by rw[hsz];exact Ax (Bv hlS)
    have szne:s.heap.objs.size≠(s.heap.push (xo w)).objs.size:=by rw[hsz];exact Ax (Cz _)
    have low:∀ b:Addr,b<s.heap.objs.size->b≠(s.heap.push (xo w)).objs.size:=λ b hb=>by rw[hsz];exact Ax (Bv hb)
    refine PZ (A:=A.in1.in1) (P:=λ i v=>its[i]?=some v) ((Walks.list (A:=A.in1.in1.in1) (by simp[hh]) _ l hneI its).toS) s.heap.objs.size ?_ (its:=its) (ns:=ns) (λ _ _ q=>q) hn (vV w) hT its.size 0 _ [] (by lia) (AN _)
     ⟨⟨_,AF _ rfl,rfl,rfl⟩,hl1.push _⟩ (Ue (w:=w) (An _ hS)) ⟨λ e he=>(by cases he),λ j r hj=>(by lia)⟩ ?_
    .intro hm;rcases Ah.mp hm with q | q
     .exact szne q
     .exact BW hlS (AO.mp q)
    .intro s' xs' hm S' U';obtain⟨h',g',d',tk',os'⟩:=s';obtain rfl:g'=s.gens:=hm.gens;obtain rfl:d'=s.drawn:=hm.drawn;obtain rfl:os'=s.os:=hm.os;refine Ac (Ac ⟨rfl,h',tk',xs',rfl,S',U',λ b o hb e=>?_⟩);refine hm.heap b o (λ q=>?_) (An _ (An _ e));rcases Ah.mp q with q | q
     .exact Ax hb q
     .exact low b hb (AO.mp q)
   .cases r₂ with
    | error e=>exact hr₂
    | ok fl₂=>
     cases fl₂ with
     | ret r=>
      obtain⟨rfl,h',tk,xs,rfl,g1,g2,g3⟩:=hr₂
      repeat (any_goals (first | assumption | wp_step))
      exact h h' tk xs g1 g2 g3
     | _=>exact hr₂.elim
  | _=>exact hr.elim
end
end ST
namespace L4
open PySem PyProof.Rows
def Ml {prog:Program}{w:World}{A:Around}{E:Value->Shared->Prop}{s:Shared}{vs:List Value}{ns:List Int}(hI:IntsAre vs ns) (h2:2<=vs.length) (h64:vs.length<64):
  Core prog w A E vs (λ out=>∃ ns',IntsAre out.toList ns'/\ns'.Perm ns/\ns'.Pairwise (·<=·)) s:=by
 obtain⟨v1,v2,rest,rfl⟩:∃ v1 v2 rest,vs=v1::v2::rest:=by
  match vs,h2 with
  | v1::v2::rest,_=>exact⟨v1,v2,rest,rfl⟩
 unfold Core;rw[keyKind_ints hI];refine Ac ⟨rfl,?_⟩;refine wpAny_mono (wpS_sortRuns (a₀:=pairsOf (v1::v2::rest)) (st:=SortSt.mk' oneType' ((v1::v2::rest).toArray.zip (v1::v2::rest).toArray) #[] 7 none)
   (Q:=λ _ st'=>(arrOf st').Perm (pairsOf (v1::v2::rest))/\failedOf st'=none/\SortedTo (arrOf st') (pairsOf (v1::v2::rest)).size)
   hI.intKeys ⟨Array.Perm.refl _,rfl,rfl,rfl⟩ (by rw[pairsOf_size];simp) (by rw[pairsOf_size];exact h64) λ st' a1 a2 a3=>⟨a1,a2,a3⟩) ?_ λ _ _ e=>e
 rintro⟨⟨⟩,st'⟩ s' ⟨rfl,hp,hf,hs⟩;exact⟨rfl,hf,sorted_out hI hp hs,by rw[hp.size_eq,pairsOf_size]⟩
end L4
namespace L5
open PySem PySem.Spec L2 L3
open PyProof.Rows hiding St
structure Bq (mg:Str->Option Value):Prop where
 set:mg "set"=none
 zip:mg "zip"=none
 enumerate:mg "enumerate"=none
section
variable {X:Cx}{K:Ad}{a b c e:Expr}{es:List Expr}{ta tb tc te:zA}{tA:yD}{pos p:Pos}{fa fb fc:Ev->Option T}
def oI (f g:xc) (ta tb tc:zA):zA:=fun Y S Q=>ta Y S λ x S1=>tb Y S1 λ y S2=>f x y S2 λ z S3=>match z with
 | .bl k=>if k=true then tc Y S3 λ w S4=>g y w S4 Q else Q (.bl false) S3
 | _=>False
def oI.mo {f g:xc}(hf:we f) (hg:we g) (ha:yv ta) (hb:yv tb) (hc:yv tc):yv (oI f g ta tb tc):=fun Y S Q Q' hq h=>
 ha Y S _ _ (λ x S1 h=>hb Y S1 _ _ (λ y S2 h=>hf x y S2 _ _ (λ z S3 h=>by
  cases z <;> first
   | exact vw (hc Y S3 _ _ λ w S4 h=>hg y w S4 _ _ hq h) (hq _ _) h
   | exact h) h) h) h
def Vb {f g:xc}{r r':R2}(hr:xO K f r) (hr':xO K g r') (hf:we f) (hg:we g) (ha:yv ta) (hb:yv tb) (hc:yv tc) {B:St}{H:Hp}{Q:VK}(h:zV K (oI f g ta tb tc) B H Q):b_ r r' (zV K ta) (zV K tb) (zV K tc) B H Q:=by
 obtain⟨Y,S,r1,r2,h⟩:=h;refine zV.go ha r1 r2 h λ x S1 v H1 h1 q1 e1 p1=>?_;refine zV.go hb (r1.ext e1) p1 h1 λ y S2 w H2 h2 q2 e2 p2=>?_;refine hr v w x y H2 S2 _ (zk.ext e2 x q1) q2 p2 (hf x y S2 _ _ (λ d S3 z v3 H3 q3 e3 p3=>?_) h2);cases d with
 | bl k=>
  simp only[zk] at q3;refine⟨k,q3,vw (λ z=>?_) (λ z=>?_) z⟩
  .refine zV.go hc (r1.ext ((e1.trans e2).trans e3)) p3 z λ w4 S4 v4 H4 h4 q4 e4 p4=>?_;exact hr' w v4 y w4 H4 S4 Q (zk.ext (e3.trans e4) y q2) q4 p4 (hg y w4 S4 _ _ (λ d S' z=>z.ext (((e1.trans e2).trans e3).trans e4)) h4)
  .exact z _ H3 (by simp only[zk]) ((e1.trans e2).trans e3) p3
 | zh=>exact z.elim
 | int _=>exact z.elim
 | str _=>exact z.elim
 | tup _=>exact z.elim
 | yW _=>exact z.elim
 | ref _=>exact z.elim
@[simp] noncomputable def da (f g:T->T->Option T) (fa fb fc:Ev->Option T):Ev->Option T:=fun J=>(fa J).bind λ x=>(fb J).bind λ y=>(f x y).bind λ b=>match b with
 | .bl k=>if k=true then (fc J).bind λ z=>g y z else some (.bl false)
 | _=>none
def Pb {f g:T->T->Option T}{F G:xc}(hf:Good2 zJ f F) (hg:Good2 zJ g G) (ha:yN fa ta) (hb:yN fb tb) (hc:yN fc tc):wc (da f g fa fb fc) (oI F G ta tb tc):=λ S Z Y J y Q hE e hq=>by
 obtain⟨x1,e1,e⟩:=Aj e;obtain⟨x2,e2,e⟩:=Aj e;obtain⟨b,e3,e⟩:=Aj e;refine ha S Z Y J x1 _ hE e1 λ d1 S1 s1 r1=>?_;refine hb S1 Z Y J x2 _ (hE.grow s1) e2 λ d2 S2 s2 r2=>?_;refine hf S2 Z x1 x2 b d1 d2 _ (hE.grow (s1.trans s2)).zd (Vw.grow r1 s2) r2 e3 λ c S3 s3 r3=>?_;split at e
 .have:=r3.1;simp only[Sn] at this;subst this;split at e
  .rename_i hk;obtain⟨x4,e4,e5⟩:=Aj e;dsimp only;rw[if_pos hk];refine hc S3 Z Y J x4 _ (hE.grow ((s1.trans s2).trans s3)) e4 λ d4 S4 s4 r4=>?_;exact hg S4 Z x2 x4 y d2 d4 Q (hE.grow (((s1.trans s2).trans s3).trans s4)).zd (Vw.grow r2 (s3.trans s4)) r4 e5 λ c' S5 s5 r5=>hq c' S5 ((((s1.trans s2).trans s3).trans s4).trans s5) (Cl.cl (((s1.trans s2).trans s3).trans s4) r5)
  .rename_i hk;dsimp only;rw[if_neg hk];cases e;exact hq _ S3 ((s1.trans s2).trans s3) (Cl.of (λ _=>nofun) vp)
 .cases e
def Zw {op op':CmpOp}{f g:xc}{r r':R2}(ho:yu X (compareOp op) r) (ho':yu X (compareOp op') r') (hr:xO X.K f r) (hr':xO X.K g r') (hf:we f) (hg:we g) (ha:PD X a ta) (hb:PD X b tb) (hc:PD X c tc)
  (hm:lastMarks [op,op'] [b,c]=false:=by with_unfolding_all rfl):PD X (.Compare a [op,op'] [b,c] pos) (oI f g ta tb tc):=
 ⟨oI.mo hf hg ha.mo hb.mo hc.mo,PE.imp (Se ho ho' ha.pe hb.pe hc.pe hm) λ _ _ _ h=>Vb hr hr' hf hg ha.mo hb.mo hc.mo h⟩
end
end L5
namespace L2
open PySem PySem.Spec PyProof.Rows
section
variable {X:Cx}
def Z5:yu X (compareOp .Is) (λ x y H Q=>∃ c d,x=.bl c/\y=.bl d/\Q (.bl (c == d)) H):=by
 intro pins s B H x y v u Q I rx ry h;obtain⟨c,d,rfl,rfl,q⟩:=h;cases rx;cases ry;exact is_bool ⟨.bl _,H,I,rfl,q⟩
def Z2:yu X (compareOp .IsNot) (λ x y H Q=>∃ c d,x=.bl c/\y=.bl d/\Q (.bl (c != d)) H):=by
 intro pins s B H x y v u Q I rx ry h;obtain⟨c,d,rfl,rfl,q⟩:=h;cases rx;cases ry;exact isnot_bool ⟨.bl _,H,I,rfl,q⟩
end
end L2
namespace L5
open PySem PySem.Spec L2 L3
open PyProof.Rows hiding St
section
variable {X:Cx}{K:Ad}{a b c e o i v:Expr}{es:List Expr}{ta tb tc te td ty tv:zA}{tA:yD}{pos p pos':Pos}{fa fb fc:Ev->Option T}
def vz:xc:=λ x y S Q=>match x,y with
 | .int i,.int j=>Q (.bl (decide (i<j))) S
 | .tup ds,.tup es=>∃ ns ms:List Int,ds=ns.map D.int/\es=ms.map D.int/\Q (.bl (HT.lexLt ns ms)) S
 | _,_=>False
noncomputable def yy:T->T->Option T
 | .int i,.int j=>some (.bl (decide (i<j)))
 | .tup ts,.tup us=>(u5 ts).bind λ ns=>(u5 us).map λ ms=>.bl (HT.lexLt ns ms)
 | _,_=>none
def vz.mo:we vz:=λ x y S Q Q' hq h=>by
 unfold vz at h ⊢;split at h
 .exact hq _ _ h
 .obtain⟨ns,ms,h1,h2,h3⟩:=h;exact⟨ns,ms,h1,h2,hq _ _ h3⟩
 .exact h.elim
def vz.fits:xO K vz (λ x y H Q=>vq (λ i j=>.bl (decide (i<j))) x y H Q\/gP K x y H Q):=λ x y d e H S Q h1 h2 h3 h=>by
 unfold vz at h;split at h
 .simp only[zk] at h1 h2;exact .inl ⟨_,_,h1,h2,h _ H (by simp only[zk]) (.refl H) h3⟩
 .obtain⟨ns,ms,rfl,rfl,h⟩:=h;simp only[zk] at h1 h2;obtain⟨a,xs,rfl,g1,g2⟩:=h1;obtain⟨b,ys,rfl,g3,g4⟩:=h2;rw[g2.ints] at g1;rw[g4.ints] at g3;exact .inr ⟨a,b,ns,ms,rfl,rfl,g1,g3,h _ H (by simp only[zk]) (.refl H) h3⟩
 .exact h.elim
def ea:Good2 zJ yy vz:=λ S Z x y z d e Q hz hx hy ef hq=>by
 unfold yy at ef;split at ef
 .cases ef;cases hx.int;cases hy.int;exact hq _ S (.refl S) (Cl.of (λ _=>nofun) vp)
 .obtain⟨ns,e1,e2⟩:=Aj ef;obtain⟨ms,e3,rfl⟩:=AA e2;cases mC e1;cases mC e3;obtain⟨ds,rfl,h2⟩:=hx.tup;obtain⟨es,rfl,h4⟩:=hy.tup;exact⟨ns,ms,sy.mp h2,sy.mp h4,hq _ S (.refl S) (Cl.of (λ _=>nofun) vp)⟩
 .cases ef
def fm {k:Nat}(hr:yI k X.A):yu X (compareOp .Lt) (λ x y H Q=>vq (λ i j=>.bl (decide (i<j))) x y H Q\/gP X.K x y H Q):=Rm.or (Rl (by have:=hr.units;lia))
def Zo {k:Nat}(hr:yI k X.A) (ha:PD X a ta) (hb:PD X b tb):PD X (.Compare a [.Lt] [b] pos) (yA vz ta tb):=oj (fm hr) vz.fits vz.mo ha hb (vB _)
def t7 {k:Nat}(hr:yI k X.A) (ha:PD X a ta) (hb:PD X b tb):xT X (.Compare a [.Lt] [b] pos) (vF (yA vz ta tb)):=sG (fm hr) vz.fits vz.mo ha hb (vB _)
def xJ (neg:Bool):xc:=λ x y S Q=>match x,y with
 | .bl c,.bl d=>Q (.bl (cond neg (c != d) (c == d))) S
 | x,.zh=>Q (.bl (cond neg (!o6 x) (o6 x))) S
 | _,_=>False
noncomputable def yE (neg:Bool):T->T->Option T
 | .bl c,.bl d=>some (.bl (cond neg (c != d) (c == d)))
 | x,.zh=>some (.bl (cond neg (!isNone x) (isNone x)))
 | _,_=>none
def xJ.mo {neg:Bool}:we (xJ neg):=λ x y S Q Q' hq h=>by
 unfold xJ at h ⊢;split at h
 .exact hq _ _ h
 .exact hq _ _ h
 .exact h.elim
def xJ.fits:xO K (xJ false) (λ x y H Q=>(∃ c d,x=.bl c/\y=.bl d/\Q (.bl (c == d)) H)\/(y=.zh/\Q (.bl (decide (x=.zh))) H)):=λ x y d e H S Q h1 h2 h3 h=>by
 unfold xJ at h;split at h
 .simp only[zk] at h1 h2;exact .inl ⟨_,_,h1,h2,h _ H (by simp only[zk,cond]) (.refl H) h3⟩
 .simp only[zk] at h2;refine .inr ⟨h2,?_⟩;rw[Yl h1];exact h _ H (by simp only[zk,cond]) (.refl H) h3
 .exact h.elim
def xJ.YC:xO K (xJ true) (λ x y H Q=>(∃ c d,x=.bl c/\y=.bl d/\Q (.bl (c != d)) H)\/(y=.zh/\Q (.bl (!decide (x=.zh))) H)):=λ x y d e H S Q h1 h2 h3 h=>by
 unfold xJ at h;split at h
 .simp only[zk] at h1 h2;exact .inl ⟨_,_,h1,h2,h _ H (by simp only[zk,cond]) (.refl H) h3⟩
 .simp only[zk] at h2;refine .inr ⟨h2,?_⟩;rw[Yl h1];exact h _ H (by simp only[zk,cond]) (.refl H) h3
 .exact h.elim
def OC {S:SS}{Z:Addr->Prop}{x:T}{d:D}(hx:Vw S Z x d):o6 d=isNone x:=by
 cases x with
 | zh=>cases hx.zh;rfl
 | bl _=>cases hx.bl;rfl
 | int _=>cases hx.int;rfl
 | str _=>cases hx.str;rfl
 | tup _=>obtain⟨ds,rfl,_⟩:=hx.tup;rfl
 | lst _=>obtain⟨ds,rfl | ⟨a,rfl,h1⟩,h2⟩:=hx.lst <;> rfl
 | yd=>obtain⟨a,Aa,rfl,h1⟩:=hx.yd;rfl
def Nl {neg:Bool}:Good2 zJ (yE neg) (xJ neg):=λ S Z x y z d e Q hz hx hy ef hq=>by
 unfold yE at ef;split at ef
 .cases ef;cases hx.bl;cases hy.bl;exact hq _ S (.refl S) (Cl.of (λ _=>nofun) vp)
 .cases ef;cases hy.zh;have key:Q (.bl (cond neg (!o6 d) (o6 d))) S:=by
   rw[OC hx];exact hq _ S (.refl S) (Cl.of (λ _=>nofun) vp)
  unfold xJ;cases d <;> exact key
 .cases ef
def Zs (ha:PD X a ta) (hb:PD X b tb):PD X (.Compare a [.Is] [b] pos) (yA (xJ false) ta tb):=oj (Z5.or Z4) xJ.fits xJ.mo ha hb (vB _)
def fg (ha:PD X a ta) (hb:PD X b tb):PD X (.Compare a [.IsNot] [b] pos) (yA (xJ true) ta tb):=oj (Z2.or Zz) xJ.YC xJ.mo ha hb (vB _)
def mf (ha:PD X a ta) (hb:PD X b tb):xT X (.Compare a [.Is] [b] pos) (vF (yA (xJ false) ta tb)):=sG (Z5.or Z4) xJ.fits xJ.mo ha hb (vB _)
def Sk (ha:PD X a ta) (hb:PD X b tb):xT X (.Compare a [.IsNot] [b] pos) (vF (yA (xJ true) ta tb)):=sG (Z2.or Zz) xJ.YC xJ.mo ha hb (vB _)
def Xk (td ty tv:zA):y_:=λ E Y S=>tv Y S λ v S1=>td Y S1 λ x S2=>ty Y S2 λ y S3=>∃ p ds k j,x=.ref p/\y=.int k/\S3 p=some (.lst ds)/\wW ds.length k=some j/\E.nx Y (ups S3 p (.lst (ds.set j v)))
theorem zq.set {H:Hp}{d:D}{x:V}(h:zk K H d x):∀ {ds:List D}{xs:List V}(j:Nat),zq K H ds xs->zq K H (ds.set j d) (xs.set j x)
 | [],xs,j,r=>by simp only[zq] at r;subst r;exact .nil
 | c::ds,xs,0,r=>by
  simp only[zq] at r;obtain⟨y,ys,rfl,_,r2⟩:=r;exact .cons h r2
 | c::ds,xs,j+1,r=>by
  simp only[zq] at r;obtain⟨y,ys,rfl,r1,r2⟩:=r;exact .cons r1 (zq.set h j r2)
def gZ (ho:PD X o td) (hi:PD X i ty) (hv:PD X v tv) (hs:swapsWithSole [.Subscript o i pos'] v pos.line X.env=pure false:=by rfl) (hw:swappedStores [.Subscript o i pos'] v X.env=pure none:=by rfl)
  (h1:(assignEach [.Subscript o i pos'] X.env).map (·.2)=[assign (.Subscript o i pos') X.env]:=by rfl)
  (ha:∀ v,assign (.Subscript o i pos') X.env v=(do
   let ov <- holding [v] (eval o X.env)
   let iv <- holding [v,ov] (eval i X.env)
   standAt pos'
   holding [v,ov,iv] (setItem ov iv v)
   release [v,ov,iv] []):=by intro _;rfl):vK X (.Assign [.Subscript o i pos'] v pos) (Xk td ty tv):=by
 refine⟨λ E E' Y S hE z=>hv.mo Y S _ _ (λ w S1 z=>ho.mo Y S1 _ _ (λ x S2 z=>hi.mo Y S2 _ _ (λ y S3 ⟨p,ds,k,j,a,b,c,d,h⟩=>⟨p,ds,k,j,a,b,c,d,hE.nx _ _ h⟩) z) z) z,PS.imp (Zd hv.pe (T2 ho.pe hi.pe set_list ha) hs hw h1) λ D B H hu=>?_⟩;obtain⟨Y,S,r1,r2,z⟩:=hu;refine zV.go hv.mo r1 r2 z λ w S1 w1 H1 h1 q1 e1 p1=>?_;refine zV.go ho.mo (r1.ext e1) p1 h1 λ x S2 w2 H2 h2 q2 e2 p2=>?_;refine zV.go hi.mo ((r1.ext e1).ext e2) p2 h2 λ y S3 w3 H3 h3 q3 e3 p3=>?_;obtain⟨p,ds,k,j,rfl,rfl,c1,c2,h⟩:=h3;simp only[zk] at q2 q3;subst q2 q3;obtain⟨xs,g1,g2⟩:=p3 _ _ c1;have e4:Ext H3 (upd H3 p (.lst (xs.set j w1))):=.lst g1 _;refine⟨p,xs,k,j,rfl,rfl,g1,by rw[<- g2.length];exact c2,?_⟩;exact h B _ ((((r1.ext e1).ext e2).ext e3).ext e4) (((e1.trans e2).trans e3).trans e4) (p3.ups e4 ⟨_,yK,zq.ext e4 _ (zq.set (zk.ext (e2.trans e3) w q1) j g2)⟩)
@[simp] def je (n:Nat) (f v:Ev->Option T):Sm:=fun J=>(v J).bind λ z=>(f J).bind λ y=>match J[n]?,y with
 | some (some (.own (.lst ts))),.int k=>(wW ts.length k).map λ j=>.nx (J.set n (some (.own (.lst (ts.set j z)))))
 | _,_=>none
def R3 {R:Rk}(n:Nat) {f v:Ev->Option T}(hf:yN f ty) (hv:vL v tv):yX R (je n f v) (Xk (yS n) ty tv):=λ S0 Z0 S Z Y J o E F e P=>by
 obtain⟨z,e1,e⟩:=Aj e;obtain⟨x,e2,e3⟩:=Aj e;split at e3
 .rename_i ts k h;obtain⟨j,hj,rfl⟩:=AA e3;refine hv S Z Y J z _ F.er e1 λ dz S1 s1 r1=>?_;have F1:=F.grow s1;obtain⟨p,ob,h1,h2,h3,h4⟩:=F1.er.ow n _ h;cases ob with
  | yr _=>exact h3.elim
  | lst ds=>
   show yS n Y S1 _;unfold yS;rw[h1];refine hf S1 Z Y J _ _ F1.er e2 λ d S2 s2 r2=>?_;cases Vw.int r2;have h5:zp (zW S2 Z) ts ds:=zp.sx (vh s2) ts h3;exact⟨p,ds,k,j,rfl,rfl,s2 _ _ h2,by rw[h5.len];exact hj,P _ Z Y ((F1.grow s2).mut (us:=.lst (ts.set j z)) (es:=.lst (ds.set j dz)) n h h1 (h5.az j (Sn.sx (vh s2) z r1)))⟩
 .cases e3
def fj {x y:Str}{u:Value}(hm:X.mg x=some u) (r:RelV (.str y) u) (hg:Gl X x:=by rfl) (hd:(x == ("__debug__":Str))=false:=by decide):PD X (.Name x pos) (dC (.str y)):=ml (TY hg hm r hd) λ _=>by simp only[zk]
end
end L5
namespace ZP
open PySem PyProof.Rows
noncomputable def fT (k:Bool):String:=cond k "tuple_iterator" "list_iterator"
def SI (h:Heap) (k:Bool) (it l:Addr) (i:Nat):Prop:=∃ o,h.get? it=some o/\o.cls=.type (fT k)/\o.data=.fields #[.ref l,.int i 0]
def SQ (h:Heap) (k:Bool) (l:Addr) (xs:Array Value):Prop:=match k with
 | true=>h.IsTuple l xs
 | false=>h.IsList l xs
def SI.on {h h':Heap}{k:Bool}{it l:Addr}{i:Nat}(x:SI h k it l i) (f:∀ o,h.get? it=some o->h'.get? it=some o):SI h' k it l i:=
 let ⟨o,ho,r⟩:=x;⟨o,f o ho,r⟩
def SQ.on {h h':Heap}{k:Bool}{l:Addr}{xs:Array Value}(x:SQ h k l xs) (f:∀ o,h.get? l=some o->h'.get? l=some o):SQ h' k l xs:=by
 cases k with
 | true=>obtain⟨o,ho,r⟩:=(show h.IsTuple l xs from x);exact⟨o,f o ho,r⟩
 | false=>obtain⟨o,ho,r⟩:=(show h.IsList l xs from x);exact⟨o,f o ho,r⟩
def SQ.lt {h:Heap}{k:Bool}{l:Addr}{xs:Array Value}(x:SQ h k l xs):l<h.objs.size:=by
 cases k with
 | true=>obtain⟨o,ho,_⟩:=(show h.IsTuple l xs from x);exact Ao ho
 | false=>obtain⟨o,ho,_⟩:=(show h.IsList l xs from x);exact Ao ho
theorem SQ.cls {h:Heap}{k:Bool}{l:Addr}{xs:Array Value}(x:SQ h k l xs):∃ o,h.get? l=some o/\o.cls=.type (cond k "tuple" "list"):=by
 cases k with
 | true=>obtain⟨o,ho,c,_⟩:=(show h.IsTuple l xs from x);exact⟨o,ho,c⟩
 | false=>obtain⟨o,ho,c,_⟩:=(show h.IsList l xs from x);exact⟨o,ho,c⟩
section
variable {prog:Program}{w:World}{A:Around}{E:Value->Shared->Prop}{s:Shared}
def made {k:Bool}{l:Addr}{xs:Array Value}{Q:Value->Shared->Prop}(hl:SQ s.heap k l xs)
  (hQ:Q (.ref s.heap.objs.size) { s with heap:=s.heap.push { cls:=.type (fT k),data:=.fields #[.ref l,.int 0 0] } }):wpAny (model prog w) A (pyIter (.ref l)) Q E s:=by
 cases k with
 | true=>exact wpAny_pyIter_tuple hl hQ
 | false=>exact wpAny_pyIter_list hl hQ
def NQ {it l:Addr}{i:Nat}{xs:Array Value}{x:Value}{Q:Value->Shared->Prop}(hit:s.heap.IsTupleIter it l i) (hl:s.heap.IsTuple l xs) (hx:xs[i]?=some x)
  (hQ:∀ h',h'.IsTupleIter it l (i+1)->Heap.SameBut it s.heap h'->Q x { s with heap:=h' }):wpAny (model prog w) A (Builtin.SmallTypes.nextOf (.ref it)) Q E s:=by
 have ht:=hit.typeIs;obtain⟨oi,e1,e2,e3⟩:=id hit;obtain⟨ol,g1,_,n,g2⟩:=hl;refine Ab (wpAny_callSpecial?_slot (name:=Str.ofString "__next__") ht F.slot_tuple_iterator_next (wpAny_call_entry F.slot_tuple_iterator_next ht F.entry_tuple_iterator_next ?_ (F.args_tuple_iterator_next_1 _)));refine Ab (m:=field (.ref it) 0) (wpAny_field e1 e3 (x:=.ref l) rfl ?_);dsimp only;rw[if_neg (show ¬ ((Value.ref l == Value.none)=true) from BC)];refine Ab (m:=field (.ref it) 1) (wpAny_field e1 e3 (x:=.int i 0) rfl ?_);dsimp only;refine Ab (m:=seqItems? (.ref l)) (wpAny_seqItems g1 g2 ?_);simp only[CL,hx];have there:=Heap.get?_update_self (Obj.mapFields λ y=>y.setIfInBounds 1 (rawInt ((i:Int)+1))) e1 (Obj.isFreed_of_fields (Obj.data_mapFields e3 _));refine Ab (wpAny_setField e1 e3 (by simp) (Ac ⟨x,rfl,Ac (hQ _ ⟨_,there,(Obj.cls_mapFields ..).trans e2,?_⟩ (Heap.SameBut.update ..))⟩));rw[Obj.data_mapFields e3];simp[rawInt]
def NG {it l:Addr}{i:Nat}{xs:Array Value}{Q:Value->Shared->Prop}(hh:A.handled=none) (hit:s.heap.IsTupleIter it l i) (hl:s.heap.IsTuple l xs) (hx:xs[i]?=none)
  (hE:∀ h' e,Heap.ExtBut it s.heap h'->(∃ o,h'.get? e=some o/\o.cls=.type "StopIteration")->E (.ref e) { s with heap:=h' }):wpAny (model prog w) A (Builtin.SmallTypes.nextOf (.ref it)) Q E s:=by
 have ht:=hit.typeIs;obtain⟨oi,e1,e2,e3⟩:=id hit;obtain⟨ol,g1,_,n,g2⟩:=hl;refine Ab (wpAny_callSpecial?_slot (name:=Str.ofString "__next__") ht F.slot_tuple_iterator_next (wpAny_call_entry F.slot_tuple_iterator_next ht F.entry_tuple_iterator_next ?_ (F.args_tuple_iterator_next_1 _)));refine Ab (m:=field (.ref it) 0) (wpAny_field e1 e3 (x:=.ref l) rfl ?_);dsimp only;rw[if_neg (show ¬ ((Value.ref l == Value.none)=true) from BC)];refine Ab (m:=field (.ref it) 1) (wpAny_field e1 e3 (x:=.int i 0) rfl ?_);dsimp only;refine Ab (m:=seqItems? (.ref l)) (wpAny_seqItems g1 g2 ?_);simp only[CL,hx];refine Ab (wpAny_rule (Ab (wpAny_setField e1 e3 (by simp) ?_)));refine Ab (m:=newExc (.type "StopIteration") []) ?_;simp only[newExc,newTuple];refine Ab (wpAny_newObj_type (Ab (m:=firstArgMember _ _) (wpAny_of_eq (a:=Value.none) (by first | rfl | (simp only[firstArgMember];rfl)) (wpAny_newObj_type ?_ (by size_fits)))) (by size_fits));simp only[raiseNew];refine Ab (wpAny_handled ?_);rw[show A.in1.handled=none from hh];exact Ab (Ac (wpAny_throw (hE _ _ (((Heap.SameBut.update ..).extBut.push _).push _) ⟨_,AF _ rfl,rfl⟩)))
def draw {k:Bool}{it l:Addr}{i:Nat}{xs:Array Value}{x:Value}{Q:Value->Shared->Prop}(hit:SI s.heap k it l i) (hl:SQ s.heap k l xs) (hx:xs[i]?=some x)
  (hQ:∀ h',SI h' k it l (i+1)->Heap.SameBut it s.heap h'->Q x { s with heap:=h' }):wpAny (model prog w) A (Builtin.SmallTypes.nextOf (.ref it)) Q E s:=by
 cases k with
 | true=>exact NQ hit hl hx hQ
 | false=>exact wpAny_nextOf_list_item hit hl hx hQ
def j4 {k:Bool}{it l:Addr}{i:Nat}{xs:Array Value}{Q:Value->Shared->Prop}(hh:A.handled=none) (hit:SI s.heap k it l i) (hl:SQ s.heap k l xs) (hx:xs[i]?=none)
  (hE:∀ h' e,Heap.ExtBut it s.heap h'->(∃ o,h'.get? e=some o/\o.cls=.type "StopIteration")->E (.ref e) { s with heap:=h' }):wpAny (model prog w) A (Builtin.SmallTypes.nextOf (.ref it)) Q E s:=by
 cases k with
 | true=>exact NG hh hit hl hx hE
 | false=>exact wpAny_nextOf_list_end hh hit hl hx hE
structure jP (z TI TO i1 i2 l1 l2:Addr):Prop where
 nd:[z,TI,TO,i1,i2].Nodup
 f1:l1∉[z,TI,TO,i1,i2]
 f2:l2∉[z,TI,TO,i1,i2]
structure At (h:Heap) (k1 k2:Bool) (z TI TO i1 i2 l1 l2:Addr) (f0:Value) (n:Nat):Prop where
 z:IsZip h z TI TO f0
 ti:IsPair h TI (.ref i1) (.ref i2)
 to:∃ a b,IsPair h TO a b
 s1:SI h k1 i1 l1 n
 s2:SI h k2 i2 l2 n
def At.keep {h h':Heap}{k1 k2:Bool}{z TI TO i1 i2 l1 l2:Addr}{f0:Value}{n:Nat}(S:At h k1 k2 z TI TO i1 i2 l1 l2 f0 n) (f:∀ b∈[z,TI,TO,i1,i2],∀ o,h.get? b=some o->h'.get? b=some o):At h' k1 k2 z TI TO i1 i2 l1 l2 f0 n:=
 ⟨f z (by simp) _ S.z,f TI (by simp) _ S.ti,let ⟨a,b,e⟩:=S.to;⟨a,b,f TO (by simp) _ e⟩,S.s1.on (f i1 (by simp)),S.s2.on (f i2 (by simp))⟩
def item {k1 k2:Bool}{z TI TO i1 i2 l1 l2:Addr}{n:Nat}{xs ys:Array Value}{x y:Value}{Q:Option Value->Shared->Prop}(D:jP z TI TO i1 i2 l1 l2) (S:At s.heap k1 k2 z TI TO i1 i2 l1 l2 .none n)
  (h1:SQ s.heap k1 l1 xs) (h2:SQ s.heap k2 l2 ys) (hx:xs[n]?=some x) (hy:ys[n]?=some y)
  (hQ:∀ h',At h' k1 k2 z TI TO i1 i2 l1 l2 (rawInt s.heap.objs.size) (n+1)->IsPair h' s.heap.objs.size x y->(∀ c o,c∉[z,TI,TO,i1,i2]->s.heap.get? c=some o->h'.get? c=some o)->Q (some (.ref s.heap.objs.size)) { s with heap:=h' }):
  wpAny (model prog w) A (pyNext (.ref z)) Q E s:=by
 obtain⟨nd,f1,f2⟩:=D;simp only[Bg,Ah,A4,or_false,not_or,List.nodup_nil,and_true,not_false_eq_true] at nd f1 f2;obtain⟨⟨n1,n2,n3,n4⟩,⟨n5,n6,n7⟩,⟨n8,n9⟩,n10⟩:=nd;obtain⟨a1,a2,a3,a4,a5⟩:=f1;obtain⟨b1,b2,b3,b4,b5⟩:=f2;obtain⟨hz,CS,⟨a,b,Em⟩,s1,s2⟩:=S;have hT:s.TypeIs (.ref z) "zip":=⟨_,hz,rfl⟩
 unfold pyNext;refine Ab (wpAny_attempt (wpAny_callSpecial?_slot (name:=Str.ofString "__next__") hT F.slot_zip_next (wpAny_call_entry F.slot_zip_next hT F.entry_zip_next ?_ (F.args_zip_next_1 _))));refine Ab (m:=field (.ref z) 2) (wpAny_field hz rfl (x:=.bool false) rfl ?_);refine Ab (m:=field (.ref z) 3) (wpAny_field hz rfl (x:=.ref TI) rfl ?_);refine Ab (m:=seqItems? (.ref TI)) (wpAny_seqItems CS rfl ?_);refine Ab (m:=Builtin.SmallTypes.ownedTupleIsFree (.ref z)) (Ab (m:=field (.ref z) 0) (wpAny_field hz rfl (x:=.none) rfl (Ac ?_)));simp only[if_true];refine Ab (wpAny_rule (Ab (wpAny_field hz rfl (x:=.ref TO) rfl (Ab (wpAny_setField_rec hz (by simp) λ g1 hz1 e1=>?_)))));replace hz1:IsZip g1 z TI TO .ellipsis:=hz1;refine Ab ?_;simp only[DB,List.zipIdx_nil,DR,List.forIn_nil];refine Ab (Ab (wpAny_onRaise (Ab (m:=Builtin.SmallTypes.nextOf (.ref i1)) (draw (s1.on λ o q=>e1.extBut _ _ (Ne.symm n3) q) (h1.on λ o q=>e1.extBut _ _ a1 q) hx λ g2 s12 e2=>Ac ?_))));have to2:IsPair g2 TO a b:=e2.extBut _ _ n8 (e1.extBut _ _ (Ne.symm n2) Em);refine Ab (wpAny_seqItems to2 rfl (Ab (wpAny_updateSeq_pair to2 λ g3 to3 e3=>Ab (wpAny_letGo (Ac ?_)))));replace to3:IsPair g3 TO x b:=to3;have up:∀ c o,c≠z->c≠i1->c≠TO->s.heap.get? c=some o->g3.get? c=some o:=λ c o c1 c2 c3 q=>e3.extBut _ _ c3 (e2.extBut _ _ c2 (e1.extBut _ _ c1 q));refine Ab (Ab (wpAny_onRaise (Ab (m:=Builtin.SmallTypes.nextOf (.ref i2)) (draw (s2.on λ o q=>up _ o (Ne.symm n4) (Ne.symm n10) (Ne.symm n9) q) (h2.on λ o q=>up _ o b1 b4 b3 q) hy λ g4 s24 e4=>Ac ?_))));have to4:IsPair g4 TO x b:=e4.extBut _ _ n9 to3;refine Ab (wpAny_seqItems to4 rfl (Ab (wpAny_updateSeq_pair to4 λ g5 to5 e5=>Ab (wpAny_letGo (Ac (Ac ?_))))));replace to5:IsPair g5 TO x y:=to5;refine Ab (wpAny_seqItems to5 rfl (Ab (wpAny_newTuple ?_)));have sz:g5.objs.size=s.heap.objs.size:=by rw[e5.1,e4.1,e3.1,e2.1,e1.1]
 have hz5:IsZip g5 z TI TO .ellipsis:=e5.extBut _ _ n2 (e4.extBut _ _ n4 (e3.extBut _ _ n2 (e2.extBut _ _ n3 hz1)));have up5:∀ c o,c∉[z,TI,TO,i1,i2]->s.heap.get? c=some o->g5.get? c=some o:=λ c o hc q=>by
  simp only[Ah,A4,or_false,not_or] at hc;exact e5.extBut _ _ hc.2.2.1 (e4.extBut _ _ hc.2.2.2.2 (up c o hc.1 hc.2.2.2.1 hc.2.2.1 q))
 have ti5:IsPair g5 TI (.ref i1) (.ref i2):=e5.extBut _ _ n5 (e4.extBut _ _ n7 (up _ _ (Ne.symm n1) n6 n5 CS));have s15:SI g5 k1 i1 l1 (n+1):=s12.on λ o q=>e5.extBut _ _ (Ne.symm n8) (e4.extBut _ _ n10 (e3.extBut _ _ (Ne.symm n8) q));have s25:SI g5 k2 i2 l2 (n+1):=s24.on λ o q=>e5.extBut _ _ (Ne.symm n9) q;have lz:z<g5.objs.size:=Ao hz5;refine Ab (m:=Builtin.SmallTypes.ownedTupleHandOut (.ref z) (.ref g5.objs.size)) ?_;have hz6:IsZip (g5.push { cls:=.type "tuple",data:=.seq #[x,y] }) z TI TO .ellipsis:=An _ hz5;refine Ab (wpAny_setField_rec hz6 (by simp) λ g7 hz7 e7=>?_);replace hz7:IsZip g7 z TI TO (rawInt g5.objs.size):=hz7;refine wpAny_setField_rec hz7 (by simp) λ g8 hz8 e8=>?_;replace hz8:IsZip g8 z TI TO (rawInt g5.objs.size):=hz8;have up8:∀ c o,c≠z->(g5.push { cls:=.type "tuple",data:=.seq #[x,y] }).get? c=some o->g8.get? c=some o:=λ c o c1 q=>e8.extBut _ _ c1 (e7.extBut _ _ c1 q);have T8:IsPair g8 g5.objs.size x y:=up8 _ _ (BW lz) (AF _ rfl);have up9:∀ c o,c≠z->g5.get? c=some o->g8.get? c=some o:=λ c o c1 q=>up8 c o c1 (An _ q);rw[sz] at hz8 T8;refine Ac ⟨.ref g5.objs.size,rfl,Ac ?_⟩;show Q (some (.ref g5.objs.size)) _;rw[sz];refine hQ g8 ⟨hz8,up9 _ _ (Ne.symm n1) ti5,⟨x,y,up9 _ _ (Ne.symm n2) to5⟩,s15.on λ o q=>up9 _ o (Ne.symm n3) q,s25.on λ o q=>up9 _ o (Ne.symm n4) q⟩ T8 λ c o hc q=>up9 c o (λ e=>hc (by simp[e])) (up5 c o hc q)
def stop {k1 k2:Bool}{z TI TO i1 i2 l1 l2:Addr}{n:Nat}{xs ys:Array Value}{Q:Option Value->Shared->Prop}(hh:A.handled=none) (D:jP z TI TO i1 i2 l1 l2) (S:At s.heap k1 k2 z TI TO i1 i2 l1 l2 .none n)
  (h1:SQ s.heap k1 l1 xs) (h2:SQ s.heap k2 l2 ys) (Bn:xs[n]?=none\/ys[n]?=none)
  (hQ:∀ h',(∀ c o,c∉[z,TI,TO,i1,i2]->s.heap.get? c=some o->h'.get? c=some o)->Q none { s with heap:=h' }):
  wpAny (model prog w) A (pyNext (.ref z)) Q E s:=by
 obtain⟨nd,f1,f2⟩:=D;simp only[Bg,Ah,A4,or_false,not_or,List.nodup_nil,and_true,not_false_eq_true] at nd f1 f2;obtain⟨⟨n1,n2,n3,n4⟩,⟨n5,n6,n7⟩,⟨n8,n9⟩,n10⟩:=nd;obtain⟨a1,a2,a3,a4,a5⟩:=f1;obtain⟨b1,b2,b3,b4,b5⟩:=f2;obtain⟨hz,CS,⟨a,b,Em⟩,s1,s2⟩:=S;have hT:s.TypeIs (.ref z) "zip":=⟨_,hz,rfl⟩
 have fin:∀ (h':Heap) (e:Addr),(∀ c o,c∉[z,TI,TO,i1,i2]->s.heap.get? c=some o->h'.get? c=some o)->(∃ o,h'.get? e=some o/\o.cls=.type "StopIteration")->
   wpAny (model prog w) A (do if <- isInstance (.ref e) (.type "StopIteration") then pure none else throw (.ref e)) Q E { s with heap:=h' }:=λ h' e k1 k2=>by
  obtain⟨o,ho,hc⟩:=k2;exact Ab (wpAny_isInstance (T:="StopIteration") (b:=true) ⟨o,ho,hc⟩ isSubtype_stop (Ac (hQ _ k1)))
 unfold pyNext;refine Ab (wpAny_attempt (wpAny_callSpecial?_slot (name:=Str.ofString "__next__") hT F.slot_zip_next (wpAny_call_entry F.slot_zip_next hT F.entry_zip_next ?_ (F.args_zip_next_1 _))));refine Ab (m:=field (.ref z) 2) (wpAny_field hz rfl (x:=.bool false) rfl ?_);refine Ab (m:=field (.ref z) 3) (wpAny_field hz rfl (x:=.ref TI) rfl ?_);refine Ab (m:=seqItems? (.ref TI)) (wpAny_seqItems CS rfl ?_);refine Ab (m:=Builtin.SmallTypes.ownedTupleIsFree (.ref z)) (Ab (m:=field (.ref z) 0) (wpAny_field hz rfl (x:=.none) rfl (Ac ?_)));simp only[if_true];refine Ab (wpAny_rule (Ab (wpAny_field hz rfl (x:=.ref TO) rfl (Ab (wpAny_setField_rec hz (by simp) λ g1 hz1 e1=>?_)))));replace hz1:IsZip g1 z TI TO .ellipsis:=hz1;refine Ab ?_;simp only[DB,List.zipIdx_nil,DR,List.forIn_nil];cases hx:xs[n]? with
 | none=>
  refine Ab (Ab (wpAny_onRaise (Ab (m:=Builtin.SmallTypes.nextOf (.ref i1)) (j4 hh (s1.on λ o q=>e1.extBut _ _ (Ne.symm n3) q) (h1.on λ o q=>e1.extBut _ _ a1 q) hx λ g2 ex e2 he=>?_))));have hz2:IsZip g2 z TI TO .ellipsis:=e2 _ _ n3 hz1;obtain⟨oe,q1,q2⟩:=he;have ne:ex≠z:=λ q=>by subst q;rw[hz2] at q1;cases q1;simp at q2
  refine wpAny_setField_rec hz2 (by simp) λ g3 _ e3=>fin g3 ex (λ c o hc q=>?_) ⟨oe,e3.extBut _ _ ne q1,q2⟩;simp only[Ah,A4,or_false,not_or] at hc;exact e3.extBut _ _ hc.1 (e2 _ _ hc.2.2.2.1 (e1.extBut _ _ hc.1 q))
 | some x=>
  have hy:ys[n]?=none:=Bn.resolve_left (by rw[hx];simp);refine Ab (Ab (wpAny_onRaise (Ab (m:=Builtin.SmallTypes.nextOf (.ref i1)) (draw (s1.on λ o q=>e1.extBut _ _ (Ne.symm n3) q) (h1.on λ o q=>e1.extBut _ _ a1 q) hx λ g2 s12 e2=>Ac ?_))));have to2:IsPair g2 TO a b:=e2.extBut _ _ n8 (e1.extBut _ _ (Ne.symm n2) Em);refine Ab (wpAny_seqItems to2 rfl (Ab (wpAny_updateSeq_pair to2 λ g3 to3 e3=>Ab (wpAny_letGo (Ac ?_)))));have up:∀ c o,c≠z->c≠i1->c≠TO->s.heap.get? c=some o->g3.get? c=some o:=λ c o c1 c2 c3 q=>e3.extBut _ _ c3 (e2.extBut _ _ c2 (e1.extBut _ _ c1 q));refine Ab (Ab (wpAny_onRaise (Ab (m:=Builtin.SmallTypes.nextOf (.ref i2)) (j4 hh (s2.on λ o q=>up _ o (Ne.symm n4) (Ne.symm n10) (Ne.symm n9) q) (h2.on λ o q=>up _ o b1 b4 b3 q) hy λ g4 ex e4 he=>?_))));have hz4:IsZip g4 z TI TO .ellipsis:=e4 _ _ n4 (e3.extBut _ _ n2 (e2.extBut _ _ n3 hz1));obtain⟨oe,q1,q2⟩:=he;have ne:ex≠z:=λ q=>by subst q;rw[hz4] at q1;cases q1;simp at q2
  refine wpAny_setField_rec hz4 (by simp) λ g5 _ e5=>fin g5 ex (λ c o hc q=>?_) ⟨oe,e5.extBut _ _ ne q1,q2⟩;simp only[Ah,A4,or_false,not_or] at hc;exact e5.extBut _ _ hc.1 (e4 _ _ hc.2.2.2.2 (up c o hc.1 hc.2.2.2.1 hc.2.2.1 q))
end
abbrev vX (k:Bool) (l:Addr):Obj:={ cls:=.type (fT k),data:=.fields #[.ref l,.int 0 0] }
abbrev o9 (k1 k2:Bool) (h:Heap) (l1 l2:Addr):Heap:=(h.push (vX k1 l1)).push (vX k2 l2)
abbrev jm (k1 k2:Bool) (h:Heap) (l1 l2:Addr):Heap:=(o9 k1 k2 h l1 l2).push { cls:=.type "tuple",data:=.seq #[.ref h.objs.size,.ref (h.push (vX k1 l1)).objs.size] }
abbrev jl (k1 k2:Bool) (h:Heap) (l1 l2:Addr):Heap:=(jm k1 k2 h l1 l2).push { cls:=.type "tuple",data:=.seq #[.none,.none] }
abbrev o8 (k1 k2:Bool) (h:Heap) (l1 l2:Addr):Heap:=(jl k1 k2 h l1 l2).push { cls:=.type "zip",data:=.fields #[.none,.bool false,.bool false,.ref (o9 k1 k2 h l1 l2).objs.size,.ref (jm k1 k2 h l1 l2).objs.size] }
def PQ (k1 k2:Bool) (l1 l2:Addr) (xs ys:Array Value):Meets (Builtin.«zip.__new__» ⟨[.type "zip",.ref l1,.ref l2],[]⟩) (λ _ R s=>SQ s.heap k1 l1 xs/\SQ s.heap k2 l2 ys/\
   R (.ok (.ret (.ref (jl k1 k2 s.heap l1 l2).objs.size))) { s with heap:=o8 k1 k2 s.heap l1 l2 }):=
 .of_wp λ prog w A R s h=>by
  obtain⟨hp,g,d,tk,os⟩:=s;obtain⟨q1,q2,h⟩:=h;have CB:=sub_zip;have m1:SQ (Shared.heap ⟨hp,g,d,tk,os⟩) k1 l1 xs:=q1;have m2:SQ (Shared.heap ⟨hp.push (vX k1 l1),g,d,tk,os⟩) k2 l2 ys:=q2.on λ o e=>An _ e
  wp_walk using made m1,made m2
  exact⟨_,rfl,h⟩
section
variable {prog:Program}{w:World}{A:Around}{E:Value->Shared->Prop}{s:Shared}
def new {k1 k2:Bool}{l1 l2:Addr}{xs ys:Array Value}{Q:Value->Shared->Prop}(h1:SQ s.heap k1 l1 xs) (h2:SQ s.heap k2 l2 ys)
  (h:∀ h' z TI TO i1 i2,(∀ b∈[z,TI,TO,i1,i2],s.heap.objs.size<=b)->jP z TI TO i1 i2 l1 l2->At h' k1 k2 z TI TO i1 i2 l1 l2 .none 0->(∀ c o,s.heap.get? c=some o->h'.get? c=some o)->Q (.ref z) { s with heap:=h' }):
  wpAny (model prog w) A (call (.type "zip") [.ref l1,.ref l2]) Q E s:=by
 refine callType_new F.called_zip (by decide) (F.typeCall_zip_2 _ _) (F.newCall_zip_2 _ _) (λ obj=>F.args_object_init_3 obj _ _) F.entry_zip_new (PQ k1 k2 l1 l2 xs ys) ⟨h1,h2,?_⟩;have z1:(s.heap.push (vX k1 l1)).objs.size=s.heap.objs.size+1:=Heap.size_push ..;have z2:(o9 k1 k2 s.heap l1 l2).objs.size=s.heap.objs.size+2:=by rw[Heap.size_push,z1]
 have z3:(jm k1 k2 s.heap l1 l2).objs.size=s.heap.objs.size+3:=by rw[Heap.size_push,z2]
 have z4:(jl k1 k2 s.heap l1 l2).objs.size=s.heap.objs.size+4:=by rw[Heap.size_push,z3]
 have p1:∀ (h:Heap) (o:Obj),o.isFreed=false->(h.push o).get? h.objs.size=some o:=λ h o e=>AF _ e;have u:∀ {h:Heap}{b:Addr}{o:Obj}(o':Obj),h.get? b=some o->(h.push o').get? b=some o:=λ o' e=>An _ e;have g5:(o8 k1 k2 s.heap l1 l2).get? (jl k1 k2 s.heap l1 l2).objs.size=some _:=p1 _ _ rfl;have g4:(o8 k1 k2 s.heap l1 l2).get? (jm k1 k2 s.heap l1 l2).objs.size=some _:=u _ (p1 _ _ rfl);have g3:(o8 k1 k2 s.heap l1 l2).get? (o9 k1 k2 s.heap l1 l2).objs.size=some _:=u _ (u _ (p1 _ _ rfl));have g2:(o8 k1 k2 s.heap l1 l2).get? (s.heap.push (vX k1 l1)).objs.size=some (vX k2 l2):=u _ (u _ (u _ (p1 _ _ rfl)));have g1:(o8 k1 k2 s.heap l1 l2).get? s.heap.objs.size=some (vX k1 l1):=u _ (u _ (u _ (u _ (p1 _ _ rfl))));have a1:=h1.lt;have a2:=h2.lt;rw[z2,z3,z4] at g5;rw[z1,z2] at g3;rw[z3] at g4;rw[z1] at g2;generalize hN:s.heap.objs.size=N at *;have lt:∀ {m:Nat},m<N->∀ j:Nat,¬ m=N+j:=λ hm j=>by lia
 have ne:∀ {i j:Nat},i≠j->¬ (N+i=N+j):=λ A3 e=>A3 (by lia);show _/\_;rw[z4];refine⟨⟨_,g5,rfl⟩,h _ (N+4) (N+2) (N+3) N (N+1) (λ b hb=>?_) ⟨?_,?_,?_⟩ ⟨g5,g3,⟨_,_,g4⟩,⟨_,g1,rfl,rfl⟩,⟨_,g2,rfl,rfl⟩⟩ λ c o e=>u _ (u _ (u _ (u _ (u _ e))))⟩
 .simp only[Ah,A4,or_false] at hb;have h0:N<=N:=Ag N;rcases hb with e | e | e | e | e <;> subst e
  .exact Ce N 4
  .exact Ce N 2
  .exact Ce N 3
  .exact h0
  .exact Ce N 1
 .have e0:∀ {i:Nat},i≠0->¬ (N+i=N):=λ hi e=>hi (by lia);have e0':∀ {i:Nat},i≠0->¬ (N=N+i):=λ hi e=>hi (by lia);simp only[Bg,Ah,A4,or_false,not_or,List.nodup_nil,and_true,not_false_eq_true];exact⟨⟨ne (by decide),ne (by decide),e0 (by decide),ne (by decide)⟩,⟨ne (by decide),e0 (by decide),ne (by decide)⟩,⟨e0 (by decide),ne (by decide)⟩,e0' (by decide)⟩
 .simp only[Ah,A4,or_false,not_or];exact⟨lt a1 4,lt a1 2,lt a1 3,Ax a1,lt a1 1⟩
 .simp only[Ah,A4,or_false,not_or];exact⟨lt a2 4,lt a2 2,lt a2 3,Ax a2,lt a2 1⟩
end
end ZP
namespace L2
open PySem PySem.Spec PyProof.Rows ZP
section
variable {X:Cx}{pins:List (Addr×Obj)}{B:St}{H:Hp}{s:Shared}
def Inv.kj {h':Heap}{t':Nat}{fp:List Addr}(I:Inv X pins B H s) (k:∀ b o,b∉fp->s.heap.get? b=some o->h'.get? b=some o) (hf:∀ b∈fp,uj X pins H b):Inv X pins B H { s with heap:=h',toks:=t' }:=by
 have nit:∀ b u,H b=some u->b∉fp:=λ b u e z=>by rw[(hf b z).1] at e;cases e
 refine I.step (g':=s.gens) (d':=s.drawn) (ch:=fp) (λ b hb=>?_) (λ b o _ _ hc e _=>k b o hc e) (λ b o _ _ hc e _=>⟨o.slots,k b o hc e⟩) (λ _ _ _ _ n=>n)
  (λ b o hc e=>⟨o,k b o hc e⟩) (λ _ _ e=>e) (λ _ _ _ e=>e) (λ b ps e=>⟨#[],by rw[e];simp⟩) (λ m hm=>?_) (λ b u e=>?_) I.bare
 .obtain⟨_,q1,_,q2,q3,q4⟩:=hf b hb;exact⟨q2,q1,q3,q4⟩
 .obtain⟨o,es,ep,ho,r⟩:=hm;exact⟨o,es,ep,k _ o (λ z=>(hf _ z).2.1 rfl) ho,r⟩
 .refine (I.zC b u e).sk (λ c v hc q=>k c v ?_ q) (λ _ q=>q) λ _ _ q=>q;rcases hc with z | z
  .rw[z];exact nit b u e
  .exact nit c _ z
def wM (K:Ad) (H:Hp) (k:Bool) (a:Addr) (xs:List V):Prop:=match k with
 | true=>ye K H a xs
 | false=>zZ K H a xs
def wM.of (I:Inv X pins B H s) {k:Bool}{a:Addr}{xs:List V}(h:wM X.K H k a xs):∃ its:List Value,Vals xs its/\SQ s.heap k a its.toArray:=by
 cases k with
 | true=>obtain⟨its,rv,p,_⟩:=I.tuple h;exact⟨its,rv,p⟩
 | false=>obtain⟨its,rv,p,_⟩:=I.list h;exact⟨its,rv,p.isList⟩
def wM.inj (I:Inv X pins B H s) {k:Bool}{a:Addr}{xs ys:List V}(h:wM X.K H k a xs) (h':wM X.K H k a ys):xs=ys:=by
 cases k with
 | true=>exact I.ir h h'
 | false=>exact I.fL h h'
def Wa (K:Ad) (k1 k2:Bool) (a1 a2:Addr):It:=
 ⟨λ i H=>∃ xs ys x y,wM K H k1 a1 xs/\wM K H k2 a2 ys/\xs[i]?=some x/\ys[i]?=some y,
   λ i H v H'=>∃ p x y,v=.ref p/\H p=none/\H'=upd H p (.tup [x,y])/\(∀ xs,wM K H k1 a1 xs->xs[i]?=some x)/\∀ ys,wM K H k2 a2 ys->ys[i]?=some y,
   λ i H=>∃ xs ys,wM K H k1 a1 xs/\wM K H k2 a2 ys/\(xs.length<=i\/ys.length<=i)⟩
def Vi {P:Program}{w:World}{K:Ad}{es:List Expr}{kk} {pos:Pos}{k1 k2:Bool}{z TI TO i1 i2 a1 a2:Addr}(D:jP z TI TO i1 i2 a1 a2):
  Turn P w K (.Tuple es kk pos) (Wa K k1 k2 a1 a2) [z,TI,TO,i1,i2] z (λ i h=>At h k1 k2 z TI TO i1 i2 a1 a2 .none i) where
 mem:=by simp
 obj:=λ i h st b hb=>by
  obtain⟨q1,q2,⟨_,_,q3⟩,⟨o1,q4,_,d1⟩,⟨o2,q5,_,d2⟩⟩:=st;simp only[Ah,A4,or_false] at hb;rcases hb with e | e | e | e | e <;> subst e
  .exact⟨_,q1,λ v z=>by cases z⟩
  .exact⟨_,q2,λ v z=>by cases z⟩
  .exact⟨_,q3,λ v z=>by cases z⟩
  .exact⟨_,q4,λ v z=>by rw[d1] at z;cases z⟩
  .exact⟨_,q5,λ v z=>by rw[d2] at z;cases z⟩
 keep:=λ i h h' st k=>st.keep k
 item:=by
  intro X hP hw hK hc i pins s B H E I hf st hg;subst hP hw hK;obtain⟨xs,ys,x,y,g1,g2,hx,hy⟩:=hg;obtain⟨it1,rv1,q1⟩:=g1.of I;obtain⟨it2,rv2,q2⟩:=g2.of I;obtain⟨u1,e1,r1⟩:=rv1.get hx;obtain⟨u2,e2,r2⟩:=rv2.get hy;refine ZP.item D st q1 q2 (x:=u1) (y:=u2) (by simpa using e1) (by simpa using e2) λ h' S' T' up=>⟨_,rfl,?_⟩;refine wpAny_letOwnedTupleGo_zip S'.z λ h2 z2 sb=>?_;have nT:s.heap.objs.size∉[z,TI,TO,i1,i2]:=λ hb=>by
   obtain⟨o,ho,_⟩:=(show ∃ o,s.heap.get? s.heap.objs.size=some o/\True from by
    obtain⟨w1,w2,⟨_,_,w3⟩,⟨o1,w4,_⟩,⟨o2,w5,_⟩⟩:=st;simp only[Ah,A4,or_false] at hb;rcases hb with e | e | e | e | e <;> rw[e]
    .exact⟨_,w1,trivial⟩
    .exact⟨_,w2,trivial⟩
    .exact⟨_,w3,trivial⟩
    .exact⟨_,w4,trivial⟩
    .exact⟨_,w5,trivial⟩)
   exact absurd (Ao ho) (BX _)
  have nz:s.heap.objs.size≠z:=λ e=>nT (by simp[e]);have fr:H s.heap.objs.size=none:=I.zC.fresh (Ag _);have I1:Inv X pins B (upd H s.heap.objs.size (.tup [x,y])) { s with heap:=s.heap.push { cls:=.type "tuple",data:=.seq [u1,u2].toArray },toks:=s.toks }:=
   I.laid (o:=.tup [x,y]) (λ b u q=>An _ q) (Ag _) ⟨by show 2<=sizeLine;decide,[u1,u2],.cons r1 (.cons r2 .nil),IsTup.new _ _⟩
  have hf':∀ b∈[z,TI,TO,i1,i2],upd H s.heap.objs.size (.tup [x,y]) b=none:=λ b hb=>by
   rw[yV (λ e=>nT (by rw[<- e];exact hb))];exact (hf b hb).1
  have kk:∀ b o,b∉[z,TI,TO,i1,i2]->(s.heap.push { cls:=.type "tuple",data:=.seq [u1,u2].toArray }).get? b=some o->h2.get? b=some o:=λ b o hb q=>by
   have hbz:b≠z:=λ e=>hb (by simp[e]);by_cases Dy:b=s.heap.objs.size
   .subst Dy;rw[AF _ rfl] at q;cases q;exact sb.extBut _ _ nz T'
   .have q':s.heap.get? b=some o:=by rw[Heap.get?_push_ne _ _ _ Dy] at q;exact q
    exact sb.extBut _ _ hbz (up b o hb q')
  have I2:=Inv.kj (h':=h2) (t':=s.toks) (fp:=[z,TI,TO,i1,i2]) I1 kk λ b hb=>⟨hf' b hb,(hf b hb).2⟩;refine⟨.ref s.heap.objs.size,_,I2,rfl,⟨_,x,y,rfl,fr,rfl,λ zs hz=>by rw[hz.inj I g1];exact hx,λ zs hz=>by rw[hz.inj I g2];exact hy⟩,⟨z2,?_,?_,?_,?_⟩,hf'⟩
  .have nd:=D.nd;simp only[Bg,Ah,A4,or_false,not_or] at nd;exact sb.extBut _ _ (Ne.symm nd.1.1) S'.ti
  .obtain⟨a,b,e⟩:=S'.to;have nd:=D.nd;simp only[Bg,Ah,A4,or_false,not_or] at nd;exact⟨a,b,sb.extBut _ _ (Ne.symm nd.1.2.1) e⟩
  .have nd:=D.nd;simp only[Bg,Ah,A4,or_false,not_or] at nd;exact S'.s1.on λ o q=>sb.extBut _ _ (Ne.symm nd.1.2.2.1) q
  .have nd:=D.nd;simp only[Bg,Ah,A4,or_false,not_or] at nd;exact S'.s2.on λ o q=>sb.extBut _ _ (Ne.symm nd.1.2.2.2) q
 done:=by
  intro X hP hw hK hc i pins s B H E I hf st hg;subst hP hw hK;obtain⟨xs,ys,g1,g2,hx⟩:=hg;obtain⟨it1,rv1,q1⟩:=g1.of I;obtain⟨it2,rv2,q2⟩:=g2.of I;have l1:=rv1.length;have l2:=rv2.length;refine ZP.stop (I.ok.hd hc) D st q1 q2 ?_ λ h' up=>⟨rfl,I.kj (t':=s.toks) up hf⟩;rcases hx with hx | hx
  .exact .inl (by simp;lia)
  .exact .inr (by simp;lia)
 self:=λ _ _ _ _ _ st h=>wpAny_pyIter_zip st.z h
def OP (K:Ad) (ta:TA):TI:=fun B H R=>ta B H λ vs H1=>∃ a1 a2 k1 k2,vs=[.ref a1,.ref a2]/\(∃ xs,wM K H1 k1 a1 xs)/\(∃ ys,wM K H1 k2 a2 ys)/\R (Wa K k1 k2 a1 a2) H1
def Ts {a b:Expr}{ta:TA}{p pos pos':Pos}{es:List Expr}{kk} (hg:Gl X "zip") (hm:X.mg "zip"=none) (ha:PA X [a,b] ta) (hs:starEach [a,b] X.env=[(false,eval a X.env),(false,eval b X.env)]:=by rfl) (hs2:starEach [b] X.env=[(false,eval b X.env)]:=by rfl):
  PI X (.Tuple es kk pos') (.Call (.Name "zip" p) [a,b] [] pos) (OP X.K ta):=by
 intro pins s B H R I h;refine Call_ (oz I hg hm boot_zip (PyProof.Rows.callWith_type1 (zL (ha pos pins s B H _ I h) λ us s1 ⟨vs,H1,I1,r1,q1⟩=>?_) (by rw[hs,hs2]) (by rw[hs2];rfl)));obtain⟨a1,a2,k1,k2,rfl,⟨xs,g1⟩,⟨ys,g2⟩,q⟩:=q1;cases r1 with
 | cons r rr=>
  cases rr with
  | cons r' rr=>
   cases rr;cases r;cases r';obtain⟨it1,_,q1⟩:=g1.of I1;obtain⟨it2,_,q2⟩:=g2.of I1;refine ZP.new q1 q2 λ h' z TI TO i1 i2 nw D S up=>wpAny_pyIter_zip S.z ?_;exact⟨z,[z,TI,TO,i1,i2],_,_,H1,rfl,I1.kept (t':=s1.toks) up,Vi D,S,λ b hb=>I1.jr (nw b hb) (I1.zC.fresh (nw b hb)),q⟩
end
end L2
namespace L5
open PySem PySem.Spec L2 L3
open PyProof.Rows hiding St
section
variable {X:Cx}{K:Ad}{a b:Expr}{tA:yD}{pos p pos':Pos}
def Yh (t:yD):vj:=fun Y S R=>t Y S λ ds S1=>∃ d e xs ys,ds=[d,e]/\zU d S1=some xs/\zU e S1=some ys/\R ⟨List.zipWith (λ x y=>D.tup [x,y]) xs ys,λ S=>zU d S=some xs/\zU e S=some ys⟩ S1
noncomputable def m7:D->Bool
 | .tup _=>true
 | _=>false
def zU.k {H:Hp}{S:SS}{d:D}{v:V}{ds:List D}(r:zk K H d v) (p:zT K H S) (e:zU d S=some ds):∃ a xs,v=.ref a/\wM K H (m7 d) a xs/\zq K H ds xs:=by
 by_cases q:∃ ts,d=.tup ts
 .obtain⟨ts,rfl⟩:=q;cases e;simp only[zk] at r;obtain⟨a,xs,h1,h2,h3⟩:=r;exact⟨a,xs,h1,h2,h3⟩
 .obtain⟨a,xs,h1,h2,h3⟩:=sA r p e λ ts z=>q ⟨ts,z⟩;refine⟨a,xs,h1,?_,h3⟩;have:m7 d=false:=by cases d <;> first | rfl | exact absurd ⟨_,rfl⟩ q
  rw[this];exact h2
end
section
variable {X:Cx}{K:Ad}{a b:Expr}{tA:yD}{pos p pos':Pos}{es:List Expr}{kk:Nat}
def Sz (hm:X.mg "zip"=none) (ha:wb X [a,b] tA) (hg:Gl X "zip":=by rfl) (hs:starEach [a,b] X.env=[(false,eval a X.env),(false,eval b X.env)]:=by rfl) (hs2:starEach [b] X.env=[(false,eval b X.env)]:=by rfl):
  qk X (.Tuple es kk pos') (.Call (.Name "zip" p) [a,b] [] pos) (Yh tA):=by
 refine⟨fun Y S Q Q' hq z=>ha.mo Y S _ _ (λ ds S1 ⟨d,e,xs,ys,h1,h2,h3,h4⟩=>⟨d,e,xs,ys,h1,h2,h3,hq _ _ h4⟩) z,PI.imp (Ts hg hm ha.pa hs hs2) fun B H R hu=>?_⟩;obtain⟨Y,S,r1,r2,z⟩:=hu;refine vc.go ha.mo r1 r2 z λ ds S1 vs H1 h1 q1 e1 p1=>?_;obtain⟨d,e,xs,ys,rfl,s1,s2,h⟩:=h1;obtain⟨v,u,rfl,d1,d2⟩:=q1.two;obtain⟨a1,us,rfl,g1,g2⟩:=zU.k d1 p1 s1;obtain⟨a2,ws,rfl,g3,g4⟩:=zU.k d2 p1 s2;refine⟨a1,a2,m7 d,m7 e,rfl,⟨us,g1⟩,⟨ws,g3⟩,h _ H1 e1 p1 λ i H2 S2 x1 x2 hk=>?_⟩;obtain⟨b1,us2,q1,m1,m2⟩:=zU.k (zk.ext x1 d d1) x2 hk.1;cases q1;obtain⟨b2,ws2,q2,m3,m4⟩:=zU.k (zk.ext x1 e d2) x2 hk.2;cases q2;have l1:=m2.length;have l2:=m4.length;refine⟨λ dd hd=>?_,λ hl=>⟨us2,ws2,m1,m3,?_⟩⟩
 .rw[List.getElem?_zipWith] at hd;split at hd
  .rename_i dx dy hx hy;cases hd;obtain⟨x,hx',rx⟩:=m2.get hx;obtain⟨y,hy',ry⟩:=m4.get hy;refine⟨⟨us2,ws2,x,y,m1,m3,hx',hy'⟩,λ v H' q=>?_⟩;obtain⟨pp,x',y',rfl,hp,rfl,f1,f2⟩:=q;have ex:x'=x:=by have:=f1 _ m1;rw[hx'] at this;exact (A5 this).symm
   have ey:y'=y:=by have:=f2 _ m3;rw[hy'] at this;exact (A5 this).symm
   subst ex ey;refine⟨.new hp _,x2.new hp,?_⟩;simp only[zk];exact⟨pp,_,rfl,ye.of yK,zq.ext (.new hp _) _ (.cons rx (.cons ry .nil))⟩
  .cases hd
 .have hl':(List.zipWith (λ x y=>D.tup [x,y]) xs ys).length<=i:=hl;rw[List.length_zipWith] at hl';lia
@[simp] noncomputable def ie:List T->Option (List T)
 | [x,y]=>(wj x).bind λ xs=>(wj y).map λ ys=>List.zipWith (λ a b=>T.tup [a,b]) xs ys
 | _=>none
theorem aj {S:SS}:∀ {ts us:List T}{ds es:List D},zp S ts ds->zp S us es->zp S (List.zipWith (λ a b=>T.tup [a,b]) ts us) (List.zipWith (λ x y=>D.tup [x,y]) ds es)
 | [],us,ds,es,h,h'=>by simp only[zp] at h;subst h;simpa using zp.nil
 | t::ts,[],ds,es,h,h'=>by simp only[zp] at h';subst h';simpa using zp.nil
 | t::ts,u::us,ds,es,h,h'=>by
  simp only[zp] at h h';obtain⟨c,cs,rfl,h1,h2⟩:=h;obtain⟨c',cs',rfl,h3,h4⟩:=h';exact zp.cons (qC (zp.cons h1 (zp.cons h3 zp.nil))) (aj h2 h4)
def zU.sx {S S':SS}{d:D}{ds:List D}(h:zU d S=some ds) (s:Sx S S'):zU d S'=some ds:=by
 unfold zU at h ⊢;split at h
 .exact h
 .exact h
 .split at h
  .rename_i q;cases h;rw[s _ _ q]
  .cases h
 .cases h
def RE {g:Ev->Option (List T)}(h:p9 g tA):ql false (vg ie g) (Yh tA):=λ S Z Y J ts Q hE e hq=>by
 obtain⟨ys,e1,e2⟩:=Aj e;refine h S Z Y J ys _ hE e1 λ ds S1 s1 r1=>?_;unfold ie at e2;split at e2
 .obtain⟨xs,e3,e4⟩:=Aj e2;obtain⟨zs,e5,rfl⟩:=AA e4;obtain⟨d,d',rfl,h1,h2⟩:=bI r1;obtain⟨es,g1,g2⟩:=h1.seq e3;obtain⟨es',g3,g4⟩:=h2.seq e5;exact⟨d,d',es,es',rfl,g1,g3,hq _ S1 s1 (aj g2 g4) λ S'' s=>⟨zU.sx g1 s,zU.sx g3 s⟩⟩
 .cases e2
theorem zU.zW {S:SS}{Z:Addr->Prop}{y:T}{d:D}{ts:List T}(h:Sn (zW S Z) y d) (e:wj y=some ts):∃ ds,zU d (zW S Z)=some ds/\zp (zW S Z) ts ds:=by
 cases y with
 | tup us=>cases e;simp only[Sn] at h;obtain⟨ds,rfl,h2⟩:=h;exact⟨ds,rfl,h2⟩
 | lst us=>
  cases e;simp only[Sn] at h;obtain⟨ds,⟨rfl,_⟩ | ⟨a,rfl,h1⟩,h2⟩:=h
  .exact⟨ds,rfl,h2⟩
  .exact⟨ds,by unfold zU;dsimp only;rw[h1],h2⟩
 | zh=>cases e
 | bl _=>cases e
 | int _=>cases e
 | str _=>cases e
 | yd=>cases e
end
end L5
namespace HT
open PySem PyProof.Rows
section
variable {prog:Program}{w:World}{A:Around}{E:Value->Shared->Prop}{s:Shared}
def Mf {t sl:Addr}{items:Array Value}{vl vu:Value}{lo hi:Option Int}{Q:Value->Shared->Prop}(ht:IsTup s.heap t items) (hs:s.heap.IsSliceOf sl vl vu .none) (pl:IsPart vl lo) (pu:IsPart vu hi)
  (hw:zO items.size 0 lo=0/\zO items.size items.size hi=items.size) (h:Q (.ref t) s):wpAny (model prog w) A (getItem (.ref t) (.ref sl)) Q E s:=by
 have hT:=ht.typeIs;obtain⟨os,e1,e2,e3⟩:=id hs;have hS:s.TypeIs (.ref sl) "slice":=⟨os,e1,e2⟩
 unfold getItem
 try with_reducible refine wpAny_holding ?_
 first | refine Ab (Ac ?_) | skip
 refine Ab (wpAny_sequenceKey hT (by decide) (Ab (wpAny_callSpecial?_slot (name:=Str.ofString "__getitem__") hT PyProof.Rows.slot_tuple_getitem (wpAny_call_entry PyProof.Rows.slot_tuple_getitem hT entry_tuple_getitem ?_ (args_tuple_getitem _ _)))));refine Ab (m:=Builtin.Tuple.tupleItemsOf (.ref t)) (tupleItemsOf_ ht (Ab (wpAny_typeOf hS ?_)));rw[if_pos (by decide)];refine Ab (au hs pl pu ?_);have yes:(((zO items.size 0 lo:Nat):Int) == 0&&(1:Int) == 1&&(zO items.size items.size hi-zO items.size 0 lo) == items.size)=true:=by rw[hw.1,hw.2];simp
 show wpAny _ _ (if (((zO items.size 0 lo:Nat):Int) == 0&&(1:Int) == 1&&(zO items.size items.size hi-zO items.size 0 lo) == items.size)=true then _ else _) _ _ s;rw[if_pos yes];refine Ab (m:=Builtin.Tuple.tupleIsExact (.ref t)) (Ab (wpAny_typeOf hT (Ac ?_)));rw[if_pos (by decide)]
 first
  | exact Ab (wpAny_rule (Ac ⟨_,rfl,Ac h⟩))
  | exact Ab (wpAny_rule (Ab (Ac (Ac ⟨_,rfl,Ac h⟩))))
end
end HT
namespace L2
open PySem PySem.Spec PyProof.Rows
section
variable {X:Cx}
def aO (K:Ad):V->Option Int->Option Int->Hp->VK->Prop:=λ x lo hi H Q=>∃ a xs,x=.ref a/\ye K H a xs/\(HT.zO xs.length 0 lo=0/\HT.zO xs.length xs.length hi=xs.length)/\Q (.ref a) H
def VY:qj X (aO X.K):=by
 intro pins s B H x v vl vu lo hi sl Q I rx hs pl pu h;obtain⟨a,xs,rfl,hx,hw,q⟩:=h;cases rx;obtain⟨its,r,ht,hz⟩:=I.tuple hx;have hlen:its.toArray.size=xs.length:=by rw[Aq];exact r.length.symm
 exact⟨"tuple",_,PyProof.Rows.slot_tuple_getitem.lookup,ht.typeIs,HT.Mf ht hs pl pu (by rw[hlen];exact hw) ⟨.ref a,H,I,rfl,q⟩⟩
end
end L2
namespace L5
open PySem PySem.Spec L2 L3
open PyProof.Rows hiding St
def uY {α:Type}(xs:List α) (lo hi:Option Int):List α:=(xs.drop (HT.zO xs.length 0 lo)).take (HT.zO xs.length xs.length hi-HT.zO xs.length 0 lo)
section
variable {X:Cx}{K:Ad}{e:Expr}{lo hi:Option Expr}{te:zA}{tl th:Option zA}{pos p2:Pos}
def uX (t:Option zA):yt->SS->(Option Int->SS->Prop)->Prop:=fun Y S Q=>match t with
 | none=>Q none S
 | some t=>t Y S λ d S1=>match d with
  | .int i=>Q (some i) S1
  | _=>False
def XZ (t:Option zA):Prop:=∀ u,t=some u->yv u
def uX.mo (h:XZ tl):∀ Y S (Q Q':Option Int->SS->Prop),(∀ d S',Q d S'->Q' d S')->uX tl Y S Q->uX tl Y S Q':=fun Y S Q Q' hq z=>by
 cases tl with
 | none=>exact hq _ _ z
 | some t=>exact h t rfl Y S _ _ (λ d S1 z=>by cases d <;> first | exact hq _ _ z | exact z) z
noncomputable def Va (K:Ad) (t:Option zA):TO:=fun B H Q=>∃ Y S,xb K H Y B/\zT K H S/\uX t Y S λ o S1=>∀ H1,Ext H H1->zT K H1 S1->Q o H1
structure jD (X:Cx) (e:Option Expr) (t:Option zA):Prop where
 mo:XZ t
 po:PO X e (Va X.K t)
def Sy:jD X none none:=⟨nofun,λ pins s B H Q I h=>by
 obtain⟨Y,S,r1,r2,z⟩:=h;exact Tj pins s B H Q I (z H (.refl H) r2)⟩
def Sv (h:PD X e te):jD X (some e) (some te):=⟨λ u q=>by cases q;exact h.mo,λ pins s B H Q I hu=>by
 refine Ti h.pe pins s B H Q I ?_;obtain⟨Y,S,r1,r2,z⟩:=hu;refine zV.go h.mo r1 r2 z λ d S1 v H1 h1 q1 e1 p1=>?_;cases d with
 | int i=>simp only[zk] at q1;exact⟨i,q1,h1 H1 e1 p1⟩
 | zh=>exact h1.elim
 | bl _=>exact h1.elim
 | str _=>exact h1.elim
 | tup _=>exact h1.elim
 | yW _=>exact h1.elim
 | ref _=>exact h1.elim⟩
def uV (d:D) (lo hi:Option Int) (S:SS) (Q:DK):Prop:=match d with
 | .tup ds=>Q (.tup (uY ds lo hi)) S
 | d=>∃ ds,zU d S=some ds/\∀ p,S p=none->Q (.ref p) (ups S p (.lst (uY ds lo hi)))
def uV.mo {d:D}{lo hi:Option Int}{S:SS}{Q Q':DK}(hq:∀ d S',Q d S'->Q' d S') (h:uV d lo hi S Q):uV d lo hi S Q':=by
 unfold uV at h ⊢;split at h
 .exact hq _ _ h
 .obtain⟨ds,h1,h2⟩:=h;exact⟨ds,h1,λ p hp=>hq _ _ (h2 p hp)⟩
def zq.cut {H:Hp}{ds:List D}{xs:List V}(h:zq K H ds xs) (lo hi:Option Int):zq K H (uY ds lo hi) (tP xs lo hi):=by
 have hd:∀ {ds:List D}{xs:List V}(n:Nat),zq K H ds xs->zq K H (ds.drop n) (xs.drop n):=by
  intro ds
  induction ds with
  | nil=>intro xs n h;simp only[zq] at h;subst h;simpa using zq.nil
  | cons d ds ih=>
   intro xs n h;simp only[zq] at h;obtain⟨y,ys,rfl,h1,h2⟩:=h;cases n with
   | zero=>exact .cons h1 h2
   | succ n=>exact ih n h2
 have ht:∀ {ds:List D}{xs:List V}(n:Nat),zq K H ds xs->zq K H (ds.take n) (xs.take n):=by
  intro ds
  induction ds with
  | nil=>intro xs n h;simp only[zq] at h;subst h;simpa using zq.nil
  | cons d ds ih=>
   intro xs n h;simp only[zq] at h;obtain⟨y,ys,rfl,h1,h2⟩:=h;cases n with
   | zero=>exact .nil
   | succ n=>exact .cons h1 (ih n h2)
 unfold uY tP;rw[h.length];exact ht _ (hd _ h)
def Mg {xs:List V}{lo hi:Option Int}(h:HT.zO xs.length 0 lo=0/\HT.zO xs.length xs.length hi=xs.length):tP xs lo hi=xs:=by
 unfold tP;rw[h.1,h.2];simp
abbrev UJ (K:Ad):V->Option Int->Option Int->Hp->VK->Prop:=λ x lo hi H Q=>aQ K x lo hi H Q\/(aP K x lo hi H Q\/aO K x lo hi H Q)
def uV.fits {d:D}{v:V}{lo hi:Option Int}{H:Hp}{S:SS}{Q:VK}(h1:zk K H d v) (h2:zT K H S) (h:uV d lo hi S (va K H Q)):UJ K v lo hi H Q:=by
 unfold uV at h;split at h
 .simp only[zk] at h1;obtain⟨a,xs,rfl,g1,g2⟩:=h1;by_cases hw:HT.zO xs.length 0 lo=0/\HT.zO xs.length xs.length hi=xs.length
  .refine .inr (.inr ⟨a,xs,rfl,g1,hw,h _ H ?_ (.refl H) h2⟩);simp only[zk];refine⟨a,xs,rfl,g1,?_⟩;have:=zq.cut g2 lo hi;rw[Mg hw] at this;exact this
  .refine .inr (.inl ⟨a,xs,rfl,g1,hw,λ p hp=>h _ _ ?_ (.new hp _) (h2.new hp)⟩);simp only[zk];exact⟨p,_,rfl,ye.of yK,zq.ext (.new hp _) _ (zq.cut g2 lo hi)⟩
 .rename_i hn;obtain⟨ds,e,h⟩:=h;obtain⟨a,xs,rfl,g1,g2⟩:=sA h1 h2 e (λ ts z=>hn ts z);exact .inl ⟨a,xs,rfl,g1,λ p hp=>h p (h2.none hp) _ _ (by simp only[zk]) (.new hp _) (h2.ups (.new hp _) ⟨_,yK,zq.ext (.new hp _) _ (zq.cut g2 lo hi)⟩)⟩
def Xf (te:zA) (tl th:Option zA):zA:=fun Y S Q=>te Y S λ x S1=>uX tl Y S1 λ l S2=>uX th Y S2 λ u S3=>uV x l u S3 Q
def SD (he:PD X e te) (hl:jD X lo tl) (hh:jD X hi th):PD X (.Subscript e (.Slice lo hi none p2) pos) (Xf te tl th):=by
 refine⟨fun Y S Q Q' hq z=>he.mo Y S _ _ (λ x S1 z=>uX.mo hl.mo Y S1 _ _ (λ l S2 z=>uX.mo hh.mo Y S2 _ _ (λ u S3 z=>uV.mo hq z) z) z) z,
  PE.imp (TH (V_.or (VZ.or VY)) he.pe hl.po hh.po) fun B H Q hu=>?_⟩
 obtain⟨Y,S,r1,r2,z⟩:=hu;refine zV.go he.mo r1 r2 z λ x S1 v H1 h1 q1 e1 p1=>?_;refine⟨Y,S1,r1.ext e1,p1,uX.mo hl.mo Y S1 _ _ (λ l S2 h2 H2 e2 p2=>?_) h1⟩;refine⟨Y,S2,(r1.ext e1).ext e2,p2,uX.mo hh.mo Y S2 _ _ (λ u S3 h3 H3 e3 p3=>?_) h2⟩;exact uV.fits (zk.ext (e2.trans e3) x q1) p3 (uV.mo (λ d S' z=>z.ext ((e1.trans e2).trans e3)) h3)
@[simp] noncomputable def di:Option (Ev->Option T)->Ev->Option (Option Int)
 | none,_=>some none
 | some f,J=>(f J).bind λ x=>match x with
  | .int i=>some (some i)
  | _=>none
def jK (f:Option (Ev->Option T)) (t:Option zA):Prop:=∀ S Z Y J y Q,ER S Z Y J->di f J=some y->(∀ S',Sx S S'->Q y S')->uX t Y S Q
def RV:jK none none:=λ S Z Y J y Q hE e hq=>by cases e;exact hq S (.refl S)
def RU {f:Ev->Option T}(h:yN f te):jK (some f) (some te):=λ S Z Y J y Q hE e hq=>by
 obtain⟨x,e1,e2⟩:=Aj e;refine h S Z Y J x _ hE e1 λ d S1 s1 r1=>?_;split at e2
 .cases e2;cases Vw.int r1;exact hq S1 s1
 .cases e2
@[simp] noncomputable def Xr (lo hi:Option Int):T->Option T
 | .tup ts=>some (.tup (uY ts lo hi))
 | .lst ts=>some (.lst (uY ts lo hi))
 | _=>none
@[simp] def av (f:Ev->Option T) (lo hi:Option (Ev->Option T)):Ev->Option T:=fun J=>(f J).bind λ x=>(di lo J).bind λ l=>(di hi J).bind λ u=>Xr l u x
def zp.cut {S:SS}{ts:List T}{ds:List D}(h:zp S ts ds) (lo hi:Option Int):zp S (uY ts lo hi) (uY ds lo hi):=by
 unfold uY;rw[h.len];exact zp.take' _ (zp.drop' _ h)
def Qm {f:Ev->Option T}{l u:Option (Ev->Option T)}(h:yN f te) (hl:jK l tl) (hu:jK u th):wc (av f l u) (Xf te tl th):=λ S Z Y J y Q hE e hq=>by
 obtain⟨x,e1,e⟩:=Aj e;obtain⟨l',e2,e⟩:=Aj e;obtain⟨u',e3,e⟩:=Aj e;refine h S Z Y J x _ hE e1 λ d S1 s1 r1=>?_;refine hl S1 Z Y J l' _ (hE.grow s1) e2 λ S2 s2=>?_;refine hu S2 Z Y J u' _ (hE.grow (s1.trans s2)) e3 λ S3 s3=>?_;have r3:Vw S3 Z x d:=Vw.grow r1 (s2.trans s3);have hz:=(hE.grow ((s1.trans s2).trans s3)).zd;unfold Xr at e;split at e
 .cases e;obtain⟨ds,rfl,h2⟩:=r3.tup;exact hq _ S3 ((s1.trans s2).trans s3) (Cl.of (λ _=>nofun) (qC (zp.cut h2 _ _)))
 .cases e;obtain⟨ds,h1,h2⟩:=r3.seq rfl;have key:∃ ds,zU d S3=some ds/\∀ p,S3 p=none->Q (.ref p) (ups S3 p (.lst (uY ds l' u'))):=⟨ds,h1,λ p hp=>hq _ _ (((s1.trans s2).trans s3).trans (.new hp _)) (Cl.cl ((s1.trans s2).trans s3) (t5 hz hp (zp.cut h2 _ _)))⟩
  obtain⟨_,q | ⟨a,q,_⟩,_⟩:=r3.lst
  .subst q;exact key
  .subst q;exact key
 .cases e
end
end L5
namespace TM
open PySem PyProof.Rows
def noFill:fillsNumberSlot (.type "tuple") "mul"=pure false:=
 PySem.fillsNumberSlot_seq (id:="tuple.__mul__") (r:=some (.builtin "tuple.__rmul__")) F.slot_tuple_mul.lookup (by decide +kernel) F.slot_tuple_rmul.lookup (by decide +kernel)
def rep:seqRepeat? (.type "tuple")=pure (some (.builtin "tuple.__mul__")):=by
 have a:=PySem.seqSlot_of (T:="tuple") (name:="__mul__") (id:="tuple.__mul__") F.slot_tuple_mul.lookup (by decide +kernel);have b:=PySem.seqSlot_of (T:="tuple") (name:="__rmul__") (id:="tuple.__rmul__") F.slot_tuple_rmul.lookup (by decide +kernel);unfold seqRepeat?;rw[a,b];rfl
def declines (i:Int) (t:Tok) (l:Addr) (items:Array Value) (n:Nat) (dd:Option Addr) (sl:Array (Option Value)):
  Meets (Builtin.«int.__rmul__» ⟨[.int i t,.ref l],[]⟩) (λ _ R s=>s.heap.get? l=some { cls:=.type "tuple",dict:=dd,data:=.seq items n,slots:=sl }/\R (.ok (.ret Value.notImplemented)) s):=
 .of_wp λ prog w A R s h=>by
  obtain⟨hp,g,d,tk,os⟩:=s;obtain⟨hl,h⟩:=h
  wp_walk
  exact⟨_,rfl,h⟩
theorem eD {α:Type}(xs:List α):∀ (m:Nat) (acc:Array α),(List.replicate m xs.toArray).foldl (·++·) acc=acc++(List.replicate m xs).flatten.toArray
 | 0,acc=>by simp
 | m+1,acc=>by
  rw[BN,DF,eD xs m,BN,Ci,Array.append_assoc];simp
def PC (k:Int) (t:Tok) (l:Addr) (items:Array Value) (n:Nat) (dd:Option Addr) (sl:Array (Option Value)) (h1:¬ (decide (k < -(2 ^ 63))||decide (k≥2 ^ 63))=true) (h2:¬ (items.isEmpty||k == 1)=true) (h3:¬ (decide (k<=0)||items.isEmpty)=true)
  (h4:¬ (items.size*k>(2 ^ 63-1)/8)) (h5:¬ Builtin.Tuple.tupleTooMany (items.size*k)=true) (h6:((List.replicate k.toNat items).foldl (·++·) #[]).size<=sizeLine):
  Meets (Builtin.«tuple.__mul__» ⟨[.ref l,.int k t],[]⟩) (λ _ R s=>s.heap.get? l=some { cls:=.type "tuple",dict:=dd,data:=.seq items n,slots:=sl }/\
   R (.ok (.ret (.ref s.heap.objs.size))) { s with heap:=s.heap.push { cls:=.type "tuple",data:=.seq ((List.replicate k.toNat items).foldl (·++·) #[]) } }):=
 .of_wp λ prog w A R s h=>by
  obtain⟨hp,g,d,tk,os⟩:=s;obtain⟨hl,h⟩:=h;have e0:IsTup (Shared.heap ⟨hp,g,d,tk,os⟩) l items:=⟨_,hl,rfl,n,rfl⟩
  wp_walk
  rw[if_neg h1];refine Ab (m:=Builtin.Tuple.tupleItemsOf (.ref l)) (tupleItemsOf_ e0 ?_);dsimp only;rw[if_neg h2,if_neg h3,if_neg h4,if_neg h5];exact Ab (m:=Builtin.Tuple.tupleExact _) (wpAny_newObj_type (Ac ⟨_,rfl,h⟩) h6)
def PH (t:Tok) (l:Addr) (items:Array Value) (n:Nat) (dd:Option Addr) (sl:Array (Option Value)):
  Meets (Builtin.«tuple.__mul__» ⟨[.ref l,.int 1 t],[]⟩) (λ _ R s=>s.heap.get? l=some { cls:=.type "tuple",dict:=dd,data:=.seq items n,slots:=sl }/\R (.ok (.ret (.ref l))) s):=
 .of_wp λ prog w A R s h=>by
  obtain⟨hp,g,d,tk,os⟩:=s;obtain⟨hl,h⟩:=h;have c:(items.isEmpty||(1:Int) == 1)=true:=by simp
  wp_walk
  exact⟨_,rfl,h⟩
section
variable {prog:Program}{w:World}{A:Around}{E:Value->Shared->Prop}{s:Shared}
def times {l:Addr}{its:List Value}{k:Int}{t:Tok}{Q:Value->Shared->Prop}(ht:IsTup s.heap l its.toArray) (Ai:its≠[]) (h0:1<=k) (hz:its.length*k.toNat<=sizeLine)
  (one:k=1->Q (.ref l) s) (more:k≠1->Q (.ref s.heap.objs.size) { s with heap:=s.heap.push { cls:=.type "tuple",data:=.seq (List.replicate k.toNat its).flatten.toArray } }):
  wpAny (model prog w) A (binaryOp .Mult (.ref l) (.int k t)) Q E s:=by
 have hT:=ht.typeIs;obtain⟨⟨cls,dd,data,sl⟩,ho,hc,n,hd⟩:=id ht;simp only at hc hd;subst hc hd;refine wpAny_binaryOp_repeat_ref (T:="tuple") (U:="int") (by decide) hT (λ s'=>typeIs_int s' k t) noFill F.fills_int_mul F.slot_int_rmul rep F.slot_int_index.lookup
  (call_meets F.slot_int_rmul (typeIs_int s k t) F.entry_int_rmul (F.args_int_rmul_2 _ _) (declines k t l its.toArray n dd sl) ⟨ho,rfl,hT,?_⟩)
 have hlen:0<its.length:=D3.mpr Ai;have DZ:its.toArray.isEmpty=false:=by cases its with
  | nil=>exact absurd rfl Ai
  | cons a r=>rfl
 by_cases h1:k=1
 .subst h1;exact call_meets F.slot_tuple_mul hT F.entry_tuple_mul (F.args_tuple_mul_2 _ _) (PH t l its.toArray n dd sl) ⟨ho,one rfl⟩
 .have hks:k.toNat<=sizeLine:=Bi (Nat.le_mul_of_pos_left _ hlen) hz;have hl:sizeLine=16777216:=rfl;have hk2:k<=16777216:=by lia
  have hcast:((its.toArray.size:Nat):Int)*k=((its.length*k.toNat:Nat):Int):=by
   rw[Aq,Int.natCast_mul,Cw (by lia)]
  have hf:(List.replicate k.toNat its.toArray).foldl (·++·) #[]=(List.replicate k.toNat its).flatten.toArray:=by rw[eD];simp
  have EI:(List.replicate k.toNat its).flatten.length=k.toNat*its.length:=by simp
  refine call_meets F.slot_tuple_mul hT F.entry_tuple_mul (F.args_tuple_mul_2 _ _) (PC k t l its.toArray n dd sl ?_ ?_ ?_ ?_ ?_ ?_) ⟨ho,?_⟩
  .simp only[DA,decide_eq_true_eq,not_or];exact⟨by lia,by lia⟩
  .rw[DZ];simpa using h1
  .rw[DZ];simp;lia
  .rw[hcast];lia
  .rw[hcast];intro q;unfold Builtin.Tuple.tupleTooMany at q;have:=of_decide_eq_true q;lia
  .rw[hf,Aq,EI,DM];exact hz
  .rw[hf];exact more h1
end
end TM
namespace L2
open PySem PySem.Spec PyProof.Rows
def gN (K:Ad):R2:=λ x y H Q=>∃ a k xs,x=.ref a/\y=.int k/\ye K H a xs/\xs≠[]/\1<=k/\xs.length*k.toNat<=sizeLine/\(k=1->Q (.ref a) H)/\(k≠1->∀ p,H p=none->Q (.ref p) (upd H p (.tup (List.replicate k.toNat xs).flatten)))
def Rg {X:Cx}:yu X (binaryOp .Mult) (gN X.K):=by
 intro pins s B H x y v u Q I rx ry h;obtain⟨a,k,xs,rfl,rfl,hx,Ai,h1,hz,q1,q2⟩:=h;cases rx;obtain⟨t,rfl⟩:=ry;obtain⟨its,r,ht,_⟩:=I.tuple hx;have hl:=r.length;refine TM.times ht (λ z=>Ai (r.mx.mp z)) h1 (by rw[<- hl];exact hz) (λ e=>⟨.ref a,H,I,rfl,q1 e⟩) λ e=>?_;have hlen:(List.replicate k.toNat xs).flatten.length<=sizeLine:=by
  have:(List.replicate k.toNat xs).flatten.length=k.toNat*xs.length:=by simp
  rw[this,DM];exact hz
 exact⟨.ref _,_,I.laid (t':=s.toks) (o:=.tup (List.replicate k.toNat xs).flatten) (λ b ob q=>An _ q) (Ag _) ⟨hlen,_,r.rep k.toNat,IsTup.new _ _⟩,rfl,q2 e _ (I.zC.fresh (Ag _))⟩
end L2
namespace L5
open PySem PySem.Spec L2 L3
open PyProof.Rows hiding St
section
variable {X:Cx}{K:Ad}{a b:Expr}{ta tb:zA}{pos:Pos}
def tI:xc:=λ x y S Q=>match x,y with
 | .int i,.int j=>wN i j/\Q (.int (i*j)) S
 | .tup ds,.int k=>(ds≠[]/\1<=k/\ds.length*k.toNat<=sizeLine)/\Q (.tup (List.replicate k.toNat ds).flatten) S
 | _,_=>False
noncomputable def fB:T->T->Option T
 | .int i,.int j=>if wN i j then some (.int (i*j)) else none
 | .tup ts,.int k=>if ts≠[]/\1<=k/\ts.length*k.toNat<=sizeLine then some (.tup (List.replicate k.toNat ts).flatten) else none
 | _,_=>none
def tI.mo:we tI:=λ x y S Q Q' hq h=>by
 unfold tI at h ⊢;split at h
 .exact⟨h.1,hq _ _ h.2⟩
 .exact⟨h.1,hq _ _ h.2⟩
 .exact h.elim
theorem zq.rep {H:Hp}{ds:List D}{xs:List V}(h:zq K H ds xs):∀ n:Nat,zq K H (List.replicate n ds).flatten (List.replicate n xs).flatten
 | 0=>.nil
 | n+1=>by
  rw[BN,BN,Ci,Ci];exact h.append (zq.rep h n)
def tI.fits:xO K tI (λ x y H Q=>rI wN (λ i j=>.int (i*j)) x y H Q\/gN K x y H Q):=λ x y d e H S Q h1 h2 h3 h=>by
 unfold tI at h;split at h
 .simp only[zk] at h1 h2;exact .inl ⟨_,_,h1,h2,h.1,h.2 _ H (by simp only[zk]) (.refl H) h3⟩
 .rename_i ds k;obtain⟨⟨c1,c2,c3⟩,h⟩:=h;have h1':=h1;simp only[zk] at h1 h2;obtain⟨a,xs,rfl,g1,g2⟩:=h1;have hl:=g2.length;refine .inr ⟨a,k,xs,rfl,h2,g1,λ z=>c1 (by subst z;cases ds with | nil=>rfl | cons _ _=>simp at hl),c2,by rw[<- hl];exact c3,λ e=>?_,λ e p hp=>?_⟩
  .subst e;refine h _ H ?_ (.refl H) h3;have:(List.replicate (1:Int).toNat ds).flatten=ds:=by simp
   rw[this];exact h1'
  .refine h _ _ ?_ (.new hp _) (h3.new hp);simp only[zk];exact⟨p,_,rfl,ye.of yK,zq.ext (.new hp _) _ (zq.rep g2 _)⟩
 .exact h.elim
theorem zp.rep {S:SS}{ts:List T}{ds:List D}(h:zp S ts ds):∀ n:Nat,zp S (List.replicate n ts).flatten (List.replicate n ds).flatten
 | 0=>.nil
 | n+1=>by
  rw[BN,BN,Ci,Ci];exact h.append (zp.rep h n)
def Y1:Good2 zJ fB tI:=λ S Z x y z d e Q hz hx hy ef hq=>by
 unfold fB at ef;split at ef
 .split at ef
  .rename_i hc;cases ef;cases hx.int;cases hy.int;exact⟨hc,hq _ S (.refl S) (Cl.of (λ _=>nofun) vo)⟩
  .cases ef
 .split at ef
  .rename_i hc;cases ef;obtain⟨ds,rfl,h2⟩:=hx.tup;cases hy.int;have hl:=h2.len;exact⟨⟨λ q=>hc.1 (by subst q;simpa using hl.symm),hc.2.1,by rw[hl];exact hc.2.2⟩,hq _ S (.refl S) (Cl.of (λ _=>nofun) (qC (zp.rep h2 _)))⟩
  .cases ef
 .cases ef
end
end L5
namespace L4
open PySem PyProof.Rows
section
variable {prog:Program}{w:World}{A:Around}{E:Value->Shared->Prop}{s:Shared}
def Mo {l:Addr}{vs:List Value}{Q:List Value->Shared->Prop}(hl:IsTup s.heap l vs.toArray) (hz:vs.length<=sizeLine)
  (h:Q vs { s with heap:=(s.heap.push (seqObj "list" #[] 0)).update s.heap.objs.size (Obj.mapSeq (·++vs.toArray)) }):wpAny (model prog w) A (collect (.ref l)) Q E s:=by
 obtain⟨o,ho,hc,n,hd⟩:=id hl;have new:(s.heap.push (seqObj "list" #[] 0)).get? s.heap.objs.size=some (seqObj "list" #[] 0):=AF _ rfl;have ho':(s.heap.push (seqObj "list" #[] 0)).get? l=some o:=An _ ho;unfold collect;refine Ab (wpAny_runValue (codeAny_builtin entry_proto_collect' (Ab (m:=newList []) (wpAny_newList (Ac ⟨Code.quiet_builtin _ (by decide +kernel),codeAny_builtin entry_list_iadd' ?_⟩)))));show wpAny _ _ (Builtin.List.listExtendWith (.ref s.heap.objs.size) (.ref l) (.ref s.heap.objs.size)) _ _ { s with heap:=s.heap.push (seqObj "list" #[] 0) };unfold Builtin.List.listExtendWith;refine Ab (wpAny_typeOf (T:="tuple") ⟨o,ho',hc⟩ ?_);rw[if_pos (by rw[show (Value.type "tuple" == Value.type "tuple")=true from rfl];simp)];refine Ab (listItems_at ho' hd (Ab (listItems_at (xs:=#[]) (n:=0) new rfl ?_)));rw[if_neg (by simp)];refine Ab (listUpdate_at (xs:=#[]) (n:=0) new rfl (Ac ?_) (AN _) (by show (#[]++vs.toArray).size<=sizeLine+1;simp only[Array.size_append,Aq,De];lia));refine Ab (m:=load s.heap.objs.size) (wpAny_load (get?_update_seq new _) ?_);show wpAny _ _ (pure ((#[]:Array Value)++vs.toArray).toList) Q E _;have e:((#[]:Array Value)++vs.toArray).toList=vs:=by simp
 rw[e];exact Ac h
def VS {l:Addr}{vs:List Value}{Q:Value->Shared->Prop}{Out:Array Value->Prop}(hl:IsTup s.heap l vs.toArray) (hz:vs.length<=sizeLine)
  (core:2<=vs.length->∀ s6:Shared,(∀ b o,s.heap.get? b=some o->s6.heap.get? b=some o)->Core prog w A.in1.in1 E vs Out s6) (short:vs.length<2->Out vs.toArray)
  (fin:∀ out:Array Value,Out out->out.size=vs.length->Q (.ref (s.heap.objs.size+1)) { s with heap:=sortedAll s.heap vs out }):
  wpAny (model prog w) A (call (.builtin "sorted") [.ref l]) Q E s:=by
 let h1:=(s.heap.push (seqObj "list" #[] 0)).update s.heap.objs.size (Obj.mapSeq (·++vs.toArray))
 have sz:h1.objs.size=s.heap.objs.size+1:=by show (Heap.update _ _ _).objs.size=_;rw[Heap.size_update,size_push']
 have there:(h1.push (seqObj "list" vs.toArray 0)).get? (s.heap.objs.size+1)=some (seqObj "list" vs.toArray 0):=sz▸AF _ rfl;have keep:∀ b o,s.heap.get? b=some o->(h1.push (seqObj "list" vs.toArray 0)).get? b=some o:=λ b o q=>by
  refine An _ ?_;show (Heap.update _ _ _).get? b=_;rw[Heap.get?_update_ne _ _ _ _ (Ax (Ao q))];exact An _ q
 refine Calls.call_function_entry kind_sorted plain_sorted entry_sorted (args_sorted1 _) ?_;unfold Builtin.«sorted»;refine Ab (m:=checkCount "sorted" 1 1 _) (Ac (Ab (Mo hl hz (Ab (wpAny_newList ?_ hz)))));show wpAny _ _ _ _ _ { s with heap:=h1.push (seqObj "list" vs.toArray 0) };rw[show (Heap.update (s.heap.push (seqObj "list" #[] 0)) s.heap.objs.size (Obj.mapSeq (·++vs.toArray))).objs.size=s.heap.objs.size+1 from sz];refine Ab (wpAny_holding (wpAny_call_entry slot_list_sort ⟨_,there,rfl⟩ entry_list_sort (fK there hz (λ h2 s6 k=>core h2 s6 λ b o q=>k b o (Ax (Bv (Ao q))) (keep b o q)) short λ out g1 g2=>⟨_,rfl,?_⟩) (args_list_sort _)));exact Ac ⟨_,rfl,fin out g1 g2⟩
end
section
open L2 PySem.Spec
variable {X:Cx}
def Mz:yU X (.builtin "sorted") (λ xs H Q=>∃ p ys,∃ rows:List (List Int),xs=[.ref p]/\ye X.K H p ys/\Paired (λ v r=>r≠[]/\∃ b,v=V.ref b/\ye X.K H b (r.map V.int)) ys rows/\rows.length<64/\
  ∀ (l:Addr) (idx:List Nat),H l=none->idx.Perm (List.range ys.length)->(idx.map λ i=>rows.getD i []).Pairwise (λ a b=>HT.lexLt b a=false)->Q (.ref l) (upd H l (.lst (idx.map λ i=>ys.getD i .zh)))):=by
 intro pins s B H xs us Q I r h;obtain⟨p,ys,rows,rfl,hq,hr,h64,q⟩:=h;obtain⟨u,rfl,ru⟩:=vals1 r;cases ru;obtain⟨its,rv,pl,hz⟩:=I.tuple hq;have hl:=rv.length;have Co:ys.length=rows.length:=Paired.length hr;have rows_at:∀ h6:Heap,(∀ b o,s.heap.get? b=some o->h6.get? b=some o)->ra h6 its rows:=λ h6 k=>by
  refine ST.Paired.mk (by lia) λ i a b ha hb=>?_;have hi:i<ys.length:=by have:=(AL.mp hb).1;lia
  obtain⟨Ai,c,hc,BH⟩:=L4.Paired.at' hr (i:=i) hi V.zh ([]:List Int);obtain⟨u,e1,e2⟩:=rv.get (i:=i) (x:=ys.getD i V.zh) (by simp[hi]);rw[ha] at e1;cases e1;rw[hc] at e2;cases (show a=Value.ref c from e2);obtain⟨its2,rv2,⟨o,e,AM,n,hd⟩,_⟩:=I.tuple BH;have eb:rows.getD i []=b:=by simp[hb]
  rw[eb] at Ai rv2;exact⟨Ai,c,o,_,n,rfl,k _ _ e,AM,hd,by simpa using intsAre_of rv2⟩
 refine VS (Out:=lE its rows) pl (by rw[<- hl];exact hz) (λ h2 s6 k=>eV (rows_at _ k) h2 (by lia)) (λ h1=>?_) λ out ho hs=>?_
 .refine⟨List.range its.length,.refl _,?_,?_⟩
  .refine BB (by simp) λ i h1 h2=>?_;simp at h1;simp[h1]
  .rw[Cf,Cu];intro i j hi hj A3;simp at hi hj;lia
 .obtain⟨idx,g1,g2,g3⟩:=ho;obtain⟨e,ho⟩:=sortedAll_at s.heap its out;have g1':idx.Perm (List.range ys.length):=by rw[hl];exact g1
  refine⟨.ref (s.heap.objs.size+1),_,I.laid (t':=s.toks) (o:=.lst (idx.map λ i=>ys.getD i .zh)) (λ b o q=>sortedAll_old q) (C9 _) ?_,rfl,q _ idx (I.zC.fresh (C9 _)) g1' g3⟩;refine⟨by rw[Az,g1'.length_eq,Bz];exact hz,out.toList,e,?_,by simpa using ho⟩;rw[g2];refine ST.Paired.mk (by simp) λ j a b ha hb=>?_;rw[Aw] at ha hb;obtain⟨i,hi,rfl⟩:=AA ha;rw[hi] at hb;cases hb;have CW:i<ys.length:=by simpa using g1'.mem_iff.mp (AX hi)
  obtain⟨u,e1,e2⟩:=rv.get (i:=i) (x:=ys.getD i V.zh) (by simp[CW]);have e3:its.getD i Value.none=u:=by simp[e1]
  show L2.RelV (ys.getD i V.zh) (its.getD i Value.none);rw[e3];exact e2
end
end L4
namespace L5
open PySem PySem.Spec L2 L3
open PyProof.Rows hiding St
section
variable {X:Cx}{K:Ad}{e:Expr}{es:List Expr}{tA:yD}{pos p pos2 p2:Pos}
def rX:wa:=λ ds S Q=>∃ d,∃ rows:List (List Int),ds=[d]/\zU d S=some (rows.map wG)/\rows.length<64/\(∀ r∈rows,r≠[])/\∀ l,S l=none->Q (.ref l) (ups S l (.lst ((L4.wg rows).map wG)))
noncomputable def pO:List T->Option T
 | [y]=>(wj y).bind λ ts=>(uq ts).bind λ rs=>if rs.length<64/\∀ r∈rs,r≠[] then some (.lst ((L4.wg rs).map y7)) else none
 | _=>none
def Nd:ui zJ pO rX:=λ S Z ys z ds Q hz hv e hq=>by
 unfold pO at e;split at e
 .obtain⟨d,rfl,h1⟩:=vQ hv;obtain⟨ts,e0,e⟩:=Aj e;obtain⟨rs,e1,e2⟩:=Aj e;split at e2
  .rename_i hc;cases e2;cases gI e1;obtain⟨es,h2,h3⟩:=h1.seq e0;cases pP.mp h3;exact⟨d,rs,rfl,h2,hc.1,hc.2,λ l hl=>hq _ _ (.new hl _) (t5 hz hl (pP.mpr rfl))⟩
  .cases e2
 .cases e
def rX.mo:uh rX:=λ ds S Q Q' hq ⟨d,rows,h0,h1,h2,h3,h4⟩=>⟨d,rows,h0,h1,h2,h3,λ l hl=>hq _ _ (h4 l hl)⟩
abbrev aN (K:Ad) (sq:Hp->Addr->List V->Prop):List V->Hp->VK->Prop:=λ xs H Q=>∃ p ys,∃ rows:List (List Int),xs=[.ref p]/\sq H p ys/\Paired (λ v r=>r≠[]/\∃ b,v=V.ref b/\ye K H b (r.map V.int)) ys rows/\rows.length<64/\
  ∀ (l:Addr) (idx:List Nat),H l=none->idx.Perm (List.range ys.length)->(idx.map λ i=>rows.getD i []).Pairwise (λ a b=>HT.lexLt b a=false)->Q (.ref l) (upd H l (.lst (idx.map λ i=>ys.getD i .zh)))
def yU.or {f:Value}{r r':List V->Hp->VK->Prop}(h:yU X f r) (h':yU X f r'):yU X f (λ xs H Q=>r xs H Q\/r' xs H Q):=λ pins s B H xs us Q I rv q=>
 q.elim (λ q=>h pins s B H xs us Q I rv q) λ q=>h' pins s B H xs us Q I rv q
def rX.fits:tm K rX (λ xs H Q=>aN K (zZ K) xs H Q\/aN K (ye K) xs H Q):=λ xs ds H S Q h0 h2 h=>by
 obtain⟨d,rows,rfl,e,h64,Ai,h⟩:=h;obtain⟨x,hx,h1⟩:=h0.one;subst hx;obtain⟨a,ys,rfl,g1,g2⟩:=zU.sq h1 h2 e;have hl:=g2.length;rw[Az] at hl;have key:∀ (l:Addr) (idx:List Nat),H l=none->idx.Perm (List.range ys.length)->(idx.map λ i=>rows.getD i []).Pairwise (λ a b=>HT.lexLt b a=false)->Q (.ref l) (upd H l (.lst (idx.map λ i=>ys.getD i .zh))):=λ l idx hf hp hs=>by
  rw[<- hl] at hp;have heq:=L4.ag (ZR hp) hs;have hx:Ext H (upd H l (.lst (idx.map λ i=>ys.getD i .zh))):=.new hf _;refine h l (h2.none hf) _ _ (by simp only[zk]) hx (h2.ups hx ⟨_,yK,?_⟩);rw[<- heq];exact zq.ext hx _ (g2.perm λ i hi=>by simpa using hp.mem_iff.mp hi)
 rcases g1 with g1 | g1
 .exact .inl ⟨_,ys,rows,rfl,g1,nV g2 Ai,h64,key⟩
 .exact .inr ⟨_,ys,rows,rfl,g1,nV g2 Ai,h64,key⟩
def Zm (hm:X.mg "sorted"=none) (ha:wb X (e::es) tA) (hg:Gl X "sorted":=by rfl) (he:starEach (e::es) X.env=(false,eval e X.env)::starEach es X.env:=by rfl) (Au:(backTo pos (starEach es X.env)).any (·.1)=false:=by rfl):PD X (.Call (.Name "sorted" p) (e::es) [] pos) (xZ rX tA):=
 t8 (sE (yU.or L4.M3 L4.Mz) hg hm boot_sorted ha.pa (by decide) (by decide) he Au) rX.mo rX.fits ha.mo
end
end L5
namespace L2
open PySem PySem.Spec PyProof.Rows
section
variable {X:Cx}
def uI (r:Addr) (j:Int):Heap->Prop:=λ h=>∃ t u v,IsRange h r 0 j 1 t u v
def M8:yU X (.type "range") (λ xs H Q=>∃ j,xs=[.int j]/\∀ r,H r=none->Q (.ref r) (upd H r (.ext (uI r j)))):=by
 intro pins s B H xs us Q I r h;obtain⟨j,rfl,q⟩:=h;obtain⟨u,rfl,ru⟩:=vals1 r;obtain⟨t,rfl⟩:=ru;refine call_range_1 ⟨.ref s.heap.objs.size,_,I.laid (o:=.ext (uI s.heap.objs.size j)) (λ b o e=>An _ e) (Ag _) ?_,rfl,q _ (I.zC.fresh (Ag _))⟩;have here:uI s.heap.objs.size j (s.heap.push { cls:=.type "range",data:=.fields #[.int 0 s.toks,.int j t,.int 1 (s.toks+1)] }):=⟨_,_,_,IsRange.new ..⟩
 refine⟨here,⟨_,AF _ rfl⟩,λ h1 h2 S k=>?_⟩;obtain⟨a,b,c,e⟩:=S;exact⟨a,b,c,k _ e⟩
def MC (hc:X.calm=true):yU X (.type "list") (λ xs H Q=>∃ r j,xs=[.ref r]/\H r=some (.ext (uI r j))/\0<=j/\j<=16777216/\∀ l,H l=none->Q (.ref l) (upd H l (.lst ((List.range j.toNat).map λ(k:Nat)=>V.int (k:Int))))):=by
 intro pins s B H xs us Q I r h;obtain⟨a,j,rfl,hr,h0,h1,q⟩:=h;obtain⟨u,rfl,ru⟩:=vals1 r;cases ru;obtain⟨⟨t,u,v,hR⟩,-,-⟩:=(show x8 X.prog X.w H s.heap a (.ext (uI a j)) from I.zC a _ hr)
 have hsz:Builtin.Range.rangeSize 0 j 1=((j.toNat:Nat):Int):=by rw[rangeSize_one];split <;> lia
 refine call_list_range (n:=j.toNat) (I.ok.hd hc) hR (small_one (by decide) (by decide) (by lia) (by lia)) hsz (by lia) λ h' tk acc c k e hi=>?_;refine⟨.ref s.heap.objs.size,_,I.laid (o:=.lst ((List.range j.toNat).map λ(k:Nat)=>V.int (k:Int))) k (Ag _) ⟨?_,acc.toList,c,?_,by simpa using e⟩,rfl,q _ (I.zC.fresh (Ag _))⟩
 .have:sizeLine=16777216:=rfl;simp;lia
 .obtain⟨hn,hi⟩:=hi;refine ST.Paired.mk (by simp[hn]) λ i a b ha hb=>?_;rw[Aw] at ha;obtain⟨k',hk,rfl⟩:=AA ha;obtain⟨hk1,hk2⟩:=AL.mp hk;simp at hk2;subst hk2;obtain⟨w,hw⟩:=hi i b (by simpa using hb);subst hw;exact⟨w,by simp⟩
end
end L2
namespace L5
open PySem PySem.Spec L2 L3
open PyProof.Rows hiding St
section
variable {X:Cx}{K:Ad}{e:Expr}{tA:yD}{pos p pos2 p2:Pos}
def sU:wa:=λ ds S Q=>∃ j:Int,ds=[.int j]/\0<=j/\j<=16777216/\∀ l,S l=none->Q (.ref l) (ups S l (.lst (vT 0 j.toNat)))
noncomputable def mz:List T->Option T
 | [.int j]=>if 0<=j/\j<=16777216 then some (.lst (rangeT 0 j.toNat)) else none
 | _=>none
def Ni:ui zJ mz sU:=λ S Z ys z ds Q hz hv e hq=>by
 unfold mz at e;split at e
 .obtain⟨d,rfl,h1⟩:=vQ hv;split at e
  .rename_i hc;cases e;cases h1.int;exact⟨_,rfl,hc.1,hc.2,λ l hl=>hq _ _ (.new hl _) (t5 hz hl (ak _ _))⟩
  .cases e
 .cases e
def sU.mo:uh sU:=λ ds S Q Q' hq ⟨j,h0,h1,h2,h3⟩=>⟨j,h0,h1,h2,λ l hl=>hq _ _ (h3 l hl)⟩
def U9 {H:Hp}(n:Nat):zq K H (vT 0 n) ((List.range n).map λ(k:Nat)=>V.int (k:Int)):=by
 unfold vT
 induction List.range n with
 | nil=>exact .nil
 | cons k l ih=>exact .cons (by simp only[zk];rw[C4]) ih
def sU.fits:tm K sU (λ xs H Q=>∃ j,xs=[.int j]/\∀ r,H r=none->∃ r' j',[V.ref r]=[.ref r']/\(upd H r (.ext (uI r j))) r'=some (.ext (uI r' j'))/\0<=j'/\j'<=16777216/\
  ∀ l,(upd H r (.ext (uI r j))) l=none->Q (.ref l) (upd (upd H r (.ext (uI r j))) l (.lst ((List.range j'.toNat).map λ(k:Nat)=>V.int (k:Int))))):=λ xs ds H S Q h0 h2 h=>by
 obtain⟨j,rfl,c1,c2,h⟩:=h;obtain⟨x,hx,h1⟩:=h0.one;subst hx;simp only[zk] at h1;subst h1;refine⟨j,rfl,λ r hr=>⟨r,j,rfl,yK,c1,c2,λ l hl=>?_⟩⟩;have x1:Ext H (upd H r (.ext (uI r j))):=.new hr _;have Co:l≠r:=λ z=>by subst z;rw[yK] at hl;cases hl
 have hlH:H l=none:=by rw[yV Co] at hl;exact hl
 have x2:Ext (upd H r (.ext (uI r j))) (upd (upd H r (.ext (uI r j))) l (.lst ((List.range j.toNat).map λ(k:Nat)=>V.int (k:Int)))):=.new hl _;exact h l (h2.none hlH) _ _ (by simp only[zk]) (x1.trans x2) ((h2.new hr).ups x2 ⟨_,yK,U9 _⟩)
def SG (hm:X.mg "list"=none) (hm2:X.mg "range"=none) (ha:wb X [e] tA) (hc:X.calm=true:=by rfl) (hg:Gl X "list":=by rfl) (hg2:Gl X "range":=by rfl)
  (he2:starEach [e] X.env=(false,eval e X.env)::starEach [] X.env:=by rfl)
  (he:starEach [.Call (.Name "range" p2) [e] [] pos2] X.env=(false,eval (.Call (.Name "range" p2) [e] [] pos2) X.env)::starEach [] X.env:=by rfl) (Au:(backTo pos (starEach [] X.env)).any (·.1)=false:=by rfl) (hpl2:(backTo pos2 (starEach [] X.env)).any (·.1)=false:=by rfl):
  PD X (.Call (.Name "list" p) [.Call (.Name "range" p2) [e] [] pos2] [] pos) (xZ sU tA):=by
 have h:=pX (p:=p) (MC hc) hg hm PyProof.Rows.boot_list (qJ (pX M8 hg2 hm2 boot_range ha.pa (by decide) (by decide) he2 hpl2) om he) (by decide) (by decide) he Au;exact⟨xZ.mo sU.mo ha.mo,PE.imp h λ _ _ _ hu=>bR sU.mo sU.fits ha.mo hu⟩
end
end L5
namespace ST
open PySem PySem.SetTable PySem.Spec PyProof.Rows L2
def OL {us us':List Value}(p:us'.Perm us):∀ {ms:List Int},IntsAre us ms->∃ ms',IntsAre us' ms'/\ms'.Perm ms:=by
 induction p with
 | nil=>intro ms h;exact⟨ms,h,.refl _⟩
 | cons x _ ih=>
  intro ms h;cases h with
  | cons n t h=>
   obtain⟨ms',h1,h2⟩:=ih h;exact⟨n::ms',.cons n t h1,h2.cons n⟩
 | swap x y l=>
  intro ms h;cases h with
  | cons n t h=>
   cases h with
   | cons m u h=>exact⟨m::n::_,.cons m u (.cons n t h),.swap _ _ _⟩
 | trans _ _ ih1 ih2=>
  intro ms h;obtain⟨m1,h1,h2⟩:=ih2 h;obtain⟨m2,h3,h4⟩:=ih1 h1;exact⟨m2,h3,h4.trans h2⟩
def ug.at {prog:Program}{w:World}{h:Heap}{a:Addr}{xs:List (Int×Tok)}(S:ug prog w h a xs (vV w)):xa w a (xs.map λ e=>Value.int e.1 e.2) h:=by
 obtain⟨⟨es,ep,t,ho,he,T,h1,h2,h3⟩,_⟩:=S;have hm:7<=t.mask/\t.mask<=127:=by rcases T.mask with e | e | e <;> lia
 have hlen:es.size=xs.length:=by have:=congrArg List.length he;simpa using this
 exact⟨es,ep,t,⟨ho,fits_of (n:=xs.length) hlen T (by simp) (by lia),T.vd,h1,h2⟩,by rw[he,AW];rfl⟩
theorem Yu:∀ xs:List (Int×Tok),IntsAre (xs.map λ e=>Value.int e.1 e.2) (xs.map (·.1))
 | []=>.nil
 | e::xs=>.cons e.1 e.2 (Yu xs)
theorem bJ:∀ {us:List Value}{ns:List Int},IntsAre us ns->Vals (ns.map V.int) us
 | _,_,.nil=>.nil
 | _,_,.cons n t h=>.cons ⟨t,rfl⟩ (bJ h)
section
variable {X:Cx}
def M5 (hc:X.calm=true):yU X (.type "set") (λ xs H Q=>∃ p,∃ ns:List Int,xs=[.ref p]/\zZ X.K H p (ns.map V.int)/\ns.length<64/\
  ∀ (l:Addr) (us:List Value) (ms:List Int),H l=none->IntsAre us ms->ms.Nodup->(∀ n,n∈ms↔n∈ns)->Q (.ref l) (upd H l (.ext (xa X.w l us)))):=by
 intro pins s B H xs us Q I r h;obtain⟨p,ns,rfl,hq,h64,q⟩:=h;obtain⟨u,rfl,ru⟩:=vals1 r;cases ru;obtain⟨its,rv,pl,hz⟩:=I.list hq;have hl:=rv.length;rw[Az] at hl;have iA:IntsAre its ns:=intsAre_of rv;have nums:Nums its.toArray ns:=λ i v hv=>by
  have hv':its[i]?=some v:=by simpa using hv
  have hi:i<ns.length:=by rw[hl];exact (AL.mp hv').1
  obtain⟨u,e1,t,e2⟩:=rv.get (i:=i) (x:=V.int ns[i]) (by simp[hi]);rw[hv'] at e1;cases e1;exact⟨ns[i],t,e2,by simp[hi]⟩
 have hh:X.A.handled=none:=I.ok.hd hc;refine M6 (A:=X.A) hh pl.isList nums (by rw[Aq];lia) λ h' tk xs S U k=>?_;have kk:∀ b o,s.heap.get? b=some o->h'.get? b=some o:=λ b o e=>k b o (Ao e) e;have hSO:=S.at;refine⟨.ref s.heap.objs.size,_,I.laid (t':=tk) (o:=.ext (xa X.w s.heap.objs.size (xs.map λ e=>Value.int e.1 e.2))) kk (Ag _) ?_,rfl,q _ _ (xs.map (·.1)) (I.zC.fresh (Ag _)) (Yu xs) S.nd λ n=>⟨λ hn=>?_,λ hn=>?_⟩⟩
 .obtain⟨es,ep,t,St,e⟩:=id hSO;exact⟨hSO,⟨_,St.get⟩,λ h1 h2 S1 k=>S1.sk k⟩
 .obtain⟨e,he,rfl⟩:=Ap.mp hn;obtain⟨j,_,hj⟩:=U.own e he;exact AX hj
 .obtain⟨j,hj⟩:=DE.mp hn;exact U.all j n (by have:=(AL.mp hj).1;rw[Aq];lia) hj
def M0 (hc:X.calm=true):yU X (.builtin "sorted") (λ xs H Q=>∃ l us,∃ ms:List Int,xs=[.ref l]/\H l=some (.ext (xa X.w l us))/\IntsAre us ms/\ms.length<64/\
  ∀ (p:Addr) (ns:List Int),H p=none->ns.Perm ms->ns.Pairwise (·<=·)->Q (.ref p) (upd H p (.lst (ns.map V.int)))):=by
 intro pins s B H xs us0 Q I r h;obtain⟨l,us,ms,rfl,hl,hm,h64,q⟩:=h;obtain⟨u,rfl,ru⟩:=vals1 r;cases ru;obtain⟨⟨es,ep,t,S,eu⟩,-,-⟩:=(show x8 X.prog X.w H s.heap l (.ext (xa X.w l us)) from I.zC l _ hl)
 have hlen:es.size=us.length:=by rw[<- eu];simp
 have hml:=hm.length;have hh:X.A.handled=none:=I.ok.hd hc;have hp:((comes X.w l es ep).toList.map (·.2)).Perm us:=by rw[<- eu];exact (oJ X.w l es ep).map _
 obtain⟨ms',i1,i2⟩:=OL hp hm;have AM:=hp.length_eq;have hl24:sizeLine=16777216:=rfl;refine af (Out:=λ out=>∃ ns',IntsAre out.toList ns'/\ns'.Perm ms'/\ns'.Pairwise (·<=·)) hh S (by rw[hlen,hml];lia) (λ s6 h2 k=>L4.Ml i1 (by rw[AM,<- hlen];exact h2) (by rw[AM,hml];exact h64)) (λ h1=>⟨ms',by simpa using i1,.refl _,?_⟩) λ out h' tk p ho hs hp' k Cq=>?_
 .have:ms'.length<2:=by rw[<- i1.length,AM,<- hlen];exact h1
  match ms',this with
  | [],_=>exact .nil
  | [_],_=>exact D2 _ _
 .obtain⟨ns,g1,g2,g3⟩:=ho;obtain⟨e,he⟩:=Cq;refine⟨.ref p,_,I.laid (t':=tk) (o:=.lst (ns.map V.int)) k hp' ?_,rfl,q p ns (I.zC.fresh hp') (g2.trans i2) g3⟩;exact⟨by rw[Az,g2.length_eq,i2.length_eq];lia,out.toList,e,bJ g1,by simpa using he⟩
end
end ST
namespace L5
open PySem PySem.Spec L2 L3
open PyProof.Rows hiding St
noncomputable def insI (n:Int):List Int->List Int
 | []=>[n]
 | m::l=>if n<m then n::m::l else if n=m then m::l else m::insI n l
noncomputable def vb:List Int->List Int
 | []=>[]
 | n::ns=>insI n (vb ns)
theorem fD {n k:Int}:∀ {l:List Int},k∈insI n l↔k=n\/k∈l
 | []=>by simp[insI]
 | m::l=>by
  unfold insI;split
  .simp
  .split
   .rename_i h;subst h;simp
   .rw[Ah,fD,Ah];constructor
    .rintro (h | h | h)
     .exact .inr (.inl h)
     .exact .inl h
     .exact .inr (.inr h)
    .rintro (h | h | h)
     .exact .inr (.inl h)
     .exact .inl h
     .exact .inr (.inr h)
theorem ja {k:Int}:∀ {l:List Int},k∈vb l↔k∈l
 | []=>.rfl
 | n::l=>by unfold vb;rw[fD,ja,Ah]
theorem Yx {n:Int}:∀ {l:List Int},l.Pairwise (· < ·)->(insI n l).Pairwise (· < ·)
 | [],_=>D2 _ _
 | m::l,h=>by
  have h':=Bp.mp h;unfold insI;split
  .rename_i c;refine Bp.mpr ⟨λ x hx=>?_,h⟩;rcases Ah.mp hx with e | e
   .rw[e];exact c
   .exact Int.lt_trans c (h'.1 x e)
  .split
   .exact h
   .rename_i c1 c2;refine Bp.mpr ⟨λ x hx=>?_,Yx h'.2⟩;rcases fD.mp hx with e | e
    .rw[e];lia
    .exact h'.1 x e
theorem bP:∀ l:List Int,(vb l).Pairwise (· < ·)
 | []=>.nil
 | n::l=>Yx (bP l)
def W_ {l m:List Int}(h1:l.Nodup) (h2:l.Pairwise (·<=·)) (h3:m.Pairwise (· < ·)) (h:∀ k,k∈l↔k∈m):l=m:=by
 have nm:m.Nodup:=h3.imp λ h e=>by lia
 refine L4.gY (r:=λ a b:Int=>a<=b) (λ a b p q=>by lia) ((D6 h1 nm).mpr h) h2 (h3.imp λ h=>by lia)
section
variable {X:Cx}{K:Ad}{e:Expr}{tA:yD}{pos pos2 p p2:Pos}
def mL:wa:=λ ds S Q=>uU ds S Q\/∃ d,∃ ns:List Int,ds=[d]/\(∀ ts,d≠.tup ts)/\zU d S=some (ns.map D.int)/\ns.length<64/\∀ l,S l=none->Q (.ref l) (ups S l (.lst ((vb ns).map D.int)))
noncomputable def qB:List T->Option T
 | [.lst ts]=>match u5 ts with
  | some ns=>if ns.length<64 then some (.lst ((vb ns).map T.int)) else none
  | none=>k6 [.lst ts]
 | _=>none
def Nb:ui zJ qB mL:=λ S Z ys z ds Q hz hv e hq=>by
 unfold qB at e;split at e
 .split at e
  .rename_i ns CU;split at e
   .rename_i hc;cases e;cases mC CU;obtain⟨d,rfl,h1⟩:=vQ hv;obtain⟨es,h2,h3⟩:=h1.seq rfl;cases sy.mp h3;refine .inr ⟨d,ns,rfl,?_,h2,hc,λ l hl=>hq _ _ (.new hl _) (t5 hz hl (sy.mpr rfl))⟩;obtain⟨_,q | ⟨a,q,_⟩,_⟩:=h1.lst <;> subst q <;> exact λ _=>nofun
   .cases e
  .exact .inl (Nc S Z _ z ds Q hz hv e hq)
 .cases e
theorem mL.mo:uh mL:=λ ds S Q Q' hq h=>by
 rcases h with h | ⟨d,ns,h1,h2,h3,h4,h5⟩
 .exact .inl (uU.mo ds S Q Q' hq h)
 .exact .inr ⟨d,ns,h1,h2,h3,h4,λ l hl=>hq _ _ (h5 l hl)⟩
def N3 {w:World}{xs:List V}{H:Hp}{S:SS}{Q:VK}{d:D}{ns:List Int}(h0:zq K H [d] xs) (h2:zT K H S) (hn:∀ ts,d≠.tup ts) (e:zU d S=some (ns.map D.int)) (h64:ns.length<64) (h:∀ l,S l=none->va K H Q (.ref l) (ups S l (.lst ((vb ns).map D.int)))):
  ∃ p,∃ ns':List Int,xs=[.ref p]/\zZ K H p (ns'.map V.int)/\ns'.length<64/\
   ∀ (l:Addr) (us:List Value) (ms:List Int),H l=none->IntsAre us ms->ms.Nodup->(∀ n,n∈ms↔n∈ns')->
    ∃ l' us',∃ ms':List Int,[V.ref l]=[.ref l']/\(upd H l (.ext (ST.xa w l us))) l'=some (.ext (ST.xa w l' us'))/\IntsAre us' ms'/\ms'.length<64/\
     ∀ (p:Addr) (ns:List Int),(upd H l (.ext (ST.xa w l us))) p=none->ns.Perm ms'->ns.Pairwise (·<=·)->Q (.ref p) (upd (upd H l (.ext (ST.xa w l us))) p (.lst (ns.map V.int))):=by
 obtain⟨x,hx,h1⟩:=h0.one;subst hx;obtain⟨a,ys,rfl,g1,g2⟩:=sA h1 h2 e hn;rw[g2.ints] at g1;refine⟨a,ns,rfl,g1,h64,λ l us ms hf hi nd AV=>⟨l,us,ms,rfl,yK,hi,?_,λ p ns2 hp pm srt=>?_⟩⟩
 .have:=ST.f9 ms ns nd λ x hx=>(AV x).mp hx;lia
 .have x1:Ext H (upd H l (.ext (ST.xa w l us))):=.new hf _;have Au:p≠l:=λ z=>by subst z;rw[yK] at hp;cases hp
  have hpH:H p=none:=by rw[yV Au] at hp;exact hp
  have x2:Ext (upd H l (.ext (ST.xa w l us))) (upd (upd H l (.ext (ST.xa w l us))) p (.lst (ns2.map V.int))):=.new hp _;have heq:ns2=vb ns:=W_ (pm.nodup_iff.mpr nd) srt (bP ns) λ k=>by rw[pm.mem_iff,AV,ja]
  refine h p (h2.none hpH) _ _ (by simp only[zk]) (x1.trans x2) ((h2.new hf).ups x2 ⟨_,yK,?_⟩);rw[<- heq];exact zq.fw ns2
def Zl {k:Nat}(hr:yI k X.A) (hm:X.mg "sorted"=none) (hm2:X.mg "set"=none) (ha:wb X [e] tA) (hc:X.calm=true:=by rfl) (hg:Gl X "sorted":=by rfl) (hg2:Gl X "set":=by rfl)
  (he2:starEach [e] X.env=(false,eval e X.env)::starEach [] X.env:=by rfl)
  (he:starEach [.Call (.Name "set" p2) [e] [] pos2] X.env=(false,eval (.Call (.Name "set" p2) [e] [] pos2) X.env)::starEach [] X.env:=by rfl) (Au:(backTo pos (starEach [] X.env)).any (·.1)=false:=by rfl) (hpl2:(backTo pos2 (starEach [] X.env)).any (·.1)=false:=by rfl):
  PD X (.Call (.Name "sorted" p) [.Call (.Name "set" p2) [e] [] pos2] [] pos) (xZ mL tA):=by
 have h:=sE (p:=p) (yU.or (ST.M1 hc) (ST.M0 hc)) hg hm boot_sorted (qJ (pX (yU.or (ST.M4 hc hr.units) (ST.M5 hc)) hg2 hm2 PyProof.Rows.boot_set ha.pa (by decide) (by decide) he2 hpl2) om he) (by decide) (by decide) he Au;refine⟨xZ.mo mL.mo ha.mo,PE.imp h fun B H Q hu=>?_⟩;obtain⟨Y,S,r1,r2,z⟩:=hu;refine vc.go ha.mo r1 r2 z λ ds S1 xs H1 h1 q1 e1 p1=>?_;rcases h1 with h1 | ⟨d,ns,rfl,c1,c2,c3,h1⟩
 .obtain⟨p,ys,rows,a1,a2,a3,a4,a5⟩:=uU.fits (w:=X.w) xs ds H1 S1 Q q1 p1 (uU.mo ds S1 _ _ (λ d S' z=>z.ext e1) h1);exact .inl ⟨p,ys,rows,a1,a2,a3,a4,λ l us vs rs b1 b2 b3=>.inl (a5 l us vs rs b1 b2 b3)⟩
 .obtain⟨p,ns',a1,a2,a3,a4⟩:=N3 (w:=X.w) q1 p1 c1 c2 c3 (λ l hl=>(h1 l hl).ext e1);exact .inr ⟨p,ns',a1,a2,a3,λ l us ms b1 b2 b3 b4=>.inr (a4 l us ms b1 b2 b3 b4)⟩
end
end L5
namespace HT
open PySem PyProof.Rows
section
variable {prog:Program}{w:World}{A:Around}{E:Value->Shared->Prop}{s:Shared}
end
end HT
namespace L2
open PySem PySem.Spec PyProof.Rows
section
variable {X:Cx}{e st:Expr}{te:TE}{pos p2:Pos}
end
end L2
namespace L5
open PySem PySem.Spec L2 L3
open PyProof.Rows hiding St
section
variable {X:Cx}{K:Ad}{e st:Expr}{te:zA}{pos p2 p3 p4:Pos}
noncomputable def fy:Sm:=λ _=>none
def Xh:y_:=λ _ _ _=>False
def Zk {st:Stmt}:vK X st Xh:=⟨λ _ _ _ _ _ h=>h.elim,λ _ _ _ _ _ _ ⟨_,_,_,_,h⟩=>h.elim⟩
def R1 {R:Rk}:yX R fy Xh:=λ S0 Z0 S Z Y J o E F e P=>by cases e
end
end L5
namespace L5
open PySem L2 L3
def eh:Good2 zJ qP eE:=jo (λ _ _ _=>vp) λ _ _ _=>nofun
def ej:Good2 zJ oB jz:=jo (λ _ _ _=>vp) λ _ _ _=>nofun
def el:Good2 zJ tG j0:=jo (λ _ _ _=>vp) λ _ _ _=>nofun
end L5
namespace L5
open PySem PySem.Spec L2 L3
open PyProof.Rows hiding St
section
variable {X:Cx}{e:Expr}{te:zA}{pos p q:Pos}
end
end L5
namespace L3
open PySem PyProof.Rows L2
section
variable {X:Cx}{pos:Pos}
noncomputable def wE (E:qx) (W:Nat->yt->SS->Prop) (m:Nat):qx:={ E with nx:=fun Y' S'=>∃ m',m'<m/\W m' Y' S',ct:=fun Y' S'=>∃ m',m'<m/\W m' Y' S',bk:=E.nx }
def mT (c:yT) (tb:y_):y_:=λ E Y S=>∃ W:Nat->yt->SS->Prop,(∃ m,W m Y S)/\∀ m Y S,W m Y S->
 c Y S λ b S1=>if b=true then tb (wE E W m) Y S1 else E.nx Y S1
def mT.mo {c:yT}{tb:y_}(hc:vn c) (hb:tX tb):tX (mT c tb):=λ E E' Y S hE ⟨W,w0,ws⟩=>
 ⟨W,w0,λ m Y S hw=>hc Y S _ _ (λ b S1 z=>vw (λ z=>hb (wE E W m) (wE E' W m) Y S1 ⟨λ _ _ q=>q,hE.rt,hE.nx,λ _ _ q=>q⟩ z) (λ z=>hE.nx _ _ z) z) (ws m Y S hw)⟩
def kR {c:Expr}{body:List Stmt}{tc:yT}{tb:y_}(hp:PassesOwn (model X.prog X.w) X.A X.env X.xe) (hc:xT X c tc) (hb:uJ X body tb):vK X (.While c body [] pos) (mT tc tb):=by
 refine⟨mT.mo hc.mo hb.mo,PS.imp (UZ hp hc.pt hb.ps) λ D B H hu=>?_⟩;obtain⟨Y,S,r1,r2,W,⟨m0,w0⟩,ws⟩:=hu;refine⟨λ m B' H'=>Ext H H'/\∃ Y S,xb X.K H' Y B'/\zT X.K H' S/\W m Y S,⟨m0,.refl _,Y,S,r1,r2,w0⟩,?_⟩;rintro m B2 H2 ⟨x2,Y2,S2,q1,q2,w2⟩;refine wQ.go hc.mo q1 q2 (ws m Y2 S2 w2) λ k S3 H3 h3 e3 p3=>vw (λ z=>?_) (λ z=>?_) h3
 .refine⟨fun B' H'=>Ext H H'/\∃ Y S m',m'<m/\xb X.K H' Y B'/\zT X.K H' S/\W m' Y S,fun B' H' ⟨a,Y',S',m',b,c,d,e⟩=>⟨m',b,a,Y',S',c,d,e⟩,Y2,S3,q1.ext e3,p3,?_⟩;exact hb.mo (wE (tM X.K H D) W m) _ Y2 S3 ⟨fun Y5 S5 ⟨m',b,w5⟩ B5 H5 b1 b2 b3=>⟨(x2.trans e3).trans b2,Y5,S5,m',b,b1,b3,w5⟩,λ _ _ q=>va.ext (x2.trans e3) q,λ _ _ q=>v5.ext (x2.trans e3) q,fun Y5 S5 ⟨m',b,w5⟩ B5 H5 b1 b2 b3=>⟨(x2.trans e3).trans b2,Y5,S5,m',b,b1,b3,w5⟩⟩ z
 .exact z B2 H3 (q1.ext e3) (x2.trans e3) p3
end
end L3
namespace L5
open PySem PyProof.Rows L2 L3
noncomputable def xu (is:List Nat) (c:Ev->Option Bool) (b:Sm):Nat->Ev->Option Out
 | 0,_=>none
 | n+1,J=>(c (yF is J)).bind λ k=>if k=true then (b (yF is J)).bind λ o=>match o with
   | .nx J2=>xu is c b n J2
   | .ct J2=>xu is c b n J2
   | .bk J2=>some (.nx (yF is J2))
   | .rt t=>some (.rt t)
  else some (.nx (yF is J))
def sa (n:Nat) (is:List Nat) (c:Ev->Option Bool) (b:Sm):Sm:=xu is c b n
def Rw {R:Rk} [Lo R] {n:Nat}{is:List Nat}{c:Ev->Option Bool}{tc:yT}{b:Sm}{tb:y_}(hc:v9 c tc) (hb:yX R b tb):yX R (sa n is c b) (mT tc tb):=λ S0 Z0 S Z Y J o E F e P=>by
 obtain⟨SB,b1,FB,b2⟩:=F.rebase;have lo:∀ S' d y,R SB S' Z0 y d->R S0 S' Z0 y d:=λ S' d y r=>Lo.lo b1 (λ _ z=>z) r;refine⟨λ m Y' S'=>∃ Z' J',FR SB Z0 S' Z' Y' J'/\xu is c b m J'=some o,⟨n,Z,J,FB,e⟩,λ m Y' S' ⟨Z',J',F',e'⟩=>?_⟩;cases m with
 | zero=>cases e'
 | succ m=>
  unfold xu at e';obtain⟨k,c1,e'⟩:=Aj e';have G:=F'.yF is;refine hc S' Z' Y' _ k _ G.er c1 λ S3 s3=>?_;cases k with
  | true=>
   rw[if_pos rfl] at e' ⊢;obtain⟨o1,g2,e'⟩:=Aj e';refine hb SB Z0 S3 Z' Y' _ o1 _ (G.grow s3) g2 ?_;cases o1 with
   | nx J2=>exact λ S3 Z3 Y3 F3=>⟨m,Cz m,Z3,J2,F3,e'⟩
   | ct J2=>exact λ S3 Z3 Y3 F3=>⟨m,Cz m,Z3,J2,F3,e'⟩
   | bk J2=>cases e';exact λ S3 Z3 Y3 F3=>P S3 Z3 Y3 ((F3.yF is).back b1 F.z0)
   | rt y=>cases e';exact λ d S3 s3 r3=>P d S3 (b1.trans s3) (lo _ _ _ r3)
  | false=>
   rw[if_neg (by decide)] at e' ⊢;cases e';exact P S3 Z' Y' ((G.grow s3).back b1 F.z0)
end L5
namespace ZP
open PySem PyProof.Rows
def PR (k:Bool) (l:Addr) (xs:Array Value):Meets (Builtin.«enumerate.__new__» ⟨[.type "enumerate",.ref l],[]⟩) (λ _ R s=>SQ s.heap k l xs/\
   R (.ok (.ret (.ref (s.heap.push (vX k l)).objs.size))) { s with heap:=(s.heap.push (vX k l)).push { cls:=.type "enumerate",data:=.fields #[.none,.bool false,.ref s.heap.objs.size,rawInt 0,.none,.none] } }):=
 .of_wp λ prog w A R s h=>by
  obtain⟨hp,g,d,tk,os⟩:=s;obtain⟨q,h⟩:=h;have CB:=sub_enumerate;have hL:SQ (Shared.heap ⟨hp,g,d,tk,os⟩) k l xs:=q;obtain⟨⟨c,yr,dt,sl⟩,hl,hc⟩:=q.cls;replace hc:c=.type (cond k "tuple" "list"):=hc;subst hc
  wp_walk using AutoSeq1.wpAny_loadPart' hl
  refine wpAny_stack_any λ st=>Ac ?_;split
  .rename_i c _ _ _ _ _;cases (c == Value.type "enumerate")
   .wp_walk using AutoSeq1.wpAny_loadPart' hl,made hL
    exact⟨_,rfl,h⟩
   .wp_walk using AutoSeq1.wpAny_loadPart' hl,made hL
    exact⟨_,rfl,h⟩
  .wp_walk using AutoSeq1.wpAny_loadPart' hl,made hL
   exact⟨_,rfl,h⟩
section
variable {prog:Program}{w:World}{A:Around}{E:Value->Shared->Prop}{s:Shared}
def NF {k:Bool}{l:Addr}{xs:Array Value}{Q:Value->Shared->Prop}(hL:SQ s.heap k l xs)
  (h:∀ h',IsEnum h' (s.heap.objs.size+1) s.heap.objs.size 0 .none->SI h' k s.heap.objs.size l 0->(∀ b o,s.heap.get? b=some o->h'.get? b=some o)->Q (.ref (s.heap.objs.size+1)) { s with heap:=h' }):
  wpAny (model prog w) A (call (.type "enumerate") [.ref l]) Q E s:=by
 refine callType_new F.called_enumerate (by decide) (F.typeCall_enumerate_1 _) (F.newCall_enumerate_1 _) (λ obj=>F.args_object_init_2 obj _) F.entry_enumerate_new (PR k l xs) ⟨hL,?_⟩;have hz:(s.heap.push (vX k l)).objs.size=s.heap.objs.size+1:=Heap.size_push ..;show _/\_;rw[hz];have he:IsEnum ((s.heap.push (vX k l)).push { cls:=.type "enumerate",data:=.fields #[.none,.bool false,.ref s.heap.objs.size,rawInt 0,.none,.none] }) (s.heap.objs.size+1) s.heap.objs.size 0 .none:=by
  have:=AF (s.heap.push (vX k l)) (o:={ cls:=.type "enumerate",data:=.fields #[.none,.bool false,.ref s.heap.objs.size,rawInt 0,.none,.none] }) rfl;rw[hz] at this;exact this
 exact⟨⟨_,he,rfl⟩,h _ he ⟨_,An _ (AF _ rfl),rfl,rfl⟩ λ b o x=>An _ (An _ x)⟩
def NP (hh:A.handled=none) (k:Bool) (it l:Addr) (Ai:l≠it) (xs:Array Value):Draws prog w A it [it,l] xs.size (λ i v=>xs[i]?=some v) (λ i h=>SI h k it l i/\SQ h k l xs) where
 live:=λ _ _ st=>let ⟨o,ho,_⟩:=st.1;⟨o,ho⟩
 frame:=λ _ _ _ st hk=>⟨st.1.on λ o e=>hk it (by simp) o e,st.2.on λ o e=>hk l (by simp) o e⟩
 item:=λ i s Q E hi st hQ=>draw st.1 st.2 (x:=xs[i]) (by simp[hi]) λ h' EF hs'=>hQ _ h' s.toks (by simp[hi]) ⟨EF,st.2.on λ o e=>(hs'.2 l Ai).trans e⟩ hs'
 done:=λ s Q E st hE=>j4 hh st.1 st.2 (by simp) hE
end
end ZP
namespace L2
open PySem PySem.Spec PyProof.Rows ZP
section
variable {X:Cx}{pins:List (Addr×Obj)}{B:St}{H:Hp}{s:Shared}
def Wd (K:Ad) (k:Bool) (a:Addr):It:=
 ⟨λ i H=>∃ xs x,wM K H k a xs/\xs[i]?=some x,
   λ i H v H'=>∃ p x,v=.ref p/\H p=none/\H'=upd H p (.tup [.int i,x])/\∀ xs,wM K H k a xs->xs[i]?=some x,
   λ i H=>∃ xs,wM K H k a xs/\xs.length<=i⟩
def Vm {P:Program}{w:World}{K:Ad}{es:List Expr}{kk} {pos:Pos}{k:Bool}{e it a:Addr}(EK:e≠it) (hea:e≠a) (hai:a≠it):
  Turn P w K (.Tuple es kk pos) (Wd K k a) [e,it] e (λ i h=>(∃ old,IsEnum h e it i old)/\SI h k it a i) where
 mem:=by simp
 obj:=λ i h st b hb=>by
  obtain⟨⟨old,q1⟩,o1,q2,_,d1⟩:=st;simp only[Ah,A4,or_false] at hb;rcases hb with e | e <;> subst e
  .exact⟨_,q1,λ v z=>by cases z⟩
  .exact⟨_,q2,λ v z=>by rw[d1] at z;cases z⟩
 keep:=λ i h h' st k=>⟨let ⟨old,q⟩:=st.1;⟨old,k e (by simp) _ q⟩,st.2.on λ o q=>k it (by simp) o q⟩
 item:=by
  intro X hP hw hK hc i pins s B H E I hf st hg;subst hP hw hK;obtain⟨xs,x,g1,hx⟩:=hg;obtain⟨its,rv,q1⟩:=g1.of I;obtain⟨u1,e1,r1⟩:=rv.get hx;obtain⟨⟨old,he⟩,si⟩:=st;have Al:i<its.toArray.size:=by have:=(AL.mp e1).1;simpa using this
  have D:=NP (prog:=X.prog) (w:=X.w) (A:=X.A.in1) (show X.A.in1.handled=none from I.ok.hd hc) k it a hai its.toArray;refine wpAny_pyNext_enum_itemD D he ⟨si,q1⟩ Al EK (by simp[EK,hea]) λ u h' tk hP ho hs' hT hsz hk=>⟨_,rfl,?_⟩;have hu:u=u1:=by simp only[List.getElem?_toArray,e1] at hP;exact (A5 hP).symm
  subst hu;have nT:s.heap.objs.size∉[e,it]:=λ hb=>by
   simp only[Ah,A4,or_false] at hb;obtain⟨oi,qi,_⟩:=si;rcases hb with z | z
   .exact absurd (Ao he) (by rw[<- z];exact BX _)
   .exact absurd (Ao qi) (by rw[<- z];exact BX _)
  have ne:s.heap.objs.size≠e:=λ z=>nT (by simp[z]);refine wpAny_letOwnedTupleGo_enum ho λ h2 he2 sb=>?_;have fr:H s.heap.objs.size=none:=I.zC.fresh (Ag _);have I1:Inv X pins B (upd H s.heap.objs.size (.tup [.int i,x])) { s with heap:=s.heap.push { cls:=.type "tuple",data:=.seq [.int i tk,u].toArray },toks:=s.toks }:=
   I.laid (o:=.tup [.int i,x]) (λ b u q=>An _ q) (Ag _) ⟨by show 2<=sizeLine;decide,[.int i tk,u],.cons ⟨tk,rfl⟩ (.cons r1 .nil),IsTup.new _ _⟩
  have hf':∀ b∈[e,it],upd H s.heap.objs.size (.tup [.int i,x]) b=none:=λ b hb=>by
   rw[yV (λ z=>nT (by rw[<- z];exact hb))];exact (hf b hb).1
  have kk:∀ b o,b∉[e,it]->(s.heap.push { cls:=.type "tuple",data:=.seq [.int i tk,u].toArray }).get? b=some o->h2.get? b=some o:=λ b o hb q=>by
   have BM:b≠e:=λ z=>hb (by simp[z]);have hbi:b≠it:=λ z=>hb (by simp[z]);by_cases Dy:b=s.heap.objs.size
   .subst Dy;rw[AF _ rfl] at q;cases q;exact sb.extBut _ _ BM hT
   .have q':s.heap.get? b=some o:=by rw[Heap.get?_push_ne _ _ _ Dy] at q;exact q
    exact sb.extBut _ _ BM (hk b o BM hbi q')
  have I2:=Inv.kj (h':=h2) (t':=tk+1) (fp:=[e,it]) I1 kk λ b hb=>⟨hf' b hb,(hf b hb).2⟩;refine⟨.ref s.heap.objs.size,_,I2,rfl,⟨_,x,rfl,fr,rfl,λ zs hz=>by rw[hz.inj I g1];exact hx⟩,⟨⟨_,by simpa using he2⟩,hs'.1.on λ o q=>(sb.2 it (Ne.symm EK)).trans q⟩,hf'⟩
 done:=by
  intro X hP hw hK hc i pins s B H E I hf st hg;subst hP hw hK;obtain⟨xs,g1,hx⟩:=hg;obtain⟨its,rv,q1⟩:=g1.of I;have l1:=rv.length;obtain⟨⟨old,he⟩,si⟩:=st;have hT:s.TypeIs (.ref e) "enumerate":=⟨_,he,rfl⟩
  unfold pyNext;refine Ab (wpAny_attempt (wpAny_callSpecial?_slot (name:=Str.ofString "__next__") hT F.slot_enumerate_next
   (wpAny_call_entry F.slot_enumerate_next hT F.entry_enumerate_next ?_ (F.args_enumerate_next_1 _))))
  show wpAny _ _ (field (.ref e) 2 >>= _) _ _ _;refine Ab (wpAny_field he rfl (x:=.ref it) rfl ?_);refine Ab (j4 (show X.A.in1.handled=none from I.ok.hd hc) si q1 (by simp;lia) λ h' x he' hx'=>?_);obtain⟨o,ho,hc⟩:=hx';refine Ab (wpAny_isInstance (T:="StopIteration") (b:=true) ⟨o,ho,hc⟩ isSubtype_stop ?_);exact Ac ⟨rfl,I.kj (t':=s.toks) (fp:=[e,it]) (λ b o hb q=>he' b o (λ z=>hb (by simp[z])) q) hf⟩
 self:=λ _ _ _ _ _ st h=>let ⟨_,q⟩:=st.1;wpAny_pyIter_enum q h
def OT (K:Ad) (ta:TA):TI:=fun B H R=>ta B H λ vs H1=>∃ a k,vs=[.ref a]/\(∃ xs,wM K H1 k a xs)/\R (Wd K k a) H1
def Tv {a:Expr}{ta:TA}{p pos pos':Pos}{es:List Expr}{kk} (hg:Gl X "enumerate") (hm:X.mg "enumerate"=none) (ha:PA X [a] ta) (hs:starEach [a] X.env=[(false,eval a X.env)]:=by rfl):
  PI X (.Tuple es kk pos') (.Call (.Name "enumerate" p) [a] [] pos) (OT X.K ta):=by
 intro pins s B H R I h;refine Call_ (oz I hg hm boot_enumerate (PyProof.Rows.callWith_type1 (zL (ha pos pins s B H _ I h) λ us s1 ⟨vs,H1,I1,r1,q1⟩=>?_) (by rw[hs];rfl) rfl));obtain⟨a1,k,rfl,⟨xs,g1⟩,q⟩:=q1;cases r1 with
 | cons r rr=>
  cases rr;cases r;obtain⟨it1,_,q1⟩:=g1.of I1;have la:=q1.lt;refine ZP.NF q1 λ h' E S up=>wpAny_pyIter_enum E ?_;have nw:∀ b∈[s1.heap.objs.size+1,s1.heap.objs.size],s1.heap.objs.size<=b:=λ b hb=>by
   simp only[Ah,A4,or_false] at hb;rcases hb with z | z <;> rw[z]
   .exact C9 _
   .exact Ag _
  exact⟨_,[s1.heap.objs.size+1,s1.heap.objs.size],_,_,H1,rfl,I1.kept (t':=s1.toks) up,Vm (Nat.succ_ne_self _) (BW (Bv la)) (Ax la),⟨⟨_,E⟩,S⟩,λ b hb=>I1.jr (nw b hb) (I1.zC.fresh (nw b hb)),q⟩
end
end L2
namespace L5
open PySem PySem.Spec L2 L3
open PyProof.Rows hiding St
noncomputable def tL (k:Nat):List D->List D
 | []=>[]
 | d::ds=>.tup [.int k,d]::tL (k+1) ds
noncomputable def sV (k:Nat):List T->List T
 | []=>[]
 | d::ds=>.tup [.int k,d]::sV (k+1) ds
theorem YR:∀ (ds:List D) (k i:Nat),(tL k ds)[i]?=(ds[i]?).map λ d=>D.tup [.int ((k+i:Nat):Int),d]
 | [],k,i=>by simp[tL]
 | d::ds,k,0=>by simp[tL]
 | d::ds,k,i+1=>by
  unfold tL;rw[C6,C6,YR ds (k+1) i,show k+1+i=k+(i+1) from by lia]
theorem YQ:∀ (ds:List D) (k:Nat),(tL k ds).length=ds.length
 | [],k=>rfl
 | d::ds,k=>by unfold tL;rw[AY,YQ ds];rfl
theorem iE {S:SS}:∀ {ts:List T}{ds:List D}(k:Nat),zp S ts ds->zp S (sV k ts) (tL k ds)
 | [],ds,k,h=>by simp only[zp] at h;subst h;exact zp.nil
 | t::ts,ds,k,h=>by
  simp only[zp] at h;obtain⟨c,cs,rfl,h1,h2⟩:=h;exact zp.cons (qC (zp.cons (by simp only[Sn]) (zp.cons h1 zp.nil))) (iE (k+1) h2)
section
variable {X:Cx}{K:Ad}{a:Expr}{tA:yD}{pos p pos':Pos}{es:List Expr}{kk:Nat}
def fS (t:yD):vj:=fun Y S R=>t Y S λ ds S1=>∃ d xs,ds=[d]/\zU d S1=some xs/\R ⟨tL 0 xs,λ S=>zU d S=some xs⟩ S1
def g_ (hm:X.mg "enumerate"=none) (ha:wb X [a] tA) (hg:Gl X "enumerate":=by rfl) (hs:starEach [a] X.env=[(false,eval a X.env)]:=by rfl):
  qk X (.Tuple es kk pos') (.Call (.Name "enumerate" p) [a] [] pos) (fS tA):=by
 refine⟨fun Y S Q Q' hq z=>ha.mo Y S _ _ (λ ds S1 ⟨d,xs,h1,h2,h4⟩=>⟨d,xs,h1,h2,hq _ _ h4⟩) z,PI.imp (Tv hg hm ha.pa hs) fun B H R hu=>?_⟩;obtain⟨Y,S,r1,r2,z⟩:=hu;refine vc.go ha.mo r1 r2 z λ ds S1 vs H1 h1 q1 e1 p1=>?_;obtain⟨d,xs,rfl,s1,h⟩:=h1;obtain⟨v,rfl,d1⟩:=q1.one;obtain⟨a1,us,rfl,g1,g2⟩:=zU.k d1 p1 s1;refine⟨a1,m7 d,rfl,⟨us,g1⟩,h _ H1 e1 p1 λ i H2 S2 x1 x2 hk=>?_⟩;obtain⟨b1,us2,q1,m1,m2⟩:=zU.k (zk.ext x1 d d1) x2 hk;cases q1;have l1:=m2.length;refine⟨λ dd hd=>?_,λ hl=>⟨us2,m1,?_⟩⟩
 .rw[YR,C3] at hd;obtain⟨dx,hx,rfl⟩:=AA hd;obtain⟨x,hx',rx⟩:=m2.get hx;refine⟨⟨us2,x,m1,hx'⟩,λ v H' q=>?_⟩;obtain⟨pp,x',rfl,hp,rfl,f1⟩:=q;have ex:x'=x:=by have:=f1 _ m1;rw[hx'] at this;exact (A5 this).symm
  subst ex;refine⟨.new hp _,x2.new hp,?_⟩;simp only[zk];exact⟨pp,_,rfl,ye.of yK,zq.ext (.new hp _) _ (.cons (by simp only[zk]) (.cons rx .nil))⟩
 .have hl':(tL 0 xs).length<=i:=hl;rw[YQ] at hl';lia
@[simp] noncomputable def uc:List T->Option (List T)
 | [x]=>(wj x).map λ xs=>sV 0 xs
 | _=>none
def RI {g:Ev->Option (List T)}(h:p9 g tA):ql false (vg uc g) (fS tA):=λ S Z Y J ts Q hE e hq=>by
 obtain⟨ys,e1,e2⟩:=Aj e;refine h S Z Y J ys _ hE e1 λ ds S1 s1 r1=>?_;unfold uc at e2;split at e2
 .obtain⟨xs,e3,rfl⟩:=AA e2;obtain⟨d,rfl,h1⟩:=vQ r1;obtain⟨es,g1,g2⟩:=h1.seq e3;exact⟨d,es,rfl,g1,hq _ S1 s1 (iE 0 g2) λ S'' s=>zU.sx g1 s⟩
 .cases e2
def RJ {g:Ev->Option (List T)}(h:p8 g tA):ql true (vg uc g) (fS tA):=λ S Z Y J ts Q hE e hq=>by
 obtain⟨ys,e1,e2⟩:=Aj e;refine h S Z Y J ys _ hE e1 λ ds S1 s1 r1=>?_;unfold uc at e2;split at e2
 .obtain⟨xs,e3,rfl⟩:=AA e2;simp only[zp] at r1;obtain⟨d,_,rfl,h1,rfl⟩:=r1;obtain⟨es,g1,g2⟩:=zU.zW h1 e3;exact⟨d,es,rfl,zU.sx g1 (mE S1 Z),hq _ S1 s1 (iE 0 g2) λ S'' s=>zU.sx g1 s⟩
 .cases e2
end
end L5
namespace TM
open PySem PyProof.Rows
def Ma (i:Int) (t:Tok) (l:Addr) (items:Array Value) (n:Nat) (dd:Option Addr) (sl:Array (Option Value)):
  Meets (Builtin.«int.__rmul__» ⟨[.int i t,.ref l],[]⟩) (λ _ R s=>s.heap.get? l=some { cls:=.type "list",dict:=dd,data:=.seq items n,slots:=sl }/\R (.ok (.ret Value.notImplemented)) s):=
 .of_wp λ prog w A R s h=>by
  obtain⟨hp,g,d,tk,os⟩:=s;obtain⟨hl,h⟩:=h
  wp_walk
  exact⟨_,rfl,h⟩
def mulL (l:Addr) (items:Array Value) (n:Nat) (x:Int) (u:Tok) (dd:Option Addr) (sl:Array (Option Value)) (hc0:¬(!Builtin.List.listFitsIndex x)=true) (hc1:¬items.size*x.toNat>(2 ^ 63-1)/8) (hc2:¬Builtin.List.listTooLong (items.size*x.toNat)=true):
  Meets (Builtin.«list.__mul__» ⟨[.ref l,.int x u],[]⟩) (λ _ R s=>s.heap.get? l=some { cls:=.type "list",dict:=dd,data:=.seq items n,slots:=sl }/\R (.ok (.ret (Value.ref s.heap.objs.size))) { s with heap:=s.heap.push { cls:=.type "list",data:=.seq (List.foldl (λ x1 x2=>x1++x2) #[] (List.replicate (if items.isEmpty=true then 0 else x.toNat) items)) } }):=
 .of_wp λ prog w A R s h=>by
  obtain⟨hp,g,d,tk,os⟩:=s;obtain⟨hl,h⟩:=h;have hsz:=AutoListH.joined_fits hc2
  wp_walk;refine wpAny_ite_false (decide_eq_false (Nat.not_lt.mpr hsz)) ?_;wp_walk;exact⟨_,rfl,h⟩
section
variable {prog:Program}{w:World}{A:Around}{E:Value->Shared->Prop}{s:Shared}
def Vs {l:Addr}{its:List Value}{k:Int}{t:Tok}{Q:Value->Shared->Prop}(ht:PlainL s.heap l its.toArray) (Ai:its≠[]) (h0:0<=k) (hz:its.length*k.toNat<=sizeLine)  (hk:k<=1000000)
  (more:Q (.ref s.heap.objs.size) { s with heap:=s.heap.push { cls:=.type "list",data:=.seq (List.replicate k.toNat its).flatten.toArray } }):
  wpAny (model prog w) A (binaryOp .Mult (.ref l) (.int k t)) Q E s:=by
 obtain⟨⟨cls,dd,data,sl⟩,n,ho,hc,he,hd⟩:=id ht;simp only at hc hd he;subst hc hd he;have hl:sizeLine=16777216:=rfl;have DZ:its.toArray.isEmpty=false:=by cases its with
  | nil=>exact absurd rfl Ai
  | cons a r=>rfl
 have hf:List.foldl (λ x1 x2=>x1++x2) #[] (List.replicate (if its.toArray.isEmpty=true then 0 else k.toNat) its.toArray)=(List.replicate k.toNat its).flatten.toArray:=by
  rw[DZ,if_neg (by decide)];have:=eD its k.toNat #[];simpa using this
 refine wpAny_binaryOp_repeat_ref (T:="list") (U:="int") (by decide) ⟨_,ho,rfl⟩ (λ s'=>typeIs_int s' k t) noFill_list_mul F.fills_int_mul F.slot_int_rmul repeat_list F.slot_int_index.lookup
  (call_meets F.slot_int_rmul (typeIs_int s k t) F.entry_int_rmul (F.args_int_rmul_2 _ _) (Ma k t l its.toArray n none sl)
   ⟨ho,rfl,⟨_,ho,rfl⟩,call_meets F.slot_list_mul ⟨_,ho,rfl⟩ F.entry_list_mul (F.args_list_mul_2 _ _)
    (mulL l its.toArray n k t none sl (by simp[Builtin.List.listFitsIndex];lia) (by simp;lia) (by simp[Builtin.List.listTooLong];lia)) ⟨ho,?_⟩⟩)
 rw[hf];exact more
end
end TM
namespace L2
open PySem PySem.Spec PyProof.Rows
def gO (K:Ad):R2:=λ x y H Q=>∃ a k xs,x=.ref a/\y=.int k/\zZ K H a xs/\xs≠[]/\0<=k/\k<=1000000/\xs.length*k.toNat<=sizeLine/\∀ p,H p=none->Q (.ref p) (upd H p (.lst (List.replicate k.toNat xs).flatten))
def Rh {X:Cx}:yu X (binaryOp .Mult) (gO X.K):=by
 intro pins s B H x y v u Q I rx ry h;obtain⟨a,k,xs,rfl,rfl,hx,Ai,h1,h2,hz,q⟩:=h;cases rx;obtain⟨t,rfl⟩:=ry;obtain⟨its,r,ht,_⟩:=I.list hx;have hl:=r.length;refine TM.Vs ht (λ z=>Ai (r.mx.mp z)) h1 (by rw[<- hl];exact hz) h2 ?_;have hlen:(List.replicate k.toNat xs).flatten.length<=sizeLine:=by
  have:(List.replicate k.toNat xs).flatten.length=k.toNat*xs.length:=by simp
  rw[this,DM];exact hz
 exact⟨.ref _,_,I.laid (t':=s.toks) (o:=.lst (List.replicate k.toNat xs).flatten) (λ b ob q=>An _ q) (Ag _) ⟨hlen,_,0,r.rep k.toNat,AF _ rfl⟩,rfl,q _ (I.zC.fresh (Ag _))⟩
end L2
namespace L5
open PySem PySem.Spec L2 L3
open PyProof.Rows hiding St
section
variable {X:Cx}{K:Ad}{a b:Expr}{ta tb:zA}{pos:Pos}
noncomputable def fU:D->Bool
 | .tup _=>true
 | _=>false
def jy:xc:=λ x y S Q=>∃ k ds,y=.int k/\fU x=false/\zU x S=some ds/\(ds≠[]/\0<=k/\k<=1000000/\ds.length*k.toNat<=sizeLine)/\∀ p,S p=none->Q (.ref p) (ups S p (.lst (List.replicate k.toNat ds).flatten))
def rY:xc:=λ x y S Q=>tI x y S Q\/jy x y S Q
noncomputable def xC:T->T->Option T
 | .lst ts,.int k=>if ts≠[]/\0<=k/\k<=1000000/\ts.length*k.toNat<=sizeLine then some (.lst (List.replicate k.toNat ts).flatten) else none
 | x,y=>fB x y
theorem rY.mo:we rY:=λ x y S Q Q' hq h=>by
 rcases h with h | ⟨k,ds,h1,h2,h3,h4,h5⟩
 .exact .inl (tI.mo x y S Q Q' hq h)
 .exact .inr ⟨k,ds,h1,h2,h3,h4,λ p hp=>hq _ _ (h5 p hp)⟩
def jy.fits:xO K jy (gO K):=λ x y d e H S Q h1 h2 h3 h=>by
 obtain⟨k,ds,rfl,ht,hs,⟨c1,c2,c3,c4⟩,h⟩:=h;simp only[zk] at h2;obtain⟨a,xs,rfl,g1,g2⟩:=sA h1 h3 hs λ ts z=>by subst z;cases ht
 have hl:=g2.length;refine⟨a,k,xs,rfl,h2,g1,λ z=>c1 (by subst z;cases ds with | nil=>rfl | cons _ _=>simp at hl),c2,c3,by rw[<- hl];exact c4,λ p hp=>?_⟩;exact h p (h3.none hp) _ _ (by simp only[zk]) (.new hp _) (h3.ups (.new hp _) ⟨_,yK,zq.ext (.new hp _) _ (zq.rep g2 _)⟩)
theorem rY.fits:xO K rY (λ x y H Q=>(rI wN (λ i j=>.int (i*j)) x y H Q\/gN K x y H Q)\/gO K x y H Q):=λ x y d e H S Q h1 h2 h3 h=>by
 rcases h with h | h
 .exact .inl (tI.fits x y d e H S Q h1 h2 h3 h)
 .exact .inr (jy.fits x y d e H S Q h1 h2 h3 h)
def Nf:Good2 zJ xC rY:=λ S Z x y z d e Q hz hx hy ef hq=>by
 unfold xC at ef;split at ef
 .rename_i ts k;split at ef
  .rename_i hc;cases ef;obtain⟨ds,g1,g2⟩:=hx.seq (ts:=ts) rfl;cases hy.int;have hl:=g2.len;refine .inr ⟨_,ds,rfl,?_,g1,⟨λ q=>hc.1 (by subst q;simpa using hl.symm),hc.2.1,hc.2.2.1,by rw[hl];exact hc.2.2.2⟩,λ p hp=>hq _ _ (.new hp _) (t5 hz hp (zp.rep g2 _))⟩;cases d with
   | tup es=>exact absurd hx (by
     intro q;rcases q with q | ⟨us,p,es',_,q,_⟩
     .simp only[Sn] at q;obtain⟨_,⟨q,_⟩ | ⟨_,q,_⟩,_⟩:=q <;> cases q
     .cases q)
   | _=>rfl
  .cases ef
 .exact .inl (Y1 S Z x y z d e Q hz hx hy ef hq)
def sJ (ha:PD X a ta) (hb:PD X b tb):PD X (.BinOp a .Mult b pos) (yA rY ta tb):=og ((Ri.or Rg).or Rh) rY.fits rY.mo ha hb
end
end L5
namespace L3
open PySem PySem.Spec PyProof.Rows L2
section
variable {X:Cx}{K:Ad}{e o:Expr}{te to:zA}{apos Ak:Pos}
def qa (to te:zA):zA:=fun Y S Q=>to Y S λ x S1=>match x with
 | .ref p=>(∃ ds,S1 p=some (.lst ds))/\te Y S1 λ y S2=>∃ q ds es,y=.ref q/\S2 p=some (.lst ds)/\S2 q=some (.lst es)/\ds.length+es.length<=sizeLine/\Q .zh (ups S2 p (.lst (ds++es)))
 | _=>False
def qa.mo (h:yv to) (h':yv te):yv (qa to te):=fun Y S Q Q' hq z=>h Y S _ _ (λ x S1 z=>by
 cases x with
 | ref p=>exact⟨z.1,h' Y S1 _ _ (λ y S2 ⟨q,ds,es,a,b,c,d,w⟩=>⟨q,ds,es,a,b,c,d,hq _ _ w⟩) z.2⟩
 | _=>exact z) z
def SK {e0:Expr}(Es:PE X e0 (i6 X.K "list" aY (zV X.K to) (i5 (zV X.K te) iz))) (h:yv to) (h':yv te):PD X e0 (qa to te):=by
 refine⟨qa.mo h h',PE.imp Es fun B H Q hu=>?_⟩;obtain⟨Y,S,r1,r2,z⟩:=hu;refine zV.go h r1 r2 z λ x S1 v H1 h1 q1 e1 p1=>?_;cases x with
 | ref p=>
  obtain⟨⟨ds,hd⟩,h1⟩:=h1;simp only[zk] at q1;subst q1;obtain⟨xs,g1,g2⟩:=p1 _ _ hd;refine⟨.inl ⟨rfl,xs,zZ.of g1⟩,?_⟩;refine zV.go h' (r1.ext e1) p1 h1 λ y S2 w H2 h2 q2 e2 p2=>?_;obtain⟨q,ds',es,rfl,b1,b2,b3,b4⟩:=h2;simp only[zk] at q2;subst q2;obtain⟨xs',g3,g4⟩:=p2 _ _ b1;obtain⟨ys',g5,g6⟩:=p2 _ _ b2;refine⟨p,q,xs',ys',rfl,rfl,g3,g5,by rw[<- g4.length,<- g6.length];exact b3,?_⟩;have e4:Ext H2 (upd H2 p (.lst (xs'++ys'))):=.lst g3 _;exact b4 _ _ (by simp only[zk]) ((e1.trans e2).trans e4) (p2.ups e4 ⟨_,yK,zq.ext e4 _ (g4.append g6)⟩)
 | zh=>exact h1.elim
 | bl _=>exact h1.elim
 | int _=>exact h1.elim
 | str _=>exact h1.elim
 | tup _=>exact h1.elim
 | yW _=>exact h1.elim
def SF (ho:PD X o to) (he:PD X e te)
  (hbase:attributeBase o "extend" X.env (eval o X.env)=eval o X.env:=by rfl)
  (AJ:((backTo Ak (starEach [e] X.env)).all (λ x=>!x.1)&&(backToKw Ak (keywordEach [] X.env)).all (λ x=>x.1.isSome)
   && decide ([e].length+([]:List Keyword).length+(if ([]:List Keyword).isEmpty then 0 else 1)<30))=true:=by rfl)
  (hline:(apos.endLine == Ak.line)=true:=by rfl) (hs:starEach [e] X.env=(false,eval e X.env)::starEach [] X.env:=by rfl) (hplain:(backTo Ak (starEach [] X.env)).any (·.1)=false:=by rfl):
  PD X (.Call (.Attribute o "extend" apos) [e] [] Ak) (qa to te):=
 SK (Zj PySem.F.plainAttrs_list PySem.F.slot_list_extend PySem.F.type_list_extend PL ho.pe (qJ he.pe om hs) hbase AJ hline hs hplain) ho.mo he.mo
end
end L3
namespace L5
open PySem L2 L3
@[simp] noncomputable def eF (i:Nat) (f:Ev->Option T):Sm:=fun J=>match J[i]? with
 | some (some (.own (.lst ts)))=>(f J).bind λ y=>match y with
  | .lst us=>if ts.length+us.length<=sizeLine then some (.nx (J.set i (some (.own (.lst (ts++us)))))) else none
  | _=>none
 | _=>none
section
variable {R:Rk}{f:Ev->Option T}{te:zA}
def R7 (i:Nat) (hf:wc f te):yX R (eF i f) (j7 (qa (yS i) te)):=λ S0 Z0 S Z Y J o E F e P=>by
 unfold eF at e;split at e
 .rename_i ts h;obtain⟨y,e1,e2⟩:=Aj e;split at e2
  .rename_i us;split at e2
   .rename_i hl;cases e2;obtain⟨p,ob,h1,h2,h3,h4⟩:=F.er.ow i _ h;obtain⟨ds,rfl⟩:∃ ds,ob=.lst ds:=by
     cases ob with
     | lst ds=>exact⟨ds,rfl⟩
     | yr _=>exact h3.elim
    replace h3:zp (zW S Z) ts ds:=h3;show qa (yS i) te Y S _;unfold qa yS;rw[h1];refine⟨⟨ds,h2⟩,hf S Z Y J _ _ F.er e1 λ d S1 s1 r1=>?_⟩;obtain⟨q,es,rfl,g1,g2,g3⟩:=r1.2 us rfl;have F1:=F.grow s1;have g4:zp (zW S1 Z) us es:=zp.sx (tE λ a z=>.inl z) us g3;refine⟨q,ds,es,rfl,s1 _ _ h2,g2,by rw[h3.len,g4.len];exact hl,P _ Z Y (F1.mut (us:=.lst (ts++us)) (es:=.lst (ds++es)) i h h1 ((zp.sx (vh s1) ts h3).append g4))⟩
   .cases e2
  .cases e2
 .cases e
end
end L5
namespace L5
open PySem PySem.Spec L2 L3
open PyProof.Rows hiding St
section
variable {X:Cx}{K:Ad}{e:Expr}{es:List Expr}{tA:yD}{pos p:Pos}
def tJ:wa:=λ ds S Q=>match ds with
 | [.int i]=>Q (.int i) S
 | [.bl k]=>Q (.int (if k then 1 else 0)) S
 | _=>False
def tJ.mo:uh tJ:=λ ds S Q Q' hq h=>by
 unfold tJ at h ⊢;split at h
 .exact hq _ _ h
 .exact hq _ _ h
 .exact h.elim
def tJ.fits:tm K tJ (λ xs H Q=>(∃ i,xs=[.int i]/\Q (.int i) H)\/∃ k,xs=[.bl k]/\Q (.int (if k then 1 else 0)) H):=λ xs ds H S Q h0 h2 h=>by
 unfold tJ at h;split at h
 .obtain⟨x,rfl,h1⟩:=h0.one;simp only[zk] at h1;subst h1;exact .inl ⟨_,rfl,h _ H (by simp only[zk]) (.refl H) h2⟩
 .obtain⟨x,rfl,h1⟩:=h0.one;simp only[zk] at h1;subst h1;exact .inr ⟨_,rfl,h _ H (by simp only[zk]) (.refl H) h2⟩
 .exact h.elim
def Zt (hm:X.mg "int"=none) (ha:wb X (e::es) tA) (hg:Gl X "int":=by rfl) (he:starEach (e::es) X.env=(false,eval e X.env)::starEach es X.env:=by rfl) (Au:(backTo pos (starEach es X.env)).any (·.1)=false:=by rfl):PD X (.Call (.Name "int" p) (e::es) [] pos) (xZ tJ tA):=
 t8 (pX MG hg hm PyProof.Rows.boot_int ha.pa (by decide) (by decide) he Au) tJ.mo tJ.fits ha.mo
@[simp] noncomputable def jk:List T->Option T
 | [.int i]=>some (.int i)
 | [.bl k]=>some (.int (if k then 1 else 0))
 | _=>none
def good_int:ui zJ jk tJ:=λ S Z ys z ds Q hz hv e hq=>by
 unfold jk at e;split at e
 .cases e;obtain⟨d,rfl,h1⟩:=vQ hv;cases h1.int;exact hq _ S (.refl S) (Cl.of (λ _=>nofun) vo)
 .cases e;obtain⟨d,rfl,h1⟩:=vQ hv;cases h1.bl;exact hq _ S (.refl S) (Cl.of (λ _=>nofun) vo)
 .cases e
end
end L5
namespace L2
open PySem PySem.Spec PyProof.Rows
noncomputable def iB (n:Nat) (k:Int):List Nat:=sliceRange (sliceBounds none none (some k) n).1 (sliceBounds none none (some k) n).2.1 (sliceBounds none none (some k) n).2.2
def xB {α:Type}(xs:List α) (k:Int):List α:=(iB xs.length k).filterMap (xs[·]?)
def VL {α:Type}{xs:List α}{k:Int}{x:α}(h:x∈xB xs k):x∈xs:=by
 obtain⟨i,_,e⟩:=DU.mp h;exact AX e
theorem gT {xs:List V}{us:List Value}(r:Vals xs us):∀ is:List Nat,Vals (is.filterMap (xs[·]?)) (is.filterMap (us[·]?))
 | []=>.nil
 | i::is=>by
  cases h:xs[i]? with
  | none=>simpa [Br,h,r.none_of h] using gT r is
  | some x=>
   obtain⟨u,h1,h2⟩:=r.get h;simp only[Br,h,h1];exact .cons h2 (gT r is)
section
variable {X:Cx}{e st:Expr}{te ts:TE}{pos p2:Pos}
def Vy (K:Ad) (te ts:TE):TE:=fun B H Q=>te B H λ x H1=>ts B H1 λ y H2=>∃ a xs k,x=.ref a/\y=.int k/\1<=k/\zZ K H2 a xs/\(xB xs k).length<=sizeLine/\∀ p,H2 p=none->Q (.ref p) (upd H2 p (.lst (xB xs k)))
def TF (he:PE X e te) (AH:PE X st ts):PE X (.Subscript e (.Slice none none (some st) p2) pos) (Vy X.K te ts):=by
 intro pins s B H Q I h;refine Subscript_ (zL (he pins s B H _ I h) λ v s1 ⟨x,H1,I1,r1,q⟩=>?_);refine wpAny_Slice ?_;rw[evalPart_none];refine Ac ?_;rw[evalPart_some];refine Ac ?_;refine zL (AH pins s1 B H1 _ I1 q) λ u s2 ⟨y,H2,I2,r2,q2⟩=>?_;obtain⟨a,xs,k,rfl,rfl,hk,hq,hn,q⟩:=q2;cases r1;obtain⟨tk,rfl⟩:=r2;have I4:Inv X pins B H2 { s2 with heap:=s2.heap.push { cls:=.type "slice",data:=.fields #[.none,.none,.int k tk] } }:=I2.kept (t':=s2.toks) λ b ob q=>An _ q;obtain⟨its,r,ht,hz⟩:=I4.list hq;have hl:=r.length;show wpAny (model X.prog X.w) X.A (subscriptTail e (.Slice none none (some st) p2) (.ref a) (.ref s2.heap.objs.size)) (EP X pins B Q) X.xe { s2 with heap:=s2.heap.push { cls:=.type "slice",data:=.fields #[.none,.none,.int k tk] } };refine tail_any (ops:=[.ref a,.ref s2.heap.objs.size]) ht.isList.typeIs slot_list_getitem.lookup ?_ (by with_unfolding_all rfl);refine wpAny_getItem_list_slice ht.isList (Heap.IsSliceOf.new ..) .none .none (.int k tk) (by intro z;cases z;lia) ?_ (by rw[Aq];lia);have e1:slicePick its.toArray none none (some k)=(xB its k).toArray:=by
  unfold slicePick xB iB;simp
 rw[e1];have rv:Vals (xB xs k) (xB its k):=by unfold xB;rw[<- hl];exact gT r _
 exact⟨.ref _,_,I4.laid (t':=s2.toks) (o:=.lst (xB xs k)) (λ b ob q=>An _ q) (Ag _) ⟨hn,_,0,rv,AF _ rfl⟩,rfl,q _ (I4.zC.fresh (Ag _))⟩
end
end L2
namespace L5
open PySem PySem.Spec L2 L3
open PyProof.Rows hiding St
section
variable {X:Cx}{K:Ad}{e st:Expr}{te ts:zA}{pos p2:Pos}
def Xe (te ts:zA):zA:=fun Y S Q=>te Y S λ x S1=>ts Y S1 λ y S2=>∃ ds k,y=.int k/\1<=k/\fU x=false/\zU x S2=some ds/\(xB ds k).length<=sizeLine/\∀ p,S2 p=none->Q (.ref p) (ups S2 p (.lst (xB ds k)))
theorem gW {H:Hp}{ds:List D}{xs:List V}(r:zq K H ds xs):∀ is:List Nat,zq K H (is.filterMap (ds[·]?)) (is.filterMap (xs[·]?))
 | []=>.nil
 | i::is=>by
  cases h:ds[i]? with
  | none=>
   have:xs[i]?=none:=by
    have:=r.length;rw[DV] at h ⊢;lia
   simpa [Br,h,this] using gW r is
  | some x=>
   obtain⟨u,h1,h2⟩:=r.get h;simp only[Br,h,h1];exact .cons h2 (gW r is)
def SA (he:PD X e te) (hs:PD X st ts):PD X (.Subscript e (.Slice none none (some st) p2) pos) (Xe te ts):=by
 refine⟨fun Y S Q Q' hq z=>he.mo Y S _ _ (λ x S1 z=>hs.mo Y S1 _ _ (λ y S2 ⟨ds,k,a,b,c,d,n,w⟩=>⟨ds,k,a,b,c,d,n,λ p hp=>hq _ _ (w p hp)⟩) z) z,PE.imp (TF he.pe hs.pe) fun B H Q hu=>?_⟩;obtain⟨Y,S,r1,r2,z⟩:=hu;refine zV.go he.mo r1 r2 z λ x S1 v H1 h1 q1 e1 p1=>?_;refine zV.go hs.mo (r1.ext e1) p1 h1 λ y S2 w H2 h2 q2 e2 p2=>?_;obtain⟨ds,k,rfl,hk,ht,BH,hn,q⟩:=h2;simp only[zk] at q2;obtain⟨a,xs,rfl,g1,g2⟩:=sA (zk.ext e2 x q1) p2 BH λ ts z=>by subst z;cases ht
 have hl:=g2.length;have rr:zq X.K H2 (xB ds k) (xB xs k):=by unfold xB;rw[hl];exact gW g2 _
 refine⟨a,xs,k,rfl,q2,hk,g1,by rw[<- rr.length];exact hn,λ p hp=>?_⟩;exact q p (p2.none hp) _ _ (by simp only[zk]) ((e1.trans e2).trans (.new hp _)) (p2.ups (.new hp _) ⟨_,yK,zq.ext (.new hp _) _ rr⟩)
@[simp] def i7 (f g:Ev->Option T):Ev->Option T:=fun J=>(f J).bind λ x=>(g J).bind λ y=>match x,y with
 | .lst ts,.int k=>if 1<=k/\(xB ts k).length<=sizeLine then some (.lst (xB ts k)) else none
 | _,_=>none
theorem gU {S:SS}{ts:List T}{ds:List D}(r:zp S ts ds):∀ is:List Nat,zp S (is.filterMap (ts[·]?)) (is.filterMap (ds[·]?))
 | []=>.nil
 | i::is=>by
  cases h:ds[i]? with
  | none=>
   have:ts[i]?=none:=by
    have:=r.len;rw[DV] at h ⊢;lia
   simpa [Br,h,this] using gU r is
  | some x=>
   obtain⟨u,h1,h2⟩:=r.jq h;simp only[Br,h,h1];exact .cons h2 (gU r is)
def Vw.Pp {S:SS}{Z:Addr->Prop}{ts:List T}{d:D}(h:Vw S Z (.lst ts) d):fU d=false:=by
 cases d with
 | tup es=>
  rcases h with q | ⟨us,p,es',_,q,_⟩
  .simp only[Sn] at q;obtain⟨_,⟨q,_⟩ | ⟨_,q,_⟩,_⟩:=q <;> cases q
  .cases q
 | _=>rfl
def Qj {f g:Ev->Option T}(hf:yN f te) (hg:yN g ts):wc (i7 f g) (Xe te ts):=λ S Z Y J y Q hE e hq=>by
 unfold i7 at e;obtain⟨x,e1,e⟩:=Aj e;obtain⟨z,e2,e⟩:=Aj e;refine hf S Z Y J x _ hE e1 λ d S1 s1 r1=>?_;refine hg S1 Z Y J z _ (hE.grow s1) e2 λ d2 S2 s2 r2=>?_;cases x with
 | lst us=>
  cases z with
  | int k=>
   dsimp only at e;split at e
   .rename_i hc;cases e;cases (show Vw S2 Z (.int k) d2 from r2).int;have r1':Vw S2 Z (.lst us) d:=Vw.grow r1 s2;obtain⟨ds,g1,g2⟩:=r1'.seq (ts:=us) rfl;have hl:=g2.len;have rr:zp (zW S2 Z) (xB us k) (xB ds k):=by unfold xB;rw[hl];exact gU g2 _
    refine⟨ds,k,rfl,hc.1,r1'.Pp,g1,by rw[rr.len];exact hc.2,λ p hp=>hq _ _ ((s1.trans s2).trans (.new hp _)) ?_⟩;exact Cl.cl (s1.trans s2) (t5 (hE.grow (s1.trans s2)).zd hp rr)
   .cases e
  | _=>cases e
 | _=>cases e
end
end L5
namespace L5
section
variable {α:Type}{P:List α->Prop}
def tR (h:∀ a,P [a]) (us:List α) (hl:us.length=1):P us:=match us,hl with | [a],_=>h a
def v8 (h:∀ a b,P [a,b]) (us:List α) (hl:us.length=2):P us:=match us,hl with | [a,b],_=>h a b
def v7 (h:∀ a b c,P [a,b,c]) (us:List α) (hl:us.length=3):P us:=match us,hl with | [a,b,c],_=>h a b c
def lC (h:∀ a b c d,P [a,b,c,d]) (us:List α) (hl:us.length=4):P us:=match us,hl with | [a,b,c,d],_=>h a b c d
def XM (h:∀ a b c d e,P [a,b,c,d,e]) (us:List α) (hl:us.length=5):P us:=match us,hl with | [a,b,c,d,e],_=>h a b c d e
def ar6 (h:∀ a b c d e f,P [a,b,c,d,e,f]) (us:List α) (hl:us.length=6):P us:=match us,hl with | [a,b,c,d,e,f],_=>h a b c d e f
def ar7 (h:∀ a b c d e f g,P [a,b,c,d,e,f,g]) (us:List α) (hl:us.length=7):P us:=match us,hl with | [a,b,c,d,e,f,g],_=>h a b c d e f g
def ar8 (h:∀ a b c d e f g i,P [a,b,c,d,e,f,g,i]) (us:List α) (hl:us.length=8):P us:=match us,hl with | [a,b,c,d,e,f,g,i],_=>h a b c d e f g i
end
end L5
namespace L5
open PySem PySem.Spec L2 L3
open PyProof.Rows hiding St
section
variable {P:Program}{w:World}{K:Ad}{mg:Str->Option Value}{base h:Heap}{x:Str}{st:Stmt}
def Fx (K:Ad) (x:Str) (st:Stmt):Prop:=∃ (f:Addr) (oc:Value) (od:Option Addr) (kV dc pm:Value) (an:Option Addr) (cd ct:Value) (sl:Array (Option Value)),
 PySem.W.nsIn K mainGlobals x=some (some (.ref f))/\K.lookup f=some ⟨oc,od,.func (PySem.W.fnOf x x (sW st) (vE st) (zD st) .none kV dc pm an cd ct),sl⟩/\PySem.W.codeIn K cd x=true/\PySem.W.keepIn K (.ref f)=true
def Fx.i {f:Addr}{oc:Value}{od:Option Addr}{kV dc pm:Value}{an:Option Addr}{cd ct:Value}{sl:Array (Option Value)}(a:PySem.W.nsIn K mainGlobals x=some (some (.ref f))) (l:K.lookup f=some ⟨oc,od,.func (PySem.W.fnOf x x (sW st) (vE st) (zD st) .none kV dc pm an cd ct),sl⟩) (c:PySem.W.codeIn K cd x=true) (k:PySem.W.keepIn K (.ref f)=true):Fx K x st:=⟨f,oc,od,kV,dc,pm,an,cd,ct,sl,a,l,c,k⟩
def Fy (K:Ad) (mg:Str->Option Value) (x:Str) (st:Stmt):Prop:=∃ (f:Addr) (fd:FuncData),tj K x x st f fd/\mg x=some (.ref f)
def Fx.mk (H:Fx K x st) (X:K.In h) (G:h.Ns mainGlobals mg):Fy K mg x st:=by
 obtain⟨f,oc,od,kV,dc,pm,an,cd,ct,sl,a,l,c,k⟩:=H;exact⟨f,_,Y9 l c k,PySem.W.mg_of X G a⟩
theorem Fx.law {fa:Addr}{p:Str}(H:Fx K "law" st) (X:K.In h) (G:h.Ns mainGlobals mg) (EJ:mg "law"=some (.ref fa)) (hb:∀ (kV dc pm:Value) (an:Option Addr) (cd ct:Value) (s:Shared) (v:Value),BindsTo s (PySem.W.fnOf "law" "law" (sW st) (vE st) (zD st) .none kV dc pm an cd ct) ⟨[v],[]⟩ [(p,v)]):∃ fd:FuncData,tj K "law" "law" st fa fd/\∀ (s:Shared) (v:Value),BindsTo s fd ⟨[v],[]⟩ [(p,v)]:=by
 obtain⟨f,oc,od,kV,dc,pm,an,cd,ct,sl,a,l,c,k⟩:=H;have e:=EJ.symm.trans (PySem.W.mg_of X G a);cases e;exact⟨_,Y9 l c k,hb kV dc pm an cd ct⟩
def Cn (K:Ad) (x:Str) (t:V):Prop:=∃ u,PySem.W.nsIn K mainGlobals x=some (some u)/\L2.RelV t u
def Cn.i {t:V}{u:Value}(a:PySem.W.nsIn K mainGlobals x=some (some u)) (r:L2.RelV t u):Cn K x t:=⟨u,a,r⟩
def Cn.mk {t:V}(H:Cn K x t) (X:K.In h) (G:h.Ns mainGlobals mg):∃ u,mg x=some u/\L2.RelV t u:=by
 obtain⟨u,a,r⟩:=H;exact⟨u,PySem.W.mg_of X G a,r⟩
def yi {R:Rk} [Lo R] {N ps:List Str}{k n:Nat}{g:Sm}(F:Fy K mg x st) (Sc:yb N ps (zD st)) (hn:n=ps.length)
  (hb:∀ (kV doc pm:Value) (an:Option Addr) (Af ct:Value) (us:List Value),us.length=ps.length->bindArgs (PySem.W.fnOf x x (sW st) (vE st) (zD st) .none kV doc pm an Af ct) ⟨us,[]⟩=pure (ps.zip us))
  (hbody:∀ (f:Addr) (Af:Value) (A:Around) (outer:List Env) (s:Shared) (H:Hp) (E:XK),yI k (A.deeper (envOfC x (zD st) s.heap.objs.size f Af))->
   ∃ t,uJ (tN vP P w K mg base N x (zD st) f Af A outer s H E).rO (vE st) t/\yX R g t):FD P w K mg base x (k+1) ps (zS R (ya N n g)):=by
 obtain⟨f,fd,F,hm⟩:=F;exact N5 F hm Sc hn hb (hbody f)
end
end L5
namespace L5
open L2 L3
def okA {R:Rk}{g:Sm}{t:y_}(h:yX R g t:=by
 repeat' first
  | (with_reducible first | exact Qb _ | apply Pm | apply Qr | apply QO)
  | (with_reducible first | exact ZC _ | refine qL (R:=w9) Y2 ?_ ?_ | refine fu (R:=w9) ?_ | apply ZD | apply ZE)
  | ((try first | refine xU.fr ?_ | refine xU.fe ?_);with_reducible first | exact QM _ | refine qL (R:=zJ) (by with_reducible first | exact good_add | exact ea | exact Nn | exact Nm | exact Nl | exact eh | exact ej | exact el | exact Nf | exact Y1) ?_ ?_ | refine fu (R:=zJ) ?_ | refine Pc (R:=zJ) (by with_reducible first | exact Nk | exact Na | exact Nj | exact Nh | exact Ng | exact Np | exact Nd | exact Nb | exact Ni | exact good_int) ?_ | apply Qc | apply Qh | apply Qw | apply QR | apply Qx | exact Pk _ | exact Qi _ | exact Qs | apply Q0 | apply QN | apply Qv | refine Pb (by with_reducible first | exact ea | exact eh | exact ej | exact el) (by with_reducible first | exact ea | exact eh | exact ej | exact el) ?_ ?_ ?_ | apply Qo | apply Qm | apply Qj | exact QW _)
  | (refine xU.er ?_;with_reducible first | exact ZC _ | refine qL (R:=w9) Y2 ?_ ?_ | refine fu (R:=w9) ?_ | apply ZD | apply ZE)
  | (with_reducible first | apply Rz | apply RC | apply R4 | exact Ry | apply R0 | apply RD | apply RB | apply R6 | apply Rw | exact ZA _ | apply R8 | exact R1 | apply R5 | apply Rx | apply R7 | exact RA _ | apply R9 | apply R3)
  | (with_reducible first | exact RY | apply RZ | exact RW | apply RX | apply Qd | apply Qf | apply QT | apply QS | apply QV | exact Qe | exact RO _ | exact RK | apply RL | exact RP | apply RQ | apply RH | apply RF | apply RG | apply RI | apply RJ | apply RE | exact RV | apply RU)
  | (first | exact RT _ | apply RM | apply RS)
  | exact (ZA _).fv):yX R g t:=h
end L5
namespace RN
open L5
abbrev Bd:=List (Int×Int)
def xt (b c:Bd):Prop:=∀ q,zM b q=true->zM c q=true
def xt.refl (b:Bd):xt b b:=λ _ h=>h
def xt.of {b c:Bd}(h:∀ p∈b,∃ r∈c,r.1<=p.1/\r.2<=p.2):xt b c:=λ q x=>by
 obtain⟨p,hp,h1,h2⟩:=yG.mp x;obtain⟨r,hr,h3,h4⟩:=h p hp;exact yG.mpr ⟨r,hr,by lia,by lia⟩
def xt.at {b c:Bd}(h:xt b c) {p:Int×Int}(hp:p∈b):∃ r∈c,r.1<=p.1/\r.2<=p.2:=yG.mp (h p (yG.mpr ⟨p,hp,AI _,AI _⟩))
structure Gd (A B:Int) (b:Bd):Prop where
 jj:vN b
 xY:∀ p∈b,(0<=p.1/\p.1<=A)/\0<=p.2/\p.2<=B
noncomputable def xK:Bd:=[(0,0)]
def Xs {q:Int×Int}:zM xK q=true↔0<=q.1/\0<=q.2:=by
 rw[yG];unfold xK;simp
theorem Gd.xK {A B:Int}(hA:0<=A) (hB:0<=B):Gd A B xK:=⟨by unfold RN.xK vN;simp,λ p hp=>by
 unfold RN.xK at hp;cases AO.mp hp;exact⟨⟨AI _,hA⟩,AI _,hB⟩⟩
def Gd.Ol {A B:Int}{b:Bd}(h:Gd A B b):xt b RN.xK:=xt.of λ p hp=>⟨(0,0),by unfold RN.xK;simp,(h.xY p hp).1.1,(h.xY p hp).2.1⟩
theorem Gd.eq {A B:Int}{b c:Bd}(h:Gd A B b) (h':Gd A B c) (x:xt b c) (y:xt c b):b=c:=vN.eq h.jj h'.jj λ q=>by
 rw[A6];exact⟨x q,y q⟩
def Gd.least {A B:Int}{ps:Bd}(h:∀ p∈ps,(0<=p.1/\p.1<=A)/\0<=p.2/\p.2<=B):Gd A B (vv ps):=⟨fO ps,λ p hp=>h p (Oh hp)⟩
def ZZ {ps qs:Bd}(h:∀ p∈ps,∃ r∈qs,r.1<=p.1/\r.2<=p.2):xt (vv ps) (vv qs):=λ q x=>by
 rw[ox] at x ⊢;exact xt.of h q x
theorem Yo:∀ {b:Bd}{lo hi:Int},vN b->(∀ p∈b,lo<=p.1/\p.1<=hi)->(b.length:Int)<=hi+1-lo\/b=[]
 | [],_,_,_,_=>.inr rfl
 | p::b,lo,hi,h,hb=>by
  have h1:=Bp.mp h;have hp:=hb p Am;refine .inl ?_;rcases Yo (lo:=p.1+1) (hi:=hi) h1.2 (λ q hq=>⟨by have:=(h1.1 q hq).1;lia,(hb q (Av _ hq)).2⟩) with x | x
  .rw[AY];lia
  .subst x;simp;lia
theorem Yn:∀ {b:Bd}{lo hi:Int},vN b->(∀ p∈b,lo<=p.2/\p.2<=hi)->(b.length:Int)<=hi+1-lo\/b=[]
 | [],_,_,_,_=>.inr rfl
 | p::b,lo,hi,h,hb=>by
  have h1:=Bp.mp h;have hp:=hb p Am;refine .inl ?_;rcases Yn (lo:=lo) (hi:=p.2-1) h1.2 (λ q hq=>⟨(hb q (Av _ hq)).1,by have:=(h1.1 q hq).2;lia⟩) with x | x
  .rw[AY];lia
  .subst x;simp;lia
def Gd.sP {A B:Int}{b:Bd}(h:Gd A B b) (hA:0<=A):(b.length:Int)<=A+1:=by
 rcases Yo (lo:=0) (hi:=A) h.jj (λ p hp=>(h.xY p hp).1) with x | x
 .omega
 .subst x;simp;lia
def Gd.Og {A B:Int}{b:Bd}(h:Gd A B b) (hB:0<=B):(b.length:Int)<=B+1:=by
 rcases Yn (lo:=0) (hi:=B) h.jj (λ p hp=>(h.xY p hp).2) with x | x
 .omega
 .subst x;simp;lia
noncomputable def yq (x:Int):Int:=if x>0 then x else 0
def oq (x:Int):0<=yq x:=by unfold yq;split <;> lia
def fA {x y:Int}(h:x<=y):yq x<=yq y:=by unfold yq;split <;> split <;> lia
def PB {x g:Int}(h:0<=x) (hg:0<=g):yq (x-g)<=x:=by unfold yq;split <;> lia
def xx (a b:Int) (p:Int×Int):Int×Int:=(yq (p.1-a),yq (p.2-b))
noncomputable def vC (A B:Int) (p:Int×Int):Bool:=decide (p.1<=A)&&decide (p.2<=B)
def qg (A B a b:Int) (bd:Bd):Bd:=vv ((bd.map (xx a b)).filter (vC A B))
def MY (A B a b:Int) (bd:Bd):Gd A B (qg A B a b bd):=Gd.least λ p hp=>by
 obtain⟨h1,h2⟩:=A0.mp hp;obtain⟨q,_,rfl⟩:=Ap.mp h1;have h3:(xx a b q).1<=A/\(xx a b q).2<=B:=by simpa [vC] using h2
 exact⟨⟨oq _,h3.1⟩,oq _,h3.2⟩
def XR (A B a b:Int) {bd bd':Bd}(h:xt bd bd'):xt (qg A B a b bd) (qg A B a b bd'):=ZZ λ p hp=>by
 obtain⟨h1,h2⟩:=A0.mp hp;obtain⟨q,hq,rfl⟩:=Ap.mp h1;obtain⟨r,hr,r1,r2⟩:=h.at hq;have h3:(xx a b q).1<=A/\(xx a b q).2<=B:=by simpa [vC] using h2
 have m1:(xx a b r).1<=(xx a b q).1:=fA (by lia);have m2:(xx a b r).2<=(xx a b q).2:=fA (by lia);exact⟨xx a b r,A0.mpr ⟨Ap.mpr ⟨r,hr,rfl⟩,by simp[vC];lia⟩,m1,m2⟩
def uC (b c:Bd):Bd:=vv (b++c)
def NL (b c:Bd) (q:Int×Int):zM (uC b c) q=(zM b q||zM c q):=by unfold uC;rw[ox,Mj]
def NK {A B:Int}{b c:Bd}(h:Gd A B b) (h':Gd A B c):Gd A B (uC b c):=Gd.least λ p hp=>by
 rcases AU.mp hp with x | x
 .exact h.xY p x
 .exact h'.xY p x
noncomputable def jc (p q:Int×Int):Int×Int:=(if q.1>p.1 then q.1 else p.1,if q.2>p.2 then q.2 else p.2)
def ud (b c:Bd):Bd:=vv (b.flatMap λ p=>c.map (jc p))
def X9 (b c:Bd) (q:Int×Int):zM (ud b c) q=(zM b q&&zM c q):=by
 unfold ud;rw[ox,A6,BP,yG,yG,yG];constructor
 .rintro⟨p,hp,h1,h2⟩;obtain⟨x,hx,hp⟩:=BS.mp hp;obtain⟨y,hy,rfl⟩:=Ap.mp hp;unfold jc at h1 h2;dsimp only at h1 h2;refine⟨⟨x,hx,?_,?_⟩,⟨y,hy,?_,?_⟩⟩ <;> (first | (split at h1 <;> lia) | (split at h2 <;> lia))
 .rintro⟨⟨x,hx,h1,h2⟩,⟨y,hy,h3,h4⟩⟩;refine⟨jc x y,BS.mpr ⟨x,hx,Ap.mpr ⟨y,hy,rfl⟩⟩,?_,?_⟩
  .show (if y.1>x.1 then y.1 else x.1)<=q.1;split <;> lia
  .show (if y.2>x.2 then y.2 else x.2)<=q.2;split <;> lia
def MO {A B:Int}{b c:Bd}(h:Gd A B b) (h':Gd A B c):Gd A B (ud b c):=Gd.least λ p hp=>by
 obtain⟨x,hx,hp⟩:=BS.mp hp;obtain⟨y,hy,rfl⟩:=Ap.mp hp;have a1:=h.xY x hx;have a2:=h'.xY y hy;unfold jc;dsimp only;refine⟨⟨?_,?_⟩,?_,?_⟩ <;> split <;> lia
def uD (bs:List Bd):Bd:=bs.foldl uC []
def oQ (bs:List Bd):Bd:=bs.foldl ud xK
theorem eN:∀ (bs:List Bd) (b:Bd) (q:Int×Int),zM (bs.foldl uC b) q=true↔zM b q=true\/∃ c∈bs,zM c q=true
 | [],b,q=>by simp
 | c::bs,b,q=>by
  rw[DF,eN bs,NL,DA];constructor
  .rintro ((h | h) | ⟨d,hd,h⟩)
   .exact .inl h
   .exact .inr ⟨c,Am,h⟩
   .exact .inr ⟨d,Av _ hd,h⟩
  .rintro (h | ⟨d,hd,h⟩)
   .exact .inl (.inl h)
   .rcases Ah.mp hd with e | e
    .subst e;exact .inl (.inr h)
    .exact .inr ⟨d,e,h⟩
theorem mN {A B:Int}:∀ (bs:List Bd) (b:Bd),Gd A B b->(∀ c∈bs,Gd A B c)->Gd A B (bs.foldl uC b)
 | [],b,h,_=>h
 | c::bs,b,h,hb=>mN bs _ (NK h (hb c Am)) λ d hd=>hb d (Av _ hd)
def Gd.nil {A B:Int}:Gd A B []:=⟨by unfold vN;simp,λ p hp=>by cases hp⟩
theorem dh:∀ (bs:List Bd) (b:Bd) (q:Int×Int),zM (bs.foldl ud b) q=true↔zM b q=true/\∀ c∈bs,zM c q=true
 | [],b,q=>by simp
 | c::bs,b,q=>by
  rw[DF,dh bs,X9,BP];constructor
  .rintro⟨⟨h1,h2⟩,h3⟩;exact⟨h1,λ d hd=>by
    rcases Ah.mp hd with e | e
    .subst e;exact h2
    .exact h3 d e⟩
  .rintro⟨h1,h2⟩;exact⟨⟨h1,h2 c Am⟩,λ d hd=>h2 d (Av _ hd)⟩
theorem dg {A B:Int}:∀ (bs:List Bd) (b:Bd),Gd A B b->(∀ c∈bs,Gd A B c)->Gd A B (bs.foldl ud b)
 | [],b,h,_=>h
 | c::bs,b,h,hb=>dg bs _ (MO h (hb c Am)) λ d hd=>hb d (Av _ hd)
noncomputable def yQ (pu:Bool) (g t:Int):Int×Int:=if pu=true then (t,g) else (g,t)
noncomputable def zP (pu:Bool) (p:Int×Int):Int:=if pu=true then p.2 else p.1
noncomputable def y4 (pu:Bool) (p:Int×Int):Int:=if pu=true then p.1 else p.2
noncomputable def wz (pu:Bool) (zX give get:Int):Nat->Int->Int->Bd
 | 0,_,_=>[]
 | n+1,g,t=>if g<=zX then yQ pu g t::wz pu zX give get n (g+give) (yq (t-get)) else []
def Tg {pu:Bool}{g t g' t':Int}(h:g'<=g) (h':t'<=t):(yQ pu g' t').1<=(yQ pu g t).1/\(yQ pu g' t').2<=(yQ pu g t).2:=by
 cases pu
 .exact⟨h,h'⟩
 .exact⟨h',h⟩
theorem X4 (pu:Bool) (zX give get:Int):∀ (n:Nat) (g t g' t':Int),g'<=g->t'<=t->∀ e∈wz pu zX give get n g t,∃ r∈wz pu zX give get n g' t',r.1<=e.1/\r.2<=e.2
 | 0,_,_,_,_,_,_,e,he=>by cases he
 | n+1,g,t,g',t',h1,h2,e,he=>by
  unfold wz at he ⊢;split at he
  .rw[if_pos (by lia)];rcases Ah.mp he with x | x
   .subst x;exact⟨_,Am,Tg h1 h2⟩
   .obtain⟨r,hr,r1⟩:=X4 pu zX give get n _ _ (g' + give) (yq (t'-get)) (by lia) (fA (by lia)) e x;exact⟨r,Av _ hr,r1⟩
  .cases he
theorem eZ (pu:Bool) (zX give get most:Int) (hg:1<=give) (Du:0<=get):∀ (n:Nat) (g t:Int),0<=g->0<=t->t<=most->∀ e∈wz pu zX give get n g t,(0<=zP pu e/\zP pu e<=zX)/\0<=y4 pu e/\y4 pu e<=most
 | 0,_,_,_,_,_,e,he=>by cases he
 | n+1,g,t,h1,h2,h3,e,he=>by
  unfold wz at he;split at he
  .rcases Ah.mp he with x | x
   .subst x;cases pu <;> exact⟨⟨h1,by assumption⟩,h2,h3⟩
   .exact eZ pu zX give get most hg Du n _ _ (by lia) (oq _) (Int.le_trans (PB h2 Du) h3) e x
  .cases he
theorem X5 (pu:Bool) (zX give get:Int) (hg:1<=give):∀ (n:Nat) (g t:Int),g<=zX+1->((wz pu zX give get n g t).length:Int)<=zX+1-g
 | 0,g,t,h=>by simp[wz];lia
 | n+1,g,t,h=>by
  unfold wz;split
  .rw[AY];by_cases hh:g+give<=zX+1
   .have:=X5 pu zX give get hg n (g+give) (yq (t-get)) hh;lia
   .have e:wz pu zX give get n (g+give) (yq (t-get))=[]:=by
     cases n with
     | zero=>rfl
     | succ n=>unfold wz;rw[if_neg (by lia)]
    rw[e];simp;lia
  .simp;lia
structure Wy where
 f:Nat
 t:Nat
 a:Int
 b:Int
structure Sl where
 p:Nat
 pu:Bool
 gv:Int
 gt:Int
structure zx where
 A:Int
 B:Int
 os:List Bool
 ws:List Wy
 ss:List Sl
structure zx.Ok (F:zx):Prop where
 a0:0<=F.A
 a1:F.A<=12
 b0:0<=F.B
 b1:F.B<=12
 n1:1<=F.os.length
 n8:F.os.length<=8
 ws:∀ w∈F.ws,w.f<F.os.length/\w.t<F.os.length
 rB:F.ws.length<=60
 ss:∀ s∈F.ss,1<=s.gv/\0<=s.gt
 sl:F.ss=[]\/(F.A+1)*(F.B+1)<64
 s8:F.ss.length<=60
noncomputable def zx.zX (F:zx) (pu:Bool):Int:=if pu=true then F.B else F.A
def xq (F:zx) (s:Sl) (p:Int×Int):Bd:=wz s.pu (F.zX s.pu) s.gv s.gt 100 (zP s.pu p) (y4 s.pu p)
def qY (F:zx) (s:Sl) (bd:Bd):Bd:=vv (bd.flatMap (xq F s))
def Ms (F:zx) (s:Sl) {b c:Bd}(h:xt b c):xt (qY F s b) (qY F s c):=ZZ λ p hp=>by
 obtain⟨x,hx,hp⟩:=BS.mp hp;obtain⟨r,hr,r1,r2⟩:=h.at hx;obtain⟨e,he,e1⟩:=X4 s.pu (F.zX s.pu) s.gv s.gt 100 (zP s.pu x) (y4 s.pu x) (zP s.pu r) (y4 s.pu r) (by unfold zP;split <;> assumption) (by unfold y4;split <;> assumption) p hp;exact⟨e,BS.mpr ⟨r,hr,he⟩,e1⟩
def Mr {F:zx}{s:Sl}(hs:1<=s.gv/\0<=s.gt) {p:Int×Int}(hp:(0<=p.1/\p.1<=F.A)/\0<=p.2/\p.2<=F.B):∀ e∈xq F s p,(0<=e.1/\e.1<=F.A)/\0<=e.2/\e.2<=F.B:=λ e he=>by
 obtain⟨p,pu,gv,gt⟩:=s;unfold xq zx.zX at he;cases pu with
 | true=>exact (eZ true F.B gv gt F.A hs.1 hs.2 100 _ _ hp.2.1 hp.1.1 hp.1.2 e he).symm
 | false=>exact eZ false F.A gv gt F.B hs.1 hs.2 100 _ _ hp.1.1 hp.2.1 hp.2.2 e he
def Mt {F:zx}{s:Sl}(hs:1<=s.gv/\0<=s.gt) {b:Bd}(h:Gd F.A F.B b):Gd F.A F.B (qY F s b):=Gd.least λ p hp=>by
 obtain⟨x,hx,hp⟩:=BS.mp hp;exact Mr hs (h.xY x hx) p hp
def w6 (F:zx) (last:List Bd) (p:Nat):List Bd:=(F.ws.filter λ w=>decide (w.f=p)).map λ w=>qg F.A F.B w.a w.b (last.getD w.t [])
noncomputable def zx.stall (F:zx) (p:Nat):Option Sl:=F.ss.find? λ s=>decide (s.p=p)
def yR (F:zx) (last:List Bd) (p:Nat):Bd:=
 if F.os.getD p false=true then match F.stall p with
  | none=>uD (w6 F last p)
  | some s=>qY F s (uD (w6 F last p))
 else oQ (w6 F last p)
def jB (F:zx) (last:List Bd) (p:Nat):∀ c∈w6 F last p,Gd F.A F.B c:=λ c hc=>by
 obtain⟨w,_,rfl⟩:=Ap.mp hc;exact MY ..
def ZM {F:zx}(ok:F.Ok) (last:List Bd) (p:Nat):Gd F.A F.B (yR F last p):=by
 unfold yR;have h1:Gd F.A F.B (uD (w6 F last p)):=mN _ _ Gd.nil (jB F last p);split
 .split
  .exact h1
  .rename_i s e;exact Mt (ok.ss s (CK e)) h1
 .exact dg _ _ (Gd.xK ok.a0 ok.b0) (jB F last p)
def Pz (F:zx) {l m:List Bd}(p:Nat) (h:∀ w∈F.ws,w.f=p->xt (l.getD w.t []) (m.getD w.t [])):xt (yR F l p) (yR F m p):=by
 have h1:xt (uD (w6 F l p)) (uD (w6 F m p)):=λ q hq=>by
  unfold uD at hq ⊢;rw[eN] at hq ⊢;rcases hq with x | ⟨c,hc,x⟩
  .exact .inl x
  .obtain⟨w,hw,rfl⟩:=Ap.mp hc;obtain⟨w1,w2⟩:=A0.mp hw;exact .inr ⟨_,Ap.mpr ⟨w,hw,rfl⟩,XR _ _ _ _ (h w w1 (by simpa using w2)) q x⟩
 unfold yR;split
 .split
  .exact h1
  .exact Ms F _ h1
 .intro q hq;unfold oQ at hq ⊢;rw[dh] at hq ⊢;refine⟨hq.1,λ c hc=>?_⟩;obtain⟨w,hw,rfl⟩:=Ap.mp hc;obtain⟨w1,w2⟩:=A0.mp hw;exact XR _ _ _ _ (h w w1 (by simpa using w2)) q (hq.2 _ (Ap.mpr ⟨w,hw,rfl⟩))
def Py (F:zx) {l m:List Bd}(p:Nat) (h:∀ w∈F.ws,w.f=p->l.getD w.t []=m.getD w.t []):yR F l p=yR F m p:=by
 have:w6 F l p=w6 F m p:=by
  unfold w6;refine CN λ w hw=>?_;obtain⟨w1,w2⟩:=A0.mp hw;rw[h w w1 (by simpa using w2)]
 unfold yR;rw[this]
noncomputable def box:List (Int×Int):=(List.range 13).flatMap λ(i:Nat)=>(List.range 13).map λ(j:Nat)=>((i:Int),(j:Int))
def mu (b:Bd):Nat:=box.countP (zM b)
def MM {p:Int×Int}(h:(0<=p.1/\p.1<=12)/\0<=p.2/\p.2<=12):p∈box:=by
 obtain⟨x,y⟩:=p;dsimp only at h;refine BS.mpr ⟨x.toNat,AE.mpr (by lia),Ap.mpr ⟨y.toNat,AE.mpr (by lia),?_⟩⟩;rw[Cw h.1.1,Cw h.2.1]
theorem Xt {α:Type}{p q:α->Bool}:∀ {l:List α},(∀ x,q x=true->p x=true)->(∃ x∈l,p x=true/\q x=false)->l.countP q<l.countP p
 | [],_,⟨x,hx,_⟩=>by cases hx
 | a::l,h,⟨x,hx,h1,h2⟩=>by
  have hle:l.countP q<=l.countP p:=List.countP_mono_left λ y _=>h y;rw[List.countP_cons,List.countP_cons];rcases Ah.mp hx with e | e
  .subst e;rw[if_neg (by rw[h2];decide),if_pos h1];lia
  .have:=Xt h ⟨x,e,h1,h2⟩;by_cases c:q a=true
   .rw[if_pos c,if_pos (h a c)];lia
   .rw[if_neg c];split <;> lia
def PJ {A B:Int}(hA:A<=12) (hB:B<=12) {b c:Bd}(hb:Gd A B b) (hc:Gd A B c) (h:xt b c) (Ai:b≠c):mu b<mu c:=by
 refine Xt h ?_;by_cases x:∃ p∈c,zM b p=false
 .obtain⟨p,hp,e⟩:=x;have q:=hc.xY p hp;exact⟨p,MM ⟨⟨q.1.1,by lia⟩,q.2.1,by lia⟩,yG.mpr ⟨p,hp,AI _,AI _⟩,e⟩
 .exact absurd (hb.eq hc h (xt.of λ p hp=>by
   cases e:zM b p with
   | true=>exact yG.mp e
   | false=>exact absurd ⟨p,hp,e⟩ x)) Ai
def PK (b:Bd):mu b<=169:=by
 have:box.length=169:=by decide
 rw[<- this];exact List.countP_le_length
def vU (l:List Bd):Nat:=(l.map mu).sum
theorem ZO:∀ (l:List Bd),vU l<=169*l.length
 | []=>by simp[vU]
 | b::l=>by
  have h1:=ZO l;have h2:=PK b;unfold vU at h1 ⊢;rw[Ar,List.sum_cons,AY];lia
theorem fC {A B:Int}(hA:A<=12) (hB:B<=12):∀ {l m:List Bd},l.length=m.length->(∀ b∈l,Gd A B b)->(∀ b∈m,Gd A B b)->(∀ i,xt (l.getD i []) (m.getD i []))->l≠m->vU l<vU m
 | [],[],_,_,_,_,h=>absurd rfl h
 | [],_::_,h,_,_,_,_=>by simp at h
 | _::_,[],h,_,_,_,_=>by simp at h
 | b::l,c::m,hl,gb,gc,h,Ai=>by
  have hl':l.length=m.length:=by simpa using hl
  have h0:xt b c:=h 0;have hs:∀ i,xt (l.getD i []) (m.getD i []):=λ i=>by simpa using h (i+1)
  have key:vU l<=vU m:=by
   by_cases e:l=m
   .rw[e];exact Ag _
   .exact BE (fC hA hB hl' (λ x hx=>gb x (Av _ hx)) (λ x hx=>gc x (Av _ hx)) hs e)
  show (List.map mu (b::l)).sum<(List.map mu (c::m)).sum;rw[Ar,List.sum_cons,Ar,List.sum_cons];by_cases e:b=c
  .subst e;have:l≠m:=λ q=>Ai (by rw[q]);have:=fC hA hB hl' (λ x hx=>gb x (Av _ hx)) (λ x hx=>gc x (Av _ hx)) hs this;unfold vU at this;lia
  .have:=PJ hA hB (gb b Am) (gc c Am) h0 e;unfold vU at key;lia
noncomputable def uR (F:zx) (fresh:List Nat) (p:Nat):Bool:=F.ws.any λ w=>decide (w.f=p)&&fresh.contains w.t
def yn (F:zx) (last:List Bd) (fresh:List Nat):List Bd:=(List.range last.length).map λ p=>if uR F fresh p=true then yR F last p else last.getD p []
noncomputable def xS (last following:List Bd):List Nat:=(List.range following.length).filter λ p=>decide (following.getD p []≠last.getD p [])
def rK (F:zx):Nat->List (List Bd)->List Bd->List Nat->Option (List (List Bd))
 | 0,_,_,_=>none
 | n+1,told,last,fresh=>if fresh=[] then some (told++[last]) else
   let fo:=yn F last fresh
   let fr:=xS last fo
   if fr=[] then some (told++[last]) else rK F n (told++[last]) fo fr
structure St (F:zx) (last:List Bd) (fresh:List Nat):Prop where
 len:last.length=F.os.length
 gd:∀ b∈last,Gd F.A F.B b
 fr:∀ p<F.os.length,uR F fresh p=false->(∃ w∈F.ws,w.f=p)->yR F last p=last.getD p []
 le:∀ p<F.os.length,(∃ w∈F.ws,w.f=p)->xt (yR F last p) (last.getD p [])
def mI {α:Type}(f:Nat->α) (n p:Nat) (d:α) (h:p<n):((List.range n).map f).getD p d=f p:=by
 rw[AK,Aw,D7 h];rfl
def rP (F:zx) (last:List Bd) (fresh:List Nat):(yn F last fresh).length=last.length:=by unfold yn;simp
def St.at {F:zx}{last:List Bd}{fresh:List Nat}(s:St F last fresh) {p:Nat}(hp:p<F.os.length) (hw:∃ w∈F.ws,w.f=p):(yn F last fresh).getD p []=yR F last p:=by
 unfold yn;rw[mI _ _ _ _ (by rw[s.len];exact hp)];split
 .rfl
 .rename_i h;exact (s.fr p hp (by simpa using h) hw).symm
def OY {F:zx}{fresh:List Nat}{p:Nat}(h:uR F fresh p=true):∃ w∈F.ws,w.f=p:=by
 unfold uR at h;obtain⟨w,h1,h2⟩:=AR.mp h;exact⟨w,h1,by simp at h2;exact h2.1⟩
def St.no {F:zx}{last:List Bd}{fresh:List Nat}(s:St F last fresh) {p:Nat}(hp:p<F.os.length) (hw:¬ ∃ w∈F.ws,w.f=p):(yn F last fresh).getD p []=last.getD p []:=by
 unfold yn;rw[mI _ _ _ _ (by rw[s.len];exact hp),if_neg (λ h=>hw (OY h))]
def St.Xx {F:zx}{last:List Bd}{fresh:List Nat}(s:St F last fresh) (p:Nat):xt ((yn F last fresh).getD p []) (last.getD p []):=by
 by_cases hp:p<F.os.length
 .by_cases hw:∃ w∈F.ws,w.f=p
  .rw[s.at hp hw];exact s.le p hp hw
  .rw[s.no hp hw];exact xt.refl _
 .have h1:(yn F last fresh).getD p []=[]:=by
   rw[AK,Dc (by rw[rP,s.len];lia)];rfl
  rw[h1];intro q x;cases x
def St.next {F:zx}(ok:F.Ok) {last:List Bd}{fresh:List Nat}(s:St F last fresh):St F (yn F last fresh) (xS last (yn F last fresh)) where
 len:=by rw[rP,s.len]
 gd:=λ b hb=>by
  unfold yn at hb;obtain⟨p,hp,rfl⟩:=Ap.mp hb;split
  .exact ZM ok last p
  .have Al:=AE.mp hp;rw[AK,AG Al];exact s.gd _ (Bj Al)
 fr:=λ p hp hn hw=>by
  rw[s.at hp hw];refine Py F p λ w w1 w2=>?_;have hwt:=(ok.ws w w1).2;by_cases e:(yn F last fresh).getD w.t []=last.getD w.t []
  .exact e
  .have:uR F (xS last (yn F last fresh)) p=true:=by
    unfold uR;refine AR.mpr ⟨w,w1,?_⟩;have:w.t∈xS last (yn F last fresh):=by
     unfold xS;exact A0.mpr ⟨AE.mpr (by rw[rP,s.len];exact hwt),by simpa using e⟩
    simp[w2,this]
   rw[this] at hn;cases hn
 le:=λ p hp hw=>by
  rw[s.at hp hw];exact Pz F p λ w w1 w2=>s.Xx w.t
def Nw {last fo:List Bd}(hl:fo.length=last.length) (h:xS last fo≠[]):fo≠last:=λ e=>h (by
 subst e;unfold xS;simp)
def start (F:zx):List Bd:=List.replicate F.os.length xK
theorem St.start {F:zx}(ok:F.Ok):St F (start F) (List.range F.os.length) where
 len:=by unfold RN.start;simp
 gd:=λ b hb=>by rw[List.eq_of_mem_replicate hb];exact Gd.xK ok.a0 ok.b0
 fr:=λ p hp hn ⟨w,w1,w2⟩=>by
  have:uR F (List.range F.os.length) p=true:=by
   unfold uR;refine AR.mpr ⟨w,w1,?_⟩;have:=(ok.ws w w1).2;simp[w2,this]
  rw[this] at hn;cases hn
 le:=λ p hp hw=>by
  have e:(RN.start F).getD p []=xK:=by
   unfold RN.start;rw[AK,Df,if_pos hp];rfl
  rw[e];exact (ZM ok _ p).Ol
theorem aJ {F:zx}(ok:F.Ok):∀ (n:Nat) (told:List (List Bd)) (last:List Bd) (fresh:List Nat),St F last fresh->vU last<n->
  ∃ more last',rK F n told last fresh=some (told++last::more)/\(∀ r∈last::more,r.length=F.os.length/\∀ b∈r,Gd F.A F.B b)/\(last::more).getLast?=some last'/\more.length<=vU last
 | 0,_,_,_,_,h=>by lia
 | n+1,told,last,fresh,s,h=>by
  unfold rK;split
  .exact⟨[],last,rfl,λ r hr=>by cases AO.mp hr;exact⟨s.len,s.gd⟩,rfl,AN _⟩
  .dsimp only;split
   .exact⟨[],last,rfl,λ r hr=>by cases AO.mp hr;exact⟨s.len,s.gd⟩,rfl,AN _⟩
   .rename_i hf;have s':=s.next ok;have Al:vU (yn F last fresh)<vU last:=fC ok.a1 ok.b1 (rP ..) s'.gd s.gd s.Xx (Nw (rP ..) hf);obtain⟨more,last',e1,e2,e3,e4⟩:=aJ ok n (told++[last]) _ _ s' (by lia);refine⟨yn F last fresh::more,last',by rw[e1];simp,λ r hr=>?_,by rw[List.getLast?_cons_cons];exact e3,by rw[AY];lia⟩;rcases Ah.mp hr with e | e
    .subst e;exact⟨s.len,s.gd⟩
    .exact e2 r e
def MZ {A B a b:Int}{bd:Bd}(h0:∀ p∈bd,0<=p.1/\0<=p.2) {q:Int×Int}(hq:(0<=q.1/\q.1<=A)/\0<=q.2/\q.2<=B):zM (qg A B a b bd) q=true↔zM bd (q.1+a,q.2+b)=true:=by
 unfold qg;rw[ox,yG,yG];constructor
 .rintro⟨p,hp,h1,h2⟩;obtain⟨hp,_⟩:=A0.mp hp;obtain⟨r,hr,rfl⟩:=Ap.mp hp;refine⟨r,hr,?_,?_⟩
  .unfold xx yq at h1;dsimp only at h1 ⊢;split at h1 <;> lia
  .unfold xx yq at h2;dsimp only at h2 ⊢;split at h2 <;> lia
 .rintro⟨r,hr,h1,h2⟩;dsimp only at h1 h2;have e1:(xx a b r).1<=q.1:=by unfold xx yq;dsimp only;split <;> lia
  have e2:(xx a b r).2<=q.2:=by unfold xx yq;dsimp only;split <;> lia
  refine⟨xx a b r,A0.mpr ⟨Ap.mpr ⟨r,hr,rfl⟩,?_⟩,e1,e2⟩;unfold vC;rw[decide_eq_true (by lia),decide_eq_true (by lia)];rfl
theorem e_ (pu:Bool) (zX give get:Int) (hg:1<=give) (Du:0<=get):∀ (n:Nat) (g t:Int),0<=t->zX-g<n->∀ (G T:Int),G<=zX->
  ((∃ e∈wz pu zX give get n g t,zP pu e<=G/\y4 pu e<=T)↔∃ k:Nat,g+k*give<=G/\yq (t-k*get)<=T)
 | 0,g,t,ht,hn,G,T,hG=>by
  constructor
  .rintro⟨e,he,_⟩;cases he
  .rintro⟨k,h1,_⟩;exfalso;have:0<=(k:Int)*give:=Cs (by lia) (by lia);lia
 | n+1,g,t,ht,hn,G,T,hG=>by
  have gv:∀ x y,zP pu (yQ pu x y)=x:=λ x y=>by cases pu <;> rfl
  have gt:∀ x y,y4 pu (yQ pu x y)=y:=λ x y=>by cases pu <;> rfl
  have ih:=e_ pu zX give get hg Du n (g+give) (yq (t-get)) (oq _) (by lia) G T hG;have mm:∀ k:Nat,yq (yq (t-get)-k*get)=yq (t-(k+1:Nat)*get):=λ k=>by
   have:0<=(k:Int)*get:=Cs (by lia) Du;have e:((k+1:Nat):Int)*get=k*get+get:=by rw[BA,Cd];lia
   rw[e];unfold yq;split <;> split <;> (try split) <;> lia
  have gg:∀ k:Nat,g+give+k*give=g+(k+1:Nat)*give:=λ k=>by
   rw[BA,Cd];lia
  unfold wz;split
  .rename_i hgb;constructor
   .rintro⟨e,he,h1,h2⟩;rcases Ah.mp he with rfl | he
    .rw[gv] at h1;rw[gt] at h2;refine⟨0,by simpa using h1,?_⟩;unfold yq;split <;> simp at * <;> lia
    .obtain⟨k,k1,k2⟩:=ih.mp ⟨e,he,h1,h2⟩;exact⟨k+1,by rw[<- gg];exact k1,by rw[<- mm];exact k2⟩
   .rintro⟨k,k1,k2⟩;cases k with
    | zero=>
     refine⟨_,Am,by rw[gv];simpa using k1,?_⟩;rw[gt];unfold yq at k2;split at k2 <;> simp at * <;> lia
    | succ k=>
     obtain⟨e,he,h1⟩:=ih.mpr ⟨k,by rw[gg];exact k1,by rw[mm];exact k2⟩;exact⟨e,Av _ he,h1⟩
  .rename_i hgb;constructor
   .rintro⟨e,he,_⟩;cases he
   .rintro⟨k,h1,_⟩;exfalso;have:0<=(k:Int)*give:=Cs (by lia) (by lia);lia
def sS {pu:Bool}{p q:Int×Int}:(p.1<=q.1/\p.2<=q.2)↔zP pu p<=zP pu q/\y4 pu p<=y4 pu q:=by
 cases pu
 .exact Iff.rfl
 .exact And.comm
def Mu {F:zx}{s:Sl}(hs:1<=s.gv/\0<=s.gt) (hA:F.A<=12) (hB:F.B<=12) {b:Bd}(hb:∀ p∈b,0<=p.1/\0<=p.2) {q:Int×Int}(hq:(0<=q.1/\q.1<=F.A)/\0<=q.2/\q.2<=F.B):
  zM (qY F s b) q=true↔∃ k:Nat,zM b (yQ s.pu (zP s.pu q-k*s.gv) (y4 s.pu q+k*s.gt))=true:=by
 have ES:F.zX s.pu<=12:=by unfold zx.zX;split <;> assumption
 have hqb:zP s.pu q<=F.zX s.pu:=by unfold zP zx.zX;split <;> lia
 have hq0:0<=zP s.pu q/\0<=y4 s.pu q:=by unfold zP y4;split <;> lia
 have gv:∀ x y,zP s.pu (yQ s.pu x y)=x:=λ x y=>by cases s.pu <;> rfl
 have gt:∀ x y,y4 s.pu (yQ s.pu x y)=y:=λ x y=>by cases s.pu <;> rfl
 unfold qY;rw[ox,yG];constructor
 .rintro⟨e,he,h12⟩;obtain⟨p,hp,he⟩:=BS.mp he;obtain⟨h1,h2⟩:=sS (pu:=s.pu).mp h12;have p0:=hb p hp;have g0:0<=zP s.pu p/\0<=y4 s.pu p:=by unfold zP y4;split <;> lia
  obtain⟨k,k1,k2⟩:=(e_ s.pu (F.zX s.pu) s.gv s.gt hs.1 hs.2 100 _ _ g0.2 (by lia) _ _ hqb).mp ⟨e,he,h1,h2⟩;refine⟨k,yG.mpr ⟨p,hp,sS (pu:=s.pu).mpr ⟨by rw[gv];lia,?_⟩⟩⟩;rw[gt];unfold yq at k2;split at k2 <;> lia
 .rintro⟨k,hk⟩;obtain⟨p,hp,h12⟩:=yG.mp hk;obtain⟨h1,h2⟩:=sS (pu:=s.pu).mp h12;rw[gv] at h1;rw[gt] at h2;have p0:=hb p hp;have g0:0<=zP s.pu p/\0<=y4 s.pu p:=by unfold zP y4;split <;> lia
  obtain⟨e,he,h3⟩:=(e_ s.pu (F.zX s.pu) s.gv s.gt hs.1 hs.2 100 (zP s.pu p) (y4 s.pu p) g0.2 (by lia) (zP s.pu q) (y4 s.pu q) hqb).mpr ⟨k,by lia,by unfold yq;split <;> lia⟩;exact⟨e,BS.mpr ⟨p,hp,he⟩,sS (pu:=s.pu).mpr h3⟩
noncomputable def zE (F:zx):Nat->List Bd
 | 0=>start F
 | k+1=>(List.range F.os.length).map λ p=>yR F (zE F k) p
theorem m9 (F:zx):∀ k,(zE F k).length=F.os.length
 | 0=>by unfold zE start;simp
 | k+1=>by unfold zE;simp
def Px {F:zx}{last:List Bd}{fresh:List Nat}(s:St F last fresh) (hw:∀ p<F.os.length,∃ w∈F.ws,w.f=p):yn F last fresh=(List.range F.os.length).map λ p=>yR F last p:=by
 refine BB (by rw[rP,s.len];simp) λ i h1 h2=>?_;have hi:i<F.os.length:=by simpa using h2
 have e:=s.at hi (hw i hi);rw[AK,AG h1] at e;simpa using e
def Nx {last fo:List Bd}(hl:fo.length=last.length) (h:xS last fo=[]):fo=last:=by
 refine BB hl λ i h1 h2=>?_;have:i∉xS last fo:=by rw[h];simp
 unfold xS at this;rw[A0] at this;have e:fo.getD i []=last.getD i []:=Classical.byContradiction λ Ai=>this ⟨AE.mpr h1,by simpa using Ai⟩;rw[AK,AG h1,AK,AG h2] at e;simpa using e
theorem aK {F:zx}(ok:F.Ok) (hw:∀ p<F.os.length,∃ w∈F.ws,w.f=p):∀ (n:Nat) (told:List (List Bd)) (k:Nat) (fresh:List Nat) (res:List (List Bd)),St F (zE F k) fresh->fresh≠[]->told=(List.range k).map (zE F)->
  rK F n told (zE F k) fresh=some res->∃ m,res=(List.range (m+1)).map (zE F)/\zE F (m+1)=zE F m
 | 0,_,_,_,_,_,_,_,h=>by cases h
 | n+1,told,k,fresh,res,s,hf,ht,h=>by
  unfold rK at h;rw[if_neg hf] at h;dsimp only at h;have e:yn F (zE F k) fresh=zE F (k+1):=Px s hw;have et:told++[zE F k]=(List.range (k+1)).map (zE F):=by rw[ht,D1,Bh];rfl
  rw[e,et] at h;split at h
  .rename_i A1;cases h;exact⟨k,rfl,Nx (by rw[m9,m9]) A1⟩
  .rename_i A1;have s':=s.next ok;rw[e] at s';exact aK ok hw n _ (k+1) _ res s' A1 rfl h
def xn (F:zx) (q:Int×Int):Prop:=(0<=q.1/\q.1<=F.A)/\0<=q.2/\q.2<=F.B
noncomputable def sj (F:zx) (q:Int×Int) (w:Wy):Option (Int×Int):=if q.1+w.a<0\/q.2+w.b<0 then none else some (min (q.1+w.a) F.A,min (q.2+w.b) F.B)
def yz (F:zx) (last:List Bd) (q:Int×Int) (w:Wy):Bool:=match sj F q w with
 | none=>false
 | some r=>zM (last.getD w.t []) r
noncomputable def uk (F:zx) (p:Nat):List Wy:=F.ws.filter λ w=>decide (w.f=p)
noncomputable def wC (F:zx) (s:Sl):Nat->Int×Int->List (Int×Int)
 | 0,q=>[q]
 | n+1,q=>q::if s.gv<=zP s.pu q then wC F s n (yQ s.pu (zP s.pu q-s.gv) (min (y4 s.pu q+s.gt) (F.zX (!s.pu)))) else []
def yB (F:zx) (p:Nat) (q:Int×Int):List (Int×Int):=match F.stall p with
 | none=>[q]
 | some s=>wC F s 20 q
def mG (F:zx) (last:List Bd) (p:Nat) (q:Int×Int):Bool:=
 if F.os.getD p false=true then (yB F p q).any λ r=>(uk F p).any (yz F last r) else (uk F p).all (yz F last q)
def Mi {A B:Int}{b:Bd}(hb:Gd A B b) (x y:Int):zM b (min x A,min y B)=zM b (x,y):=by
 rw[A6,yG,yG];constructor
 .rintro⟨p,hp,h1,h2⟩;dsimp only at h1 h2;exact⟨p,hp,by dsimp only;lia,by dsimp only;lia⟩
 .rintro⟨p,hp,h1,h2⟩;have:=hb.xY p hp;dsimp only at h1 h2;exact⟨p,hp,by dsimp only;lia,by dsimp only;lia⟩
def Oj {F:zx}{last:List Bd}{w:Wy}(hb:Gd F.A F.B (last.getD w.t [])) (q:Int×Int):yz F last q w=zM (last.getD w.t []) (q.1+w.a,q.2+w.b):=by
 unfold yz sj;by_cases h:q.1+w.a<0\/q.2+w.b<0
 .rw[if_pos h]
  symm
  rw[<- Dz,yG];rintro⟨p,hp,h1,h2⟩;have:=hb.xY p hp;dsimp only at h1 h2;lia
 .rw[if_neg h];exact Mi hb _ _
def jf {F:zx}{last:List Bd}{w:Wy}(hb:Gd F.A F.B (last.getD w.t [])) {q:Int×Int}(hq:xn F q):zM (qg F.A F.B w.a w.b (last.getD w.t [])) q=yz F last q w:=by
 rw[Oj hb,A6];exact MZ (λ p hp=>⟨(hb.xY p hp).1.1,(hb.xY p hp).2.1⟩) hq
def eM {F:zx}{last:List Bd}(hg:∀ p,Gd F.A F.B (last.getD p [])) {p:Nat}{q:Int×Int}(hq:xn F q):zM (uD (w6 F last p)) q=(uk F p).any (yz F last q):=by
 rw[A6,uD,eN,AR];constructor
 .rintro (h | ⟨c,hc,h⟩)
  .cases h
  .unfold w6 at hc;obtain⟨w,hw,rfl⟩:=Ap.mp hc;exact⟨w,hw,by rw[<- jf (hg w.t) hq];exact h⟩
 .rintro⟨w,hw,h⟩;exact .inr ⟨_,Ap.mpr ⟨w,hw,rfl⟩,by rw[jf (hg w.t) hq];exact h⟩
def MN {F:zx}{last:List Bd}(hg:∀ p,Gd F.A F.B (last.getD p [])) {p:Nat}{q:Int×Int}(hq:xn F q):zM (oQ (w6 F last p)) q=(uk F p).all (yz F last q):=by
 rw[A6,oQ,dh,BD];constructor
 .rintro⟨_,h⟩ w hw;rw[<- jf (hg w.t) hq];exact h _ (Ap.mpr ⟨w,hw,rfl⟩)
 .intro h;refine⟨Xs.mpr ⟨hq.1.1,hq.2.1⟩,λ c hc=>?_⟩;unfold w6 at hc;obtain⟨w,hw,rfl⟩:=Ap.mp hc;rw[jf (hg w.t) hq];exact h w hw
def vx (pu:Bool) (x y:Int):zP pu (yQ pu x y)=x:=by cases pu <;> rfl
def tF (pu:Bool) (x y:Int):y4 pu (yQ pu x y)=y:=by cases pu <;> rfl
def n_ (pu:Bool) (q:Int×Int):yQ pu (zP pu q) (y4 pu q)=q:=by cases pu <;> rfl
def wX {F:zx}{pu:Bool}{q:Int×Int}:xn F q↔(0<=zP pu q/\zP pu q<=F.zX pu)/\0<=y4 pu q/\y4 pu q<=F.zX (!pu):=by
 unfold xn zx.zX;cases pu
 .exact Iff.rfl
 .exact And.comm
theorem eY {F:zx}{s:Sl}(hs:1<=s.gv/\0<=s.gt):∀ (n:Nat) {q:Int×Int},xn F q->∀ r∈wC F s n q,xn F r
 | 0,q,h,r,hr=>by cases AO.mp hr;exact h
 | n+1,q,h,r,hr=>by
  unfold wC at hr;rcases Ah.mp hr with rfl | hr
  .exact h
  .split at hr
   .rename_i hg;refine eY hs n ?_ r hr;have h':=wX (pu:=s.pu).mp h;rw[wX (pu:=s.pu),vx,tF];lia
   .cases hr
theorem X3 {F:zx}{s:Sl}(hs:1<=s.gv/\0<=s.gt) {b:Bd}(hb:Gd F.A F.B b):∀ (n:Nat) {q:Int×Int},xn F q->zP s.pu q<n->
  ((∃ k:Nat,zM b (yQ s.pu (zP s.pu q-k*s.gv) (y4 s.pu q+k*s.gt))=true)↔(wC F s n q).any (zM b)=true)
 | 0,q,h,hn=>by
  have:=(wX (pu:=s.pu).mp h).1.1;lia
 | n+1,q,h,hn=>by
  have h':=wX (pu:=s.pu).mp h;have cut:∀ x y,zM b (yQ s.pu x y)=zM b (yQ s.pu x (min y (F.zX (!s.pu)))):=λ x y=>by
   rw[A6,yG,yG];constructor
   .rintro⟨p,hp,h1⟩;have h2:=sS (pu:=s.pu).mp h1;have h3:=wX (pu:=s.pu).mp (show xn F p from hb.xY p hp);rw[vx,tF] at h2;exact⟨p,hp,sS (pu:=s.pu).mpr (by rw[vx,tF];lia)⟩
   .rintro⟨p,hp,h1⟩;have h2:=sS (pu:=s.pu).mp h1;rw[vx,tF] at h2;exact⟨p,hp,sS (pu:=s.pu).mpr (by rw[vx,tF];lia)⟩
  unfold wC;rw[Bf,DA];by_cases hg:s.gv<=zP s.pu q
  .rw[if_pos hg];have hi:xn F (yQ s.pu (zP s.pu q-s.gv) (min (y4 s.pu q+s.gt) (F.zX (!s.pu)))):=by
    rw[wX (pu:=s.pu),vx,tF];lia
   have ih:=X3 hs hb n hi (by rw[vx];lia);rw[vx,tF] at ih;have sh:∀ k:Nat,zM b (yQ s.pu (zP s.pu q-s.gv-k*s.gv) (min (y4 s.pu q+s.gt) (F.zX (!s.pu))+k*s.gt))=zM b (yQ s.pu (zP s.pu q-(k+1:Nat)*s.gv) (y4 s.pu q+(k+1:Nat)*s.gt)):=λ k=>by
    have e1:((k+1:Nat):Int)*s.gv=k*s.gv+s.gv:=by rw[BA,Cd];lia
    have e2:((k+1:Nat):Int)*s.gt=k*s.gt+s.gt:=by rw[BA,Cd];lia
    have k0:0<=(k:Int)*s.gt:=Cs (by lia) hs.2;rw[e1,e2,cut,cut (zP s.pu q-(k*s.gv+s.gv))];congr 2
    .omega
    .omega
   rw[<- ih];constructor
   .rintro⟨k,hk⟩;cases k with
    | zero=>exact .inl (by simpa [n_] using hk)
    | succ k=>exact .inr ⟨k,by rw[sh];exact hk⟩
   .rintro (hk | ⟨k,hk⟩)
    .exact⟨0,by simpa [n_] using hk⟩
    .exact⟨k+1,by rw[<- sh];exact hk⟩
  .rw[if_neg hg];constructor
   .rintro⟨k,hk⟩;cases k with
    | zero=>exact .inl (by simpa [n_] using hk)
    | succ k=>
     exfalso;obtain⟨p,hp,h1⟩:=yG.mp hk;have h2:=sS (pu:=s.pu).mp h1;have h3:=wX (pu:=s.pu).mp (show xn F p from hb.xY p hp);rw[vx] at h2;have e1:((k+1:Nat):Int)*s.gv=k*s.gv+s.gv:=by rw[BA,Cd];lia
     have k0:0<=(k:Int)*s.gv:=Cs (by lia) (by lia);rw[e1] at h2;lia
   .rintro (hk | hk)
    .exact⟨0,by simpa [n_] using hk⟩
    .cases hk
def ZL {F:zx}(ok:F.Ok) {last:List Bd}(hg:∀ p,Gd F.A F.B (last.getD p [])) (p:Nat) {q:Int×Int}(hq:xn F q):zM (yR F last p) q=mG F last p q:=by
 have ge:Gd F.A F.B (uD (w6 F last p)):=mN _ _ Gd.nil (jB F last p);unfold yR mG yB;by_cases ho:F.os.getD p false=true
 .rw[if_pos ho,if_pos ho];cases hs:F.stall p with
  | none=>simp only[Bf,List.any_nil,Bool.or_false];exact eM hg hq
  | some s=>
   have hs':=ok.ss s (CK hs);have hgv:zP s.pu q<20:=by
    have:=wX (pu:=s.pu).mp hq;have:F.zX s.pu<=12:=by have:=ok.a1;have:=ok.b1;unfold zx.zX;split <;> assumption
    lia
   rw[A6];dsimp only;rw[Mu hs' ok.a1 ok.b1 (λ p hp=>⟨(ge.xY p hp).1.1,(ge.xY p hp).2.1⟩) hq,X3 hs' ge 20 hq (by lia),AR,AR];constructor
   .rintro⟨r,hr,h⟩;exact⟨r,hr,by rw[<- eM hg (eY hs' 20 hq r hr)];exact h⟩
   .rintro⟨r,hr,h⟩;exact⟨r,hr,by rw[eM hg (eY hs' 20 hq r hr)];exact h⟩
 .rw[if_neg ho,if_neg ho];exact MN hg hq
end RN
namespace yj
open PySem L2 L3 L5
def bq:Sm:=
 (retS (tT (instS "int" (zf 0)) (f7 (instS "bool" (zf 0)))))
def jR:List T->Option T:=ya ["thing"] 1 bq
def cP:Sm:=
 (retS (zv xi (zb (zc zi (zf 0) (cS (.int 1))) zl)))
def pD:List T->Option T:=ya ["floor"] 1 cP
def bE:Sm:=
 (retS (tT (zc tG (zc zi (zf 0) (cS (.int 0))) (zc zi (zf 1) (cS (.int 0)))) (zc tG (zc zi (zf 0) (cS (.int 1))) (zc zi (zf 1) (cS (.int 1))))))
def nH:List T->Option T:=ya ["pair","other"] 2 bE
def oT:Sm:=
 (yo (uE (wZ (xm (zf 1))) (zN (zc yy (zc zi (zf 2) (cS (.int 1))) (zc zi (zc zi (zf 1) (ux (cS (.int 1)))) (cS (.int 1)))))) (ue 1 (zm 2)) ym)
def cU:Sm:=
 (zt (vI 1 (xD zl))
 (zt (wx [2] (xw (zv pO (zb (zf 0) zl))) (zB 2) oT)
 (retS (zv rF (zb (zf 1) zl)))))
def rm:List T->Option T:=ya ["pairs","least","pair"] 1 cU
def qe:Sm:=
 (zt (ue 4 (Yz (zN (zc (zK false) (zf 3) (cS (.int 0)))) (tupS (zb (zm 5) (zb (zm 6) zl))) (tupS (zb (zm 6) (zb (zm 5) zl)))))
 (zt (zF 5 (zc y8 (zf 5) (zc zi (zf 1) (cS (.int 2)))))
 (zF 6 (zv qM (zb (cS (.int 0)) (zb (zc xQ (zf 6) (zc zi (zf 1) (cS (.int 3)))) zl))))))
def cQ:Sm:=
 (zt (zF 3 (zc zi (zf 1) (cS (.int 1))))
 (zt (vI 4 (xD zl))
 (zt (zF 5 (zc zi (zf 2) (zf 3)))
 (zt (zF 6 (zc zi (zf 2) (zc xQ (cS (.int 1)) (zf 3))))
 (zt (sa 1000000 [] (zN (zc qP (zf 5) (zc zi (zf 0) (zf 3)))) qe)
 (pU 4))))))
def lJ:List T->Option T:=ya ["brims","stall","pair","purse","pairs","given","got"] 3 cQ
def cM:Sm:=
 (zt (zF 3 (av (zc zi (zc zi (zf 0) (cS (.int 2))) (zf 2)) (some (cS (.int 2))) none))
 (zt (zF 4 (zc y8 (zc zi (zf 1) (cS (.int 0))) (zc zi (zf 3) (cS (.int 0)))))
 (zt (zF 5 (zc y8 (zc zi (zf 1) (cS (.int 1))) (zc zi (zf 3) (cS (.int 1)))))
 (zt (yo (uE (zN (zc yy (zf 4) (cS (.int 0)))) (zN (zc yy (zf 5) (cS (.int 0))))) (retS (cS .zh)) ym)
 (retS (tupS (zb (zv uQ (zb (zf 4) (zb (zc zi (zc zi (zf 0) (cS (.int 0))) (cS (.int 0))) zl))) (zb (zv uQ (zb (zf 5) (zb (zc zi (zc zi (zf 0) (cS (.int 0))) (cS (.int 1))) zl))) zl))))))))
def nr:List T->Option T:=ya ["floor","pair","way","coins","first","second"] 3 cM
def b8:Sm:=
 (zt (zF 4 (zc zi (zf 1) (cS (.int 1))))
 (zt (zF 5 (zc xQ (zc zi (zf 2) (zf 4)) (zc xC (zf 3) (zc zi (zf 1) (cS (.int 2))))))
 (zt (yo (zN (zc yy (zf 5) (cS (.int 0)))) (retS (cS .zh)) ym)
 (zt (zF 6 (zv uQ (zb (zc y8 (zc zi (zf 2) (zc xQ (cS (.int 1)) (zf 4))) (zc xC (zf 3) (zc zi (zf 1) (cS (.int 3))))) (zb (zc zi (zf 0) (zc xQ (cS (.int 1)) (zf 4))) zl))))
 (zt (yo (zN (zc (zK false) (zf 4) (cS (.int 0)))) (retS (tupS (zb (zm 5) (zb (zm 6) zl)))) ym)
 (retS (tupS (zb (zm 6) (zb (zm 5) zl)))))))))
def pG:List T->Option T:=ya ["brims","stall","pair","times","purse","left","got"] 4 b8
def bf:Sm:=
 (zt (yo (zN (zc yy (zf 1) (zv xi (zb (zf 0) zl)))) (retS (zc yc (zc zi (zf 0) (zf 1)) (zc Ze (cS (.int 10)) (cS (.int 40))))) ym)
 (retS (cS (.int 0))))
def yO:List T->Option T:=ya ["_law_script","_law_k"] 2 bf
def j_:Sm:=
 (zt (yo (zN (zc (zK false) (zc yc (zf 0) (cS (.int 5))) (cS (.int 1)))) (retS (zc xQ (zc yc (zc yL (zf 0) (cS (.int 5))) (cS (.int 25))) (cS (.int 12)))) ym)
 (retS (zc xQ (zc yc (zc yc (zc yL (zf 0) (cS (.int 5))) (cS (.int 25))) (cS (.int 7))) (cS (.int 3)))))
def r9:List T->Option T:=ya ["_law_number"] 1 j_
def bh:Sm:=
 (zt (zF 3 (zc y8 (zc zi (zf 1) (cS (.int 0))) (zc zi (zf 2) (cS (.int 2)))))
 (zt (zF 4 (zc y8 (zc zi (zf 1) (cS (.int 1))) (zc zi (zf 2) (cS (.int 3)))))
 (zt (yo (uE (zN (zc yy (zf 3) (cS (.int 0)))) (zN (zc yy (zf 4) (cS (.int 0))))) (retS (cS .zh)) ym)
 (retS (tupS (zb (zv uQ (zb (zf 3) (zb (zc zi (zc zi (zf 0) (cS (.int 0))) (cS (.int 0))) zl))) (zb (zv uQ (zb (zf 4) (zb (zc zi (zc zi (zf 0) (cS (.int 0))) (cS (.int 1))) zl))) zl)))))))
def qq:List T->Option T:=ya ["_law_floor_here","_law_pair","_law_way_here","_law_first_here","_law_second"] 3 bh
def pd:Sm:=
 (zt (vI 8 (zv listS (zb (zc zi (zf 3) (ux (cS (.int 1)))) zl)))
 (zt (je 8 (zf 5) (zc xQ (zc zi (zf 8) (zf 5)) (zf 6)))
 (zt (je 8 (zc xQ (cS (.int 1)) (zf 5)) (zv uQ (zb (zc y8 (zc zi (zf 8) (zc xQ (cS (.int 1)) (zf 5))) (zf 7)) (zb (zc zi (zc zi (zf 0) (cS (.int 0))) (zc xQ (cS (.int 1)) (zf 5))) zl))))
 (ue 3 (zv rF (zb (zf 8) zl))))))
def q_:Sm:=
 (sa 1000000 [8] (uW (zN (zc (zK false) (zf 4) (zf 1))) (zN (zc tG (zc zi (zc zi (zf 3) (ux (cS (.int 1)))) (zf 5)) (zf 6)))) pd)
def bc:Sm:=
 (zt (vI 3 (xD (zb (zm 2) zl)))
 (zt (wx [4,5,6,7,8] (xw (zc zi (zf 0) (cS (.int 3)))) (xP 4 (yk (zB 4) (yk (zB 5) (yk (zB 6) (yk (zB 7) wu))))) q_)
 (pU 3)))
def lL:List T->Option T:=ya ["_law_floor_here","_law_place","_law_pair","_law_found","_law_home","_law_purse","_law_give","_law_get","_law_coins_here"] 3 bc
def jA:Sm:=
 (yo (uW (zN (zc tG (zc zi (zf 1) (cS (.int 0))) (zf 2))) (zN (zc tG (zc zi (zf 1) (cS (.int 1))) (zf 3)))) (retS (cS (.bl true))) ym)
def c_:Sm:=
 (zt (wx [2,3] (xw (zm 0)) (xP 2 (yk (zB 2) (yk (zB 3) wu))) jA)
 (retS (cS (.bl false))))
def rp:List T->Option T:=ya ["_law_border","_law_pair","_law_x","_law_y"] 2 c_
def cV:Sm:=
 (retS (tT (instS "int" (zf 0)) (f7 (instS "bool" (zf 0)))))
def pE:List T->Option T:=ya ["_law_found"] 1 cV
def bp:Sm:=
 (retS (tT (zv jR (zb (zm 0) zl)) (da qP qP (zf 1) (zf 0) (zf 2))))
def lN:List T->Option T:=ya ["thing","least","most"] 3 bp
def lu:Ev->Option T:=
 wV [none,some 1] (xw (zf 0)) (zB 0) qc (zv nH (zb (zm 1) (zb (zm 0) zl)))
def bu:Sm:=
 (retS (zv (j8 λ bs=>bs.any id) (zb lu zl)))
def qt:List T->Option T:=ya ["border","pair"] 2 bu
def df:Ev->Option T:=
 wV [none] (xw (zf 0)) (zB 0) qc (tupS (zb (zc zi (zf 0) (cS (.int 0))) (zb (cS (.int 0)) (zb (zc zi (zf 0) (cS (.int 1))) zl))))
def de:Ev->Option T:=
 wV [none] (xw (zf 1)) (zB 0) qc (tupS (zb (zc zi (zf 0) (cS (.int 0))) (zb (cS (.int 1)) (zb (zc zi (zf 0) (cS (.int 1))) zl))))
def l8:Sm:=
 (zt (YV 3 (zf 6) (zv uQ (zb (zf 7) (zb (YX 3 (zf 6) (zm 7)) zl))))
 (yo (zN (zc (zK false) (eP 3) (cS (.int 2)))) (ue 4 (tupS (zb (zm 5) (zb (zv qM (zb (eQ 3 (cS (.int 0))) (zb (eQ 3 (cS (.int 1))) zl))) zl)))) ym))
def b9:Sm:=
 (zt (zF 2 (zc y8 df de))
 (zt (YW 3)
 (zt (vI 4 (xD zl))
 (zt (wx [5,6,7] (xw (zv pO (zb (zf 2) zl))) (xP 3 (yk (zB 5) (yk (zB 6) (yk (zB 7) wu)))) l8)
 (eB 4 (retS (zv rm (zb (zm 4) zl))))))))
def lR:List T->Option T:=ya ["border","other","steps","lows","shared","first","side","second"] 2 b9
def bx:Sm:=
 (retS (zv rm (zb (zc y8 (zv listS (zb (zf 0) zl)) (zv listS (zb (zf 1) zl))) zl)))
def lP:List T->Option T:=ya ["border","other"] 2 bx
def lx:Ev->Option T:=
 wV [none,some 1] (xw (zf 2)) (zB 0) qc (tupS (zb (zv qM (zb (cS (.int 0)) (zb (zc xQ (zc zi (zf 0) (cS (.int 0))) (zc zi (zf 1) (cS (.int 2)))) zl))) (zb (zv qM (zb (cS (.int 0)) (zb (zc xQ (zc zi (zf 0) (cS (.int 1))) (zc zi (zf 1) (cS (.int 3)))) zl))) zl)))
def lh:Ev->Option T:=
 wV [none,some 0] (xw (zf 3)) (zB 0) (xm (zv nH (zb (zm 1) (zb (zm 0) zl)))) (zm 0)
def bD:Sm:=
 (zt (zF 3 lx)
 (retS (zv rm (zb lh zl))))
def lU:List T->Option T:=ya ["brims","way","border","pairs"] 3 bD
def bg:Sm:=
 (zt (zF 2 (zv yO (zb (zm 0) (zb (cS (.int 1)) zl))))
 (zt (zF 3 (xD (zb (zc zi (xD (zb (cS (.int 3)) (zb (cS (.int 2)) (zb (cS (.int 4)) (zb (cS (.int 1)) (zb (cS (.int 5)) (zb (cS (.int 2)) (zb (cS (.int 3)) (zb (cS (.int 0)) zl))))))))) (zc yc (zf 2) (cS (.int 8)))) (zb (zc zi (xD (zb (cS (.int 2)) (zb (cS (.int 3)) (zb (cS (.int 1)) (zb (cS (.int 4)) (zb (cS (.int 2)) (zb (cS (.int 5)) (zb (cS (.int 3)) (zb (cS (.int 0)) zl))))))))) (zc yc (zc yL (zf 2) (cS (.int 8))) (cS (.int 8)))) zl))))
 (zt (yo (zN (zc oB (zf 1) (cS (.int 4)))) (retS (tupS (zb (zv uQ (zb (zc zi (zf 3) (cS (.int 0))) (zb (cS (.int 2)) zl))) (zb (zv uQ (zb (zc zi (zf 3) (cS (.int 1))) (zb (cS (.int 2)) zl))) zl)))) ym)
 (zt (yo (zN (zc (zK false) (zc yc (zc yL (zf 2) (cS (.int 64))) (cS (.int 10))) (cS (.int 1)))) (retS (tupS (zb (cS (.int 12)) (zb (zc yc (zc zi (zf 3) (cS (.int 1))) (cS (.int 3))) zl)))) ym)
 (zt (yo (zN (zc (zK false) (zc yc (zc yL (zf 2) (cS (.int 64))) (cS (.int 10))) (cS (.int 2)))) (retS (tupS (zb (zc yc (zc zi (zf 3) (cS (.int 0))) (cS (.int 3))) (zb (cS (.int 12)) zl)))) ym)
 (zt (yo (uW (zN (zc (zK false) (zc yc (zc yL (zf 2) (cS (.int 64))) (cS (.int 10))) (cS (.int 3)))) (zN (zc yy (zf 1) (cS (.int 3))))) (retS (tupS (zb (cS (.int 12)) (zb (cS (.int 12)) zl)))) ym)
 (retS (zv rF (zb (zf 3) zl)))))))))
def nC:List T->Option T:=ya ["_law_script","_law_many","_law_number","_law_found"] 2 bg
def l5:Sm:=
 (zt (ue 3 (zc zi (xD (zb (cS (.str "keeper")) (zb (cS (.str "taker")) zl))) (zc yc (zf 2) (cS (.int 2)))))
 (zF 2 (zc yL (zf 2) (cS (.int 2)))))
def cY:Sm:=
 (zt (zF 2 (zv yO (zb (zm 0) (zb (cS (.int 2)) zl))))
 (zt (vI 3 (xD zl))
 (zt (wx [4] (vg sC (zb (zf 1) zl)) (zB 4) l5)
 (retS (zv rF (zb (zf 3) zl))))))
def nA:List T->Option T:=ya ["_law_script","_law_many","_law_number","_law_found","_law_place"] 2 cY
def pb:Sm:=
 (zt (zF 8 (zc y8 (zc xC (zf 3) (zf 5)) (zf 7)))
 (zt (zF 9 (zc yc (zc y8 (zc y8 (zc xC (zv yO (zb (zm 0) (zb (zc y8 (cS (.int 4)) (zf 8)) zl))) (cS (.int 2957))) (zc xC (cS (.int 61)) (zf 8))) (cS (.int 17))) (cS (.int 999983))))
 (zt (zF 10 (zc yL (zf 9) (cS (.int 8))))
 (ue 4 (tupS (zb (zm 5) (zb (zc yc (zc yc (zf 9) (cS (.int 8))) (zf 1)) (zb (zv r9 (zb (zm 10) zl)) (zb (zv r9 (zb (zc yL (zf 10) (cS (.int 125))) zl)) zl)))))))))
def ly:Sm:=
 (zt (zF 6 (zc y8 (cS (.int 1)) (zc yc (zf 2) (cS (.int 3)))))
 (zt (yo (uW (zN (zc yy (zf 1) (cS (.int 3)))) (zN (zc (zK false) (zc yc (zc yL (zf 2) (cS (.int 3))) (cS (.int 8))) (cS (.int 1))))) (zF 6 (zc y8 (cS (.int 9)) (zf 6))) ym)
 (zt (wx [7,8,9,10] (vg sC (zb (zf 6) zl)) (zB 7) pb)
 (zF 2 (zc yL (zf 2) (cS (.int 24)))))))
def cW:Sm:=
 (zt (zF 2 (zv yO (zb (zm 0) (zb (cS (.int 3)) zl))))
 (zt (zF 3 (zc zi (xD (zb (cS (.int 3)) (zb (cS (.int 12)) zl))) (zv jk (zb (zc yy (zf 1) (cS (.int 3))) zl))))
 (zt (vI 4 (xD zl))
 (zt (wx [5,6,7,8,9,10] (vg sC (zb (zf 1) zl)) (zB 5) ly)
 (retS (zv rF (zb (zv qB (zb (zf 4) zl)) zl)))))))
def nv:List T->Option T:=ya ["_law_script","_law_many","_law_number","_law_wide","_law_found","_law_place","_law_size","_law_k","_law_at","_law_drawn","_law_rest"] 2 cW
def oU:Sm:=
 (zt (zF 4 (zc yc (zc y8 (zc y8 (zc xC (zv yO (zb (zm 0) (zb (zc y8 (cS (.int 28)) (zf 3)) zl))) (cS (.int 3571))) (zc xC (cS (.int 29)) (zf 3))) (cS (.int 5))) (cS (.int 999979))))
 (yo (uW (zN (zc (zK false) (zc zi (zf 1) (zf 3)) (cS (.str "keeper")))) (zN (zc (zK false) (zc yc (zf 4) (cS (.int 3))) (cS (.int 1))))) (zt (zF 5 (zc yL (zf 4) (cS (.int 6))))
 (zt (zF 6 (zc y8 (cS (.int 1)) (zc zi (xD (zb (zc yc (zf 5) (cS (.int 3))) (zb (zc yc (zf 5) (cS (.int 3))) (zb (zc yc (zf 5) (cS (.int 12))) zl)))) (zc yc (zc yL (zf 5) (cS (.int 12))) (cS (.int 3))))))
 (zt (zF 7 (zc zi (xD (zb (zc yc (zc yL (zf 5) (cS (.int 36))) (cS (.int 4))) (zb (zc yc (zc yL (zf 5) (cS (.int 36))) (cS (.int 4))) (zb (zc yc (zc yL (zf 5) (cS (.int 36))) (cS (.int 13))) zl)))) (zc yc (zc yL (zf 5) (cS (.int 468))) (cS (.int 3)))))
 (ue 2 (tupS (zb (zm 3) (zb (zc yc (zc yL (zf 4) (cS (.int 3))) (cS (.int 2))) (zb (zm 6) (zb (zm 7) zl))))))))) ym))
def cX:Sm:=
 (zt (vI 2 (xD zl))
 (zt (wx [3,4,5,6,7] (vg sC (zb (zv xi (zb (zf 1) zl)) zl)) (zB 3) oU)
 (retS (zv rF (zb (zf 2) zl)))))
def ny:List T->Option T:=ya ["_law_script","_law_owners_here","_law_found","_law_place","_law_drawn","_law_rest","_law_give","_law_get"] 2 cX
def l6:Sm:=
 (yo (wZ (xm (zv rp (zb (zc zi (zc zi (zf 0) (zf 3)) (zf 1)) (zb (zm 2) zl))))) (retS (zm 3)) ym)
def ba:Sm:=
 (zt (wx [3] (vg sC (zb (zv xi (zb (zf 0) zl)) zl)) (zB 3) l6)
 (retS (cS .zh)))
def rq:List T->Option T:=ya ["_law_told","_law_place","_law_pair","_law_k"] 3 ba
def cZ:Sm:=
 (retS (tT (zv pE (zb (zm 2) zl)) (tT (da qP yy (cS (.int 0)) (zf 2) (zv xi (zb (zc zi (zf 0) (cS (.int 2))) zl))) (zc (zK false) (zc zi (zc zi (zc zi (zf 0) (cS (.int 2))) (zf 2)) (cS (.int 0))) (zf 1)))))
def qp:List T->Option T:=ya ["_law_floor_here","_law_place","_law_number"] 3 cZ
def oV:Sm:=
 (zt (zF 6 (zv yO (zb (zm 0) (zb (zc y8 (cS (.int 37)) (zf 5)) zl))))
 (ue 4 (tupS (zb (zc yc (zf 6) (zf 3)) (zb (tupS (zb (zc yc (zc yL (zf 6) (cS (.int 8))) (zc y8 (zc zi (zc zi (zf 1) (cS (.int 0))) (cS (.int 0))) (cS (.int 1)))) (zb (zc yc (zc yL (zf 6) (cS (.int 104))) (zc y8 (zc zi (zc zi (zf 1) (cS (.int 0))) (cS (.int 1))) (cS (.int 1)))) zl))) zl)))))
def ia:Sm:=
 (zt (zF 3 (zv xi (zb (zc zi (zf 1) (cS (.int 1))) zl)))
 (zt (vI 4 (xD zl))
 (zt (wx [5,6] (vg sC (zb (zc yc (zv yO (zb (zm 0) (zb (cS (.int 36)) zl))) (cS (.int 6))) zl)) (zB 5) oV)
 (zt (zF 7 (zc yc (zc yL (zv yO (zb (zm 0) (zb (cS (.int 36)) zl))) (cS (.int 6))) (zf 3)))
 (zt (zF 8 (zc zi (zc zi (zf 2) (ux (cS (.int 1)))) (zf 7)))
 (zt (yo (zN (zc oB (zv xi (zb (zf 8) zl)) (cS (.int 0)))) (zt (bX (zc zi (zf 8) (zc yc (zc yL (zv yO (zb (zm 0) (zb (cS (.int 36)) zl))) (cS (.int 48))) (zv xi (zb (zf 8) zl)))) (xP 2 (yk (zB 9) (yk (zB 10) wu))))
 (vI 4 (zc y8 (zf 4) (xD (zb (tupS (zb (zm 7) (zb (tupS (zb (zm 9) (zb (zm 10) zl))) zl))) (zb (tupS (zb (zm 7) (zb (tupS (zb (zv qM (zb (cS (.int 0)) (zb (zc xQ (zf 9) (cS (.int 1))) zl))) (zb (zm 10) zl))) zl))) (zb (tupS (zb (zm 7) (zb (tupS (zb (zm 9) (zb (zv qM (zb (cS (.int 0)) (zb (zc xQ (zf 10) (cS (.int 1))) zl))) zl))) zl))) zl))))))) ym)
 (retS (zc y8 (zf 4) (xD (zb (tupS (zb (zm 7) (zb (zc zi (zf 1) (cS (.int 0))) zl))) zl))))))))))
def nD:List T->Option T:=ya ["_law_script","_law_floor_here","_law_told","_law_many","_law_found","_law_k","_law_cell_here","_law_place","_law_border","_law_x","_law_y"] 3 ia
def lq:Ev->Option T:=
 wV [none,none] (vg ie (zb (zf 0) (zb (zf 1) zl))) (xP 2 (yk (zB 0) (yk (zB 1) wu))) qc (zv lN (zb (zm 0) (zb (zc zi (zf 1) (cS (.int 0))) (zb (zc zi (zf 1) (cS (.int 1))) zl))))
def br:Sm:=
 (zt (yo (uE (wZ (xm (instS "tuple" (zf 0)))) (zN (zc (zK true) (zv xi (zb (zf 0) zl)) (zv xi (zb (zf 1) zl))))) (retS (cS (.bl false))) ym)
 (retS (zv (j8 λ bs=>bs.all id) (zb lq zl))))
def lO:List T->Option T:=ya ["thing","bounds"] 2 br
def b6:Sm:=
 (yo (wZ (xm (zv lN (zb (zm 1) (zb (cS (.int 0)) (zb (zc xQ (zv pD (zb (zm 0) zl)) (cS (.int 1))) zl)))))) fy ym)
def tZ:List T->Option T:=ya ["floor","place"] 2 b6
def l9:Sm:=
 (zF 1 (zv lP (zb (zm 1) (zb (zm 2) zl))))
def bB:Sm:=
 (zt (zF 1 (tupS zl))
 (zt (wx [2] (xw (zm 0)) (zB 2) l9)
 (retS (zm 1))))
def lS:List T->Option T:=ya ["borders","joined","border"] 1 bB
def lA:Sm:=
 (zF 1 (zv lR (zb (zm 1) (zb (zm 2) zl))))
def bC:Sm:=
 (zt (zF 1 (tupS (zb (tupS (zb (cS (.int 0)) (zb (cS (.int 0)) zl))) zl)))
 (zt (wx [2] (xw (zm 0)) (zB 2) lA)
 (retS (zm 1))))
def lT:List T->Option T:=ya ["borders","joined","border"] 1 bC
def l7:Sm:=
 (yo (wZ (xm (zv qt (zb (zc zi (zf 4) (zf 1)) (zb (zm 2) zl))))) (retS (zm 3)) ym)
def bw:Sm:=
 (zt (wx [3,4] (vg uc (zb (zm 0) zl)) (xP 2 (yk (zB 3) (yk (zB 4) wu))) l7)
 (retS (cS .zh)))
def nF:List T->Option T:=ya ["told","place","pair","number","held"] 3 bw
def jY:Sm:=
 (zt (zF 4 (zv nr (zb (zm 0) (zb (zm 1) (zb (zm 2) zl)))))
 (retS (tT (zc (yE true) (zf 4) (cS .zh)) (zv qt (zb (zc zi (zf 3) (zc zi (zc zi (zc zi (zf 0) (cS (.int 2))) (zf 2)) (cS (.int 1)))) (zb (zm 4) zl))))))
def rn:List T->Option T:=ya ["floor","pair","way","held","behind"] 4 jY
def jZ:Sm:=
 (zt (zF 1 (zv yO (zb (zm 0) (zb (cS (.int 0)) zl))))
 (zt (zF 2 (zc zi (xD (zb (cS (.int 2)) (zb (cS (.int 3)) (zb (cS (.int 1)) (zb (cS (.int 4)) (zb (cS (.int 3)) (zb (cS (.int 2)) (zb (cS (.int 4)) (zb (zc y8 (cS (.int 5)) (zc yc (zc yL (zf 1) (cS (.int 8))) (cS (.int 4)))) zl))))))))) (zc yc (zf 1) (cS (.int 8)))))
 (zt (zF 3 (zv nA (zb (zm 0) (zb (zm 2) zl))))
 (zt (zF 4 (zv nC (zb (zm 0) (zb (zm 2) zl))))
 (zt (zF 5 (zv nv (zb (zm 0) (zb (zm 2) zl))))
 (zt (zF 6 (zv ny (zb (zm 0) (zb (zm 3) zl))))
 (zt (yo (uW (zN (zc (zK false) (zf 4) (tupS (zb (cS (.int 12)) (zb (cS (.int 12)) zl))))) (uE (zN (zc oB (zv xi (zb (zf 5) zl)) (cS (.int 6)))) (zN (zc oB (zv xi (zb (zf 6) zl)) (cS (.int 0)))))) (zF 4 (tupS (zb (cS (.int 12)) (zb (cS (.int 3)) zl)))) ym)
 (retS (tupS (zb (zm 4) (zb (zm 3) (zb (zm 5) (zb (zm 6) zl)))))))))))))
def nB:List T->Option T:=ya ["_law_script","_law_number","_law_many","_law_owners_here","_law_brims_here","_law_ways_here","_law_stalls_here"] 1 jZ
def l_:Sm:=
 (zt (yo (uE (zN (zc (zK false) (zc zi (zc zi (zf 0) (cS (.int 1))) (zf 2)) (cS (.str "taker")))) (wZ (xm (zv rp (zb (zc zi (zc zi (zf 1) (ux (cS (.int 1)))) (zf 2)) (zb (zm 3) zl)))))) (retS (zc (yE false) (zf 4) (cS .zh))) ym)
 (zt (yo (uE (wZ (xm (instS "tuple" (zf 4)))) (uE (zN (zc (zK true) (zv xi (zb (zf 4) zl)) (cS (.int 2)))) (wZ (xm (zv qp (zb (zm 0) (zb (zm 2) (zb (zc zi (zf 4) (cS (.int 1))) zl)))))))) (retS (cS (.bl false))) ym)
 (zt (zF 5 (zv lL (zb (zm 0) (zb (zm 2) (zb (zm 3) zl)))))
 (zt (yo (uE (wZ (xm (zv pE (zb (zc zi (zf 4) (cS (.int 0))) zl)))) (uE (zN (zc yy (zc zi (zf 4) (cS (.int 0))) (cS (.int 0)))) (zN (zc tG (zc zi (zf 4) (cS (.int 0))) (zv xi (zb (zf 5) zl)))))) (retS (cS (.bl false))) ym)
 (zt (zF 6 (zc zi (zc zi (zf 0) (cS (.int 2))) (zc zi (zf 4) (cS (.int 1)))))
 (zt (zF 7 (zv qq (zb (zm 0) (zb (zc zi (zf 5) (zc zi (zf 4) (cS (.int 0)))) (zb (zm 6) zl)))))
 (retS (tT (zc (yE true) (zf 7) (cS .zh)) (zv rp (zb (zc zi (zc zi (zf 1) (ux (cS (.int 1)))) (zc zi (zf 6) (cS (.int 1)))) (zb (zm 7) zl)))))))))))
def pF:List T->Option T:=ya ["_law_floor_here","_law_told","_law_place","_law_pair","_law_found","_law_some","_law_way_here","_law_behind_here"] 5 l_
def nI:Sm:=
 (zt (zF 5 (zv rq (zb (zm 1) (zb (zm 2) (zb (zm 3) zl)))))
 (zt (yo (uE (zN (zc (zK false) (zc zi (zc zi (zf 0) (cS (.int 1))) (zf 2)) (cS (.str "keeper")))) (zN (zc (yE false) (zf 5) (cS .zh)))) (retS (zc (yE false) (zf 4) (cS .zh))) ym)
 (zt (yo (wZ (xm (zv qp (zb (zm 0) (zb (zm 2) (zb (zm 4) zl)))))) (retS (cS (.bl false))) ym)
 (zt (zF 6 (zc zi (zc zi (zf 0) (cS (.int 2))) (zf 4)))
 (zt (zF 7 (zv qq (zb (zm 0) (zb (zm 3) (zb (zm 6) zl)))))
 (zt (yo (zN (zc (yE false) (zf 7) (cS .zh))) (retS (cS (.bl true))) ym)
 (zt (zF 8 (zv rq (zb (zm 1) (zb (zc zi (zf 6) (cS (.int 1))) (zb (zm 7) zl)))))
 (retS (tT (zc (yE true) (zf 8) (cS .zh)) (zc yy (zf 8) (zf 5)))))))))))
def qo:List T->Option T:=ya ["_law_floor_here","_law_told","_law_place","_law_pair","_law_found","_law_steps","_law_way_here","_law_behind_here","_law_left"] 5 nI
def b7:Sm:=
 (yo (wZ (xm (zv lO (zb (zm 1) (zb (tupS (zb (tupS (zb (cS (.int 0)) (zb (zc zi (zc zi (zf 0) (cS (.int 0))) (cS (.int 0))) zl))) (zb (tupS (zb (cS (.int 0)) (zb (zc zi (zc zi (zf 0) (cS (.int 0))) (cS (.int 1))) zl))) zl))) zl))))) fy ym)
def qu:List T->Option T:=ya ["floor","pair"] 2 b7
def lj:Ev->Option T:=
 wV [none,none,some 1] (vg uc (zb (zc zi (zf 0) (cS (.int 2))) zl)) (xP 2 (yk (zB 0) (yk (zB 1) wu))) (zN (zc (zK false) (zc zi (zf 1) (cS (.int 0))) (zf 2))) (zm 0)
def cL:Sm:=
 (zt (qT (zv tZ (zb (zm 0) (zb (zm 1) zl))))
 (retS lj))
def uN:List T->Option T:=ya ["floor","place"] 2 cL
def oS:Sm:=
 (yo (zN (zc (zK false) (zc zi (zf 2) (cS (.int 0))) (zf 1))) (retS (zm 2)) ym)
def cN:Sm:=
 (zt (qT (zv tZ (zb (zm 0) (zb (zm 1) zl))))
 (zt (wx [2] (xw (zc zi (zf 0) (cS (.int 3)))) (zB 2) oS)
 (retS (cS .zh))))
def tY:List T->Option T:=ya ["floor","place","stall"] 2 cN
def lB:Sm:=
 (eF 4 (zv lJ (zb (zc zi (zf 0) (cS (.int 0))) (zb (zm 3) (zb (zm 5) zl)))))
def ic:Sm:=
 (zt (zF 3 (zv tY (zb (zm 0) (zb (zm 1) zl))))
 (zt (yo (zN (zc (yE false) (zf 3) (cS .zh))) (retS (zm 2)) ym)
 (zt (vI 4 (xD zl))
 (zt (wx [5] (xw (zm 2)) (zB 5) lB)
 (eB 4 (retS (zv rm (zb (zm 4) zl))))))))
def nG:List T->Option T:=ya ["floor","place","border","stall","pairs","pair"] 3 ic
def ka:Sm:=
 (zt (yo (zN (zc (zK false) (zf 3) (cS (.int 0)))) (retS (tupS (zb (zc zi (zf 2) (cS (.int 0))) (zb (zc zi (zf 2) (cS (.int 1))) zl)))) ym)
 (zt (zF 4 (zv tY (zb (zm 0) (zb (zm 1) zl))))
 (zt (yo (zN (zc (yE false) (zf 4) (cS .zh))) (retS (cS .zh)) ym)
 (retS (zv pG (zb (zc zi (zf 0) (cS (.int 0))) (zb (zm 4) (zb (zm 2) (zb (zm 3) zl)))))))))
def pH:List T->Option T:=ya ["floor","place","pair","times","stall"] 4 ka
def oM:Ev->Option T:=
 wV [none,some 0,some 2,some 3,some 4] (xw (zv uN (zb (zm 0) (zb (zm 1) zl)))) (zB 0) (wZ (xm (zv rn (zb (zm 1) (zb (zm 2) (zb (zm 0) (zb (zc zi (zf 3) (zc xQ (zf 4) (cS (.int 1)))) zl))))))) (zm 0)
def jW:Sm:=
 (zt (zF 4 (zv nF (zb (zm 3) (zb (zm 1) (zb (zm 2) zl)))))
 (zt (yo (zN (zc (yE false) (zf 4) (cS .zh))) (retS (cS .zh)) ym)
 (retS (zc zi oM (cS (.int 0))))))
def pC:List T->Option T:=ya ["floor","place","pair","told","steps"] 4 jW
def lp:Ev->Option T:=
 wV [none,some 0] (xw (zv uN (zb (zm 0) (zb (zm 1) zl)))) (zB 0) qc (zc zi (zc zi (zf 1) (cS (.int 2))) (zf 0))
def lg:Ev->Option T:=
 wV [none,some 0,some 2] (xw (zf 3)) (zB 0) qc (zv lU (zb (zc zi (zf 1) (cS (.int 0))) (zb (zm 0) (zb (zc zi (zf 2) (zc zi (zf 0) (cS (.int 1)))) zl))))
def cT:Sm:=
 (zt (zF 3 lp)
 (zt (zF 4 lg)
 (zt (yo (zN (zc (zK false) (zc zi (zc zi (zf 0) (cS (.int 1))) (zf 1)) (cS (.str "keeper")))) (retS (zv nG (zb (zm 0) (zb (zm 1) (zb (zv lS (zb (zm 4) zl)) zl))))) ym)
 (retS (zv lT (zb (zm 4) zl))))))
def lK:List T->Option T:=ya ["floor","place","last","ways","ahead"] 3 cT
def qf:Sm:=
 (yo (xm (zv rn (zb (zm 0) (zb (zm 6) (zb (zm 7) (zb (zm 3) zl)))))) (retS (tupS (zb (zm 5) (zb (zm 7) zl)))) ym)
def sY:Sm:=
 (zt (wx [7] (xw (zm 4)) (zB 7) qf)
 (zt (zF 5 (zc y8 (zf 5) (cS (.int 1))))
 (zF 6 (zv pH (zb (zm 0) (zb (zm 1) (zb (zm 2) (zb (zm 5) zl))))))))
def bz:Sm:=
 (zt (zF 4 (zv uN (zb (zm 0) (zb (zm 1) zl))))
 (zt (zF 5 (cS (.int 0)))
 (zt (zF 6 (zm 2))
 (zt (sa 1000000 [7] (zN (zc (yE true) (zf 6) (cS .zh))) sY)
 (retS (cS .zh))))))
def lQ:List T->Option T:=ya ["floor","place","pair","held","ways","times","ready","way"] 4 bz
def ll:Ev->Option T:=
 wV [none,some 2] (xw (zc zi (zf 0) (cS (.int 2)))) (zB 0) (zN (zc (o7 false) (zc zi (zf 0) (cS (.int 1))) (zf 1))) (zc zi (zf 0) (cS (.int 0)))
def l4:Sm:=
 (je 3 (zf 4) (zv lK (zb (zm 0) (zb (zm 4) (zb (zm 1) zl)))))
def cR:Sm:=
 (zt (vI 3 (zv listS (zb (zf 1) zl)))
 (zt (wx [4] (xw (zv qB (zb ll zl))) (zB 4) l4)
 (pU 3)))
def nu:List T->Option T:=ya ["floor","last","fresh","following","place"] 3 cR
def oO:Ev->Option T:=
 wV [none,none,some 3] (vg uc (zb (zf 4) zl)) (xP 2 (yk (zB 0) (yk (zB 1) wu))) (zN (zc (zK true) (zf 1) (zc zi (zf 2) (zf 0)))) (zm 0)
def u_:Sm:=
 (zt (zF 3 (zc zi (zf 1) (ux (cS (.int 1)))))
 (zt (zF 4 (zv nu (zb (zm 0) (zb (zm 3) (zb (zm 2) zl)))))
 (zt (zF 2 oO)
 (yo (xm (zf 2)) (ue 1 (zm 4)) ym))))
def cO:Sm:=
 (zt (vI 1 (xD (zb (zc xC (xD (zb (tupS (zb (tupS (zb (cS (.int 0)) (zb (cS (.int 0)) zl))) zl)) zl)) (zv pD (zb (zm 0) zl))) zl)))
 (zt (zF 2 (zv mz (zb (zv pD (zb (zm 0) zl)) zl)))
 (zt (sa 1000000 [3,4] (xm (zf 2)) u_)
 (pU 1))))
def vO:List T->Option T:=ya ["floor","told","fresh","last","following"] 1 cO
def bA:Sm:=
 (retS (zc zi (zv vO (zb (zm 0) zl)) (ux (cS (.int 1)))))
def qw:List T->Option T:=ya ["floor"] 1 bA
def jX:Sm:=
 (zt (qT (zv tZ (zb (zm 0) (zb (zm 1) zl))))
 (zt (qT (zv qu (zb (zm 0) (zb (zm 2) zl))))
 (zt (yo (zN (zc (zK false) (zc zi (zc zi (zf 0) (cS (.int 1))) (zf 1)) (cS (.str "keeper")))) (retS (cS .zh)) ym)
 (retS (zv pC (zb (zm 0) (zb (zm 1) (zb (zm 2) (zb (zv vO (zb (zm 0) zl)) zl)))))))))
def nq:List T->Option T:=ya ["floor","place","pair"] 3 jX
def bo:Sm:=
 (zt (qT (zv tZ (zb (zm 0) (zb (zm 1) zl))))
 (zt (qT (zv qu (zb (zm 0) (zb (zm 2) zl))))
 (zt (yo (zN (zc (zK true) (zc zi (zc zi (zf 0) (cS (.int 1))) (zf 1)) (cS (.str "keeper")))) (retS (cS .zh)) ym)
 (retS (zv lQ (zb (zm 0) (zb (zm 1) (zb (zm 2) (zb (zv qw (zb (zm 0) zl)) zl)))))))))
def lM:List T->Option T:=ya ["floor","place","pair"] 3 bo
def oW:Sm:=
 (zt (yo (wZ (xm (zv pF (zb (zm 1) (zb (zm 2) (zb (zm 3) (zb (zm 4) (zb (zv lM (zb (zm 1) (zb (zm 3) (zb (zm 4) zl)))) zl)))))))) (retS (cS (.bl false))) ym)
 (yo (wZ (xm (zv qo (zb (zm 1) (zb (zm 2) (zb (zm 3) (zb (zm 4) (zb (zv nq (zb (zm 1) (zb (zm 3) (zb (zm 4) zl)))) zl)))))))) (retS (cS (.bl false))) ym))
def bj:Sm:=
 (zt (zF 1 (zv nB (zb (zm 0) zl)))
 (zt (zF 2 (zv vO (zb (zm 1) zl)))
 (zt (wx [3,4] (xw (i7 (zv nD (zb (zm 0) (zb (zm 1) (zb (zm 2) zl)))) (zc y8 (cS (.int 1)) (zc xC (cS (.int 4)) (zv jk (zb (zc oB (zv xi (zb (zf 2) zl)) (cS (.int 40))) zl)))))) (xP 2 (yk (zB 3) (yk (zB 4) wu))) oW)
 (retS (cS (.bl true))))))
def nE:List T->Option T:=ya ["_law_script","_law_floor_here","_law_told","_law_place","_law_pair"] 1 bj
def VV (ps:List (Int×Int)) (h:ps.length<64):pO [.lst (ps.map zj)]=some (.lst ((su ps).map zj)):=by
 show (uq (ps.map zj)).bind _=_;rw[U6,A_,if_pos ⟨by simpa using h,λ r hr=>by obtain⟨p,_,rfl⟩:=Ap.mp hr;simp[vS]⟩,<- ai,AW];rfl
noncomputable def cell (ns:List Int) (k:Nat):Int:=if k<ns.length then ns.getD k 0%10 ^ 40 else 0
def qv (ns:List Int) (k:Nat):yO [z_ ns,.int (k:Int)]=some (.int (cell ns k)):=by
 unfold yO bf cell z_;by_cases h:k<ns.length
 .have e:L2.zY (ns.map T.int) (k:Int)=some (.int (ns.getD k 0)):=x_ (by simp[h]);simp[h,e,pL,yy]
 .simp[h,yy]
def c8 (b:T) (ps:List (Int×Int)) (q:Int×Int) (hb:wj b=some (ps.map zj)):rp [b,zj q]=some (.bl (zM ps q)):=by
 have h:=fJ (is:=[2,3]) (g:=xP 2 (yk (zB 2) (yk (zB 3) wu))) (b:=jA) zj (wB q) (.bl true) [some (.im b),some (.im (zj q)),none,none] ps [some (.im b),some (.im (zj q)),none,none] (by simp) λ p hp=>⟨[some (.im b),some (.im (zj q)),some (.im (.int p.1)),some (.im (.int p.2))],by simp,by
  by_cases h1:p.1<=q.1 <;> by_cases h2:p.2<=q.2 <;> simp[turn,jA,zj,wB,h1,h2]⟩
 unfold rp c_;simp only[wx,xw,zm,ya,zt,qA] at h ⊢;simp[hb,h];unfold zM;cases ps.any (wB q) <;> simp
def OZ {qs p:List (Int×Int)}{x:Int×Int}(hr:∀ r,qs++yY r (qs.getLast?.map (·.2))=yY (p++r) none) (hb:tQ (qs.getLast?.map (·.2)) x.2=true) (r:List (Int×Int)):
  (qs++[x])++yY r ((qs++[x]).getLast?.map (·.2))=yY (p++[x]++r) none:=by
 have:=hr (x::r);rw[show yY (x::r) (qs.getLast?.map (·.2))=x::yY r (some x.2) by rw[yY,if_pos hb]] at this;simpa using this
def O_ {qs p:List (Int×Int)}{x:Int×Int}(hr:∀ r,qs++yY r (qs.getLast?.map (·.2))=yY (p++r) none) (hb:tQ (qs.getLast?.map (·.2)) x.2=false) (r:List (Int×Int)):
  qs++yY r (qs.getLast?.map (·.2))=yY (p++[x]++r) none:=by
 have:=hr (x::r);rw[show yY (x::r) (qs.getLast?.map (·.2))=yY r (qs.getLast?.map (·.2)) by rw[yY,if_neg (by rw[hb];nofun)]] at this;simpa using this
def jQ (ps:List (Int×Int)) (hl:ps.length<64):rm [.lst (ps.map zj)]=some (.tup ((vv ps).map zj)):=by
 obtain⟨J',h1,qs,h2,h3,h4⟩:=uz (is:=[2]) (g:=zB 2) (b:=oT) zj (λ p J=>∃ qs:List (Int×Int),J=[some (.im (.lst (ps.map zj))),some (.own (.lst (qs.map zj))),none]/\qs.length<=p.length/\
   ∀ r,qs++yY r (qs.getLast?.map (·.2))=yY (p++r) none) (su ps) [some (.im (.lst (ps.map zj))),some (.own (.lst [])),none] ⟨[],by simp,by simp,λ r=>by simp⟩ (by
  rintro p x q e J ⟨qs,rfl,hq,hr⟩;have hlen:p.length<64:=by
   have:=congrArg List.length e;rw[(iD ps).length_eq] at this;simp at this;lia
  have app:tQ (qs.getLast?.map (·.2)) x.2=true->∃ qs':List (Int×Int),yF [2] [some (.im (.lst (ps.map zj))),some (.own (.lst (qs.map zj++[zj x]))),some (.im (zj x))]=[some (.im (.lst (ps.map zj))),some (.own (.lst (qs'.map zj))),none]/\qs'.length<=(p++[x]).length/\∀ r,qs'++yY r (qs'.getLast?.map (·.2))=yY (p++[x]++r) none:=λ hb=>
   ⟨qs++[x],by simp,by simp;lia,OZ hr hb⟩
  rcases List.eq_nil_or_concat qs with rfl | ⟨init,l,rfl⟩
  .refine⟨_,?_,app (by simp[tQ])⟩;simp[turn,oT]
  .simp only[List.concat_eq_append] at *;by_cases hb:x.2<l.2
   .refine⟨_,?_,app (by simp[tQ,hb])⟩;simp at hq;simp[turn,oT,zj,hb,yy];lia
   .refine⟨[some (.im (.lst (ps.map zj))),some (.own (.lst ((init++[l]).map zj))),some (.im (zj x))],?_,init++[l],by simp,by simp at hq ⊢;lia,O_ hr (by simp[tQ];lia)⟩;simp[turn,oT,zj,hb,yy])
 have h5:=h4 [];simp[yY] at h5;unfold rm cU;simp[VV ps hl,h1,h2,h5,vv]
def L8 (b o:List (Int×Int)) (hl:b.length+o.length<64):lP [.tup (b.map zj),.tup (o.map zj)]=some (.tup ((vv (b++o)).map zj)):=by
 have h:=jQ (b++o) (by simpa using hl);rw[Bh] at h;have:b.length+o.length<=16777216:=by lia
 unfold lP bx;simp[h,this]
noncomputable def r0 (p:Int×Int):List Int:=[p.1,0,p.2]
noncomputable def r1 (p:Int×Int):List Int:=[p.1,1,p.2]
noncomputable def xv (l:Option Int) (v:Int):Int:=match l with
 | none=>v
 | some m=>if m<v then m else v
noncomputable def uu (l:Option Int) (sh:List (Int×Int)) (f:Int->Int×Int):List (Int×Int):=match l with
 | some m=>sh++[f m]
 | none=>sh
structure Sw (b o:List (Int×Int)) (p:List (List Int)) (l0 l1:Option Int) (sh:List (Int×Int)):Prop where
 fG:∀ x,r0 x∈p->∃ m,l0=some m/\m<=x.2
 fF:∀ x,r1 x∈p->∃ m,l1=some m/\m<=x.2
 du:∀ m,l0=some m->∃ x,r0 x∈p/\x.2=m
 dq:∀ m,l1=some m->∃ x,r1 x∈p/\x.2=m
 len:sh.length<=p.length
 snd:∀ s∈sh,(∃ x,r0 x∈p/\x.1<=s.1/\x.2<=s.2)/\∃ x,r1 x∈p/\x.1<=s.1/\x.2<=s.2
 all:∀ x y,r0 x∈p->r1 y∈p->∃ s∈sh,(s.1<=x.1\/s.1<=y.1)/\(s.2<=x.2\/s.2<=y.2)
def kM {x y:Int×Int}(h:r0 x=r0 y):x=y:=by
 unfold r0 at h;injection h with h1 h2;injection h2 with _ h2;injection h2 with h2 _;exact Prod.ext h1 h2
def kL {x y:Int×Int}(h:r1 x=r1 y):x=y:=by
 unfold r1 at h;injection h with h1 h2;injection h2 with _ h2;injection h2 with h2 _;exact Prod.ext h1 h2
def pV {x y:Int×Int}(h:r0 x=r1 y):False:=by
 unfold r0 r1 at h;injection h with h1 h2;injection h2 with h2 _;lia
def tB {p:List (List Int)}{a x:List Int}(h:a∈p++[x]):a∈p\/a=x:=by simpa using h
def Sw.VN {b o:List (Int×Int)}{p:List (List Int)}{l0 l1:Option Int}{sh:List (Int×Int)}(h:Sw b o p l0 l1 sh) (x:Int×Int) (hx:∀ y,r0 y∈p->y.1<=x.1) (hy:∀ y,r1 y∈p->y.1<=x.1):
  Sw b o (p++[r0 x]) (some (xv l0 x.2)) l1 (uu l1 sh λ m=>(x.1,if m>xv l0 x.2 then m else xv l0 x.2)):=by
 have lo:xv l0 x.2<=x.2/\∀ m,l0=some m->xv l0 x.2<=m:=by
  unfold xv;cases l0 with
  | none=>exact⟨AI _,nofun⟩
  | some m=>dsimp only;split <;> refine⟨by lia,λ m' e=>?_⟩ <;> cases e <;> lia
 have la:∃ y,r0 y∈p++[r0 x]/\y.2=xv l0 x.2:=by
  unfold xv;cases l0 with
  | none=>exact⟨x,by simp,rfl⟩
  | some m=>
   dsimp only;split
   .obtain⟨y,h1,h2⟩:=h.du m rfl;exact⟨y,by simp[h1],h2⟩
   .exact⟨x,by simp,rfl⟩
 have snd':∀ s∈sh,(∃ x',r0 x'∈p++[r0 x]/\x'.1<=s.1/\x'.2<=s.2)/\∃ x',r1 x'∈p++[r0 x]/\x'.1<=s.1/\x'.2<=s.2:=λ s hs=>by
  obtain⟨⟨a,a1,a2⟩,c,c1,c2⟩:=h.snd s hs;exact⟨⟨a,by simp[a1],a2⟩,c,by simp[c1],c2⟩
 refine⟨λ y hm=>?_,λ y hm=>?_,λ m e=>?_,λ m e=>?_,?_,λ s hs=>?_,λ y z hm hz=>?_⟩
 .rcases tB hm with q | q
  .obtain⟨m,e,q2⟩:=h.fG y q;exact⟨_,rfl,by have:=lo.2 m e;lia⟩
  .cases kM q;exact⟨_,rfl,lo.1⟩
 .rcases tB hm with q | q
  .exact h.fF y q
  .exact (pV q.symm).elim
 .cases e;exact la
 .obtain⟨y,q1,q2⟩:=h.dq m e;exact⟨y,by simp[q1],q2⟩
 .have:=h.len;cases l1 <;> simp[uu] <;> lia
 .cases l1 with
  | none=>exact snd' s hs
  | some m=>
   rcases AU.mp hs with q | q
   .exact snd' s q
   .obtain rfl:s=_:=by simpa using q
    obtain⟨y,y1,y2⟩:=la;obtain⟨z,z1,z2⟩:=h.dq m rfl;have Ee:=hy z z1;refine⟨⟨y,y1,?_,by dsimp only;split <;> lia⟩,z,by simp[z1],Ee,by dsimp only;split <;> lia⟩;rcases tB y1 with w | w
    .exact hx y w
    .cases kM w;exact AI _
 .have hz':r1 z∈p:=by
   rcases tB hz with q | q
   .exact q
   .exact (pV q.symm).elim
  rcases tB hm with q | q
  .obtain⟨s,s1,s2⟩:=h.all y z q hz';refine⟨s,?_,s2⟩;cases l1 <;> simp[uu,s1]
  .cases kM q;obtain⟨m,e,hm⟩:=h.fF z hz';subst e;refine⟨_,AZ _ Am,.inl (AI _),?_⟩;have:=lo.1;dsimp only;split <;> lia
def Sw.swap {b o:List (Int×Int)}{p:List (List Int)}{l0 l1:Option Int}{sh:List (Int×Int)}(x:Int×Int) (h:Sw b o p l0 l1 sh) (hx:∀ y,r0 y∈p->y.1<=x.1) (hy:∀ y,r1 y∈p->y.1<=x.1):
  Sw b o (p++[r1 x]) l0 (some (xv l1 x.2)) (uu l0 sh λ m=>(x.1,if xv l1 x.2>m then xv l1 x.2 else m)):=by
 have lo:xv l1 x.2<=x.2/\∀ m,l1=some m->xv l1 x.2<=m:=by
  unfold xv;cases l1 with
  | none=>exact⟨AI _,nofun⟩
  | some m=>dsimp only;split <;> refine⟨by lia,λ m' e=>?_⟩ <;> cases e <;> lia
 have la:∃ y,r1 y∈p++[r1 x]/\y.2=xv l1 x.2:=by
  unfold xv;cases l1 with
  | none=>exact⟨x,by simp,rfl⟩
  | some m=>
   dsimp only;split
   .obtain⟨y,h1,h2⟩:=h.dq m rfl;exact⟨y,by simp[h1],h2⟩
   .exact⟨x,by simp,rfl⟩
 have snd':∀ s∈sh,(∃ x',r0 x'∈p++[r1 x]/\x'.1<=s.1/\x'.2<=s.2)/\∃ x',r1 x'∈p++[r1 x]/\x'.1<=s.1/\x'.2<=s.2:=λ s hs=>by
  obtain⟨⟨a,a1,a2⟩,c,c1,c2⟩:=h.snd s hs;exact⟨⟨a,by simp[a1],a2⟩,c,by simp[c1],c2⟩
 refine⟨λ y hm=>?_,λ y hm=>?_,λ m e=>?_,λ m e=>?_,?_,λ s hs=>?_,λ y z hm hz=>?_⟩
 .rcases tB hm with q | q
  .exact h.fG y q
  .exact (pV q).elim
 .rcases tB hm with q | q
  .obtain⟨m,e,q2⟩:=h.fF y q;exact⟨_,rfl,by have:=lo.2 m e;lia⟩
  .cases kL q;exact⟨_,rfl,lo.1⟩
 .obtain⟨y,q1,q2⟩:=h.du m e;exact⟨y,by simp[q1],q2⟩
 .cases e;exact la
 .have:=h.len;cases l0 <;> simp[uu] <;> lia
 .cases l0 with
  | none=>exact snd' s hs
  | some m=>
   rcases AU.mp hs with q | q
   .exact snd' s q
   .obtain rfl:s=_:=by simpa using q
    obtain⟨y,y1,y2⟩:=la;obtain⟨z,z1,z2⟩:=h.du m rfl;have Ee:=hx z z1;refine⟨⟨z,by simp[z1],Ee,by dsimp only;split <;> lia⟩,y,y1,?_,by dsimp only;split <;> lia⟩;rcases tB y1 with w | w
    .exact hy y w
    .cases kL w;exact AI _
 .have hm':r0 y∈p:=by
   rcases tB hm with q | q
   .exact q
   .exact (pV q).elim
  rcases tB hz with q | q
  .obtain⟨s,s1,s2⟩:=h.all y z hm' q;refine⟨s,?_,s2⟩;cases l0 <;> simp[uu,s1]
  .cases kL q;obtain⟨m,e,hm⟩:=h.fG y hm';subst e;refine⟨_,AZ _ Am,.inr (AI _),?_⟩;have:=lo.1;dsimp only;split <;> lia
structure Lw (d:List (Key×T)) (l0 l1:Option Int):Prop where
 v0:xG d (.inl 0)=l0.map T.int
 v1:xG d (.inl 1)=l1.map T.int
 len:d.length=(if l0.isSome then 1 else 0)+if l1.isSome then 1 else 0
def Lw.UR {d:List (Key×T)}{l0 l1:Option Int}(h:Lw d l0 l1) (v:Int):Lw (ur d (.inl 0) (.int v)) (some v) l1:=by
 refine⟨by rw[ke];simp,by rw[ke];simpa using h.v1,?_⟩;rw[ZY,h.v0,h.len];cases l0 <;> cases l1 <;> simp
def Lw.UQ {d:List (Key×T)}{l0 l1:Option Int}(h:Lw d l0 l1) (v:Int):Lw (ur d (.inl 1) (.int v)) l0 (some v):=by
 refine⟨by rw[ke];simpa using h.v0,by rw[ke];simp,?_⟩;rw[ZY,h.v1,h.len];cases l0 <;> cases l1 <;> simp
def jw {rows p q:List (List Int)}{x:List Int}(e:L4.wg rows=p++x::q) {a:List Int}(ha:a∈p) {i j:Int}{as xs:List Int}(h1:a=i::as) (h2:x=j::xs):i<=j:=by
 have h:=L4.iC rows;rw[e,DJ] at h;have:=h.2.2 a ha x Am;subst h1 h2;rw[HT.rR] at this;by_cases c:j=i
 .omega
 .rw[if_neg c] at this;have:=of_decide_eq_false this;lia
def LK (b o:List (Int×Int)) (hl:b.length+o.length<64):∃ sh:List (Int×Int),lR [.tup (b.map zj),.tup (o.map zj)]=some (.tup ((vv sh).map zj))/\sh.length<64/\∀ q,zM sh q=(zM b q&&zM o q):=by
 let a0:W:=.im (.tup (b.map zj))
 let a1:W:=.im (.tup (o.map zj))
 let rows:=b.map r0++o.map r1
 let a2:W:=.im (.lst (rows.map y7))
 have hlen:rows.length<64:=by simp[rows];exact hl
 have hs:pO [.lst (rows.map y7)]=some (.lst ((L4.wg rows).map y7)):=by
  show ((uq (rows.map y7)).bind λ rs=>_)=_;rw[gJ,A_,if_pos ⟨hlen,λ r hr=>by
   rcases AU.mp hr with h | h <;> obtain⟨_,_,rfl⟩:=Ap.mp h <;> simp[r0,r1]⟩]
 have plen:(L4.wg rows).length=rows.length:=(L4.uO rows).length_eq;obtain⟨J1,h1,d,l0,l1,sh,e1,w1,s1⟩:=uz (is:=[5,6,7]) (g:=xP 3 (yk (zB 5) (yk (zB 6) (yk (zB 7) wu)))) (b:=l8) y7 (λ p J=>∃ d l0 l1 sh,J=[some a0,some a1,some a2,some (.own (.yr d)),some (.own (.lst (sh.map zj))),none,none,none]/\Lw d l0 l1/\Sw b o p l0 l1 sh) (L4.wg rows) [some a0,some a1,some a2,some (.own (.yr [])),some (.own (.lst [])),none,none,none]
  ⟨[],none,none,[],by simp,⟨rfl,rfl,rfl⟩,⟨nofun,nofun,nofun,nofun,by simp,nofun,nofun⟩⟩ (by
  rintro p x q e J ⟨d,l0,l1,sh,rfl,hw,CA⟩;have hx:x∈rows:=(L4.uO rows).mem_iff.mp (by rw[e];simp);have Au:p.length<64:=by
   have:=congrArg List.length e;rw[plen] at this;simp at this;lia
  have A8:sh.length<16777216:=by have:=CA.len;lia
  have Cp:d.length<16777216:=by rw[hw.len];split <;> split <;> lia
  rcases AU.mp hx with hm | hm
  .obtain⟨y,_,rfl⟩:=Ap.mp hm;have st:=CA.VN y (λ z hz=>jw e hz rfl rfl) (λ z hz=>jw e hz rfl rfl);have hw':=hw.UR (xv l0 y.2);refine⟨[some a0,some a1,some a2,some (.own (.yr (ur d (.inl 0) (.int (xv l0 y.2))))),some (.own (.lst ((uu l1 sh λ m=>(y.1,if m>xv l0 y.2 then m else xv l0 y.2)).map zj))),some (.im (.int y.1)),some (.im (.int 0)),some (.im (.int y.2))],?_,_,_,_,_,(by simp),hw',st⟩;have hr:y7 (r0 y)=.tup [.int y.1,.int 0,.int y.2]:=rfl;have v0:=hw'.v0;have v1:=hw'.v1;have ln:=hw'.len;cases l0 <;> cases l1 <;> simp[turn,l8,hr,hw.v0,Cp,A8,xv,uu,zK,dep,eqT] at v0 v1 ln ⊢ <;> simp[v0,v1,ln,zj,uu]
  .obtain⟨y,_,rfl⟩:=Ap.mp hm;have st:=CA.swap y (λ z hz=>jw e hz rfl rfl) (λ z hz=>jw e hz rfl rfl);have hw':=hw.UQ (xv l1 y.2);refine⟨[some a0,some a1,some a2,some (.own (.yr (ur d (.inl 1) (.int (xv l1 y.2))))),some (.own (.lst ((uu l0 sh λ m=>(y.1,if xv l1 y.2>m then xv l1 y.2 else m)).map zj))),some (.im (.int y.1)),some (.im (.int 1)),some (.im (.int y.2))],?_,_,_,_,_,(by simp),hw',st⟩;have hr:y7 (r1 y)=.tup [.int y.1,.int 1,.int y.2]:=rfl;have v0:=hw'.v0;have v1:=hw'.v1;have ln:=hw'.len;cases l0 <;> cases l1 <;> simp[turn,l8,hr,hw.v1,Cp,A8,xv,uu,zK,dep,eqT] at v0 v1 ln ⊢ <;> simp[v0,v1,ln,zj,uu])
 have DW:sh.length<64:=by have:=s1.len;lia
 refine⟨sh,?_,DW,λ q=>?_⟩
 .subst e1;have hc1:df [some a0,some a1,none,none,none,none,none,none]=some (.lst ((b.map r0).map y7)):=by
   rw[AW];exact qQ zj (y7 ∘ r0) b (by simp[a0]) (by lia) λ y _=>by simp[zj,y7,r0]
  have hc2:de [some a0,some a1,none,none,none,none,none,none]=some (.lst ((o.map r1).map y7)):=by
   rw[AW];exact qQ zj (y7 ∘ r1) o (by simp[a1]) (by lia) λ y _=>by simp[zj,y7,r1]
  have hF:=jQ sh DW;have z:b.length+o.length<=16777216:=by lia
  simp only[a0,a1,a2,rows,Bh] at hc1 hc2 hs h1;unfold lR b9;simp[hc1,hc2,z,hs,h1,hF] at hc1 hc2 hs h1 ⊢;simp[hc1,hc2,z,hs,h1,hF]
 .have m0:∀ x,r0 x∈L4.wg rows↔x∈b:=λ x=>by
   rw[(L4.uO rows).mem_iff];constructor
   .intro h;rcases AU.mp h with h | h <;> obtain⟨y,hy,e⟩:=Ap.mp h
    .cases kM e;exact hy
    .exact (pV e.symm).elim
   .exact λ h=>Cj _ (List.mem_map_of_mem h)
  have m1:∀ x,r1 x∈L4.wg rows↔x∈o:=λ x=>by
   rw[(L4.uO rows).mem_iff];constructor
   .intro h;rcases AU.mp h with h | h <;> obtain⟨y,hy,e⟩:=Ap.mp h
    .exact (pV e).elim
    .cases kL e;exact hy
   .exact λ h=>AZ _ (List.mem_map_of_mem h)
  rw[A6,BP,yG,yG,yG];constructor
  .rintro⟨s,hs,g1,g2⟩;obtain⟨⟨x,x1,x2,x3⟩,y,y1,y2,y3⟩:=s1.snd s hs;exact⟨⟨x,(m0 x).mp x1,by lia,by lia⟩,y,(m1 y).mp y1,by lia,by lia⟩
  .rintro⟨⟨x,x1,x2,x3⟩,y,y1,y2,y3⟩;obtain⟨s,s1,g1,g2⟩:=s1.all x y ((m0 x).mpr x1) ((m1 y).mpr y1);exact⟨s,s1,by lia,by lia⟩
theorem eR {α:Type}(enc:α->T) (n:Nat) (h:∀ x,dep (enc x)<=n):∀ xs:List α,yM (xs.map enc)<=n
 | []=>by simp[yM]
 | x::xs=>by
  have:=h x;have:=eR enc n h xs;simp only[Ar,yM];lia
def NX (p:Int×Int):dep (zj p)<=1:=by simp[zj,dep,yM]
def Y_ (ps:List (Int×Int)):dep (.tup (ps.map zj))<=60:=by
 have:=eR zj 1 NX ps;simp only[dep];lia
end yj
namespace yj
open PySem L2 L3 L5 RN
def bT (b:Bd):T:=.tup (b.map zj)
def rT (r:List Bd):T:=.lst (r.map bT)
noncomputable def kt (b:Bool):T:=if b=true then .str "keeper" else .str "taker"
noncomputable def zR (w:Wy):T:=.tup [.int w.f,.int w.t,.int w.a,.int w.b]
noncomputable def wo (b:Bool):Int:=if b=true then 1 else 0
def y6 (s:Sl):T:=.tup [.int s.p,.int (wo s.pu),.int s.gv,.int s.gt]
def zr (F:zx):T:=.tup [.tup [.int F.A,.int F.B],.tup (F.os.map kt),.tup (F.ws.map zR),.tup (F.ss.map y6)]
def eq_int (i j:Int) (neg:Bool):zK neg (.int i) (.int j)=some (.bl (cond neg (!decide (i=j)) (decide (i=j)))):=by
 simp[zK,dep,eqT];cases neg <;> simp[Bool.beq_eq_decide_eq]
def Wi (F:zx):pD [zr F]=some (.int F.os.length):=by
 simp[pD,cP,zr]
def Wr (q p:Int×Int):nH [zj q,zj p]=some (.bl (wB q p)):=by
 by_cases h1:p.1<=q.1 <;> by_cases h2:p.2<=q.2 <;> simp[nH,bE,zj,wB,h1,h2]
def MQ {α:Type}(g:α->Bool) (xs:List α):qd (xs.map λ x=>T.bl (g x))=some (xs.map g):=by
 have:=MR (xs.map g)
 rwa [AW] at this
def Wl (ps:List (Int×Int)) (q:Int×Int) (hl:ps.length<=10000):qt [bT ps,zj q]=some (.bl (zM ps q)):=by
 have hc:lu [some (.im (bT ps)),some (.im (zj q))]=some (.lst (ps.map λ p=>T.bl (wB q p))):=by
  unfold lu;refine qQ zj _ ps (by simp[bT]) (by lia) λ p _=>?_;simp[Wr]
 unfold qt bu;generalize lu=cc at hc ⊢;simp[hc,MQ];rfl
def LO (A B:Int) (w:Wy) (bd:Bd) (hl:bd.length<64):lU [.tup [.int A,.int B],zR w,bT bd]=some (bT (qg A B w.a w.b bd)):=by
 have h1:lx [some (.im (.tup [.int A,.int B])),some (.im (zR w)),some (.im (bT bd)),none]=some (.lst ((bd.map (xx w.a w.b)).map zj)):=by
  rw[AW];unfold lx;refine qQ zj _ bd (by simp[bT]) (by lia) λ p _=>?_;simp[zj,zR,xx,yq,rW]
 have h2:lh [some (.im (.tup [.int A,.int B])),some (.im (zR w)),some (.im (bT bd)),some (.im (.lst ((bd.map (xx w.a w.b)).map zj)))]=some (.lst (((bd.map (xx w.a w.b)).filter (vC A B)).map zj)):=by
  have:=m6 zj (λ p=>if vC A B p=true then some (zj p) else none) (pick:=[none,some 0]) (it:=xw (zf 3)) (g:=zB 0) (c:=xm (zv nH (zb (zm 1) (zb (zm 0) zl)))) (f:=zm 0) (J:=[some (.im (.tup [.int A,.int B])),some (.im (zR w)),some (.im (bT bd)),some (.im (.lst ((bd.map (xx w.a w.b)).map zj)))]) (bd.map (xx w.a w.b)) (by simp) (by simp;lia) (λ p _=>by
   have e:T.tup [.int A,.int B]=zj (A,B):=rfl;have ga:wB (A,B) p=vC A B p:=rfl;simp only[o4,e];simp[Wr,ga];cases vC A B p <;> simp)
  unfold lh;rw[this,show ∀ l:List (Int×Int),l.filterMap (λ p=>if vC A B p=true then some (zj p) else none)=(l.filter (vC A B)).map zj from λ l=>by
   induction l with
   | nil=>rfl
   | cons a l ih=>by_cases h:vC A B a=true <;> simp[Br,h,ih]]
 have h3:=jQ ((bd.map (xx w.a w.b)).filter (vC A B)) (Nat.lt_of_le_of_lt (C2 _ _) (by simpa using hl));unfold lU bD;generalize lx=d1 at h1 ⊢;generalize lh=d2 at h2 ⊢;generalize rm=ff at h3 ⊢;generalize (bd.map (xx w.a w.b)).map zj=L1 at h1 h2;generalize (((bd.map (xx w.a w.b)).filter (vC A B)).map zj)=L2 at h2 h3;simp[h1,h2,h3];rfl
def L7 (b c:Bd) (hl:b.length+c.length<64):lP [bT b,bT c]=some (bT (uC b c)):=L8 b c hl
def LJ (b c:Bd) (hl:b.length+c.length<64):lR [bT b,bT c]=some (bT (ud b c)):=by
 obtain⟨sh,h1,_,h2⟩:=LK b c hl;have:vv sh=ud b c:=vN.eq (fO _) (fO _) λ q=>by
  rw[ox,h2,<- X9]
 rw[<- this];exact h1
def L6 {A B:Int}(hA:0<=A/\A<=12) (bs:List Bd) (h:∀ b∈bs,Gd A B b):lS [.lst (bs.map bT)]=some (bT (uD bs)):=by
 obtain⟨J',h1,h2⟩:=uz (is:=[2]) (g:=zB 2) (b:=l9) bT (λ p J=>J=[some (.im (.lst (bs.map bT))),some (.im (bT (p.foldl uC []))),none]) bs [some (.im (.lst (bs.map bT))),some (.im (bT [])),none] rfl (by
  rintro p x q e J rfl;have g1:Gd A B (p.foldl uC []):=mN p [] Gd.nil λ c hc=>h c (by rw[e];simp[hc]);have g2:Gd A B x:=h x (by rw[e];simp);have l1:=g1.sP hA.1;have l2:=g2.sP hA.1;refine⟨[some (.im (.lst (bs.map bT))),some (.im (bT (uC (p.foldl uC []) x))),some (.im (bT x))],?_,by simp⟩;simp[turn,l9,L7 (p.foldl uC []) x (by lia)])
 subst h2;unfold lS bB;generalize l9=bb at h1 ⊢;have e:bT []=.tup []:=rfl;rw[e] at h1;simp[h1,uD]
def LI {A B:Int}(hA:0<=A/\A<=12) (hB:0<=B) (bs:List Bd) (h:∀ b∈bs,Gd A B b):lT [.lst (bs.map bT)]=some (bT (oQ bs)):=by
 obtain⟨J',h1,h2⟩:=uz (is:=[2]) (g:=zB 2) (b:=lA) bT (λ p J=>J=[some (.im (.lst (bs.map bT))),some (.im (bT (p.foldl ud xK))),none]) bs [some (.im (.lst (bs.map bT))),some (.im (bT xK)),none] rfl (by
  rintro p x q e J rfl;have g1:Gd A B (p.foldl ud xK):=dg p xK (Gd.xK hA.1 hB) λ c hc=>h c (by rw[e];simp[hc]);have g2:Gd A B x:=h x (by rw[e];simp);have l1:=g1.sP hA.1;have l2:=g2.sP hA.1;refine⟨[some (.im (.lst (bs.map bT))),some (.im (bT (ud (p.foldl ud xK) x))),some (.im (bT x))],?_,by simp⟩;simp[turn,lA,LJ (p.foldl ud xK) x (by lia)])
 subst h2;unfold lT bC;generalize lA=bb at h1 ⊢;have e:bT xK=.tup [.tup [.int 0,.int 0]]:=rfl;rw[e] at h1;simp[h1,oQ]
theorem m5 {α:Type}{is:List Nat}{g:T->Ev->Option Ev}{b:Sm}(enc ret:α->T) (test:α->Bool) (J0:Ev):∀ (xs:List α) (J:Ev),yF is J=J0->
  (∀ x∈xs,∃ J',yF is J'=J0/\turn g b (enc x) J0=some (if test x=true then .rt (ret x) else .nx J'))->
  wJ is g b (xs.map enc) J=some (match xs.find? test with | some x=>.rt (ret x) | none=>.nx J0)
 | [],J,h,_=>by rw[A9,List.find?_nil,wJ,h]
 | x::xs,J,h,ht=>by
  rw[Ar,fH,h];obtain⟨J',h1,h2⟩:=ht x Am;rw[h2,BU];by_cases c:test x=true
  .rw[if_pos c,c];rfl
  .rw[if_neg c];rw[Dz] at c;rw[c];exact m5 enc ret test J0 xs J' h1 λ y hy=>ht y (Av _ hy)
def Wf (i a b:Int):lN [.int i,.int a,.int b]=some (.bl (decide (a<=i)&&decide (i<=b))):=by
 have h:jR [.int i]=some (.bl true):=by simp[jR,bq,vY]
 by_cases h1:a<=i <;> by_cases h2:i<=b <;> simp[lN,bp,h,h1,h2]
def jS (F:zx) (p:Nat) (h:p<F.os.length):tZ [zr F,.int p]=some .zh:=by
 have h1:=Wf p 0 ((F.os.length:Int)-1);rw[show decide ((0:Int)<=p)=true from decide_eq_true (by lia),show decide ((p:Int)<=(F.os.length:Int)-1)=true from decide_eq_true (by lia)] at h1;have h2:=Wi F;unfold tZ b6;generalize zr F=fl at *;simp[h1,h2]
def Mq (pu:Bool) (A B:Int) (sp gv gt:Int) (x y:Int) (hg:1<=gv) (b0 b1:T) (hb:zi b0 (.int (wo pu))=some (.int (if pu=true then B else A))) (hs2:zi b1 (.int 2)=some (.int gv)) (hs3:zi b1 (.int 3)=some (.int gt)) (pr:T):
  ∀ (n m:Nat) (g t:Int) (acc:Bd),(if pu=true then B else A)+1-g<=n->n<m->acc.length+n<=1000->
  ∃ g' t',xu [] (zN (zc qP (zf 5) (zc zi (zf 0) (zf 3)))) qe m [some (.im b0),some (.im b1),some (.im pr),some (.im (.int (wo pu))),some (.own (.lst (acc.map zj))),some (.im (.int g)),some (.im (.int t))]
   = some (.nx [some (.im b0),some (.im b1),some (.im pr),some (.im (.int (wo pu))),some (.own (.lst ((acc++wz pu (if pu=true then B else A) gv gt n g t).map zj))),some (.im (.int g')),some (.im (.int t'))]):=by
 have Bn:∀ (m:Nat) (g t:Int) (acc:Bd),¬ g<=(if pu=true then B else A)->xu [] (zN (zc qP (zf 5) (zc zi (zf 0) (zf 3)))) qe (m+1) [some (.im b0),some (.im b1),some (.im pr),some (.im (.int (wo pu))),some (.own (.lst (acc.map zj))),some (.im (.int g)),some (.im (.int t))]
   = some (.nx [some (.im b0),some (.im b1),some (.im pr),some (.im (.int (wo pu))),some (.own (.lst (acc.map zj))),some (.im (.int g)),some (.im (.int t))]):=λ m g t acc hn=>by
  unfold xu;simp only[zi] at hb;simp[hb,hn]
 intro n
 induction n with
 | zero=>
  intro m g t acc h1 h2 h3;obtain⟨m,rfl⟩:∃ k,m=k+1:=⟨m-1,by lia⟩
  refine⟨g,t,?_⟩;rw[Bn m g t acc (by lia)];simp[wz]
 | succ n ih=>
  intro m g t acc h1 h2 h3;obtain⟨m,rfl⟩:∃ k,m=k+1:=⟨m-1,by lia⟩
  by_cases hc:g<=(if pu=true then B else A)
  .obtain⟨g',t',e⟩:=ih m (g+gv) (yq (t-gt)) (acc++[yQ pu g t]) (by lia) (by lia) (by simp;lia);refine⟨g',t',?_⟩;have hb1:qe [some (.im b0),some (.im b1),some (.im pr),some (.im (.int (wo pu))),some (.own (.lst (acc.map zj))),some (.im (.int g)),some (.im (.int t))]=some (.nx [some (.im b0),some (.im b1),some (.im pr),some (.im (.int (wo pu))),some (.own (.lst ((acc++[yQ pu g t]).map zj))),some (.im (.int (g+gv))),some (.im (.int (yq (t-gt))))]):=by
    simp only[zi] at hs2 hs3;have hl:acc.length<16777216:=by lia
    unfold qe;cases pu <;> simp[wo,eq_int,hs2,hs3,hl,rW,yq,yQ,zj]
   unfold xu;simp only[zi] at hb;generalize qe=bb at *;have e2:wz pu (if pu=true then B else A) gv gt (n+1) g t=yQ pu g t::wz pu (if pu=true then B else A) gv gt n (g+gv) (yq (t-gt)):=by
    rw[wz,if_pos hc]
   rw[e2];simp only[D4,List.singleton_append] at e;simp[hb,hc,hb1];simpa using e
  .refine⟨g,t,?_⟩;rw[Bn m g t acc hc,wz,if_neg hc,CO]
def LD {F:zx}(ok:F.Ok) (s:Sl) (hs:1<=s.gv/\0<=s.gt) (p:Int×Int) (h0:0<=p.1/\0<=p.2):lJ [.tup [.int F.A,.int F.B],y6 s,zj p]=some (.lst ((xq F s p).map zj)):=by
 obtain⟨sp,pu,gv,gt⟩:=s;have a1:=ok.a1;have b1:=ok.b1;obtain⟨g',t',h⟩:=Mq pu F.A F.B sp gv gt p.1 p.2 hs.1 (.tup [.int F.A,.int F.B]) (y6 ⟨sp,pu,gv,gt⟩) (by cases pu <;> simp[wo]) (by simp[y6]) (by simp[y6]) (zj p) 100 1000000 (zP pu p) (y4 pu p) [] (by cases pu <;> simp[zP] <;> lia) (by decide) (by simp);unfold lJ cQ sa;generalize hb:qe=bb at h ⊢;unfold xq zx.zX;simp only[A9,List.nil_append] at h;cases pu <;> simp[y6,wo,zj,zP,y4] at h ⊢ <;> simp[h]
def Wh (F:zx) (p:Nat) (h:p<F.os.length) (hl:F.ss.length<=60):tY [zr F,.int p]=some (match F.stall p with | some s=>y6 s | none=>.zh):=by
 have hl':=m5 (is:=[2]) (g:=zB 2) (b:=oS) y6 y6 (λ s=>decide (s.p=p)) [some (.im (zr F)),some (.im (.int p)),none] F.ss [some (.im (zr F)),some (.im (.int p)),none] (by simp) λ s _=>⟨[some (.im (zr F)),some (.im (.int p)),some (.im (y6 s))],by simp,by
  by_cases c:s.p=p
  .simp[turn,oS,y6,eq_int,c]
  .have c':¬ ((s.p:Int)=(p:Int)):=by lia
   simp[turn,oS,y6,eq_int,c,c']⟩
 have h1:=jS F p h;have h2:zi (zr F) (.int 3)=some (.tup (F.ss.map y6)):=by simp[zr]
 unfold tY cN;generalize oS=bb,zr F=fl at *;simp only[zi] at h2;unfold zx.stall;generalize F.ss.find? _=o at *;simp[h1,h2,hl'];cases o <;> simp
theorem YO:∀ (ws:List Wy) (k:Nat),sV k (ws.map zR)=(ws.zipIdx k).map λ wi=>T.tup [.int (wi.2:Int),zR wi.1]
 | [],k=>rfl
 | w::ws,k=>by
  rw[Ar,sV,YO ws (k+1),DB,Ar]
theorem kc (f:Wy->Bool):∀ (ws:List Wy) (k:Nat),((ws.zipIdx k).filter λ wi=>f wi.1).map (λ wi=>wi.1)=ws.filter f
 | [],k=>rfl
 | w::ws,k=>by
  rw[DB,List.filter_cons,List.filter_cons];by_cases c:f w=true
  .rw[if_pos (by exact c),if_pos c,Ar,kc f ws]
  .rw[if_neg (by exact c),if_neg c,kc f ws]
def c7 (F:zx) (p:Nat) (h:p<F.os.length) (hl:F.ws.length<=60):uN [zr F,.int p]=some (.lst (((F.ws.zipIdx).filter λ wi=>decide (wi.1.f=p)).map λ wi=>T.int (wi.2:Int))):=by
 have hc:lj [some (.im (zr F)),some (.im (.int p))]=some (.lst (((F.ws.zipIdx).filter λ wi=>decide (wi.1.f=p)).map λ wi=>T.int (wi.2:Int))):=by
  have:=m6 (λ wi:Wy×Nat=>T.tup [.int (wi.2:Int),zR wi.1]) (λ wi=>if wi.1.f=p then some (T.int (wi.2:Int)) else none) (pick:=[none,none,some 1]) (it:=vg uc (zb (zc zi (zf 0) (cS (.int 2))) zl)) (g:=xP 2 (yk (zB 0) (yk (zB 1) wu))) (c:=zN (zc (zK false) (zc zi (zf 1) (cS (.int 0))) (zf 2))) (f:=zm 0) (J:=[some (.im (zr F)),some (.im (.int p))]) (F.ws.zipIdx) (by
   rw[<- YO];simp[zr]) (by simp;lia) (λ wi _=>by
   by_cases c:wi.1.f=p
   .simp[zR,eq_int,c]
   .have c':¬ ((wi.1.f:Int)=(p:Int)):=by lia
    simp[zR,eq_int,c,c'])
  unfold lj;rw[this];congr 2
  induction F.ws.zipIdx with
  | nil=>rfl
  | cons a l ih=>by_cases c:a.1.f=p <;> simp[Br,c,ih]
 have h1:=jS F p h;unfold uN cL;generalize lj=cc,zr F=fl at *;generalize List.map (λ wi:Wy×Nat=>T.int (wi.2:Int)) _=LL at *;simp[h1,hc]
theorem YL:∀ (b c:Bd),wy (b.map zj) (c.map zj)=decide (b=c)
 | [],[]=>by simp[wy]
 | [],_::_=>by simp[wy]
 | _::_,[]=>by simp[wy]
 | p::b,q::c=>by
  have h:=YL b c;have e:eqT (zj p) (zj q)=decide (p=q):=by
   obtain⟨p1,p2⟩:=p;obtain⟨q1,q2⟩:=q;by_cases h1:p1=q1 <;> by_cases h2:p2=q2 <;> simp[zj,eqT,wy,h1,h2]
  rw[Ar,Ar,wy,e,h];by_cases h1:p=q <;> by_cases h2:b=c <;> simp[h1,h2]
def P0 (b c:Bd):zK true (bT b) (bT c)=some (.bl (decide (b≠c))):=by
 have h1:dep (bT b)<=60:=Y_ b;have h2:dep (bT c)<=60:=Y_ c;unfold zK;rw[if_pos ⟨h1,h2⟩];show some (T.bl (!(wy (b.map zj) (c.map zj))))=_;rw[YL];by_cases h:b=c <;> simp[h]
def rS (l:List Bd) (p:Nat) (h:p<l.length):zi (rT l) (.int p)=some (bT (l.getD p [])):=by
 show L2.zY (l.map bT) (p:Int)=_;refine x_ ?_;rw[Aw,AG h,AK,AG h];rfl
def LC {F:zx}(ok:F.Ok) (p:Nat) (hp:p<F.os.length) (b:Bd) (hb:Gd F.A F.B b):nG [zr F,.int p,bT b]=some (bT (match F.stall p with | none=>b | some s=>qY F s b)):=by
 have h1:=Wh F p hp ok.s8;cases hs:F.stall p with
 | none=>
  rw[hs] at h1;unfold nG ic;generalize tY=f1 at h1 ⊢;generalize zr F=fl,bT b=bb at *;have is1:yE false .zh .zh=some (.bl true):=rfl;simp[h1,is1]
 | some s=>
  rw[hs] at h1;replace h1:tY [zr F,.int p]=some (y6 s):=h1;have AV:s∈F.ss:=CK hs;have hsz:=ok.ss s AV;have h64:(F.A+1)*(F.B+1)<64:=by
   rcases ok.sl with x | x
   .rw[x] at AV;cases AV
   .exact x
  have a0:=ok.a0;have b0:=ok.b0;have Eu:∀ x∈b,((xq F s x).length:Int)<=F.zX s.pu+1:=λ x hx=>by
   have q:=hb.xY x hx;have:=X5 s.pu (F.zX s.pu) s.gv s.gt hsz.1 100 (zP s.pu x) (y4 s.pu x) (by unfold zx.zX zP;split <;> lia);have g0:0<=zP s.pu x:=by unfold zP;split <;> lia
   unfold xq;lia
  have Ay:∀ q:Bd,(∀ x∈q,x∈b)->((q.flatMap (xq F s)).length:Int)<=q.length*(F.zX s.pu+1):=λ q=>by
   induction q with
   | nil=>intro _;simp
   | cons x q ih=>
    intro hq;have i1:=ih λ y hy=>hq y (Av _ hy);have i2:=Eu x (hq x Am);rw[List.flatMap_cons,Ck,AY,CJ,CJ,Cd];lia
  have hlen:(b.flatMap (xq F s)).length<64:=by
   have h2:=Ay b λ _ h=>h;have l1:=hb.sP a0;have l2:=hb.Og b0;have:((b.flatMap (xq F s)).length:Int)<64:=by
    refine Int.lt_of_le_of_lt h2 (Int.lt_of_le_of_lt ?_ h64);unfold zx.zX;split
    .exact zcC l1 (by lia)
    .rw[Int.mul_comm (F.A+1)];exact zcC l2 (by lia)
   lia
  have ES:zi (zr F) (.int 0)=some (.tup [.int F.A,.int F.B]):=by simp[zr]
  obtain⟨J',h2,h3⟩:=uz (is:=[5]) (g:=zB 5) (b:=lB) zj (λ q J=>J=[some (.im (zr F)),some (.im (.int p)),some (.im (bT b)),some (.im (y6 s)),some (.own (.lst ((q.flatMap (xq F s)).map zj))),none]) b [some (.im (zr F)),some (.im (.int p)),some (.im (bT b)),some (.im (y6 s)),some (.own (.lst [])),none] rfl (by
   rintro q x r e J rfl;have hx:x∈b:=by rw[e];simp
   have q1:=hb.xY x hx;have hF:=LD ok s hsz x ⟨q1.1.1,q1.2.1⟩;have hl2:(q.flatMap (xq F s)).length+(xq F s x).length<=16777216:=by
    have e2:(b.flatMap (xq F s)).length=(q.flatMap (xq F s)).length+((xq F s x).length+(r.flatMap (xq F s)).length):=by rw[e];simp
    lia
   refine⟨[some (.im (zr F)),some (.im (.int p)),some (.im (bT b)),some (.im (y6 s)),some (.own (.lst (((q++[x]).flatMap (xq F s)).map zj))),some (.im (zj x))],?_,by simp⟩;have e3:((q++[x]).flatMap (xq F s)).map zj=(q.flatMap (xq F s)).map zj++(xq F s x).map zj:=by simp
   rw[e3];unfold turn lB;have l3:((q.flatMap (xq F s)).map zj).length+((xq F s x).map zj).length<=16777216:=by simpa using hl2
   generalize lJ=ff,(q.flatMap (xq F s)).map zj=L1,(xq F s x).map zj=L2,zr F=fl at *;simp only[zi] at ES;simp[ES,hF,l3])
  subst h3;have hF:=jQ (b.flatMap (xq F s)) hlen;have nn:yE false (y6 s) .zh=some (.bl false):=rfl;unfold nG ic;generalize lB=bb,rm=ff,tY=f1,(b.flatMap (xq F s)).map zj=L1 at *;have hbT:wj (bT b)=some (b.map zj):=rfl;generalize bT b=bt,zr F=fl,y6 s=st at *;simp[h1,nn,hbT,h2,hF];rfl
def Ls {F:zx}(ok:F.Ok) (p:Nat) (hp:p<F.os.length) (l:List Bd) (hl:l.length=F.os.length) (hg:∀ b∈l,Gd F.A F.B b):lK [zr F,.int p,rT l]=some (bT (yR F l p)):=by
 have h1:=c7 F p hp ok.rB;have hw2:zi (zr F) (.int 2)=some (.tup (F.ws.map zR)):=by simp[zr]
 have hw0:zi (zr F) (.int 0)=some (.tup [.int F.A,.int F.B]):=by simp[zr]
 have hw1:zi (zr F) (.int 1)=some (.tup (F.os.map kt)):=by simp[zr]
 have c1:lp [some (.im (zr F)),some (.im (.int p)),some (.im (rT l)),none,none]=some (.lst ((F.ws.filter λ w=>decide (w.f=p)).map zR)):=by
  rw[<- kc (λ w=>decide (w.f=p)) F.ws 0,AW];unfold lp;refine qQ (λ wi:Wy×Nat=>T.int (wi.2:Int)) _ ((F.ws.zipIdx).filter λ wi=>decide (wi.1.f=p)) ?_ (Bi (C2 _ _) (by rw[List.length_zipIdx];have:=ok.rB;lia)) λ wi CQ=>?_
  .generalize uN=ff at *;simp[h1]
  .have hm:=(A0.mp CQ).1;have hg:=zcD.mp hm;have:L2.zY (F.ws.map zR) (wi.2:Int)=some (zR wi.1):=by
    exact x_ (by rw[Aw,hg];rfl)
   generalize zr F=fl at *;simp only[zi] at hw2;simp[hw2,this]
 have c2:lg [some (.im (zr F)),some (.im (.int p)),some (.im (rT l)),some (.im (.lst ((F.ws.filter λ w=>decide (w.f=p)).map zR))),none]=some (.lst ((w6 F l p).map bT)):=by
  unfold w6;rw[AW];unfold lg;refine qQ zR _ (F.ws.filter λ w=>decide (w.f=p)) (by simp) (Bi (C2 _ _) (by have:=ok.rB;lia)) λ w hw=>?_;have hm:=(A0.mp hw).1;have ht:w.t<l.length:=by rw[hl];exact (ok.ws w hm).2
  have e1:=rS l w.t ht;have gb:Gd F.A F.B (l.getD w.t []):=by
   rw[AK,AG ht];exact hg _ (Bj ht)
  have l13:=gb.sP ok.a0;have a12:=ok.a1;have hF:=LO F.A F.B w (l.getD w.t []) (by lia);have e2:zi (zR w) (.int 1)=some (.int (w.t:Int)):=by simp[zR]
  obtain⟨bd,hbd⟩:∃ bd,l.getD w.t []=bd:=⟨_,rfl⟩
  rw[hbd] at e1 gb hF;have ET:(l[w.t]?).getD []=bd:=by rw[<- hbd,AK]
  generalize lU=ff,zr F=fl,rT l=rt,zR w=wt at *;simp only[zi] at hw0 e1 e2;simp[hw0,e1,e2,hF,ET]
 have gah:=jB F l p;have c3:=L6 ⟨ok.a0,ok.a1⟩ (w6 F l p) gah;have c4:=LI ⟨ok.a0,ok.a1⟩ ok.b0 (w6 F l p) gah;have c5:=LC ok p hp (uD (w6 F l p)) (mN _ _ Gd.nil gah);have ho:L2.zY (F.os.map kt) (p:Int)=some (kt (F.os.getD p false)):=by
  refine x_ ?_;rw[Aw,AG hp,AK,AG hp];rfl
 have hk:∀ b:Bool,zK false (kt b) (.str "keeper")=some (.bl b):=λ b=>by cases b <;> rfl
 unfold lK cT;generalize lp=d1,lg=d2,lS=f1,lT=f2,nG=f3,((F.ws.filter λ w=>decide (w.f=p)).map zR)=L1,zr F=fl,rT l=rt at *;unfold yR;have hk':=hk (F.os.getD p false);generalize F.os.getD p false=kb at *;generalize kt kb=ktb at *;generalize (T.str "keeper")=ks at *;simp only[zi] at hw1;cases kb with
 | true=>
  simp[c1,c2,hw1,ho,hk',c3,c5]
  all_goals (cases F.stall p <;> rfl)
 | false=>simp[c1,c2,hw1,ho,hk',c4]
theorem js {α β:Type}(c:α->Bool) (g:α->β):∀ l:List α,l.filterMap (λ x=>if c x=true then some (g x) else none)=(l.filter c).map g
 | []=>rfl
 | a::l=>by by_cases h:c a=true <;> simp[Br,h,js c g l]
def OM (t:Nat) (fr:List Nat):o7 false (.int t) (.lst (fr.map λ(k:Nat)=>T.int (k:Int)))=some (.bl (fr.contains t)):=by
 have d1:yM (fr.map λ(k:Nat)=>T.int (k:Int))<=60:=by
  refine eR _ 60 (λ x=>?_) fr;simp[dep]
 have d0:dep (.int (t:Int))<=60:=by simp[dep]
 unfold o7;show (if dep (.int (t:Int))<=60/\yM (fr.map λ(k:Nat)=>T.int (k:Int))<=60 then _ else _)=_;rw[if_pos ⟨d0,d1⟩];show some (T.bl ((fr.map λ(k:Nat)=>T.int (k:Int)).any λ x=>eqT x (.int t)))=_;congr 2;rw[A6,AR,List.contains_iff_mem];constructor
 .rintro⟨x,hx,h⟩;obtain⟨k,hk,rfl⟩:=Ap.mp hx;have:(k:Int)=(t:Int):=by simpa [eqT] using h
  have:k=t:=by lia
  subst this;exact hk
 .intro h;exact⟨_,Ap.mpr ⟨t,h,rfl⟩,by simp[eqT]⟩
def Lr {F:zx}(ok:F.Ok) (last:List Bd) (fr:List Nat) (hl:last.length=F.os.length) (hg:∀ b∈last,Gd F.A F.B b):
  nu [zr F,rT last,.lst (fr.map λ(k:Nat)=>T.int (k:Int))]=some (rT (yn F last fr)):=by
 have hw2:zi (zr F) (.int 2)=some (.tup (F.ws.map zR)):=by simp[zr]
 have c1:ll [some (.im (zr F)),some (.im (rT last)),some (.im (.lst (fr.map λ(k:Nat)=>T.int (k:Int)))),some (.own (.lst (last.map bT))),none]=some (.lst (((F.ws.filter λ w=>fr.contains w.t).map λ w=>(w.f:Int)).map T.int)):=by
  have:=m6 zR (λ w=>if fr.contains w.t=true then some (T.int (w.f:Int)) else none) (pick:=[none,some 2]) (it:=xw (zc zi (zf 0) (cS (.int 2)))) (g:=zB 0) (c:=zN (zc (o7 false) (zc zi (zf 0) (cS (.int 1))) (zf 1))) (f:=zc zi (zf 0) (cS (.int 0))) (J:=[some (.im (zr F)),some (.im (rT last)),some (.im (.lst (fr.map λ(k:Nat)=>T.int (k:Int)))),some (.own (.lst (last.map bT))),none]) F.ws (by
    generalize zr F=fl at *;simp only[zi] at hw2;simp[hw2]) (by have:=ok.rB;lia) (λ w _=>by
   have hi:=OM w.t fr;generalize (T.lst (fr.map λ(k:Nat)=>T.int (k:Int)))=ft,fr.contains w.t=cb at *;cases cb <;> simp[zR,hi])
  unfold ll;rw[this];rw[js (λ w:Wy=>fr.contains w.t) (λ w:Wy=>T.int (w.f:Int)),AW];rfl
 have Dj:qB [.lst (((F.ws.filter λ w=>fr.contains w.t).map λ w=>(w.f:Int)).map T.int)]=some (.lst ((vb ((F.ws.filter λ w=>fr.contains w.t).map λ w=>(w.f:Int))).map T.int)):=by
  show (match u5 (((F.ws.filter λ w=>fr.contains w.t).map λ w=>(w.f:Int)).map T.int) with | some ns=>_ | none=>_)=_;rw[Yv];refine if_pos ?_;have:=C2 (λ w:Wy=>fr.contains w.t) F.ws;have:=ok.rB;simp only[Az];lia
 have AV:∀ k∈vb ((F.ws.filter λ w=>fr.contains w.t).map λ w=>(w.f:Int)),∃ p:Nat,k=(p:Int)/\p<F.os.length/\uR F fr p=true:=λ k hk=>by
  obtain⟨w,hw,rfl⟩:=Ap.mp (ja.mp hk);obtain⟨w1,w2⟩:=A0.mp hw;exact⟨w.f,rfl,(ok.ws w w1).1,AR.mpr ⟨w,w1,by simpa using w2⟩⟩
 have Ei:∀ p:Nat,uR F fr p=true->(p:Int)∈vb ((F.ws.filter λ w=>fr.contains w.t).map λ w=>(w.f:Int)):=λ p h=>by
  obtain⟨w,w1,w2⟩:=AR.mp h;have w3:w.f=p/\fr.contains w.t=true:=by simpa using w2
  exact ja.mpr (Ap.mpr ⟨w,A0.mpr ⟨w1,w3.2⟩,by rw[w3.1]⟩)
 generalize vb ((F.ws.filter λ w=>fr.contains w.t).map λ w=>(w.f:Int))=up at *;have ft:∃ t,(T.lst (fr.map λ(k:Nat)=>T.int (k:Int)))=t:=⟨_,rfl⟩
 obtain⟨J',h1,h2⟩:=uz (is:=[4]) (g:=zB 4) (b:=l4) T.int (λ pre J=>J=[some (.im (zr F)),some (.im (rT last)),some (.im (.lst (fr.map λ(k:Nat)=>T.int (k:Int)))),some (.own (.lst (((List.range last.length).map λ(p:Nat)=>if (p:Int)∈pre then yR F last p else last.getD p []).map bT))),none]) up
   [some (.im (zr F)),some (.im (rT last)),some (.im (.lst (fr.map λ(k:Nat)=>T.int (k:Int)))),some (.own (.lst (last.map bT))),none] (by
  have e:(List.range last.length).map (λ(p:Nat)=>if (p:Int)∈([]:List Int) then yR F last p else last.getD p [])=last:=by
   refine BB (by simp) λ i h1 h2=>?_;simp[h2]
  rw[e];rfl) (by
  rintro pre k q e J rfl;obtain⟨p,rfl,hp,hw⟩:=AV k (by rw[e];simp);have hF:=Ls ok p hp last hl hg;refine⟨[some (.im (zr F)),some (.im (rT last)),some (.im (.lst (fr.map λ(k:Nat)=>T.int (k:Int)))),some (.own (.lst (((List.range last.length).map λ(i:Nat)=>if (i:Int)∈pre++[(p:Int)] then yR F last i else last.getD i []).map bT))),some (.im (.int p))],?_,by simp⟩;have Eo:(((List.range last.length).map λ(i:Nat)=>if (i:Int)∈pre then yR F last i else last.getD i []).map bT).set p (bT (yR F last p))=((List.range last.length).map λ(i:Nat)=>if (i:Int)∈pre++[(p:Int)] then yR F last i else last.getD i []).map bT:=by
   refine BB (by simp) λ i h1 h2=>?_;rw[List.getElem_set];simp only[List.getElem_map,Eb,AU,AO];by_cases c:p=i
   .subst c;simp
   .have c':¬ ((i:Int)=(p:Int)):=by lia
    simp[c,c']
  have Be:wW (((List.range last.length).map λ(i:Nat)=>if (i:Int)∈pre then yR F last i else last.getD i []).map bT).length (p:Int)=some p:=by
   unfold wW;simp only[Az,Bz];rw[if_pos (by lia),if_pos (by lia),CL]
  rw[<- Eo];unfold turn l4;generalize lK=ff,(((List.range last.length).map λ(i:Nat)=>if (i:Int)∈pre then yR F last i else last.getD i []).map bT)=LL,zr F=fl,rT last=rl,(T.lst (fr.map λ(k:Nat)=>T.int (k:Int)))=ftt at *;simp[hF,Be])
 subst h2;have fin:((List.range last.length).map λ(p:Nat)=>if (p:Int)∈up then yR F last p else last.getD p [])=yn F last fr:=by
  unfold yn;refine CN λ p hp=>?_;by_cases c:uR F fr p=true
  .rw[if_pos c,if_pos (Ei p c)]
  .rw[if_neg c,if_neg λ h=>c (by obtain⟨p',e,_,h'⟩:=AV _ h;exact (show p'=p by lia)▸h')]
 rw[fin] at h1;have hlist:listS [rT last]=some (.lst (last.map bT)):=rfl;unfold nu cR;generalize ll=cc,l4=bb,(((F.ws.filter λ w=>fr.contains w.t).map λ w=>(w.f:Int)).map T.int)=L1 at *;generalize hup:up.map T.int=L2 at *;generalize last.map bT=L3,zr F=fl at *;have BH:wj (rT last)=some L3:=by simpa using hlist
 generalize rT last=rl,(T.lst (fr.map λ(k:Nat)=>T.int (k:Int)))=ftt at *;simp[BH,c1,Dj,h1,rT]
theorem eL {α:Type}(enc:α->T) (d:α) (fo:List α):∀ (l:List α) (k:Nat),(∀ i,l.getD i d=fo.getD (k+i) d)->sV k (l.map enc)=(List.range l.length).map λ(p:Nat)=>T.tup [.int ((k+p:Nat):Int),enc (fo.getD (k+p) d)]
 | [],k,_=>rfl
 | b::l,k,h=>by
  have h0:=h 0;rw[Ar,sV,eL enc d fo l (k+1) λ i=>by have:=h (i+1);rw[show k+1+i=k+(i+1) from by lia];simpa using this];rw[AY,C8,Ar,AW];have e:b=fo.getD k d:=by simpa using h0
  congr 1
  .rw[e];rfl
  .refine CN λ p _=>?_;simp only[Function.comp];rw[show k+1+p=k+Nat.succ p from by lia]
noncomputable def xI (fr:List Nat):T:=.lst (fr.map λ(k:Nat)=>T.int (k:Int))
def ML (a:T) (b c:Option L5.W) (last fo:List Bd) (hl:fo.length=last.length) (h16:fo.length<=10000):oO [some (.im a),b,c,some (.im (rT last)),some (.im (rT fo))]=some (xI (xS last fo)):=by
 have:=m6 (λ p:Nat=>T.tup [.int (p:Int),bT (fo.getD p [])]) (λ p=>if decide (fo.getD p []≠last.getD p [])=true then some (T.int (p:Int)) else none) (pick:=[none,none,some 3]) (it:=vg uc (zb (zf 4) zl)) (g:=xP 2 (yk (zB 0) (yk (zB 1) wu))) (c:=zN (zc (zK true) (zf 1) (zc zi (zf 2) (zf 0)))) (f:=zm 0) (J:=[some (.im a),b,c,some (.im (rT last)),some (.im (rT fo))]) (List.range fo.length) (by
   have:=eL bT [] fo fo 0 λ i=>by rw[C3]
   simp only[C3] at this;have e:uc [rT fo]=some (sV 0 (fo.map bT)):=rfl;rw[<- this];generalize uc=en at *;simp[e]) (by simp;lia) (λ p hp=>by
  have hp':p<last.length:=by rw[<- hl];exact AE.mp hp
  have h1:=rS last p hp';have h2:=P0 (fo.getD p []) (last.getD p []);generalize fo.getD p []=x,last.getD p []=y,rT last=rl at *;generalize decide (x≠y)=d at *;simp only[zi] at h1;cases d <;> simp[h1,h2])
 unfold oO;rw[this,js (λ p:Nat=>decide (fo.getD p []≠last.getD p [])) (λ p:Nat=>T.int (p:Int))];rfl
theorem aI {F:zx}(ok:F.Ok):∀ (n:Nat) (pre:List (List Bd)) (last:List Bd) (fr:List Nat) (res:List (List Bd)),St F last fr->rK F n pre last fr=some res->pre.length+n<=10000->∀ (m:Nat),n<m->∀ x3 x4:Option L5.W,
  ∃ fr',xu [3,4] (xm (zf 2)) u_ m [some (.im (zr F)),some (.own (.lst ((pre++[last]).map rT))),some (.im (xI fr)),x3,x4]=some (.nx [some (.im (zr F)),some (.own (.lst (res.map rT))),some (.im fr'),none,none])
 | 0,_,_,_,_,_,h,_,_,_,_,_=>by cases h
 | n+1,pre,last,fr,res,s,h,hn,m,hm,x3,x4=>by
  have Bn:∀ (m:Nat) (told:List (List Bd)) (x3 x4:Option L5.W),xu [3,4] (xm (zf 2)) u_ (m+1) [some (.im (zr F)),some (.own (.lst (told.map rT))),some (.im (xI [])),x3,x4]=some (.nx [some (.im (zr F)),some (.own (.lst (told.map rT))),some (.im (xI [])),none,none]):=λ m told x3 x4=>by
   unfold xu;simp[xI]
  obtain⟨m,rfl⟩:∃ k,m=k+1:=⟨m-1,by lia⟩
  unfold rK at h;by_cases A1:fr=[]
  .rw[if_pos A1] at h;cases h;subst A1;exact⟨_,Bn m _ x3 x4⟩
  .rw[if_neg A1] at h;dsimp only at h;have hlen:=s.len;have n8:=ok.n8;have hF:=Lr ok last fr s.len s.gd;have hlast:zi (.lst ((pre++[last]).map rT)) (.int (-1))=some (rT last):=by
    show L2.zY ((pre++[last]).map rT) (-1)=_;rw[Bh];exact ph _ _
   have hc:=λ b c=>ML (zr F) b c last (yn F last fr) (rP ..) (by rw[rP,s.len];lia);have Ai:rG (xI fr)=some true:=by
    cases fr with
    | nil=>exact absurd rfl A1
    | cons a l=>rfl
   have hb:∃ told',u_ [some (.im (zr F)),some (.own (.lst ((pre++[last]).map rT))),some (.im (xI fr)),none,none]=some (.nx [some (.im (zr F)),some (.own (.lst (told'.map rT))),some (.im (xI (xS last (yn F last fr)))),some (.im (rT last)),some (.im (rT (yn F last fr)))])/\told'=if xS last (yn F last fr)=[] then pre++[last] else pre++[last]++[yn F last fr]:=by
    have hl2:((pre++[last]).map rT).length<16777216:=by simp;lia
    by_cases hf:xS last (yn F last fr)=[]
    .refine⟨pre++[last],?_,by rw[if_pos hf]⟩;have ht:rG (xI (xS last (yn F last fr)))=some false:=by rw[hf];rfl
     unfold u_;generalize oO=cc,nu=ff,(pre++[last]).map rT=L1,xI (xS last (yn F last fr))=f2 at *;unfold xI at *;simp only[zi] at hlast;generalize (T.lst (fr.map λ(k:Nat)=>T.int (k:Int)))=f1,rT (yn F last fr)=r2,rT last=r1 at *;simp only[wj] at hlast;simp[-rG,hlast,hF,hc,ht]
    .refine⟨pre++[last]++[yn F last fr],?_,by rw[if_neg hf]⟩;have ht:rG (xI (xS last (yn F last fr)))=some true:=by
      cases e:xS last (yn F last fr) with
      | nil=>exact absurd e hf
      | cons a l=>rfl
     have e2:(pre++[last]++[yn F last fr]).map rT=(pre++[last]).map rT++[rT (yn F last fr)]:=by simp
     rw[e2];unfold u_;generalize oO=cc,nu=ff,(pre++[last]).map rT=L1,xI (xS last (yn F last fr))=f2 at *;unfold xI at *;simp only[zi] at hlast;generalize (T.lst (fr.map λ(k:Nat)=>T.int (k:Int)))=f1,rT (yn F last fr)=r2,rT last=r1 at *;simp only[wj] at hlast;simp[-rG,hlast,hF,hc,ht,hl2]
   obtain⟨told',hb1,hb2⟩:=hb;have key:∀ R,xu [3,4] (xm (zf 2)) u_ m [some (.im (zr F)),some (.own (.lst (told'.map rT))),some (.im (xI (xS last (yn F last fr)))),some (.im (rT last)),some (.im (rT (yn F last fr)))]=R->xu [3,4] (xm (zf 2)) u_ (m+1) [some (.im (zr F)),some (.own (.lst ((pre++[last]).map rT))),some (.im (xI fr)),x3,x4]=R:=λ R e=>by
    rw[xu];generalize C0:u_=bb at *;generalize hlw:xu [3,4] (xm (zf 2)) bb m=lw at *;have hf:yF [3,4] [some (.im (zr F)),some (.own (.lst ((pre++[last]).map rT))),some (.im (xI fr)),x3,x4]=[some (.im (zr F)),some (.own (.lst ((pre++[last]).map rT))),some (.im (xI fr)),none,none]:=rfl;rw[hf];have ht:xm (zf 2) [some (.im (zr F)),some (.own (.lst ((pre++[last]).map rT))),some (.im (xI fr)),none,none]=some true:=by
     generalize xI fr=f1 at *;simp[-rG,Ai]
    rw[ht,A_,if_pos rfl,hb1,A_];exact e
   by_cases hf:xS last (yn F last fr)=[]
   .rw[if_pos hf] at h hb2;cases h;subst hb2;rw[hf] at key;obtain⟨m,rfl⟩:∃ k,m=k+1:=⟨m-1,by lia⟩
    exact⟨_,key _ (Bn m _ _ _)⟩
   .rw[if_neg hf] at h hb2;subst hb2;obtain⟨fr',e⟩:=aI ok n (pre++[last]) (yn F last fr) (xS last (yn F last fr)) res (s.next ok) h (by simp;lia) m (by lia) (some (.im (rT last))) (some (.im (rT (yn F last fr))));exact⟨fr',key _ e⟩
def Ln {F:zx}(ok:F.Ok):∃ more,vO [zr F]=some (.lst ((RN.start F::more).map rT))/\(∀ r∈RN.start F::more,r.length=F.os.length/\∀ b∈r,Gd F.A F.B b)/\more.length<=2000/\rK F 2000 [] (RN.start F) (List.range F.os.length)=some (RN.start F::more):=by
 have Ez:=ZO (RN.start F);have A8:(RN.start F).length=F.os.length:=by unfold RN.start;simp
 have n8:=ok.n8;have n1:=ok.n1;obtain⟨more,last',e1,e2,_,e4⟩:=aJ ok 2000 [] (RN.start F) (List.range F.os.length) (St.start ok) (by lia);obtain⟨fr',e⟩:=aI ok 2000 [] (RN.start F) (List.range F.os.length) _ (St.start ok) e1 (by simp) 1000000 (by decide) none none;refine⟨more,?_,e2,by lia,e1⟩;have hp:=Wi F;have AH:rT (RN.start F)=.lst (List.replicate F.os.length (.tup [.tup [.int 0,.int 0]])):=by
  unfold rT RN.start;rw[List.map_replicate];rfl
 have hmul:xC (.lst [.tup [.tup [.int 0,.int 0]]]) (.int F.os.length)=some (rT (RN.start F)):=by
  rw[AH];unfold xC;dsimp only;rw[if_pos ⟨by simp,by lia,by lia,Ob (by simp;lia)⟩];have:∀ n:Nat,(List.replicate n [T.tup [.tup [.int 0,.int 0]]]).flatten=List.replicate n (.tup [.tup [.int 0,.int 0]]):=λ n=>by
   induction n with
   | zero=>rfl
   | succ n ih=>rw[BN,BN,Ci,ih];rfl
  rw[CL,this]
 have BZ:mz [.int F.os.length]=some (xI (List.range F.os.length)):=by
  show (if 0<=(F.os.length:Int)/\(F.os.length:Int)<=16777216 then some (T.lst (rangeT 0 (F.os.length:Int).toNat)) else none)=_;rw[if_pos ⟨by lia,by lia⟩];show some (T.lst ((List.range (F.os.length:Int).toNat).map λ(k:Nat)=>T.int (0+(k:Int))))=_;rw[CL];unfold xI;simp
 unfold vO cO sa;generalize u_=bb,pD=ff,mz=lr at *;simp only[List.nil_append,Ar,A9] at e;generalize xI (List.range F.os.length)=f1 at *;rw[Ar];generalize rT (RN.start F)=r0,zr F=fl at *;generalize hlw:xu [3,4] (xm (zf 2)) bb 1000000=lw at *;generalize xC=mw at *;simp[hp,hmul,BZ,e]
def ZN (i j:Int):xC (.int i) (.int j)=if wN i j then some (.int (i*j)) else none:=rfl
def OK {r:List Int}{rs:List (List Int)}:u5 ((r::rs).map y7)=none:=rfl
def VR (rs:List (List Int)) (h0:rs≠[]) (hl:rs.length<64) (hn:∀ r∈rs,r≠[]):qB [.lst (rs.map y7)]=some (.lst ((L4.wg (wU rs)).map y7)):=by
 cases rs with
 | nil=>exact absurd rfl h0
 | cons r rs=>
  show (match u5 ((r::rs).map y7) with
   | some ns=>if ns.length<64 then some (T.lst ((vb ns).map T.int)) else none
   | none=>k6 [T.lst ((r::rs).map y7)])=_
  rw[OK];show (uq ((r::rs).map y7)).bind _=_;rw[gJ,A_,if_pos ⟨hl,hn⟩]
def m_ (ns:List Int) (k:Nat):0<=cell ns k:=by
 unfold cell;split
 .exact BO _ (by decide)
 .exact AI _
def md {L:List T}{P:Int->Prop}(hP:∀ y∈L,∃ v,y=.int v/\P v) {i:Int}(h0:0<=i) (h1:i<L.length):∃ v,L2.zY L i=some (.int v)/\P v:=by
 have hl:i.toNat<L.length:=by lia
 have e:L2.zY L i=some L[i.toNat]:=by
  have:=x_ (k:=i.toNat) (AG hl);rw[Cw h0] at this;exact this
 obtain⟨v,e2,hv⟩:=hP _ (Bj hl);exact⟨v,by rw[e,e2],hv⟩
def Wn (x:Int):∃ y,r9 [.int x]=some (.int y):=by
 have d5:xF x 5:=⟨by decide,by decide⟩
 by_cases h:x%5=1
 .exact⟨_,by simp[r9,j_,eq_int,h,d5];rfl⟩
 .exact⟨_,by simp[r9,j_,eq_int,h,d5];rfl⟩
def Lp (ns:List Int) (many:Nat) (hm:many<=8):∃ os:List Bool,nA [z_ ns,.int many]=some (.tup (os.map kt))/\os.length=many:=by
 have hc:=qv ns 2;generalize cell ns 2=num at *;obtain⟨J',h1,c,os,h2,h3⟩:=uz (is:=[4]) (g:=zB 4) (b:=l5) (λ k:Nat=>T.int (0+(k:Int))) (λ p J=>∃ (c:Int) (os:List Bool),J=[some (.im (z_ ns)),some (.im (.int many)),some (.im (.int c)),some (.own (.lst (os.map kt))),none]/\os.length=p.length)
   (List.range many) [some (.im (z_ ns)),some (.im (.int many)),some (.im (.int num)),some (.own (.lst [])),none] ⟨num,[],rfl,rfl⟩ (by
  rintro p k q e J ⟨c,os,rfl,r1⟩;have hp:p.length<many:=by have:=congrArg List.length e;simp at this;lia
  have hl:(os.map kt).length<16777216:=by simp;lia
  have d2:xF c 2:=⟨by decide,by decide⟩
  have pk:∃ b:Bool,L2.zY [T.str "keeper",T.str "taker"] (c%2)=some (kt b):=by
   rcases Int.emod_two_eq c with h | h <;> rw[h]
   .exact⟨true,rfl⟩
   .exact⟨false,rfl⟩
  obtain⟨b,hb⟩:=pk;refine⟨[some (.im (z_ ns)),some (.im (.int many)),some (.im (.int (c/2))),some (.own (.lst ((os++[b]).map kt))),some (.im (.int (0+(k:Int))))],?_,c/2,os++[b],by simp,by simp[r1]⟩;have e2:(os++[b]).map kt=os.map kt++[kt b]:=by simp
  rw[e2];unfold turn l5;generalize (T.str "keeper")=s1,(T.str "taker")=s2,kt b=kb,os.map kt=L,(0+(k:Int))=kk at *;simp[hb,hl,d2])
 subst h2;have hr:=pT many (by lia);refine⟨os,?_,by simpa using h3⟩;unfold nA cY;generalize l5=bb,os.map kt=L,(List.range many).map (λ(k:Nat)=>T.int (0+(k:Int)))=R at *;have hc':yO [z_ ns,.int 2]=some (.int num):=hc;generalize yO=fc,z_ ns=sc at *;simp[hc',hr,h1]
def lZ (A B:Int):Prop:=(0<=A/\A<=12)/\(0<=B/\B<=12)/\((A=12/\B=12)\/(A+1)*(B+1)<64)
def lZ.small {A B:Int}(h:0<=A/\A<=5) (h':0<=B/\B<=5):lZ A B:=by
 refine⟨⟨h.1,by lia⟩,⟨h'.1,by lia⟩,.inr ?_⟩;have:(A+1)*(B+1)<=6*6:=Int.mul_le_mul (by lia) (by lia) (by lia) (by decide);lia
def LH (ns:List Int) (many:Nat):∃ A B:Int,nC [z_ ns,.int many]=some (.tup [.int A,.int B])/\lZ A B:=by
 have hc:=qv ns 1;have c0:=m_ ns 1;generalize cell ns 1=num at *;have hc':yO [z_ ns,.int 1]=some (.int num):=hc;have d8:xF num 8:=⟨by decide,by decide⟩
 have d64:xF num 64:=⟨by decide,by decide⟩
 obtain⟨x,hx,x0,x5⟩:=md (L:=[T.int 3,.int 2,.int 4,.int 1,.int 5,.int 2,.int 3,.int 0]) (P:=λ v=>0<=v/\v<=5) (by intro y hy;simp only[Ah,Cr,or_false] at hy;rcases hy with rfl | rfl | rfl | rfl | rfl | rfl | rfl | rfl <;> exact⟨_,rfl,by decide,by decide⟩) (i:=num%8) (by lia) (by simp;lia);obtain⟨y,hy,y0,y5⟩:=md (L:=[T.int 2,.int 3,.int 1,.int 4,.int 2,.int 5,.int 3,.int 0]) (P:=λ v=>0<=v/\v<=5) (by intro y hy;simp only[Ah,Cr,or_false] at hy;rcases hy with rfl | rfl | rfl | rfl | rfl | rfl | rfl | rfl <;> exact⟨_,rfl,by decide,by decide⟩) (i:=num/8%8) (by lia) (by simp;lia);have mn:∀ v:Int,0<=v->0<=(if 2<v then 2 else v)/\(if 2<v then 2 else v)<=5:=λ v hv=>by split <;> lia
 unfold nC bg;generalize yO=fc,z_ ns=sc at *;by_cases h1:many>4
 .refine⟨_,_,?_,lZ.small (mn x x0) (mn y y0)⟩;have h1':(4:Int)<many:=by lia
  simp[hc',hx,hy,d8,h1',rW]
 .have h1':¬ (4:Int)<many:=by lia
  by_cases h2:num/64%10=1
  .refine⟨12,y%3,?_,⟨⟨by decide,by decide⟩,⟨by lia,by lia⟩,.inr (by lia)⟩⟩;simp[hc',hx,hy,d8,h1',d64,eq_int,h2]
  .by_cases h3:num/64%10=2
   .refine⟨x%3,12,?_,⟨⟨by lia,by lia⟩,⟨by decide,by decide⟩,.inr (by lia)⟩⟩;simp[hc',hx,hy,d8,h1',d64,eq_int,h3]
   .by_cases h4:num/64%10=3/\many<3
    .refine⟨12,12,?_,⟨⟨by decide,by decide⟩,⟨by decide,by decide⟩,.inl ⟨rfl,rfl⟩⟩⟩;have h5:(many:Int)<3:=by lia
     simp[hc',hx,hy,d8,h1',d64,eq_int,h4.1,h5,yy]
    .refine⟨x,y,?_,lZ.small ⟨x0,x5⟩ ⟨y0,y5⟩⟩;by_cases h6:num/64%10=3
     .have h5:¬ (many:Int)<3:=by lia
      simp[hc',hx,hy,d8,h1',d64,eq_int,h6,h5,yy]
     .simp[hc',hx,hy,d8,h1',d64,eq_int,h2,h3,h6]
def seq_eq {a b:Sm}{J J':Ev}(h:a J=some (.nx J')):zt a b J=b J':=by
 show (a J).bind _=_;rw[h];rfl
def qK {f:T->T->Option T}{fa fb:Ev->Option T}{J:Ev}{x y:T}{r:Option T}(h1:fa J=some x) (h2:fb J=some y) (h:f x y=r):zc f fa fb J=r:=by
 show (fa J).bind _=r;rw[h1];show (fb J).bind _=r;rw[h2];exact h
def XI {i:Nat}{f:Ev->Option T}{J:Ev}{y:T}(h:f J=some y):zF i f J=some (.nx (J.set i (some (.im y)))):=by
 show (f J).map _=_;rw[h];rfl
def ot {i j:Int}(h:wN i j):xC (.int i) (.int j)=some (.int (i*j)):=by rw[ZN,if_pos h]
def pN (many:Nat) (r:List Int):Prop:=∃ (f t:Nat) (a b:Int),r=[(f:Int),(t:Int),a,b]/\f<many/\t<many
def WT (M C:Int) (hM:0<M) (hC:∀ i,wN i C) (bb:Sm) (C0:bb=(zt (zF 8 (zc y8 (zc xC (zf 3) (zf 5)) (zf 7)))
 (zt (zF 9 (zc yc (zc y8 (zc y8 (zc xC (zv yO (zb (zm 0) (zb (zc y8 (cS (.int 4)) (zf 8)) zl))) (cS (.int C))) (zc xC (cS (.int 61)) (zf 8))) (cS (.int 17))) (cS (.int M))))
 (zt (zF 10 (zc yL (zf 9) (cS (.int 8))))
 (ue 4 (tupS (zb (zm 5) (zb (zc yc (zc yc (zf 9) (cS (.int 8))) (zf 1)) (zb (zv r9 (zb (zm 10) zl)) (zb (zv r9 (zb (zc yL (zf 10) (cS (.int 125))) zl)) zl))))))))))
  (ns:List Int) (many wide place k:Nat) (num sz:Int) (rows:List T) (hm:1<=many) (hp:place<many) (hw:wide<=12) (hm8:many<=8) (hl:rows.length<=1000):
  ∃ r x y z,(pN many r/\r.head?=some (place:Int))/\turn (zB 7) bb (.int (0+(k:Int))) [some (.im (z_ ns)),some (.im (.int many)),some (.im (.int num)),some (.im (.int wide)),some (.own (.lst rows)),some (.im (.int place)),some (.im (.int sz)),none,none,none,none]
   = some (.nx [some (.im (z_ ns)),some (.im (.int many)),some (.im (.int num)),some (.im (.int wide)),some (.own (.lst (rows++[y7 r]))),some (.im (.int place)),some (.im (.int sz)),some (.im (.int (0+(k:Int)))),x,y,z]):=by
 obtain⟨at',Cq⟩:∃ at':Nat,(wide:Int)*(place:Int)+(0+(k:Int))=(at':Int):=⟨wide*place+k,by simp[CJ,Int.natCast_mul]⟩
 have hc:=qv ns (4+at');rw[CJ] at hc;have hc':yO [z_ ns,.int (4+(at':Int))]=some (.int (cell ns (4+at'))):=hc;generalize cell ns (4+at')=ce at *;have m1:wN (wide:Int) (place:Int):=.inl ⟨by lia,by lia⟩;have m2:wN ce C:=hC ce;have m3:wN 61 (at':Int):=.inl ⟨by decide,by decide⟩;generalize hd:(ce*C+61*(at':Int)+17)%M=dr;have d8:xF dr 8:=⟨by decide,by decide⟩
 have d125:xF (dr/8) 125:=⟨by decide,by decide⟩
 obtain⟨a,ha⟩:=Wn (dr/8);obtain⟨b,hb⟩:=Wn (dr/8/125);have hmp:(0:Int)<many:=by lia
 have t0:0<=dr%8%many:=BO _ (by lia);have t1:dr%8%many<many:=Cy _ hmp;have hm':0<many:=hm;have hl':rows.length<16777216:=by lia
 refine⟨[(place:Int),((dr%8%many).toNat:Int),a,b],some (.im (.int (at':Int))),some (.im (.int dr)),some (.im (.int (dr/8))),⟨⟨place,(dr%8%many).toNat,a,b,rfl,hp,by lia⟩,rfl⟩,?_⟩;rw[Cw t0];have hr:y7 [(place:Int),dr%8%many,a,b]=.tup [.int place,.int (dr%8%many),.int a,.int b]:=rfl;rw[hr];rw[show turn (zB 7) bb (.int (0+(k:Int))) [some (.im (z_ ns)),some (.im (.int many)),some (.im (.int num)),some (.im (.int wide)),some (.own (.lst rows)),some (.im (.int place)),some (.im (.int sz)),none,none,none,none]=bb [some (.im (z_ ns)),some (.im (.int many)),some (.im (.int num)),some (.im (.int wide)),some (.own (.lst rows)),some (.im (.int place)),some (.im (.int sz)),some (.im (.int (0+(k:Int)))),none,none,none] from rfl];subst C0;generalize (0+(k:Int))=kk,yO=fc,r9=fco,z_ ns=sc at *;rw[seq_eq (J':=[some (.im sc),some (.im (.int many)),some (.im (.int num)),some (.im (.int wide)),some (.own (.lst rows)),some (.im (.int place)),some (.im (.int sz)),some (.im (.int kk)),some (.im (.int at')),none,none]) (XI (qK (qK (x:=.int wide) (y:=.int place) rfl rfl (ot m1)) (y:=.int kk) rfl (by show some (T.int ((wide:Int)*(place:Int)+kk))=_;rw[Cq])))];rw[seq_eq (J':=[some (.im sc),some (.im (.int many)),some (.im (.int num)),some (.im (.int wide)),some (.own (.lst rows)),some (.im (.int place)),some (.im (.int sz)),some (.im (.int kk)),some (.im (.int at')),some (.im (.int dr)),none]) (by simp[ZN,hc',m2,m3,hd,hM])];rw[seq_eq (J':=[some (.im sc),some (.im (.int many)),some (.im (.int num)),some (.im (.int wide)),some (.own (.lst rows)),some (.im (.int place)),some (.im (.int sz)),some (.im (.int kk)),some (.im (.int at')),some (.im (.int dr)),some (.im (.int (dr/8)))]) (by simp[d8])];simp[d125,ha,hb,hm',hl']
def WU (ns:List Int) (many wide place k:Nat) (num sz:Int) (rows:List T) (hm:1<=many) (hp:place<many) (hw:wide<=12) (hm8:many<=8) (hl:rows.length<=1000):
  ∃ r x y z,(pN many r/\r.head?=some (place:Int))/\turn (zB 7) pb (.int (0+(k:Int))) [some (.im (z_ ns)),some (.im (.int many)),some (.im (.int num)),some (.im (.int wide)),some (.own (.lst rows)),some (.im (.int place)),some (.im (.int sz)),none,none,none,none]
   = some (.nx [some (.im (z_ ns)),some (.im (.int many)),some (.im (.int num)),some (.im (.int wide)),some (.own (.lst (rows++[y7 r]))),some (.im (.int place)),some (.im (.int sz)),some (.im (.int (0+(k:Int)))),x,y,z]):=
 by
  refine WT 999983 2957 ?_ ?_ pb ?_ ns many wide place k num sz rows hm hp hw hm8 hl
  .omega
  .exact λ _=>.inr ⟨by lia,by lia⟩
  .unfold pb;rfl
def Li (ns:List Int) (many:Nat) (hm:1<=many) (hm8:many<=8):∃ ws:List Wy,nv [z_ ns,.int many]=some (.tup (ws.map zR))/\ws.length<=60/\(∀ w∈ws,w.f<many/\w.t<many)/\∀ x<many,∃ w∈ws,w.f=x:=by
 have hc:=qv ns 3;have c0:=m_ ns 3;generalize cell ns 3=num at *;have hc':yO [z_ ns,.int 3]=some (.int num):=hc;obtain⟨wide,hw,hw12⟩:∃ wide:Nat,L2.zY [T.int 3,.int 12] (if many<3 then 1 else 0)=some (.int (wide:Int))/\wide<=12:=by
  by_cases h:many<3
  .rw[if_pos h];exact⟨12,rfl,by decide⟩
  .rw[if_neg h];exact⟨3,rfl,by decide⟩
 obtain⟨J',h1,c,rows,h2,h3,h4,h5⟩:=uz (is:=[5,6,7,8,9,10]) (g:=zB 5) (b:=ly) (λ k:Nat=>T.int (0+(k:Int))) (λ p J=>∃ (c:Int) (rows:List (List Int)),J=[some (.im (z_ ns)),some (.im (.int many)),some (.im (.int c)),some (.im (.int wide)),some (.own (.lst (rows.map y7))),none,none,none,none,none,none]/\0<=c/\rows.length<=(if many<3 then 12 else 3)*p.length/\((∀ r∈rows,pN many r)/\(∀ x∈p,∃ r∈rows,r.head?=some (x:Int))))
   (List.range many) [some (.im (z_ ns)),some (.im (.int many)),some (.im (.int num)),some (.im (.int wide)),some (.own (.lst [])),none,none,none,none,none,none] ⟨num,[],rfl,c0,by simp,nofun,nofun⟩ (by
  rintro p k q e J ⟨c,rows,rfl,r0,r1,r2,r3⟩;have hp:p.length<many:=by have:=congrArg List.length e;simp at this;lia
  have hk:k<many:=AE.mp (by rw[e];simp);obtain⟨size,hs,s1,s2⟩:∃ size:Nat,(if (many<3/\c/3%8=1) then 9+(1+c%3) else 1+c%3)=(size:Int)/\1<=size/\size<=(if many<3 then 12 else 3):=by
   by_cases h:many<3/\c/3%8=1
   .rw[if_pos h,if_pos h.1];exact⟨(9+(1+c%3)).toNat,by lia,by lia,by lia⟩
   .rw[if_neg h];exact⟨(1+c%3).toNat,by lia,by lia,by split <;> lia⟩
  have BK:(if many<3 then 12 else 3)*p.length<=96:=by split <;> lia
  obtain⟨J2,g1,rows',g2,g3,g4,g5,g6⟩:=uz (is:=[7,8,9,10]) (g:=zB 7) (b:=pb) (λ k:Nat=>T.int (0+(k:Int))) (λ p' J=>∃ rows':List (List Int),J=[some (.im (z_ ns)),some (.im (.int many)),some (.im (.int c)),some (.im (.int wide)),some (.own (.lst (rows'.map y7))),some (.im (.int k)),some (.im (.int size)),none,none,none,none]/\rows'.length=rows.length+p'.length/\(∀ r∈rows',pN many r)/\(∀ r∈rows,r∈rows')/\(p'≠[]->∃ r∈rows',r.head?=some (k:Int)))
    (List.range size) [some (.im (z_ ns)),some (.im (.int many)),some (.im (.int c)),some (.im (.int wide)),some (.own (.lst (rows.map y7))),some (.im (.int k)),some (.im (.int size)),none,none,none,none] ⟨rows,rfl,rfl,r2,λ _ h=>h,λ h=>absurd rfl h⟩ (by
   rintro p' k' q' e' J ⟨rows',rfl,u1,u2,u3,u4⟩;have hp':p'.length<size:=by have:=congrArg List.length e';simp at this;lia
   have hs12:size<=12:=by split at s2 <;> lia
   obtain⟨r,x,y,z,⟨v1,v3⟩,v2⟩:=WU ns many wide k k' c size (rows'.map y7) hm hk hw12 hm8 (by simp;lia);refine⟨_,v2,rows'++[r],by simp,by simp[u1];lia,λ r' hr'=>?_,λ r' h=>Cj _ (u3 r' h),λ _=>⟨r,by simp,v3⟩⟩;rcases AU.mp hr' with h | h
   .exact u2 r' h
   .cases AO.mp h;exact v1)
  subst g2;have BZ:=pT size (by split at s2 <;> lia);have d3:xF c 3:=⟨by decide,by decide⟩
  have d24:xF c 24:=⟨by decide,by decide⟩
  refine⟨[some (.im (z_ ns)),some (.im (.int many)),some (.im (.int (c/24))),some (.im (.int wide)),some (.own (.lst (rows'.map y7))),some (.im (.int (0+(k:Int)))),some (.im (.int size)),none,none,none,none],?_,c/24,rows',by simp,by lia,?_,g4,λ x hx=>?_⟩
  .unfold turn ly;generalize pb=bb at *;simp only[C4] at g1 BZ ⊢;generalize (List.range size).map (λ(k:Nat)=>T.int (k:Int))=RR,rows'.map y7=L2',rows.map y7=L1',z_ ns=sc at *;by_cases hA:many<3
   .have hA':(many:Int)<3:=by lia
    by_cases hB:c/3%8=1
    .rw[if_pos ⟨hA,hB⟩] at hs;simp[hA',hB,d3,d24,yy,eq_int,hs,BZ,g1]
    .rw[if_neg (λ h=>hB h.2)] at hs;simp[hA',hB,d3,d24,yy,eq_int,hs,BZ,g1]
   .have hA':¬ (many:Int)<3:=by lia
    rw[if_neg (λ h=>hA h.1)] at hs;simp[hA',d3,d24,yy,eq_int,hs,BZ,g1]
  .have:rows'.length=rows.length+size:=by simpa using g3
   rw[Ck,List.length_singleton,Nat.mul_add,Nat.mul_one];lia
  .rcases AU.mp hx with h | h
   .obtain⟨r,h1,h2⟩:=r3 x h;exact⟨r,g5 r h1,h2⟩
   .cases AO.mp h;exact g6 (λ h=>by have:=congrArg List.length h;simp at this;lia))
 subst h2;have BZ:=pT many (by lia);have hlen:rows.length<64:=by
  rw[Bz] at h4;split at h4 <;> lia
 have Ai:rows≠[]:=λ h=>by
  obtain⟨r,hr,_⟩:=h5.2 0 (AE.mpr (by lia));rw[h] at hr;cases hr
 have Ep:∀ r∈rows,r≠[]:=λ r hr=>by obtain⟨f,t,a,b,rfl,_⟩:=h5.1 r hr;simp
 have Dj:=VR rows Ai hlen Ep;have Ay:∀ r∈L4.wg (wU rows),pN many r:=λ r hr=>h5.1 r (ou.mp ((L4.uO _).mem_iff.mp hr));have hl60:(L4.wg (wU rows)).length<64:=by rw[(L4.uO _).length_eq];have:=k_ rows;lia
 have conv:∀ l:List (List Int),(∀ r∈l,pN many r)->∃ ws:List Wy,l.map y7=ws.map zR/\ws.length=l.length/\(∀ w∈ws,w.f<many/\w.t<many)/\∀ r∈l,∃ w∈ws,r.head?=some (w.f:Int):=λ l=>by
  induction l with
  | nil=>exact λ _=>⟨[],rfl,rfl,nofun,nofun⟩
  | cons r l ih=>
   intro h;obtain⟨ws,e1,e2,e3,e4⟩:=ih λ x hx=>h x (Av _ hx);obtain⟨f,t,a,b,rfl,hf,ht⟩:=h r Am;refine⟨⟨f,t,a,b⟩::ws,by rw[Ar,Ar,e1];rfl,by simp[e2],λ w hw=>?_,λ r' hr'=>?_⟩
   .rcases Ah.mp hw with x | x
    .subst x;exact⟨hf,ht⟩
    .exact e3 w x
   .rcases Ah.mp hr' with x | x
    .subst x;exact⟨_,Am,rfl⟩
    .obtain⟨w,h1,h2⟩:=e4 r' x;exact⟨w,Av _ h1,h2⟩
 obtain⟨ws,e1,e2,e3,e4⟩:=conv _ Ay;refine⟨ws,?_,by
  have hn:(wU rows).length<=rows.length:=k_ rows;rw[e2,(L4.uO _).length_eq];rw[Bz] at h4;split at h4 <;> lia,e3,λ x hx=>by
   obtain⟨r,k1,k2⟩:=h5.2 x (AE.mpr hx);obtain⟨w,k3,k4⟩:=e4 r ((L4.uO _).mem_iff.mpr (ou.mpr k1));rw[k2] at k4
   injection k4 with k4
   exact⟨w,k3,by lia⟩⟩
 rw[e1] at Dj;unfold nv cW;generalize ly=bb,ws.map zR=L1,rows.map y7=L2',qB=sv,(List.range many).map (λ(k:Nat)=>T.int (0+(k:Int)))=RR,yO=fc,z_ ns=sc at *;by_cases hA:many<3
 .have hA':(many:Int)<3:=by lia
  rw[if_pos hA] at hw;simp[hc',yy,hA',hw,BZ,h1,Dj]
 .have hA':¬ (many:Int)<3:=by lia
  rw[if_neg hA] at hw;simp[hc',yy,hA',hw,BZ,h1,Dj]
def eI (x y:Str):zK false (.str x) (.str y)=some (.bl (x == y)):=by simp[zK,dep,eqT]
def VP (M C:Int) (hM:0<M) (hC:∀ i,wN i C) (kk:Str) (bb:Sm) (C0:bb=(zt (zF 4 (zc yc (zc y8 (zc y8 (zc xC (zv yO (zb (zm 0) (zb (zc y8 (cS (.int 28)) (zf 3)) zl))) (cS (.int C))) (zc xC (cS (.int 29)) (zf 3))) (cS (.int 5))) (cS (.int M))))
 (yo (uW (zN (zc (zK false) (zc zi (zf 1) (zf 3)) (cS (.str kk)))) (zN (zc (zK false) (zc yc (zf 4) (cS (.int 3))) (cS (.int 1))))) (zt (zF 5 (zc yL (zf 4) (cS (.int 6))))
 (zt (zF 6 (zc y8 (cS (.int 1)) (zc zi (xD (zb (zc yc (zf 5) (cS (.int 3))) (zb (zc yc (zf 5) (cS (.int 3))) (zb (zc yc (zf 5) (cS (.int 12))) zl)))) (zc yc (zc yL (zf 5) (cS (.int 12))) (cS (.int 3))))))
 (zt (zF 7 (zc zi (xD (zb (zc yc (zc yL (zf 5) (cS (.int 36))) (cS (.int 4))) (zb (zc yc (zc yL (zf 5) (cS (.int 36))) (cS (.int 4))) (zb (zc yc (zc yL (zf 5) (cS (.int 36))) (cS (.int 13))) zl)))) (zc yc (zc yL (zf 5) (cS (.int 468))) (cS (.int 3)))))
 (ue 2 (tupS (zb (zm 3) (zb (zc yc (zc yL (zf 4) (cS (.int 3))) (cS (.int 2))) (zb (zm 6) (zb (zm 7) zl))))))))) ym)))
  (ns:List Int) (ots:List T) (place:Nat) (s:Str) (hs:L2.zY ots (place:Int)=some (.str s)) (rows:List T) (hl:rows.length<=1000):
  ∃ more:List Sl,more.length<=1/\(∀ x∈more,(1<=x.gv/\0<=x.gt)/\x.p=place)/\∃ a b c d,turn (zB 3) bb (.int (place:Int)) [some (.im (z_ ns)),some (.im (.tup ots)),some (.own (.lst rows)),none,none,none,none,none]
   = some (.nx [some (.im (z_ ns)),some (.im (.tup ots)),some (.own (.lst (rows++more.map y6))),some (.im (.int (place:Int))),a,b,c,d]):=by
 have hc:=qv ns (28+place);rw[CJ] at hc;have hc':yO [z_ ns,.int (28+(place:Int))]=some (.int (cell ns (28+place))):=hc;generalize cell ns (28+place)=ce at *;have m2:wN ce C:=hC ce;have m3:wN 29 (place:Int):=.inl ⟨by decide,by decide⟩;generalize hd:(ce*C+29*(place:Int)+5)%M=dr;have hdr:0<=dr:=by rw[<- hd];exact BO _ (by lia)
 have d6:xF dr 6:=⟨by decide,by decide⟩
 have d3:xF dr 3:=⟨by decide,by decide⟩
 have r0:0<=dr/6:=by lia
 generalize hrs:dr/6=rs at *;have d12:xF rs 12:=⟨by decide,by decide⟩
 have d36:xF rs 36:=⟨by decide,by decide⟩
 have d468:xF rs 468:=⟨by decide,by decide⟩
 obtain⟨gv,hg,g0⟩:=md (L:=[T.int (rs%3),.int (rs%3),.int (rs%12)]) (P:=λ v=>0<=v) (by intro y hy;simp only[Ah,Cr,or_false] at hy;rcases hy with rfl | rfl | rfl <;> exact⟨_,rfl,by lia⟩) (i:=rs/12%3) (by lia) (by simp;lia);obtain⟨gt,ht,t0⟩:=md (L:=[T.int (rs/36%4),.int (rs/36%4),.int (rs/36%13)]) (P:=λ v=>0<=v) (by intro y hy;simp only[Ah,Cr,or_false] at hy;rcases hy with rfl | rfl | rfl <;> exact⟨_,rfl,by lia⟩) (i:=rs/468%3) (by lia) (by simp;lia);have hl':rows.length<16777216:=by lia
 rw[show turn (zB 3) bb (.int (place:Int)) [some (.im (z_ ns)),some (.im (.tup ots)),some (.own (.lst rows)),none,none,none,none,none]=bb [some (.im (z_ ns)),some (.im (.tup ots)),some (.own (.lst rows)),some (.im (.int (place:Int))),none,none,none,none] from rfl];subst C0;generalize yO=fc,z_ ns=sc at *;rw[seq_eq (J':=[some (.im sc),some (.im (.tup ots)),some (.own (.lst rows)),some (.im (.int (place:Int))),some (.im (.int dr)),none,none,none]) (XI (qK (x:=.int (ce*C+29*(place:Int)+5)) (y:=.int M) (qK (qK (qK (x:=.int ce) (y:=.int C) (by
   show ((zb (zm 0) (zb (zc y8 (cS (.int 28)) (zf 3)) zl)) _).bind fc=_;exact hc') rfl (ot m2)) (qK (x:=.int 29) (y:=.int place) rfl rfl (ot m3)) rfl) rfl rfl) rfl (by
   show (if 0<M then some (T.int ((ce*C+29*(place:Int)+5)%M)) else none)=_;rw[if_pos hM,hd])))]
 by_cases hk:(s == kk)=true/\dr%3=1
 .refine⟨[⟨place,decide (dr/3%2=1),1+gv,gt⟩],by simp,λ x hx=>by cases AO.mp hx;exact⟨⟨by show 1<=1+gv;lia,t0⟩,rfl⟩,some (.im (.int dr)),some (.im (.int rs)),some (.im (.int (1+gv))),some (.im (.int gt)),?_⟩;have Cm:wo (decide (dr/3%2=1))=dr/3%2:=by
   unfold wo;rcases Int.emod_two_eq (dr/3) with h | h <;> simp[h]
  have A8:y6 ⟨place,decide (dr/3%2=1),1+gv,gt⟩=.tup [.int place,.int (dr/3%2),.int (1+gv),.int gt]:=by
   unfold y6;rw[Cm]
  rw[Ar,A9,A8];simp[hs,eI,hk.1,eq_int,hk.2,d6,d3,hrs,d12,d36,d468,hg,ht,hl']
 .refine⟨[],by simp,nofun,some (.im (.int dr)),none,none,none,?_⟩;rw[A9,CO];by_cases h1:(s == kk)=true
  .have h2:¬ dr%3=1:=λ h=>hk ⟨h1,h⟩;simp[hs,eI,h1,eq_int,h2]
  .rw[Dz] at h1;simp[hs,eI,h1]
def Ll (ns:List Int) (os:List Bool) (h8:os.length<=8):∃ ss:List Sl,ny [z_ ns,.tup (os.map kt)]=some (.tup (ss.map y6))/\ss.length<=60/\(∀ s∈ss,1<=s.gv/\0<=s.gt)/\ss.Pairwise (λ a b=>a.p≠b.p):=by
 obtain⟨J',h1,ss,h2,h3,h4,h5,h6⟩:=uz (is:=[3,4,5,6,7]) (g:=zB 3) (b:=oU) (λ k:Nat=>T.int (k:Int)) (λ p J=>∃ ss:List Sl,J=[some (.im (z_ ns)),some (.im (.tup (os.map kt))),some (.own (.lst (ss.map y6))),none,none,none,none,none]/\ss.length<=p.length/\(∀ s∈ss,1<=s.gv/\0<=s.gt)/\(∀ s∈ss,s.p∈p)/\ss.Pairwise (λ a b=>a.p≠b.p))
   (List.range os.length) [some (.im (z_ ns)),some (.im (.tup (os.map kt))),some (.own (.lst [])),none,none,none,none,none] ⟨[],rfl,Ag _,nofun,nofun,List.Pairwise.nil⟩ (by
  rintro p k q e J ⟨ss,rfl,r1,r2,r3,r4⟩;have hp:p.length<os.length:=by have:=congrArg List.length e;simp at this;lia
  have hk:k<os.length:=AE.mp (by rw[e];simp);obtain⟨s,hs⟩:∃ s:Str,L2.zY (os.map kt) (k:Int)=some (.str s):=by
   cases hb:os[k] with
   | true=>exact⟨"keeper",x_ (by rw[Aw,AG hk,hb];rfl)⟩
   | false=>exact⟨"taker",x_ (by rw[Aw,AG hk,hb];rfl)⟩
  obtain⟨more,m1,m2,a,b,c,d,m3⟩:=VP 999979 3571 (by lia) (λ _=>.inr ⟨by lia,by lia⟩) "keeper" oU (by unfold oU;rfl) ns (os.map kt) k s hs (ss.map y6) (by simp;lia);refine⟨_,m3,ss++more,by simp,by simp;lia,λ x hx=>?_,λ x hx=>?_,?_⟩
  .rcases AU.mp hx with h | h
   .exact r2 x h
   .exact (m2 x h).1
  .rcases AU.mp hx with h | h
   .exact Cj _ (r3 x h)
   .rw[(m2 x h).2];simp
  .have Cb:=DL (n:=os.length);rw[e] at Cb;refine DJ.mpr ⟨r4,?_,λ a ha b hb=>?_⟩
   .match more,m1 with
    | [],_=>exact List.Pairwise.nil
    | [_],_=>exact D2 _ _
    | _::_::_,m=>simp at m
   .rw[(m2 b hb).2];exact (D5.mp Cb).2.2 a.p (r3 a ha) k Am)
 subst h2;rw[Bz] at h3;refine⟨ss,?_,by lia,h4,h6⟩;have hr:=pT os.length (by lia);simp only[C4] at hr;unfold ny cX;generalize oU=bb,(List.range os.length).map (λ(k:Nat)=>T.int (k:Int))=R at *;have hlen:(os.map kt).length=os.length:=by simp
 generalize os.map kt=L1,ss.map y6=L2',z_ ns=sc at *;simp[hlen,hr,h1]
def Ly (ns:List Int):∃ F:zx,nB [z_ ns]=some (zr F)/\F.Ok/\(∀ x<F.os.length,∃ w∈F.ws,w.f=x)/\F.ss.Pairwise (λ a b=>a.p≠b.p):=by
 have hc:=qv ns 0;have c0:=m_ ns 0;generalize cell ns 0=num at *;have hc':yO [z_ ns,.int 0]=some (.int num):=hc;have d8:xF num 8:=⟨by decide,by decide⟩
 obtain⟨mi,hm,m1,m8⟩:=md (L:=[T.int 2,.int 3,.int 1,.int 4,.int 3,.int 2,.int 4,.int (5+num/8%4)]) (P:=λ v=>1<=v/\v<=8) (by intro y hy;simp only[Ah,Cr,or_false] at hy;rcases hy with rfl | rfl | rfl | rfl | rfl | rfl | rfl | rfl <;> exact⟨_,rfl,by lia,by lia⟩) (i:=num%8) (by lia) (by simp;lia);obtain⟨many,rfl⟩:∃ k:Nat,mi=(k:Int):=⟨mi.toNat,by lia⟩
 obtain⟨os,h1,o1⟩:=Lp ns many (by lia);obtain⟨A,B,h2,a1,b1,ab⟩:=LH ns many;obtain⟨ws,h3,w1,w2,w3⟩:=Li ns many (by lia) (by lia);obtain⟨ss,h4,s1,s2,s3⟩:=Ll ns os (by lia);by_cases BK:(A=12/\B=12)/\(6<ws.length\/0<ss.length)
 .refine⟨⟨12,3,os,ws,ss⟩,?_,⟨by show (0:Int)<=12;decide,by show (12:Int)<=12;decide,by show (0:Int)<=3;decide,by show (3:Int)<=12;decide,by show 1<=os.length;lia,by show os.length<=8;lia,λ w hw=>by show w.f<os.length/\w.t<os.length;rw[o1];exact w2 w hw,w1,s2,.inr (by show ((12:Int)+1)*(3+1)<64;decide),s1⟩,by show ∀ x<os.length,_;rw[o1];exact w3,s3⟩;obtain⟨⟨rfl,rfl⟩,hb⟩:=BK;have he:zK false (.tup [.int 12,.int 12]) (.tup [.int 12,.int 12])=some (.bl true):=by simp[zK,dep,yM,eqT,wy]
  unfold nB jZ zr;have l1:(ws.map zR).length=ws.length:=by simp
  have l2:(ss.map y6).length=ss.length:=by simp
  generalize ws.map zR=L1,ss.map y6=L2',os.map kt=L3',yO=f1,nA=f2,nC=f3,nv=f4,ny=f5,z_ ns=sc at *;rcases hb with hb | hb
  .have hb':(6:Int)<(ws.length:Int):=by lia
   simp[hc',d8,hm,h1,h2,h3,h4,he,l1,l2,hb',hb]
  .have hb':(0:Int)<(ss.length:Int):=by lia
   by_cases h6:6<ws.length
   .have h6':(6:Int)<(ws.length:Int):=by lia
    simp[hc',d8,hm,h1,h2,h3,h4,he,l1,l2,h6,h6']
   .have h6':¬ (6:Int)<(ws.length:Int):=by lia
    simp[hc',d8,hm,h1,h2,h3,h4,he,l1,l2,h6,h6',hb,hb']
 .refine⟨⟨A,B,os,ws,ss⟩,?_,⟨a1.1,a1.2,b1.1,b1.2,by show 1<=os.length;lia,by show os.length<=8;lia,λ w hw=>by show w.f<os.length/\w.t<os.length;rw[o1];exact w2 w hw,w1,s2,?_,s1⟩,by show ∀ x<os.length,_;rw[o1];exact w3,s3⟩
  .have he:zK false (.tup [.int A,.int B]) (.tup [.int 12,.int 12])=some (.bl (decide (A=12/\B=12))):=by
    by_cases x:A=12 <;> by_cases y:B=12 <;> simp[zK,dep,yM,eqT,wy,x,y]
   unfold nB jZ zr;have l1:(ws.map zR).length=ws.length:=by simp
   have l2:(ss.map y6).length=ss.length:=by simp
   generalize ws.map zR=L1,ss.map y6=L2',os.map kt=L3',yO=f1,nA=f2,nC=f3,nv=f4,ny=f5,z_ ns=sc at *;by_cases hAB:A=12/\B=12
   .have n1:¬ 6<ws.length:=λ h=>BK ⟨hAB,.inl h⟩;have n2:¬ 0<ss.length:=λ h=>BK ⟨hAB,.inr h⟩;have n1':¬ (6:Int)<(ws.length:Int):=by lia
    have n2':¬ (0:Int)<(ss.length:Int):=by lia
    rw[decide_eq_true hAB] at he;simp[hc',d8,hm,h1,h2,h3,h4,he,l1,l2,n1,n2,n1',n2']
   .rw[decide_eq_false hAB] at he;simp[hc',d8,hm,h1,h2,h3,h4,he]
  .show ss=[]\/(A+1)*(B+1)<64;rcases ab with x | x
   .refine .inl ?_;cases ss with
    | nil=>rfl
    | cons a l=>exact absurd ⟨x,.inr (by simp)⟩ BK
   .exact .inr x
def mi (x y:Int):(if y<x then y else x)=min x y:=by split <;> lia
def x9 (o:Option (Int×Int)):T:=match o with
 | none=>.zh
 | some r=>zj r
def jv (F:zx):zi (zr F) (.int 0)=some (.tup [.int F.A,.int F.B]):=by simp[zr]
def ju (F:zx):zi (zr F) (.int 1)=some (.tup (F.os.map kt)):=by simp[zr]
def mJ (F:zx):zi (zr F) (.int 2)=some (.tup (F.ws.map zR)):=by simp[zr]
def N1 (F:zx):zi (zr F) (.int 3)=some (.tup (F.ss.map y6)):=by simp[zr]
def Wq (F:zx) (q:Int×Int) (w:Wy):qq [zr F,zj q,zR w]=some (x9 (sj F q w)):=by
 have hw0:=jv F;unfold qq bh sj zj zR;generalize zr F=fl at *;simp only[zi] at hw0;by_cases h1:q.1+w.a<0
 .simp[h1,yy,x9]
 .by_cases h2:q.2+w.b<0
  .simp[h1,h2,yy,x9]
  .simp[h1,h2,yy,x9,hw0,mi,zj]
def Lk (F:zx) (q:Int×Int) {i:Nat}{w:Wy}(hw:F.ws[i]?=some w):nr [zr F,zj q,.int (i:Int)]=some (x9 (sj F q w)):=by
 have hw0:=jv F;have hw2:=mJ F;have hi:L2.zY (F.ws.map zR) (i:Int)=some (.tup [.int w.f,.int w.t,.int w.a,.int w.b]):=x_ (by rw[Aw,hw];rfl);have hc:uY [T.int w.f,.int w.t,.int w.a,.int w.b] (some 2) none=[.int w.a,.int w.b]:=rfl;unfold nr cM sj zj;generalize F.ws.map zR=WS,zr F=fl at *;simp only[zi] at hw0 hw2;by_cases h1:q.1+w.a<0
 .simp[h1,yy,x9,hw2,hi,hc]
 .by_cases h2:q.2+w.b<0
  .simp[h1,h2,yy,x9,hw2,hi,hc]
  .simp[h1,h2,yy,x9,hw0,hw2,hi,hc,mi,zj]
def Wj {F:zx}{l:List Bd}{q:Int×Int}{i:Nat}{w:Wy}(hw:F.ws[i]?=some w) (ht:w.t<l.length) (hb:(l.getD w.t []).length<=10000):rn [zr F,zj q,.int (i:Int),rT l]=some (.bl (yz F l q w)):=by
 have hw2:=mJ F;have hi:L2.zY (F.ws.map zR) (i:Int)=some (zR w):=x_ (by rw[Aw,hw];rfl);have h1:zi (zR w) (.int 1)=some (.int w.t):=by simp[zR]
 have h2:=Lk F q hw;have h3:=rS l w.t ht;unfold yz;cases ho:sj F q w with
 | none=>
  rw[ho] at h2;have i1:yE true .zh .zh=some (.bl false):=rfl;unfold rn jY;generalize nr=f1,qt=f2,zr F=fl,zj q=pq,rT l=rl at *;simp[h2,x9,i1]
 | some r=>
  rw[ho] at h2;have h4:=Wl (l.getD w.t []) r hb;have i1:yE true (zj r) .zh=some (.bl true):=rfl;unfold rn jY;generalize nr=f1,qt=f2,bT (l.getD w.t [])=bt,F.ws.map zR=WS,zR w=wt,zr F=fl,zj q=pq,rT l=rl at *;simp only[zi] at hw2 h1 h3;simp only[x9] at h2;generalize zj r=rr at *;simp[h2,i1,hw2,hi,h1,h3,h4]
def oK (F:zx) (s:Sl) (q:Int×Int) (k:Nat):Int×Int:=yQ s.pu (zP s.pu q-k*s.gv) (min (y4 s.pu q+k*s.gt) (F.zX (!s.pu)))
theorem X2 {F:zx}{s:Sl}(hs:1<=s.gv/\0<=s.gt):∀ (n:Nat) {q:Int×Int},xn F q->zP s.pu q<n->∀ k:Nat,(wC F s n q)[k]?=if (k:Int)*s.gv<=zP s.pu q then some (oK F s q k) else none
 | 0,q,h,hn,_=>by
  have:=(wX (pu:=s.pu).mp h).1.1;lia
 | n+1,q,h,hn,0=>by
  have h':=wX (pu:=s.pu).mp h;unfold wC oK;rw[List.getElem?_cons_zero,if_pos (by simp;lia)];simp only[Int.natCast_zero,Int.zero_mul,Int.sub_zero,Int.add_zero];rw[Int.min_eq_left h'.2.2,n_]
 | n+1,q,h,hn,k+1=>by
  have h':=wX (pu:=s.pu).mp h;have e1:((k+1:Nat):Int)*s.gv=k*s.gv+s.gv:=by rw[BA,Cd];lia
  have e2:((k+1:Nat):Int)*s.gt=k*s.gt+s.gt:=by rw[BA,Cd];lia
  have k0:0<=(k:Int)*s.gt:=Cs (by lia) hs.2;have k1:0<=(k:Int)*s.gv:=Cs (by lia) (by lia);unfold wC;rw[C6];by_cases hg:s.gv<=zP s.pu q
  .rw[if_pos hg];have hi:xn F (yQ s.pu (zP s.pu q-s.gv) (min (y4 s.pu q+s.gt) (F.zX (!s.pu)))):=by
    rw[wX (pu:=s.pu),vx,tF];lia
   rw[X2 hs n hi (by rw[vx];lia) k,vx];unfold oK;rw[vx,tF,e1,e2];by_cases hk:(k:Int)*s.gv<=zP s.pu q-s.gv
   .rw[if_pos hk,if_pos (by lia)];congr 2
    .omega
    .omega
   .rw[if_neg hk,if_neg (by lia)]
  .rw[if_neg hg,e1,if_neg (by lia)];rfl
def LA (mw:T->T->Option T) {F:zx}{s:Sl}{q:Int×Int}{k:Nat}(hb:b8=(zt (zF 4 (zc zi (zf 1) (cS (.int 1))))
 (zt (zF 5 (zc xQ (zc zi (zf 2) (zf 4)) (zc mw (zf 3) (zc zi (zf 1) (cS (.int 2))))))
 (zt (yo (zN (zc yy (zf 5) (cS (.int 0)))) (retS (cS .zh)) ym)
 (zt (zF 6 (zv uQ (zb (zc y8 (zc zi (zf 2) (zc xQ (cS (.int 1)) (zf 4))) (zc mw (zf 3) (zc zi (zf 1) (cS (.int 3))))) (zb (zc zi (zf 0) (zc xQ (cS (.int 1)) (zf 4))) zl))))
 (zt (yo (zN (zc (zK false) (zf 4) (cS (.int 0)))) (retS (tupS (zb (zm 5) (zb (zm 6) zl)))) ym)
 (retS (tupS (zb (zm 6) (zb (zm 5) zl))))))))))
  (m1:mw (.int (k:Int)) (.int s.gv)=some (.int (k*s.gv))) (m2:mw (.int (k:Int)) (.int s.gt)=some (.int (k*s.gt))):pG [.tup [.int F.A,.int F.B],y6 s,zj q,.int (k:Int)]=some (x9 (if (k:Int)*s.gv<=zP s.pu q then some (oK F s q k) else none)):=by
 unfold pG;rw[hb];unfold y6 zj oK;generalize (k:Int)*s.gv=x at *;generalize (k:Int)*s.gt=y at *;cases Cm:s.pu with
 | true=>
  by_cases h:x<=q.2
  .have h':¬ q.2-x<0:=by lia
   simp[wo,m1,m2,h,h',yy,zP,Cm,x9,mi,eq_int,zj,yQ,y4,zx.zX]
  .have h':q.2-x<0:=by lia
   simp[wo,m1,m2,h,h',yy,zP,Cm,x9]
 | false=>
  by_cases h:x<=q.1
  .have h':¬ q.1-x<0:=by lia
   simp[wo,m1,m2,h,h',yy,zP,Cm,x9,mi,eq_int,zj,yQ,y4,zx.zX]
  .have h':q.1-x<0:=by lia
   simp[wo,m1,m2,h,h',yy,zP,Cm,x9]
def LB {F:zx}{s:Sl}{q:Int×Int}{k:Nat}(hk:k<=100):pG [.tup [.int F.A,.int F.B],y6 s,zj q,.int (k:Int)]=some (x9 (if (k:Int)*s.gv<=zP s.pu q then some (oK F s q k) else none)):=
 LA xC rfl (ot (.inl ⟨by lia,by lia⟩)) (ot (.inl ⟨by lia,by lia⟩))
def Xy (F:zx) (p:Nat) (q:Int×Int):(yB F p q)[0]?=some q:=by
 unfold yB;cases F.stall p with
 | none=>rfl
 | some s=>rfl
def LG {F:zx}(ok:F.Ok) {p:Nat}(hp:p<F.os.length) {q:Int×Int}(hq:xn F q) {k:Nat}(hk:k<=100):pH [zr F,.int (p:Int),zj q,.int (k:Int)]=some (x9 (yB F p q)[k]?):=by
 cases k with
 | zero=>
  rw[Xy];unfold pH ka x9 zj;simp[eq_int]
 | succ k=>
  have hk0:¬ ((k:Int)+1=0):=by lia
  have h1:=Wh F p hp ok.s8;have hw0:=jv F;unfold yB;cases hs:F.stall p with
  | none=>
   rw[hs] at h1;have i1:yE false .zh .zh=some (.bl true):=rfl;unfold pH ka;generalize tY=f1,pG=f2,zr F=fl,zj q=pq at *;simp[eq_int,hk0,h1,i1,x9]
  | some s=>
   rw[hs] at h1;have hs':=ok.ss s (CK hs);have hgv:zP s.pu q<20:=by
    have:=wX (pu:=s.pu).mp hq;have:F.zX s.pu<=12:=by have:=ok.a1;have:=ok.b1;unfold zx.zX;split <;> assumption
    lia
   have h2:=LB (F:=F) (s:=s) (q:=q) (k:=k+1) hk;rw[<- X2 hs' 20 hq (by lia)] at h2;rw[BA] at h2;have i1:yE false (y6 s) .zh=some (.bl false):=rfl;unfold pH ka;dsimp only;generalize (wC F s 20 q)[k+1]?=oo,tY=f1,pG=f2,zr F=fl,zj q=pq at *;dsimp only at h1;generalize y6 s=sl at *;simp only[zi] at hw0;simp[eq_int,hk0,h1,i1,hw0,h2]
noncomputable def yP (F:zx) (p:Nat):List (Wy×Nat):=F.ws.zipIdx.filter λ wi=>decide (wi.1.f=p)
def kd {F:zx}{p:Nat}{wi:Wy×Nat}(h:wi∈yP F p):F.ws[wi.2]?=some wi.1/\wi.1.f=p:=by
 obtain⟨h1,h2⟩:=A0.mp h;exact⟨zcD.mp h1,of_decide_eq_true h2⟩
def bG {F:zx}{p:Nat}(t:Wy->Bool):(yP F p).any (λ wi=>t wi.1)=(uk F p).any t:=by
 unfold uk;rw[<- kc (λ w=>decide (w.f=p)) F.ws 0,List.any_map];rfl
noncomputable def vi (F:zx) (l:List Bd) (p:Nat):Nat->List (Int×Int)->Option (Nat×Nat)
 | _,[]=>none
 | k,r::cs=>match (yP F p).find? (λ wi=>yz F l r wi.1) with
  | some wi=>some (k,wi.2)
  | none=>vi F l p (k+1) cs
noncomputable def dT (o:Option (Nat×Nat)):T:=match o with
 | none=>.zh
 | some x=>.tup [.int (x.1:Int),.int (x.2:Int)]
theorem eS {F:zx}{l:List Bd}{p:Nat}:∀ {cs:List (Int×Int)}{k:Nat}{x:Nat×Nat},vi F l p k cs=some x->k<=x.1/\∃ r w,cs[x.1-k]?=some r/\F.ws[x.2]?=some w/\w.f=p/\yz F l r w=true
 | [],k,x,h=>by cases h
 | r::cs,k,x,h=>by
  unfold vi at h;cases ho:(yP F p).find? (λ wi=>yz F l r wi.1) with
  | some wi=>
   rw[ho] at h;cases h;obtain⟨h1,h2⟩:=kd (CK ho);exact⟨Ag _,r,wi.1,by simp,h1,h2,by simpa using List.find?_some ho⟩
  | none=>
   rw[ho] at h;obtain⟨h1,r',w,h2,h3⟩:=eS h;refine⟨by lia,r',w,?_,h3⟩;rw[show x.1-k=(x.1-(k+1))+1 by lia,C6];exact h2
theorem Xb {F:zx}{l:List Bd}{p:Nat}:∀ {cs:List (Int×Int)}{k:Nat},(cs.any λ r=>(uk F p).any (yz F l r))=true->∃ x,vi F l p k cs=some x
 | [],k,h=>by cases h
 | r::cs,k,h=>by
  unfold vi;cases ho:(yP F p).find? (λ wi=>yz F l r wi.1) with
  | some wi=>exact⟨_,rfl⟩
  | none=>
   refine Xb ?_;rw[Bf,<- bG,DA] at h;rcases h with h | h
   .rw[DH] at ho;obtain⟨wi,h1,h2⟩:=AR.mp h;exact absurd h2 (ho wi h1)
   .exact h
theorem Xz {F:zx}{s:Sl}:∀ (n:Nat) (q:Int×Int),(wC F s n q).length<=n+1
 | 0,q=>by unfold wC;simp
 | n+1,q=>by
  unfold wC;rw[AY];split
  .have:=Xz n (F:=F) (s:=s) (yQ s.pu (zP s.pu q-s.gv) (min (y4 s.pu q+s.gt) (F.zX (!s.pu))));lia
  .simp
def Mp (F:zx) (p:Nat) (q:Int×Int):(yB F p q).length<=21:=by
 unfold yB;cases F.stall p with
 | none=>simp
 | some s=>exact Xz 20 q
def yZ (F:zx) (l:List Bd) (p:Nat) (q:Int×Int) (k:Nat):Ev:=[some (.im (zr F)),some (.im (.int (p:Int))),some (.im (zj q)),some (.im (rT l)),some (.im (.lst ((yP F p).map λ wi=>T.int (wi.2:Int)))),some (.im (.int (k:Int))),some (.im (x9 (yB F p q)[k]?)),none]
def NY {F:zx}(ok:F.Ok) {l:List Bd}(hl:l.length=F.os.length) (hb:∀ b∈l,b.length<=10000) {p:Nat}{q r:Int×Int}{k:Nat}(hr:(yB F p q)[k]?=some r) {wi:Wy×Nat}(hw:wi∈yP F p):
  ∃ J',yF [7] J'=yZ F l p q k/\turn (zB 7) qf (T.int (wi.2:Int)) (yZ F l p q k)=some (if yz F l r wi.1=true then .rt (.tup [.int (k:Int),.int (wi.2:Int)]) else .nx J'):=by
 have hE:yZ F l p q k=[some (.im (zr F)),some (.im (.int (p:Int))),some (.im (zj q)),some (.im (rT l)),some (.im (.lst ((yP F p).map λ wi=>T.int (wi.2:Int)))),some (.im (.int (k:Int))),some (.im (zj r)),none]:=by unfold yZ;rw[hr];rfl
 obtain⟨h1,h2⟩:=kd hw;have ht:=(ok.ws wi.1 (AX h1)).2;have ht':wi.1.t<l.length:=by lia
 have h3:=Wj (F:=F) (l:=l) (q:=r) h1 ht' (by
  rw[AK,AG ht'];exact hb _ (Bj ht'))
 refine⟨(yZ F l p q k).set 7 (some (.im (.int (wi.2:Int)))),by rw[hE];simp,?_⟩;rw[hE];unfold turn qf;generalize rn=f1,zr F=fl,zj r=pr,zj q=pq,rT l=rl,(yP F p).map (λ wi=>T.int (wi.2:Int))=WS at *;cases hc:yz F l r wi.1 <;> rw[hc] at h3 <;> simp[h3]
def NZ {F:zx}(ok:F.Ok) {l:List Bd}(hl:l.length=F.os.length) (hb:∀ b∈l,b.length<=10000) {p:Nat}{q r:Int×Int}{k:Nat}(hr:(yB F p q)[k]?=some r):
  wJ [7] (zB 7) qf ((yP F p).map λ wi=>T.int (wi.2:Int)) (yZ F l p q k)=some (match (yP F p).find? (λ wi=>yz F l r wi.1) with | some wi=>.rt (.tup [.int (k:Int),.int (wi.2:Int)]) | none=>.nx (yZ F l p q k)):=by
 have hE:yZ F l p q k=[some (.im (zr F)),some (.im (.int (p:Int))),some (.im (zj q)),some (.im (rT l)),some (.im (.lst ((yP F p).map λ wi=>T.int (wi.2:Int)))),some (.im (.int (k:Int))),some (.im (zj r)),none]:=by unfold yZ;rw[hr];rfl
 have key:=m5 (is:=[7]) (g:=zB 7) (b:=qf) (λ wi:Wy×Nat=>T.int (wi.2:Int)) (λ wi=>.tup [.int (k:Int),.int (wi.2:Int)]) (λ wi=>yz F l r wi.1) (yZ F l p q k) (yP F p) (yZ F l p q k) (by rw[hE];simp) λ wi hw=>NY ok hl hb hr hw;rw[key];cases (yP F p).find? (λ wi=>yz F l r wi.1) <;> rfl
theorem Xa {F:zx}(ok:F.Ok) {l:List Bd}(hl:l.length=F.os.length) (hb:∀ b∈l,b.length<=10000) {p:Nat}(hp:p<F.os.length) {q:Int×Int}(hq:xn F q):∀ (cs:List (Int×Int)) (k m:Nat),(yB F p q).drop k=cs->k+cs.length<=21->cs.length<m->
  xu [7] (zN (zc (yE true) (zf 6) (cS .zh))) sY m (yZ F l p q k)=some (match vi F l p k cs with | some x=>.rt (dT (some x)) | none=>.nx (yZ F l p q (k+cs.length)))
 | [],k,m+1,h,hk,hm=>by
  have hn:(yB F p q)[k]?=none:=by
   have:=congrArg List.length h;simp at this;exact Dc (by lia)
  have i1:yE true .zh .zh=some (.bl false):=rfl;have hE:yZ F l p q k=[some (.im (zr F)),some (.im (.int (p:Int))),some (.im (zj q)),some (.im (rT l)),some (.im (.lst ((yP F p).map λ wi=>T.int (wi.2:Int)))),some (.im (.int (k:Int))),some (.im .zh),none]:=by unfold yZ;rw[hn];rfl
  unfold xu vi;show _=some (Out.nx (yZ F l p q k));rw[hE];simp[i1]
 | r::cs,k,m+1,h,hk,hm=>by
  have hr:(yB F p q)[k]?=some r:=by
   have:=congrArg (λ x=>x[0]?) h;simpa using this
  have hd:(yB F p q).drop (k+1)=cs:=by
   have:=congrArg List.tail h;rw[List.tail_drop] at this;simpa using this
  have hlen:(r::cs).length=cs.length+1:=rfl;have hf:=NZ ok hl hb hr (p:=p);have hc:=LG ok hp hq (k:=k+1) (by lia);rw[BA] at hc;have i1:yE true (zj r) .zh=some (.bl true):=rfl;have hE:yZ F l p q k=[some (.im (zr F)),some (.im (.int (p:Int))),some (.im (zj q)),some (.im (rT l)),some (.im (.lst ((yP F p).map λ wi=>T.int (wi.2:Int)))),some (.im (.int (k:Int))),some (.im (zj r)),none]:=by unfold yZ;rw[hr];rfl
  have A1:yF [7] (yZ F l p q k)=yZ F l p q k:=by rw[hE];simp
  have htest:zN (zc (yE true) (zf 6) (cS .zh)) (yZ F l p q k)=some true:=by rw[hE];simp[i1]
  unfold xu vi;rw[A1,htest,A_,if_pos rfl];cases ho:(yP F p).find? (λ wi=>yz F l r wi.1) with
  | some wi=>
   rw[ho] at hf;have:sY (yZ F l p q k)=some (.rt (.tup [.int (k:Int),.int (wi.2:Int)])):=by
    unfold sY;rw[hE] at hf ⊢;generalize qf=b1 at *;simp[hf]
   rw[this];rfl
  | none=>
   rw[ho] at hf;have hb2:sY (yZ F l p q k)=some (.nx (yZ F l p q (k+1))):=by
    unfold sY;have hE2:yZ F l p q (k+1)=[some (.im (zr F)),some (.im (.int (p:Int))),some (.im (zj q)),some (.im (rT l)),some (.im (.lst ((yP F p).map λ wi=>T.int (wi.2:Int)))),some (.im (.int ((k:Int)+1))),some (.im (x9 (yB F p q)[k+1]?)),none]:=by unfold yZ;rw[BA]
    rw[hE2];rw[hE] at hf ⊢;generalize qf=b1,pH=f1,x9 (yB F p q)[k+1]?=s1,zr F=fl,zj r=pr,zj q=pq,rT l=rl,(yP F p).map (λ wi=>T.int (wi.2:Int))=WS at *;simp at hf;simp[hf,hc]
   rw[hb2,A_];show xu [7] _ sY m (yZ F l p q (k+1))=_;rw[Xa ok hl hb hp hq cs (k+1) m hd (by lia) (by lia),hlen];rw[show k+1+cs.length=k+(cs.length+1) by lia]
def L9 {F:zx}(ok:F.Ok) {l:List Bd}(hl:l.length=F.os.length) (hb:∀ b∈l,b.length<=10000) {p:Nat}(hp:p<F.os.length) {q:Int×Int}(hq:xn F q):lQ [zr F,.int (p:Int),zj q,rT l]=some (dT (vi F l p 0 (yB F p q))):=by
 have h1:=c7 F p hp ok.rB;have hl21:=Mp F p q;have hw:=Xa ok hl hb hp hq (yB F p q) 0 1000000 rfl (by lia) (by lia);have hE:yZ F l p q 0=[some (.im (zr F)),some (.im (.int (p:Int))),some (.im (zj q)),some (.im (rT l)),some (.im (.lst ((yP F p).map λ wi=>T.int (wi.2:Int)))),some (.im (.int 0)),some (.im (zj q)),none]:=by unfold yZ;rw[Xy];rfl
 rw[hE] at hw;replace h1:uN [zr F,.int (p:Int)]=some (.lst ((yP F p).map λ wi=>T.int (wi.2:Int))):=h1;unfold lQ bz sa;generalize yZ F l p q (0+(yB F p q).length)=EE,zN (zc (yE true) (zf 6) (cS .zh))=tt,sY=b2,uN=f1,(1000000:Nat)=M,zr F=fl,zj q=pq,rT l=rl,(yP F p).map (λ wi=>T.int (wi.2:Int))=WS at *;cases hd:vi F l p 0 (yB F p q) with
 | some x=>rw[hd] at hw;simp at hw;simp[h1,hw]
 | none=>rw[hd] at hw;simp at hw;simp[h1,hw,dT]
def wD (F:zx) (p:Nat) (q:Int×Int) (s:Sl) (L:List (Int×Int)) (c:Option L5.W):Ev:=[some (.im (zr F)),some (.im (.int (p:Int))),some (.im (zj q)),some (.own (.lst (L.map zj))),some (.im (.int (s.p:Int))),some (.im (.int (wo s.pu))),some (.im (.int s.gv)),some (.im (.int s.gt)),c]
def uZ (F:zx) (s:Sl) (r:Int×Int):Int×Int:=yQ s.pu (zP s.pu r-s.gv) (min (y4 s.pu r+s.gt) (F.zX (!s.pu)))
def Mw {F:zx}{p:Nat}{q:Int×Int}{s:Sl}{pre:List (Int×Int)}{r:Int×Int}(hl:pre.length<=1000):∃ c,pd (wD F p q s (pre++[r]) none)=some (.nx (wD F p q s (pre++[r]++[uZ F s r]) c)):=by
 have hlast:L2.zY ((pre++[r]).map zj) (-1)=some (.tup [.int r.1,.int r.2]):=by rw[Bh];exact ph
 have e2:(pre++[r]++[uZ F s r]).map zj=(pre++[r]).map zj++[zj (uZ F s r)]:=by simp
 have hlen:((pre++[r]).map zj).length<16777216:=by simp;lia
 have hw0:=jv F;have n0:wW 2 0=some 0:=rfl;have n1:wW 2 1=some 1:=rfl;refine⟨some (.own (.lst [.int (uZ F s r).1,.int (uZ F s r).2])),?_⟩;unfold wD;rw[e2];unfold pd;generalize (pre++[r]).map zj=LL,zr F=fl,zj q=pq at *;simp only[zi] at hw0;unfold uZ;cases Cm:s.pu <;> simp[wo,hlast,hw0,n0,n1,hlen,yQ,zP,y4,zx.zX,mi,zj]
def X7 {F:zx}{p:Nat}{q:Int×Int}{s:Sl}{pre:List (Int×Int)}{r:Int×Int}:uW (zN (zc (zK false) (zf 4) (zf 1))) (zN (zc tG (zc zi (zc zi (zf 3) (ux (cS (.int 1)))) (zf 5)) (zf 6))) (wD F p q s (pre++[r]) none)=some (decide (s.p=p)&&decide (s.gv<=zP s.pu r)):=by
 have hlast:L2.zY ((pre++[r]).map zj) (-1)=some (.tup [.int r.1,.int r.2]):=by rw[Bh];exact ph
 unfold wD;generalize (pre++[r]).map zj=LL,zr F=fl,zj q=pq at *;by_cases hp:s.p=p
 .have hp':(s.p:Int)=(p:Int):=by lia
  cases Cm:s.pu <;> simp[wo,hlast,zP,eq_int,hp]
 .have hp':¬ (s.p:Int)=(p:Int):=by lia
  simp[eq_int,hp,hp']
theorem X6 {F:zx}{p:Nat}{q:Int×Int}{s:Sl}(hs:1<=s.gv/\0<=s.gt) (A2:s.p=p):∀ (n:Nat) (pre:List (Int×Int)) (r:Int×Int) (m:Nat),xn F r->zP s.pu r<n->n<m->pre.length+n<=1000->∀ c,
  xu [8] (uW (zN (zc (zK false) (zf 4) (zf 1))) (zN (zc tG (zc zi (zc zi (zf 3) (ux (cS (.int 1)))) (zf 5)) (zf 6)))) pd m (wD F p q s (pre++[r]) c)=some (.nx (wD F p q s (pre++wC F s n r) none))
 | 0,pre,r,m,hr,hn,hm,hl,c=>by
  have:=(wX (pu:=s.pu).mp hr).1.1;lia
 | n+1,pre,r,m+1,hr,hn,hm,hl,c=>by
  have A1:yF [8] (wD F p q s (pre++[r]) c)=wD F p q s (pre++[r]) none:=by unfold wD;simp
  unfold xu wC;rw[A1,X7,A_,decide_eq_true A2,Bool.true_and];by_cases hg:s.gv<=zP s.pu r
  .rw[decide_eq_true hg,if_pos rfl,if_pos hg];obtain⟨c',hb⟩:=Mw (F:=F) (p:=p) (q:=q) (s:=s) (pre:=pre) (r:=r) (by lia);rw[hb,A_];have h':=wX (pu:=s.pu).mp hr;have hi:xn F (uZ F s r):=by
    unfold uZ;rw[wX (pu:=s.pu),vx,tF];lia
   have ih:=X6 (q:=q) hs A2 n (pre++[r]) (uZ F s r) m hi (by unfold uZ;rw[vx];lia) (by lia) (by simp;lia) c';show xu [8] _ pd m (wD F p q s (pre++[r]++[uZ F s r]) c')=_;rw[ih,D4];rfl
  .rw[decide_eq_false hg,if_neg (by decide),if_neg hg]
def Mv {F:zx}{p:Nat}{q:Int×Int}{s:Sl}(A2:¬ s.p=p) (pre:List (Int×Int)) (r:Int×Int) (m:Nat) (c:Option L5.W):
  xu [8] (uW (zN (zc (zK false) (zf 4) (zf 1))) (zN (zc tG (zc zi (zc zi (zf 3) (ux (cS (.int 1)))) (zf 5)) (zf 6)))) pd (m+1) (wD F p q s (pre++[r]) c)=some (.nx (wD F p q s (pre++[r]) none)):=by
 have A1:yF [8] (wD F p q s (pre++[r]) c)=wD F p q s (pre++[r]) none:=by unfold wD;simp
 unfold xu;rw[A1,X7,A_,decide_eq_false A2,Bool.false_and,if_neg (by decide)]
theorem X0 {F:zx}{s:Sl}:∀ (n:Nat) (q:Int×Int),∃ pre r,wC F s n q=pre++[r]
 | 0,q=>⟨[],q,rfl⟩
 | n+1,q=>by
  unfold wC;split
  .obtain⟨pre,r,e⟩:=X0 (F:=F) (s:=s) n (yQ s.pu (zP s.pu q-s.gv) (min (y4 s.pu q+s.gt) (F.zX (!s.pu))));exact⟨q::pre,r,by rw[e];rfl⟩
  .exact⟨[],q,rfl⟩
def vH (F:zx) (p:Nat) (q:Int×Int) (ss:List Sl):List (Int×Int):=match ss.find? (λ s=>decide (s.p=p)) with
 | none=>[q]
 | some s=>wC F s 20 q
def LF {F:zx}(ok:F.Ok) (CT:F.ss.Pairwise (λ a b=>a.p≠b.p)) (p:Nat) {q:Int×Int}(hq:xn F q):lL [zr F,.int (p:Int),zj q]=some (.lst ((yB F p q).map zj)):=by
 obtain⟨J',h1,h2⟩:=uz (is:=[4,5,6,7,8]) (g:=xP 4 (yk (zB 4) (yk (zB 5) (yk (zB 6) (yk (zB 7) wu))))) (b:=q_) y6 (λ ss J=>J=[some (.im (zr F)),some (.im (.int (p:Int))),some (.im (zj q)),some (.own (.lst ((vH F p q ss).map zj))),none,none,none,none,none])
   F.ss [some (.im (zr F)),some (.im (.int (p:Int))),some (.im (zj q)),some (.own (.lst [zj q])),none,none,none,none,none] rfl (by
  rintro pf s sf e J rfl;have hs:=ok.ss s (by rw[e];simp);have hb:turn (xP 4 (yk (zB 4) (yk (zB 5) (yk (zB 6) (yk (zB 7) wu))))) q_ (y6 s) [some (.im (zr F)),some (.im (.int (p:Int))),some (.im (zj q)),some (.own (.lst ((vH F p q pf).map zj))),none,none,none,none,none]=q_ (wD F p q s (vH F p q pf) none):=rfl;rw[hb];refine⟨wD F p q s (vH F p q (pf++[s])) none,?_,by unfold wD;simp⟩;unfold q_ sa;by_cases A2:s.p=p
  .have DX:pf.find? (λ s=>decide (s.p=p))=none:=by
    rw[DH];intro a ha h;rw[e] at CT;exact (DJ.mp CT).2.2 a ha s Am (by rw[of_decide_eq_true h,A2])
   have e1:vH F p q pf=[]++[q]:=by unfold vH;rw[DX];rfl
   have e2:vH F p q (pf++[s])=wC F s 20 q:=by
    unfold vH;rw[List.find?_append,DX,BU,decide_eq_true A2];rfl
   have hgv:zP s.pu q<20:=by
    have:=wX (pu:=s.pu).mp hq;have:F.zX s.pu<=12:=by have:=ok.a1;have:=ok.b1;unfold zx.zX;split <;> assumption
    lia
   rw[e1,e2];exact X6 hs A2 20 [] q 1000000 hq (by lia) (by lia) (by simp) none
  .have e2:vH F p q (pf++[s])=vH F p q pf:=by
    unfold vH;rw[List.find?_append,BU,decide_eq_false A2];cases pf.find? (λ s=>decide (s.p=p)) <;> rfl
   obtain⟨pre,r,e3⟩:∃ pre r,vH F p q pf=pre++[r]:=by
    unfold vH;cases pf.find? (λ s=>decide (s.p=p)) with
    | none=>exact⟨[],q,rfl⟩
    | some s=>exact X0 20 q
   rw[e2,e3];exact Mv A2 pre r 999999 none)
 subst h2;have hw3:=N1 F;have e:vH F p q F.ss=yB F p q:=rfl;rw[e] at h1;unfold lL bc;generalize q_=b2,F.ss.map y6=SS,(yB F p q).map zj=CC,zr F=fl,zj q=pq at *;simp only[zi] at hw3;simp[hw3,h1]
structure Fix (F:zx) (l:List Bd):Prop where
 ok:F.Ok
 len:l.length=F.os.length
 gd:∀ b∈l,Gd F.A F.B b
 pw:F.ss.Pairwise (λ a b=>a.p≠b.p)
 go:∀ p<F.os.length,∀ q,xn F q->zM (l.getD p []) q=mG F l p q
section
variable {F:zx}{l:List Bd}
def Fix.sz (X:Fix F l):∀ b∈l,b.length<=10000:=λ b hb=>by
 have:=(X.gd b hb).sP X.ok.a0;have:=X.ok.a1;lia
def kW {p:Nat}(hp:p<F.os.length):L2.zY (F.os.map kt) (p:Int)=some (kt (F.os.getD p false)):=x_ (by rw[Aw,AK,AG hp];rfl)
def Oy (b:Bool):zK true (kt b) (.str "keeper")=some (.bl (!b)):=by
 have h:(("taker":Str) == ("keeper":Str))=false:=by decide
 cases b
 .show zK true (.str "taker") (.str "keeper")=_;simp[zK,dep,eqT,h]
 .show zK true (.str "keeper") (.str "keeper")=_;simp[zK,dep,eqT]
def Ox (b:Bool):zK false (kt b) (.str "taker")=some (.bl (!b)):=by
 have h:(("keeper":Str) == ("taker":Str))=false:=by decide
 cases b
 .show zK false (.str "taker") (.str "taker")=_;simp[zK,dep,eqT]
 .show zK false (.str "keeper") (.str "taker")=_;simp[zK,dep,eqT,h]
def Yf (b:Bool):zK false (kt b) (.str "keeper")=some (.bl b):=by
 have h:(("taker":Str) == ("keeper":Str))=false:=by decide
 cases b
 .show zK false (.str "taker") (.str "keeper")=_;simp[zK,dep,eqT,h]
 .show zK false (.str "keeper") (.str "keeper")=_;simp[zK,dep,eqT]
end
def LM {F:zx}{pre:List (List Bd)}{lst:List Bd}(hr:vO [zr F]=some (.lst ((pre++[lst]).map rT))):qw [zr F]=some (rT lst):=by
 have Be:L2.zY ((pre++[lst]).map rT) (-1)=some (rT lst):=by
  rw[Bh];exact ph
 unfold qw bA;generalize (pre++[lst]).map rT=L,vO=f1,zr F=fl at *;simp[hr,Be]
def N2 {F:zx}(ok:F.Ok) (CT:F.ss.Pairwise (λ a b=>a.p≠b.p)) {m:Nat}(hg:∀ b∈zE F m,Gd F.A F.B b) (AH:zE F (m+1)=zE F m):Fix F (zE F m):=by
 refine⟨ok,m9 F m,hg,CT,λ p hp q hq=>?_⟩;have hg':∀ p,Gd F.A F.B ((zE F m).getD p []):=λ p=>by
  rcases A7 p (zE F m).length with h | h
  .rw[AK,AG h];exact hg _ (Bj h)
  .rw[AK,Dc h];exact Gd.nil
 have e:(zE F m).getD p []=yR F (zE F m) p:=by
  have:(zE F (m+1)).getD p []=yR F (zE F m) p:=mI (λ p=>yR F (zE F m) p) F.os.length p [] hp;rw[AH] at this;exact this
 rw[e];exact ZL ok hg' p hq
def Lm (A B:Int) (q:Int×Int) (h:(0<=q.1/\q.1<=A)/\0<=q.2/\q.2<=B):lO [zj q,.tup [.tup [.int 0,.int A],.tup [.int 0,.int B]]]=some (.bl true):=by
 have hc:lq [some (.im (zj q)),some (.im (.tup [.tup [.int 0,.int A],.tup [.int 0,.int B]]))]=some (.lst ([(q.1,A),(q.2,B)].map λ x:Int×Int=>T.bl true)):=by
  unfold lq;refine qQ (λ x:Int×Int=>T.tup [.int x.1,.tup [.int 0,.int x.2]]) _ [(q.1,A),(q.2,B)] (by simp[zj]) (by simp) λ x hx=>?_;have hx':0<=x.1/\x.1<=x.2:=by
   simp only[Ah,Cr,or_false] at hx;rcases hx with rfl | rfl
   .exact h.1
   .exact h.2
  simp[Wf,hx']
 unfold lO br;have it:vY "tuple" "tuple"=true:=by decide
 generalize lq=cc at *;simp[zj] at hc;simp[zj,it,eq_int,hc,qd]
def Wo (F:zx) (q:Int×Int) (h:(0<=q.1/\q.1<=F.A)/\0<=q.2/\q.2<=F.B):qu [zr F,zj q]=some .zh:=by
 have h1:=Lm F.A F.B q h;have hw0:zi (zr F) (.int 0)=some (.tup [.int F.A,.int F.B]):=by simp[zr]
 unfold qu b7;generalize lO=ff,zr F=fl,zj q=pq at *;simp only[zi] at hw0;simp[hw0,h1]
def yh (told:List (List Bd)):T:=.lst (told.map rT)
def wL (told:List (List Bd)) (p:Nat) (q:Int×Int):Option Nat:=(List.range told.length).find? λ k=>!zM ((told.getD k []).getD p []) q
noncomputable def w_ (o:Option Nat):T:=match o with
 | some k=>.int (k:Int)
 | none=>.zh
def bV {told:List (List Bd)}{n:Nat}(h:∀ r∈told,r.length=n) {k:Nat}(hk:k<told.length):(told.getD k []).length=n:=by
 rw[AK,AG hk];exact h _ (Bj hk)
def Lz (told:List (List Bd)) (n p:Nat) (q:Int×Int) (hn:∀ r∈told,r.length=n) (hb:∀ r∈told,∀ b∈r,b.length<=100) (hp:p<n):nF [yh told,.int p,zj q]=some (w_ (wL told p q)):=by
 have hl:=m5 (is:=[3,4]) (g:=xP 2 (yk (zB 3) (yk (zB 4) wu))) (b:=l7) (λ k:Nat=>T.tup [.int (k:Int),rT (told.getD k [])]) (λ k:Nat=>T.int (k:Int)) (λ k=>!zM ((told.getD k []).getD p []) q) [some (.im (yh told)),some (.im (.int p)),some (.im (zj q)),none,none] (List.range told.length) [some (.im (yh told)),some (.im (.int p)),some (.im (zj q)),none,none] (by simp) λ k hk=>⟨[some (.im (yh told)),some (.im (.int p)),some (.im (zj q)),some (.im (.int (k:Int))),some (.im (rT (told.getD k [])))],by simp,by
  have hk':=AE.mp hk;have hlen:=bV hn hk';have e1:=rS (told.getD k []) p (by lia);have e2:=Wl ((told.getD k []).getD p []) q (by
   have hm:told.getD k []∈told:=by rw[AK,AG hk'];exact Bj hk'
   have hb2:(told.getD k []).getD p []∈told.getD k []:=by
    have:p<(told.getD k []).length:=by lia
    rw[AK (l:=told.getD k []),AG this];exact Bj this
   have:=hb _ hm _ hb2;lia)
  unfold turn l7;generalize (told.getD k []).getD p []=bd,rT (told.getD k [])=rk,qt=ff,yh told=tt,zj q=pq at *;simp only[zi] at e1;cases hc:zM bd q <;> rw[hc] at e2 <;> simp[e1,e2]⟩
 have he:uc [yh told]=some ((List.range told.length).map λ k:Nat=>T.tup [.int (k:Int),rT (told.getD k [])]):=by
  have:=eL rT [] told told 0 λ i=>by rw[C3]
  simp only[C3] at this;show some (sV 0 (told.map rT))=_;rw[this]
 unfold nF bw wL w_;generalize l7=bb,uc=en,yh told=tt,zj q=pq,(List.range told.length).map (λ k:Nat=>T.tup [.int (k:Int),rT (told.getD k [])])=LL at *;generalize (List.range told.length).find? _=o at *;simp[he,hl];cases o <;> simp
def Wm (told:List (List Bd)) (n p:Nat) (q:Int×Int) (hn:∀ r∈told,r.length=n) (hp:p<n) (h5:told.length<=100000):rq [yh told,.int p,zj q]=some (w_ (wL told p q)):=by
 have hl:=m5 (is:=[3]) (g:=zB 3) (b:=l6) (λ k:Nat=>T.int (k:Int)) (λ k:Nat=>T.int (k:Int)) (λ k=>!zM ((told.getD k []).getD p []) q) [some (.im (yh told)),some (.im (.int p)),some (.im (zj q)),none] (List.range told.length) [some (.im (yh told)),some (.im (.int p)),some (.im (zj q)),none] (by simp) λ k hk=>⟨[some (.im (yh told)),some (.im (.int p)),some (.im (zj q)),some (.im (.int (k:Int)))],by simp,by
  have hk':=AE.mp hk;have hlen:=bV hn hk';have e1:=rS (told.getD k []) p (by lia);have e0:zi (yh told) (.int (k:Int))=some (rT (told.getD k [])):=by
   show L2.zY (told.map rT) (k:Int)=_;exact x_ (by rw[Aw,AG hk',AK,AG hk'];rfl)
  have e2:=c8 (bT ((told.getD k []).getD p [])) ((told.getD k []).getD p []) q rfl;unfold turn l6;generalize (told.getD k []).getD p []=bd,rT (told.getD k [])=rk at *;generalize bT bd=bt at *;generalize rp=ff,yh told=tt,zj q=pq at *;simp only[zi] at e1 e0;cases hc:zM bd q <;> rw[hc] at e2 <;> simp[e1,e0,e2]⟩
 have hr:=pT told.length h5;simp only[C4] at hr;have hlen:xi [yh told]=some (.int told.length):=by
  simp[yh]
 unfold rq ba wL w_;generalize l6=bb,xi=ln,yh told=tt,zj q=pq,(List.range told.length).map (λ k:Nat=>T.int (k:Int))=LL at *;generalize (List.range told.length).find? _=o at *;simp[hlen,hr,hl];cases o <;> simp
def xk (x:Nat×(Int×Int)):T:=.tup [.int (x.1:Int),zj x.2]
def lI (F:zx) (x:Nat×(Int×Int)):Prop:=x.1<F.os.length/\(0<=x.2.1/\x.2.1<=F.A)/\0<=x.2.2/\x.2.2<=F.B
def LN {F:zx}(ok:F.Ok) (ns:List Int) (told:List (List Bd)) (Ai:told≠[]) (hn:∀ r∈told,r.length=F.os.length/\∀ b∈r,Gd F.A F.B b):
  ∃ L:List (Nat×(Int×Int)),nD [z_ ns,zr F,yh told]=some (.lst (L.map xk))/\L.length<=100/\∀ x∈L,lI F x:=by
 have hc:=qv ns 36;have c0:=m_ ns 36;generalize cell ns 36=num at *;have hc':yO [z_ ns,.int 36]=some (.int num):=hc;have n1:=ok.n1;have n8:=ok.n8;have a0:=ok.a0;have b0:=ok.b0;obtain⟨cnt,EM,cnt5⟩:∃ k:Nat,num%6=(k:Int)/\k<6:=⟨(num%6).toNat,by lia,by lia⟩
 have hw0:zi (zr F) (.int 0)=some (.tup [.int F.A,.int F.B]):=by simp[zr]
 have hw1:zi (zr F) (.int 1)=some (.tup (F.os.map kt)):=by simp[zr]
 obtain⟨J',h1,L,h2,h3,h4⟩:=uz (is:=[5,6]) (g:=zB 5) (b:=oV) (λ k:Nat=>T.int (0+(k:Int))) (λ p J=>∃ L:List (Nat×(Int×Int)),J=[some (.im (z_ ns)),some (.im (zr F)),some (.im (yh told)),some (.im (.int F.os.length)),some (.own (.lst (L.map xk))),none,none,none,none,none,none]/\L.length=p.length/\∀ x∈L,lI F x)
   (List.range cnt) [some (.im (z_ ns)),some (.im (zr F)),some (.im (yh told)),some (.im (.int F.os.length)),some (.own (.lst [])),none,none,none,none,none,none] ⟨[],rfl,rfl,nofun⟩ (by
  rintro p k q e J ⟨L,rfl,r1,r2⟩;have hp:p.length<cnt:=by have:=congrArg List.length e;simp at this;lia
  have Dx:=qv ns (37+k);rw[CJ] at Dx;have EO:yO [z_ ns,.int (37+(0+(k:Int)))]=some (.int (cell ns (37+k))):=by rw[C4];exact Dx
  have x0:=m_ ns (37+k);generalize cell ns (37+k)=ce at *;have d8:xF ce 8:=⟨by decide,by decide⟩
  have d104:xF ce 104:=⟨by decide,by decide⟩
  have CV:(0:Int)<F.os.length:=by lia
  have Ca:0<F.os.length:=by lia
  have hA:0<F.A+1:=by lia
  have hB:0<F.B+1:=by lia
  have t0:0<=ce%F.os.length:=BO _ (by lia);have t1:ce%F.os.length<F.os.length:=Cy _ CV;have u0:0<=ce/8%(F.A+1):=BO _ (by lia);have u1:ce/8%(F.A+1)<F.A+1:=Cy _ hA;have v0:0<=ce/104%(F.B+1):=BO _ (by lia);have v1:ce/104%(F.B+1)<F.B+1:=Cy _ hB;refine⟨[some (.im (z_ ns)),some (.im (zr F)),some (.im (yh told)),some (.im (.int F.os.length)),some (.own (.lst ((L++[((ce%F.os.length).toNat,(ce/8%(F.A+1),ce/104%(F.B+1)))]).map xk))),some (.im (.int (0+(k:Int)))),some (.im (.int ce)),none,none,none,none],?_,L++[((ce%F.os.length).toNat,(ce/8%(F.A+1),ce/104%(F.B+1)))],by simp,by simp[r1],λ x hx=>?_⟩
  .have hl:(L.map xk).length<16777216:=by simp;lia
   have e1:(L++[((ce%F.os.length).toNat,(ce/8%(F.A+1),ce/104%(F.B+1)))]).map xk=L.map xk++[.tup [.int (ce%F.os.length),.tup [.int (ce/8%(F.A+1)),.int (ce/104%(F.B+1))]]]:=by
    simp[xk,zj,Cw t0]
   rw[e1];unfold turn oV;generalize yO=fc,L.map xk=LL,z_ ns=sc,zr F=fl,(0+(k:Int))=kk at *;simp only[zi] at hw0;simp[EO,hw0,d8,d104,CV,Ca,hA,hB,hl]
  .rcases AU.mp hx with h | h
   .exact r2 x h
   .cases AO.mp h;exact⟨by show (ce%F.os.length).toNat<F.os.length;lia,⟨u0,by show ce/8%(F.A+1)<=F.A;lia⟩,v0,by show ce/104%(F.B+1)<=F.B;lia⟩)
 subst h2;rw[Bz] at h3;have hr:=pT cnt (by lia);rw[<- EM] at hr;have d5:xF num 6:=⟨by decide,by decide⟩
 have d40:xF num 48:=⟨by decide,by decide⟩
 have CV:(0:Int)<F.os.length:=by lia
 have Ca:0<F.os.length:=by lia
 obtain⟨pl,Au,pl1⟩:∃ k:Nat,num/6%F.os.length=(k:Int)/\k<F.os.length:=⟨(num/6%F.os.length).toNat,by rw[Cw (BO _ (by lia))],by have:=Cy (num/6) CV;have:=BO (num/6) (b:=(F.os.length:Int)) (by lia);lia⟩
 obtain⟨pre,lst,rfl⟩:∃ pre lst,told=pre++[lst]:=by
  rcases List.eq_nil_or_concat told with e | ⟨i,l,e⟩
  .exact absurd e Ai
  .exact⟨i,l,by rw[e,List.concat_eq_append]⟩
 have hlast:=hn lst (by simp);have Be:zi (yh (pre++[lst])) (.int (-1))=some (rT lst):=by
  show L2.zY ((pre++[lst]).map rT) (-1)=_;rw[Bh];exact ph
 have Bu:=rS lst pl (by lia);have hgd:Gd F.A F.B (lst.getD pl []):=by
  have:pl<lst.length:=by lia
  rw[AK,AG this];exact hlast.2 _ (Bj this)
 have two:lI F (pl,(F.A,F.B)):=⟨pl1,⟨a0,AI _⟩,b0,AI _⟩
 have hl0:(L.map xk).length+1<=16777216:=by simp;lia
 have hl1:(L.map xk).length+3<=16777216:=by simp;lia
 have hl2:(L.map xk).length+3+1<=16777216:=by simp;lia
 have hlenO:(F.os.map kt).length=F.os.length:=by simp
 by_cases hb:lst.getD pl []=[]
 .refine⟨L++[(pl,(F.A,F.B))],?_,by simp;lia,λ x hx=>?_⟩
  .have e1:(L++[((pl,(F.A,F.B)):Nat×(Int×Int))]).map xk=L.map xk++[.tup [.int pl,.tup [.int F.A,.int F.B]]]:=by simp[xk,zj]
   rw[e1];rw[hb] at Bu;have hbt:bT []=.tup []:=rfl;rw[hbt] at Bu;unfold nD ia;generalize oV=bb,yO=fc,L.map xk=LL,(List.range cnt).map (λ k:Nat=>T.int (0+(k:Int)))=RR,yh (pre++[lst])=tt,rT lst=rl,F.os.map kt=ol,z_ ns=sc,zr F=fl at *;simp only[zi] at hw0 hw1 Be Bu;simp[hw1,hlenO,hc',hr,h1,d5,CV,Ca,Au,hw0,hl0,Be,Bu]
  .rcases AU.mp hx with h | h
   .exact h4 x h
   .cases AO.mp h;exact two
 .obtain⟨bl,hbl,bl1⟩:∃ k:Nat,num/48%((lst.getD pl []).length:Int)=(k:Int)/\k<(lst.getD pl []).length:=by
   have hp:0<(lst.getD pl []).length:=D3.mpr hb;have:=Cy (num/48) (b:=((lst.getD pl []).length:Int)) (by lia);have:=BO (num/48) (b:=((lst.getD pl []).length:Int)) (by lia);exact⟨(num/48%((lst.getD pl []).length:Int)).toNat,by lia,by lia⟩
  have CD:=hgd.xY _ (Bj bl1);have Cq:L2.zY ((lst.getD pl []).map zj) (bl:Int)=some (zj (lst.getD pl [])[bl]):=x_ (by rw[Aw,AG bl1];rfl);have hlen0:0<(lst.getD pl []).length:=D3.mpr hb;generalize hx:(lst.getD pl [])[bl]=xy at *;obtain⟨x,y⟩:=xy;have mx1:yq (x-1)<=x:=by have:=CD.1.1;unfold yq;dsimp only at this;split <;> lia
  have my1:yq (y-1)<=y:=by have:=CD.2.1;unfold yq;dsimp only at this;split <;> lia
  refine⟨L++[(pl,(x,y)),(pl,(yq (x-1),y)),(pl,(x,yq (y-1)))]++[(pl,(F.A,F.B))],?_,by simp;lia,λ z hz=>?_⟩
  .have e1:(L++[((pl,(x,y)):Nat×(Int×Int)),(pl,(yq (x-1),y)),(pl,(x,yq (y-1)))]++[(pl,(F.A,F.B))]).map xk=L.map xk++[.tup [.int pl,.tup [.int x,.int y]],.tup [.int pl,.tup [.int (yq (x-1)),.int y]],.tup [.int pl,.tup [.int x,.int (yq (y-1))]]]++[.tup [.int pl,.tup [.int F.A,.int F.B]]]:=by simp[xk,zj]
   rw[e1];have BH:wj (bT (lst.getD pl []))=some ((lst.getD pl []).map zj):=rfl;have hll:((lst.getD pl []).map zj).length=(lst.getD pl []).length:=by simp
   have BQ:xi [bT (lst.getD pl [])]=some (.int ((lst.getD pl []).length:Int)):=by simp[bT]
   have B8:zj (x,y)=.tup [.int x,.int y]:=rfl;rw[B8] at Cq;have hlen0':(0:Int)<((lst.getD pl []).length:Int):=by lia
   clear hx;generalize (lst.getD pl []).length=bn,(lst.getD pl []).map zj=BL,bT (lst.getD pl [])=bt at *;unfold nD ia;generalize oV=bb,yO=fc,L.map xk=LL,(List.range cnt).map (λ k:Nat=>T.int (0+(k:Int)))=RR,yh (pre++[lst])=tt,rT lst=rl at *;have hlo:xi [.tup (F.os.map kt)]=some (.int F.os.length):=by simp
   generalize F.os.map kt=ol,z_ ns=sc,zr F=fl,xi=ln at *;unfold yq;simp only[zi] at hw0 hw1 Be Bu;simp[hw1,hlo,hc',hr,h1,d5,d40,CV,Ca,Au,hw0,hl1,hl2,Be,Bu,BQ,hlen0,hlen0',hbl,BH,Cq,rW]
   try lia
  .rcases AU.mp hz with h | h
   .rcases AU.mp h with h | h
    .exact h4 z h
    .simp only[Ah,Cr,or_false] at h;rcases h with rfl | rfl | rfl
     .exact⟨pl1,CD⟩
     .exact⟨pl1,⟨oq _,Int.le_trans mx1 CD.1.2⟩,CD.2⟩
     .exact⟨pl1,CD.1,oq _,Int.le_trans my1 CD.2.2⟩
   .cases AO.mp h;exact two
structure tV (F:zx) (m:Nat):Prop where
 fx:Fix F (zE F m)
 gd:∀ k,k<=m->∀ b∈zE F k,Gd F.A F.B b
def zQ (F:zx) (m:Nat):List (List Bd):=(List.range (m+1)).map (zE F)
section
variable {F:zx}{m:Nat}
def kr (F:zx) (m:Nat):(zQ F m).length=m+1:=by unfold zQ;simp
def iw {k:Nat}(h:k<=m):(zQ F m).getD k []=zE F k:=mI (zE F) (m+1) k [] (by lia)
def tV.Y7 (R:tV F m) {k:Nat}(hk:k<=m) (p:Nat):Gd F.A F.B ((zE F k).getD p []):=by
 rcases A7 p (zE F k).length with h | h
 .rw[AK,AG h];exact R.gd k hk _ (Bj h)
 .rw[AK,Dc h];exact Gd.nil
def eO {p:Nat}{q:Int×Int}{k:Nat}(h:wL (zQ F m) p q=some k):k<=m/\zM ((zE F k).getD p []) q=false:=by
 unfold wL at h;have h1:=AE.mp (CK h);rw[kr] at h1;have h2:=List.find?_some h;rw[iw (by lia)] at h2;exact⟨by lia,by simpa using h2⟩
def NM {p:Nat}{q:Int×Int}{k:Nat}(hk:k<=m) (h:zM ((zE F k).getD p []) q=false):∃ j,j<=k/\wL (zQ F m) p q=some j:=by
 unfold wL;cases ho:(List.range (zQ F m).length).find? (λ k=>!zM (((zQ F m).getD k []).getD p []) q) with
 | none=>
  rw[DH] at ho;have:=ho k (AE.mpr (by rw[kr];lia));rw[iw hk,h] at this;exact absurd rfl this
 | some j=>
  refine⟨j,?_,rfl⟩;rcases A7 k j with hj | hj
  .have:=(List.find?_range_eq_some.mp ho).2.2 k hj;rw[iw hk,h] at this;cases this
  .exact hj
def YU {p:Nat}(hp:p<F.os.length) {q:Int×Int}(hq:xn F q):wL (zQ F m) p q≠some 0:=λ h=>by
 obtain⟨_,h2⟩:=eO h;have e1:(zE F 0).getD p []=xK:=by
  show (RN.start F).getD p []=xK;unfold RN.start;rw[AK,Df,if_pos hp];rfl
 rw[e1,Xs.mpr ⟨hq.1.1,hq.2.1⟩] at h2;cases h2
def Vq:L2.zY ((zQ F m).map rT) (-1)=some (rT (zE F m)):=by
 unfold zQ;rw[D1,Bh,Bh];exact ph
def Vr {k:Nat}(h:k<=m):L2.zY ((zQ F m).map rT) (k:Int)=some (rT (zE F k)):=x_ (by
 unfold zQ;rw[AW,Aw,D7 (by lia)];rfl)
def kq (R:tV F m):(∀ r∈zQ F m,r.length=F.os.length)/\∀ r∈zQ F m,∀ b∈r,b.length<=100:=by
 constructor
 .intro r hr;obtain⟨k,hk,rfl⟩:=Ap.mp hr;exact m9 F k
 .intro r hr b hb;obtain⟨k,hk,rfl⟩:=Ap.mp hr;have:=AE.mp hk;have h1:=(R.gd k (by lia) b hb).sP R.fx.ok.a0;have:=R.fx.ok.a1;lia
def Lx (R:tV F m) (hB:qw [zr F]=some (rT (zE F m))) {p:Nat}(hp:p<F.os.length) {q:Int×Int}(hq:xn F q):lM [zr F,.int (p:Int),zj q]=some (if F.os.getD p false=true then dT (vi F (zE F m) p 0 (yB F p q)) else .zh):=by
 have h1:=jS F p hp;have h2:=Wo F q hq;have h3:=L9 R.fx.ok R.fx.len R.fx.sz hp hq;have hw1:=ju F;have ho:=kW hp;have hk:=Oy (F.os.getD p false);generalize dT (vi F (zE F m) p 0 (yB F p q))=dd at *;unfold lM bo;generalize tZ=f1,qu=f2,lQ=f3,qw=f4,F.os.map kt=OS,zr F=fl,rT (zE F m)=rl,zj q=pq,F.os.getD p false=ow at *;generalize kt ow=ko at *;generalize (T.str "keeper")=ks,zK true=ee at *;simp only[zi] at hw1;cases ow <;> simp[h1,h2,hw1,ho,hk,hB,h3]
def Lq (R:tV F m) {p:Nat}(hp:p<F.os.length) {q:Int×Int}(hq:xn F q) (ho:F.os.getD p false=false):∃ o:Option Nat,pC [zr F,.int (p:Int),zj q,yh (zQ F m)]=some (w_ o)/\(wL (zQ F m) p q=none->o=none)/\∀ k,wL (zQ F m) p q=some k->∃ (i:Nat) (w:Wy),o=some i/\F.ws[i]?=some w/\w.f=p/\yz F (zE F (k-1)) q w=false:=by
 have h1:=Lz (zQ F m) F.os.length p q (kq R).1 (kq R).2 hp;have i0:yE false .zh .zh=some (.bl true):=rfl;cases hd:wL (zQ F m) p q with
 | none=>
  rw[hd] at h1;refine⟨none,?_,λ _=>rfl,nofun⟩;unfold pC jW;generalize oM=c1,nF=f1,yh (zQ F m)=tt,zr F=fl,zj q=pq at *;simp only[w_] at h1 ⊢;simp[h1,i0]
 | some k=>
  rw[hd] at h1;obtain⟨k1,k2⟩:=eO hd;have k0:k≠0:=λ h=>YU hp hq (by rw[hd,h]);obtain⟨j,rfl⟩:∃ j,k=j+1:=⟨k-1,by lia⟩
  have ED:j<=m:=by lia
  have hg:(uk F p).all (yz F (zE F j) q)=false:=by
   have e:(zE F (j+1)).getD p []=yR F (zE F j) p:=mI (λ p=>yR F (zE F j) p) F.os.length p [] hp;rw[e,ZL R.fx.ok (R.Y7 ED) p hq] at k2;unfold mG at k2;rw[if_neg (by rw[ho];decide)] at k2;exact k2
  have Ai:(yP F p).filter (λ wi=>!yz F (zE F j) q wi.1)≠[]:=by
   intro h;rw[List.filter_eq_nil_iff] at h;have:(uk F p).all (yz F (zE F j) q)=true:=by
    rw[BD];intro w hw;have ha:=bG (F:=F) (p:=p) (λ v=>!yz F (zE F j) q v);have:(yP F p).any (λ wi=>!yz F (zE F j) q wi.1)=false:=by
     rw[<- Dz,AR];rintro⟨wi,h1,h2⟩;exact h wi h1 h2
    rw[this] at ha;cases hl:yz F (zE F j) q w with
    | true=>rfl
    | false=>
     have:(uk F p).any (λ v=>!yz F (zE F j) q v)=true:=AR.mpr ⟨w,hw,by simp[hl]⟩;rw[<- ha] at this;cases this
   rw[hg] at this;cases this
  obtain⟨wi,rest,CP⟩:∃ wi rest,(yP F p).filter (λ wi=>!yz F (zE F j) q wi.1)=wi::rest:=by
   cases h:(yP F p).filter (λ wi=>!yz F (zE F j) q wi.1) with
   | nil=>exact absurd h Ai
   | cons a b=>exact⟨a,b,rfl⟩
  have AV:wi∈(yP F p).filter (λ wi=>!yz F (zE F j) q wi.1):=by rw[CP];exact Am
  obtain⟨m1,m2⟩:=A0.mp AV;obtain⟨g1,g2⟩:=kd m1;refine⟨some wi.2,?_,nofun,λ k hk=>?_⟩
  .have Eh:=c7 F p hp R.fx.ok.rB;have CS:=Vr (F:=F) (m:=m) ED;have hc:oM [some (.im (zr F)),some (.im (.int (p:Int))),some (.im (zj q)),some (.im (yh (zQ F m))),some (.im (.int ((j:Int)+1)))]=some (.lst (((yP F p).filter λ wi=>!yz F (zE F j) q wi.1).map λ wi=>T.int (wi.2:Int))):=by
    have:=m6 (λ wi:Wy×Nat=>T.int (wi.2:Int)) (λ wi=>if (!yz F (zE F j) q wi.1)=true then some (T.int (wi.2:Int)) else none) (pick:=[none,some 0,some 2,some 3,some 4]) (it:=xw (zv uN (zb (zm 0) (zb (zm 1) zl)))) (g:=zB 0) (c:=wZ (xm (zv rn (zb (zm 1) (zb (zm 2) (zb (zm 0) (zb (zc zi (zf 3) (zc xQ (zf 4) (cS (.int 1)))) zl))))))) (f:=zm 0) (J:=[some (.im (zr F)),some (.im (.int (p:Int))),some (.im (zj q)),some (.im (yh (zQ F m))),some (.im (.int ((j:Int)+1)))]) (yP F p) (by
      replace Eh:uN [zr F,.int (p:Int)]=some (.lst ((yP F p).map λ wi=>T.int (wi.2:Int))):=Eh;generalize (yP F p).map (λ wi=>T.int (wi.2:Int))=WW,uN=f1,zr F=fl at *;simp[Eh]) (by
      have h7:(yP F p).length<=F.ws.zipIdx.length:=C2 _ _;have h8:=R.fx.ok.rB;have h9:F.ws.zipIdx.length=F.ws.length:=by simp
      lia) (λ wi hw=>by
      obtain⟨q1,q2⟩:=kd hw;have ht:wi.1.t<(zE F j).length:=by rw[m9];exact (R.fx.ok.ws wi.1 (AX q1)).2
      have h3:=Wj (F:=F) (l:=zE F j) (q:=q) q1 ht (by
       have:=(R.Y7 ED wi.1.t).sP R.fx.ok.a0;have:=R.fx.ok.a1;lia)
      have hs:(j:Int)+1-1=j:=by lia
      have El:yh (zQ F m)=.lst ((zQ F m).map rT):=rfl;rw[El];generalize (zQ F m).map rT=TT,rn=f1,zr F=fl,zj q=pq,rT (zE F j)=rl,yz F (zE F j) q wi.1=b at *;cases b <;> simp[hs,CS,h3])
    unfold oM;rw[this,js]
   rw[CP,Ar] at hc;have i1:yE false (.int ((j:Int)+1)) .zh=some (.bl false):=rfl;unfold pC jW;generalize rest.map (λ wi=>T.int (wi.2:Int))=RR,oM=c1,nF=f1,yh (zQ F m)=tt,zr F=fl,zj q=pq at *;simp only[w_,BA] at h1 ⊢;simp[h1,i1,hc]
  .cases hk;exact⟨wi.2,wi.1,rfl,g1,g2,by simpa using m2⟩
def Lj (R:tV F m) (hr:vO [zr F]=some (yh (zQ F m))) {p:Nat}(hp:p<F.os.length) {q:Int×Int}(hq:xn F q):∃ o:Option Nat,nq [zr F,.int (p:Int),zj q]=some (w_ o)/\((F.os.getD p false=true\/wL (zQ F m) p q=none)->o=none)/\(F.os.getD p false=false->∀ k,wL (zQ F m) p q=some k->∃ (i:Nat) (w:Wy),o=some i/\F.ws[i]?=some w/\w.f=p/\yz F (zE F (k-1)) q w=false):=by
 have h1:=jS F p hp;have h2:=Wo F q hq;have hw1:=ju F;have ho:=kW hp;have hk:=Yf (F.os.getD p false);cases hb:F.os.getD p false with
 | true=>
  rw[hb] at ho hk;refine⟨none,?_,λ _=>rfl,nofun⟩;unfold nq jX;generalize tZ=f1,qu=f2,pC=f3,vO=f4,F.os.map kt=OS,zr F=fl,zj q=pq,kt true=ko,(T.str "keeper")=ks,zK false=ee at *;simp only[zi] at hw1;simp[h1,h2,hw1,ho,hk,w_]
 | false=>
  rw[hb] at ho hk;obtain⟨o,o1,o2,o3⟩:=Lq R hp hq hb;refine⟨o,?_,λ h=>o2 (h.resolve_left (by decide)),λ _=>o3⟩;unfold nq jX;generalize tZ=f1,qu=f2,pC=f3,vO=f4,yh (zQ F m)=tt,w_ o=dd,F.os.map kt=OS,zr F=fl,zj q=pq,kt false=ko,(T.str "keeper")=ks,zK false=ee at *;simp only[zi] at hw1;simp[h1,h2,hw1,ho,hk,hr,o1]
end
section
variable {F:zx}{m:Nat}
def Wg (i:Int):pE [.int i]=some (.bl true):=by
 have ii:vY "int" "int"=true:=by decide
 have ib:vY "int" "bool"=false:=by decide
 unfold pE cV;simp[ii,ib]
def Wk {p i:Nat}{w:Wy}(h:F.ws[i]?=some w) (hf:w.f=p):qp [zr F,.int (p:Int),.int (i:Int)]=some (.bl true):=by
 have h1:=Wg (i:Int);have hw2:=mJ F;have k2:xi [.tup (F.ws.map zR)]=some (.int (F.ws.length:Int)):=by simp
 have h7:L2.zY (F.ws.map zR) (i:Int)=some (zR w):=x_ (by rw[Aw,h];rfl);have h8:zi (zR w) (.int 0)=some (.int (p:Int)):=by simp[zR,hf]
 have l2:(i:Int)<(F.ws.length:Int):=by
  have:=(AL.mp h).1;lia
 have i0:(0:Int)<=(i:Int):=by lia
 have e2:zK false (.int (p:Int)) (.int (p:Int))=some (.bl true):=by simp[eq_int]
 unfold qp cZ;generalize (i:Int)=ii at *;generalize (F.ws.length:Int)=wl at *;generalize F.ws.map zR=WS,pE=f1,zr F=fl,zR w=wt,xi=ln,zK false=ee at *;simp only[zi] at hw2 h8;simp[h1,i0,hw2,k2,yy,l2,h7,h8,e2]
def N_ {l:List Bd}{p:Nat}{q:Int×Int}(h:((yB F p q).any λ r=>(uk F p).any (yz F l r))=false):vi F l p 0 (yB F p q)=none:=by
 cases hd:vi F l p 0 (yB F p q) with
 | none=>rfl
 | some x=>
  obtain⟨_,r,w,g1,g2,g3,g4⟩:=eS hd;have:((yB F p q).any λ r=>(uk F p).any (yz F l r))=true:=AR.mpr ⟨r,AX g1,AR.mpr ⟨w,A0.mpr ⟨AX g2,by simp[g3]⟩,g4⟩⟩;rw[h] at this;cases this
def Lv (R:tV F m) {p:Nat}(hp:p<F.os.length) {q:Int×Int}(hq:xn F q):pF [zr F,yh (zQ F m),.int (p:Int),zj q,if F.os.getD p false=true then dT (vi F (zE F m) p 0 (yB F p q)) else .zh]=some (.bl true):=by
 have hw1:=ju F;have hw2:=mJ F;have ho:=kW hp;have hk:=Ox (F.os.getD p false);have hlast:=Vq (F:=F) (m:=m);have El:yh (zQ F m)=.lst ((zQ F m).map rT):=rfl;have Be:=rS (zE F m) p (by rw[R.fx.len];exact hp);have hheld:=c8 (bT ((zE F m).getD p [])) ((zE F m).getD p []) q rfl;have CY:=R.fx.go p hp q hq;have i0:yE false .zh .zh=some (.bl true):=rfl;rw[El];cases hb:F.os.getD p false with
 | false=>
  rw[hb] at ho hk;rw[if_neg (by decide)];unfold pF l_;generalize (zQ F m).map rT=TT,F.os.map kt=OS,zr F=fl,zj q=pq,kt false=ko,(T.str "taker")=ks,zK false=ee at *;simp only[zi] at hw1;simp[hw1,ho,hk,i0]
 | true=>
  rw[hb] at ho hk;rw[if_pos rfl];unfold mG at CY;rw[if_pos hb] at CY;cases hc:zM ((zE F m).getD p []) q with
  | false=>
   rw[hc] at hheld CY;rw[N_ CY.symm];unfold pF l_;generalize bT ((zE F m).getD p [])=bt,rT (zE F m)=rl,(zQ F m).map rT=TT,rp=f1,F.os.map kt=OS,zr F=fl,zj q=pq,kt true=ko,(T.str "taker")=ks,zK false=ee at *;simp only[zi] at hw1 Be;simp[hw1,ho,hk,hlast,Be,hheld,i0,dT]
  | true=>
   rw[hc] at hheld CY;obtain⟨x,hx⟩:=Xb (k:=0) CY.symm;rw[hx];obtain⟨_,r,w,g1,g2,g3,g4⟩:=eS hx;rw[Nat.sub_zero] at g1;have Ef:=R.fx.ok.ws w (AX g2);have h1:=Wk g2 g3;have h2:=LF R.fx.ok R.fx.pw p hq;have h3:=Wg (x.1:Int);have h4:=Wq F r w;unfold yz at g4;cases hs:sj F r w with
   | none=>rw[hs] at g4;cases g4
   | some r'=>
    rw[hs] at g4 h4;dsimp only at g4;simp only[x9] at h4;have h5:=c8 (bT ((zE F m).getD w.t [])) ((zE F m).getD w.t []) r' rfl;rw[g4] at h5;have hix2:=rS (zE F m) w.t (by rw[R.fx.len];exact Ef.2);have h6:L2.zY ((yB F p q).map zj) (x.1:Int)=some (zj r):=x_ (by rw[Aw,g1];rfl);have h7:L2.zY (F.ws.map zR) (x.2:Int)=some (zR w):=x_ (by rw[Aw,g2];rfl);have h9:zi (zR w) (.int 1)=some (.int (w.t:Int)):=by simp[zR]
    have k1:xi [.lst ((yB F p q).map zj)]=some (.int ((yB F p q).length:Int)):=by simp
    have l1:¬ ((yB F p q).length:Int)<=(x.1:Int):=by
     have:=(AL.mp g1).1;lia
    have z1:¬ (x.1:Int)<0:=by lia
    have it:vY "tuple" "tuple"=true:=by decide
    have kl:xi [.tup [.int (x.1:Int),.int (x.2:Int)]]=some (.int 2):=by simp
    have e2:zK true (.int 2) (.int 2)=some (.bl false):=by simp[eq_int]
    have i2:yE true (zj r') .zh=some (.bl true):=rfl;rw[show dT (some x)=.tup [.int (x.1:Int),.int (x.2:Int)] from rfl];unfold pF l_;generalize (x.1:Int)=x1,(x.2:Int)=x2,((yB F p q).length:Int)=cl,(yB F p q).map zj=CC,F.ws.map zR=WS,bT ((zE F m).getD p [])=bt,bT ((zE F m).getD w.t [])=bt2,rT (zE F m)=rl,(zQ F m).map rT=TT,rp=f1,lL=f2,qp=f3,pE=f4,qq=f5,F.os.map kt=OS,zr F=fl,zR w=wt,zj r'=pr' at *;generalize zj r=pr at *;generalize zj q=pq,kt true=ko,(T.str "taker")=ks,zK=ee,xi=ln,yE=si at *;simp only[zi] at hw1 hw2 Be hix2 h9;simp[hw1,ho,hk,hlast,Be,hheld,it,kl,e2,h1,h2,h3,yy,z1,k1,l1,hw2,h7,h6,h4,i2,h9,hix2,h5]
def Lu (R:tV F m) (hm:m<=5000) {p:Nat}(hp:p<F.os.length) {q:Int×Int}(hq:xn F q) {o:Option Nat}(o2:(F.os.getD p false=true\/wL (zQ F m) p q=none)->o=none) (o3:F.os.getD p false=false->∀ k,wL (zQ F m) p q=some k->∃ (i:Nat) (w:Wy),o=some i/\F.ws[i]?=some w/\w.f=p/\yz F (zE F (k-1)) q w=false):qo [zr F,yh (zQ F m),.int (p:Int),zj q,w_ o]=some (.bl true):=by
 have hw1:=ju F;have hw2:=mJ F;have ho:=kW hp;have hk:=Yf (F.os.getD p false);have h5:(zQ F m).length<=100000:=by rw[kr];lia
 have h1:=Wm (zQ F m) F.os.length p q (kq R).1 hp h5;have i0:yE false .zh .zh=some (.bl true):=rfl;cases hb:F.os.getD p false with
 | true=>
  rw[hb] at ho hk;rw[o2 (.inl hb)];generalize w_ (wL (zQ F m) p q)=dd at *;unfold qo nI;generalize yh (zQ F m)=TT,rq=f1,F.os.map kt=OS,zr F=fl,zj q=pq,kt true=ko,(T.str "keeper")=ks,zK false=ee at *;simp only[zi] at hw1;simp[h1,hw1,ho,hk,i0,w_]
 | false=>
  rw[hb] at ho hk;cases hd:wL (zQ F m) p q with
  | none=>
   rw[hd] at h1;rw[o2 (.inr hd)];unfold qo nI;generalize yh (zQ F m)=TT,rq=f1,F.os.map kt=OS,zr F=fl,zj q=pq,kt false=ko,(T.str "keeper")=ks,zK false=ee at *;simp only[zi] at hw1;simp only[w_] at h1 ⊢;simp[h1,hw1,ho,hk,i0]
  | some k=>
   rw[hd] at h1;obtain⟨k1,k2⟩:=eO hd;have k0:k≠0:=λ h=>YU hp hq (by rw[hd,h]);obtain⟨i,w,rfl,g2,g3,g4⟩:=o3 hb k hd;have Ef:=R.fx.ok.ws w (AX g2);have h2:=Wk g2 g3;have h4:=Wq F q w;have h7:L2.zY (F.ws.map zR) (i:Int)=some (zR w):=x_ (by rw[Aw,g2];rfl);have h9:zi (zR w) (.int 1)=some (.int (w.t:Int)):=by simp[zR]
   have i1:yE false (.int (k:Int)) .zh=some (.bl false):=rfl;unfold yz at g4;cases hs:sj F q w with
   | none=>
    rw[hs] at h4;unfold qo nI;generalize yh (zQ F m)=TT,rq=f1,qp=f2,qq=f3,F.ws.map zR=WS,F.os.map kt=OS,zr F=fl,zR w=wt,zj q=pq,kt false=ko,(T.str "keeper")=ks,zK false=ee at *;simp only[zi] at hw1 hw2;simp only[w_] at h1 ⊢;simp only[x9] at h4;simp[h1,hw1,ho,hk,i1,h2,hw2,h7,h4,i0]
   | some r'=>
    rw[hs] at h4 g4;dsimp only at g4;obtain⟨j,hj,hdj⟩:=NM (m:=m) (k:=k-1) (by lia) g4;have h6:=Wm (zQ F m) F.os.length w.t r' (kq R).1 Ef.2 h5;rw[hdj] at h6;have Dr:(j:Int)<(k:Int):=by lia
    have i2:yE false (zj r') .zh=some (.bl false):=rfl;have i3:yE true (.int (j:Int)) .zh=some (.bl true):=rfl;unfold qo nI;generalize yh (zQ F m)=TT,rq=f1,qp=f2,qq=f3,F.ws.map zR=WS,F.os.map kt=OS,zr F=fl,zR w=wt at *;simp only[x9] at h4;generalize zj r'=pr',zj q=pq,kt false=ko,(T.str "keeper")=ks,zK false=ee at *;simp only[zi] at hw1 hw2 h9;simp only[w_] at h1 h6 ⊢;generalize (k:Int)=ki at *;generalize (j:Int)=ji at *;generalize yE=si at *;simp[h1,hw1,ho,hk,i1,h2,hw2,h7,h4,i2,h9,h6,i3,yy,Dr]
def Ot (R:tV F m) (hm:m<=5000) (hr:vO [zr F]=some (yh (zQ F m))) (hB:qw [zr F]=some (rT (zE F m))) (sc:T) (x:Nat×(Int×Int)) (hx:lI F x):
  ∃ J',yF [3,4] J'=[some (.im sc),some (.im (zr F)),some (.im (yh (zQ F m))),none,none]/\turn (xP 2 (yk (zB 3) (yk (zB 4) wu))) oW (xk x) [some (.im sc),some (.im (zr F)),some (.im (yh (zQ F m))),none,none]=some (if (λ _:Nat×(Int×Int)=>false) x=true then .rt (.bl false) else .nx J'):=by
 have hq:xn F x.2:=hx.2;have h1:=Lx R hB hx.1 hq;have h2:=Lv R hx.1 hq;obtain⟨o,h3,o2,o3⟩:=Lj R hr hx.1 hq;have h4:=Lu R hm hx.1 hq o2 o3;refine⟨[some (.im sc),some (.im (zr F)),some (.im (yh (zQ F m))),some (.im (.int (x.1:Int))),some (.im (zj x.2))],by simp,?_⟩;have ha:xk x=.tup [.int (x.1:Int),zj x.2]:=rfl;rw[ha,if_neg (λ h=>nomatch h)];unfold turn oW;generalize (if F.os.getD x.1 false=true then dT (vi F (zE F m) x.1 0 (yB F x.1 x.2)) else T.zh)=dd,w_ o=ww,lM=f1,pF=f2,nq=f3,qo=f4,yh (zQ F m)=tt,zr F=fl,zj x.2=pq at *;simp[h1,h2,h3,h4]
end
def VM {α:Type}(xs:List α) (k:Int) (hk:1<=k):(xB xs k).length<=xs.length:=by
 unfold xB iB;refine Bi (List.length_filterMap_le _ _) ?_;unfold sliceRange sliceBounds;simp only[Option.getD_some,show k>0 from by lia,if_true,Az,Bz];split
 .have:=ceilDiv_le (xs.length:Int) k (by lia) hk;simp at *;lia
 .simp
def Ou (ns:List Int) (_:ns.length<=63):nE [z_ ns]=some (.bl true):=by
 obtain⟨F,h1,ok,hw,CT⟩:=Ly ns;obtain⟨more,hr,hn,hmo,hR⟩:=Ln ok;have n1:=ok.n1;have Ai:List.range F.os.length≠[]:=λ h=>by
  have h2:=congrArg List.length h;rw[Bz] at h2;rw[h2] at n1;exact absurd n1 (by decide)
 obtain⟨m,e,AH⟩:=aK ok hw 2000 [] 0 (List.range F.os.length) _ (St.start ok) Ai rfl hR;have hm:m<=5000:=by
  have:=congrArg List.length e;simp at this;lia
 have e':RN.start F::more=(List.range m).map (zE F)++[zE F m]:=by rw[e,D1,Bh];rfl
 have hB:qw [zr F]=some (rT (zE F m)):=LM (by rw[<- e'];exact hr);have ht:RN.start F::more=zQ F m:=e;rw[ht] at hr hn;have EH:∀ k,k<=m->∀ b∈zE F k,Gd F.A F.B b:=λ k hk=>(hn (zE F k) (Ap.mpr ⟨k,AE.mpr (by lia),rfl⟩)).2;have R:tV F m:=⟨N2 ok CT (EH m (Ag _)) AH,EH⟩
 have En:=kr F m;have hr':vO [zr F]=some (yh (zQ F m)):=hr;obtain⟨L,h5,h6,h7⟩:=LN ok ns (zQ F m) (λ h=>by rw[h] at En;simp at En) hn;have hturn:=λ x hx=>Ot R hm hr' hB (z_ ns) x hx;clear hB e e' ht EH;have hlen:(zQ F m).length<=100000:=by rw[En];lia
 obtain⟨st,AH,s1⟩:∃ st:Int,(1:Int)+4*(if (40:Int)<((zQ F m).length:Int) then 1 else 0)=st/\1<=st:=⟨_,rfl,by split <;> lia⟩
 have CB:∀ y∈xB (L.map xk) st,∃ x∈L,xk x=y:=λ y hy=>by
  have:=VL hy;obtain⟨x,hx,e⟩:=Ap.mp this;exact⟨x,hx,e⟩
 have conv:∀ ys:List T,(∀ y∈ys,∃ x∈L,xk x=y)->∃ L':List (Nat×(Int×Int)),ys=L'.map xk/\∀ x∈L',lI F x:=λ ys=>by
  induction ys with
  | nil=>exact λ _=>⟨[],rfl,nofun⟩
  | cons y ys ih=>
   intro h;obtain⟨L',e1,e2⟩:=ih λ z hz=>h z (Av _ hz);obtain⟨x,hx,e⟩:=h y Am;refine⟨x::L',by rw[Ar,e,e1],λ z hz=>?_⟩;rcases Ah.mp hz with q | q
   .subst q;exact h7 _ hx
   .exact e2 z q
 obtain⟨L',e1,e2⟩:=conv _ CB;have A8:(xB (L.map xk) st).length<=16777216:=by
  have:=VM (L.map xk) st s1;simp only[Az] at this;lia
 have hloop:=fJ (is:=[3,4]) (g:=xP 2 (yk (zB 3) (yk (zB 4) wu))) (b:=oW) xk (λ _=>false) (.bl false) [some (.im (z_ ns)),some (.im (zr F)),some (.im (yh (zQ F m))),none,none] L' [some (.im (z_ ns)),some (.im (zr F)),some (.im (yh (zQ F m))),none,none] (by simp) λ x hx=>hturn x (e2 x hx);have EU:L'.any (λ _=>false)=false:=by simp
 rw[EU,if_neg (by decide)] at hloop;rw[<- e1] at hloop;have Al:xi [yh (zQ F m)]=some (.int ((zQ F m).length:Int)):=by simp[yh]
 clear hr hturn hn;have Ez:∀ j:Int,xC (.int 4) (.int j)=some (.int (4*j)):=λ j=>ot (.inl ⟨by decide,by decide⟩);unfold nE bj;generalize oW=bb,nB=f1,vO=f2,nD=f3,L.map xk=LL,xi=ln,yh (zQ F m)=tt,(zQ F m).length=tl,zr F=fl,z_ ns=sc,xC=mw at *;generalize hS:xB LL st=SL at *;by_cases c:(40:Int)<(tl:Int)
 .rw[if_pos c] at AH;subst AH;have c':40<tl:=by lia
  simp[h1,hr',h5,Al,c,c',Ez] at hS hloop ⊢;simp[hS,A8,hloop]
 .rw[if_neg c] at AH;subst AH;have c':¬ 40<tl:=by lia
  simp[h1,hr',h5,Al,c,c',Ez] at hS hloop ⊢;simp[hS,A8,hloop]
end yj
namespace PySem.W.Fast
def tw2761568869695261279:=0
def te3336501603352826688:=0
def tw6321317382304786402:=0
def tw6462168236263959869:=0
def tw14407031137792337544:=0
def tw3041273166444339591:=0
def tw17067005340760082267:=0
def tw4537293174378377975:=0
def tw4658839229310438118:=0
def tw4117816286861236609:=0
def tw5783565594375334317:=0
def tw14872508376913934027:=0
def tw17591382671423856401:=0
def tw15170248018237581217:=0
def tw17674789073383557270:=0
def tw16574169069897089897:=0
def tw8959087292920711108:=0
def tw14796316804620121957:=0
def tw3179647285782204732:=0
def tw6888947122749893103:=0
def tw2780014396512879418:=0
def tw13278839124187276711:=0
def tw12049607530707759148:=0
def tw16969253742855051517:=0
def tw9117559059047401094:=0
def tw9926710098262423833:=0
def tw1617850558003265234:=0
def tw13917661962192448249:=0
def tw3315159232683801303:=0
def tw4983558798605682268:=0
def tw11977089095471321188:=0
def tw15347907889571542839:=0
def tw4314055170596014712:=0
def tw14102220160275163254:=0
def tw14478571999731624962:=0
def tw14631327989998313904:=0
def tw4133411691680285626:=0
def tw3245501741337096269:=0
def tw8886121832825759860:=0
def tw16310829262357939433:=0
def tw15886042019490187342:=0
def tw10607647406521125473:=0
def tw10389514529309789817:=0
def tw15943625132910063203:=0
def tw1787365869782457833:=0
def tw13939708977650608312:=0
def tw4038766958876218535:=0
def tw13552097482442338080:=0
def tw11934165354304442829:=0
def tw10342416519552617519:=0
def tw10160408093608042634:=0
def tw5462501478325230447:=0
def tw7858695971059764489:=0
def tw17002000243497622821:=0
def tw8593011101415481824:=0
def tw18337404501970569428:=0
def tw16933818211039937013:=0
def tw11942221551046922627:=0
def tw10208706002956747166:=0
def tw284927153051362148:=0
def tw943448930440823040:=0
def tw4641461795835526411:=0
def tw9101002469579692186:=0
def tw4622226012932307080:=0
def tw12481496484897795305:=0
def tw9552001217314837684:=0
def tw13518627431479677523:=0
def tw8848018209726428370:=0
def tw17859991329208501924:=0
def tw12998830880361960145:=0
def tw4000386607638657834:=0
def tw2448026523103348437:=0
def tw12943696722220933178:=0
def tw8294211932937352568:=0
def tw9728284827010975642:=0
def tw34724458158688787:=0
def tw857044018838521705:=0
def tw87639011584449155:=0
def tw4370554699182668571:=0
def tw9634366486445243970:=0
def tw16296628778400185410:=0
def tw3432751690445759352:=0
def tw1199922107032627864:=0
def tw12555570504017666531:=0
def tw2697912813024473163:=0
def tw15592046755165736087:=0
def tw2402736059679214312:=0
def tw5981858982561866603:=0
def tw11447605109353385572:=0
def tw2497792879340500092:=0
def tw15163787361018633304:=0
def tw10228097482031198607:=0
def tw14950560456258153260:=0
def tw16104562098246636376:=0
def tw7771103279758909277:=0
def tw11865380975095108023:=0
def tw15026252571805975925:=0
def tw10628070089981518603:=0
def tw6819829042212069252:=0
def tw3038593662990159684:=0
def tw600884060969192446:=0
def tw3521456831820526509:=0
def tw4791086933990176650:=0
def tw17829644540972712141:=0
def tw1105249342332801998:=0
def tw9427795536287657249:=0
def tw7110366513142347904:=0
def tw18398874375955015429:=0
def tw14496797603416147229:=0
def tw15384222206605500478:=0
def tw14426864453435317051:=0
def tw9160266106955089919:=0
def tw10625961406897406891:=0
def tw9768412531695140829:=0
def tw9529144407314421372:=0
def tw11441137025354236764:=0
def tw16765071577891872374:=0
def tw11648737791261550972:=0
def tw12218478783610238271:=0
def tw14285844588502158221:=0
def tw420298986556654197:=0
def tw10558396971814448996:=0
def tw12130092759695402501:=0
def tw10554547193224368163:=0
def tw9534367781035329638:=0
def tw7378560982044921200:=0
def tw4217700185784225213:=0
def tw1029148863370744596:=0
def tw12057956863012916211:=0
def tw16947671816491439618:=0
def tw15118772333855889916:=0
def tw10821066317585204265:=0
def tw4240514841042101184:=0
def tw10100002993989288457:=0
def tw593817977501394012:=0
def tw17829448155868383241:=0
def tw8450399150120619271:=0
def tw13826687642371087346:=0
def tw18087146702217589397:=0
def tw4804124592537896485:=0
def tw18417802845402202759:=0
def tw12304155097882450158:=0
def tw4808022687904347336:=0
def tw18201577226015631379:=0
def tw4071388991113513251:=0
def tw8694484222635518051:=0
def tw5026839228321486183:=0
def tw9614811081191811766:=0
def tw7901677448142486054:=0
def tw15590955803489766441:=0
def tw5631022497310427869:=0
def tw4343299383117455070:=0
def tw2322875571628127839:=0
def tw15485888769677898707:=0
def tw15940929473509989609:=0
def tw7512302432147409344:=0
def tw6382055864440829820:=0
def tw3988494284587524851:=0
def tw13030274931455167139:=0
def tw10954272724264924629:=0
def tw12247113147558480059:=0
def tw11454825531098924233:=0
def tw10036913269665251685:=0
def tw4097484377992976807:=0
def tw5155445304950325475:=0
def tw10045238689831852516:=0
def tw16090832556429124500:=0
def tw1199349238230690847:=0
def tw11050599541023682326:=0
def tw983417762896468428:=0
def tw3011293779496813102:=0
def tw12439763503432427048:=0
def tw4574298830661667672:=0
def tw12445942425489387408:=0
def tw6572952467587738375:=0
def tw2900813139479885711:=0
def tw15277073712228488588:=0
def tw3204424162119233615:=0
def tw3763764403777745538:=0
def tw2875928657700056687:=0
def tw7465780598022097726:=0
def tw14229192061202793988:=0
def tw5197518517134334115:=0
def tw7190459365420857950:=0
def tw8984820454237249956:=0
def tw3744521029013409566:=0
def tw2590801714593700406:=0
def tw4566480386170041103:=0
def tw13672231444840652221:=0
def tw14803678830678483070:=0
def tw3502522102272982349:=0
def tw11332497754189514912:=0
def tw5775704819319499454:=0
def tw15399289444727721736:=0
def tw1852196071710755462:=0
def tw13380904310285335884:=0
def tw10796293145499018613:=0
def tw14722881094804235436:=0
def tw3029186782971242428:=0
def tw1407600351174848806:=0
def tw2891282301737160393:=0
def tw8852002595184381938:=0
def tw600304668771490729:=0
def tw15876941585291522839:=0
def tw7259392768666797847:=0
def tw10411682729521860980:=0
def tw2974690676339213959:=0
def tw1207775206817905917:=0
def tw166694102957300545:=0
def tw10685363876725237410:=0
def tw8758568614325286314:=0
def tw2956157108948472250:=0
def tw12913855798537666040:=0
def tw9961014464216980689:=0
end PySem.W.Fast
namespace yj
open PySem L2 L3 L5
open PyProof.Rows hiding St
def yf (i:Nat):Stmt:=PySem.Challenge.pw_purseborder_k43_deeds_and_ways_told.main.body.getD i (.Pass ⟨0,0,0,0⟩)
abbrev gs:Stmt:=yf 6
abbrev gr:Stmt:=yf 7
abbrev kI:Stmt:=yf 8
abbrev iR:Stmt:=yf 9
abbrev gz:Stmt:=yf 10
abbrev g9:Stmt:=yf 11
abbrev kE:Stmt:=yf 12
abbrev iQ:Stmt:=yf 13
abbrev gG:Stmt:=yf 15
abbrev iU:Stmt:=yf 16
abbrev kJ:Stmt:=yf 17
abbrev nS:Stmt:=yf 18
abbrev gw:Stmt:=yf 19
abbrev nU:Stmt:=yf 21
abbrev iT:Stmt:=yf 22
abbrev gF:Stmt:=yf 23
abbrev gD:Stmt:=yf 24
abbrev gE:Stmt:=yf 25
abbrev nR:Stmt:=yf 26
abbrev kH:Stmt:=yf 27
abbrev kG:Stmt:=yf 28
abbrev gu:Stmt:=yf 29
abbrev iP:Stmt:=yf 31
abbrev gA:Stmt:=yf 32
abbrev gB:Stmt:=yf 33
abbrev gC:Stmt:=yf 35
abbrev iV:Stmt:=yf 36
abbrev gy:Stmt:=yf 37
abbrev gq:Stmt:=yf 38
abbrev kF:Stmt:=yf 39
abbrev iO:Stmt:=yf 40
abbrev gi:Stmt:=yf 42
abbrev gf:Stmt:=yf 43
abbrev gj:Stmt:=yf 44
abbrev i_:Stmt:=yf 45
abbrev iX:Stmt:=yf 46
abbrev iZ:Stmt:=yf 47
abbrev hX:Stmt:=yf 48
abbrev gk:Stmt:=yf 49
abbrev gh:Stmt:=yf 50
abbrev hV:Stmt:=yf 51
abbrev iW:Stmt:=yf 52
abbrev hZ:Stmt:=yf 53
abbrev hJ:Stmt:=yf 54
abbrev h_:Stmt:=yf 55
abbrev iY:Stmt:=yf 56
abbrev gm:Stmt:=yf 57
abbrev gp:Stmt:=yf 58
def Ut:yb ["thing"] ["thing"] (zD gs):=⟨rfl,rfl,rfl,by decide +kernel,rfl,by decide +kernel,by decide +kernel⟩
def Uk:yb ["floor"] ["floor"] (zD iR):=⟨rfl,rfl,rfl,by decide +kernel,rfl,by decide +kernel,by decide +kernel⟩
def U0:yb ["pair","other"] ["pair","other"] (zD gG):=⟨rfl,rfl,rfl,by decide +kernel,rfl,by decide +kernel,by decide +kernel⟩
def iI:yb ["pairs","least","pair"] ["pairs"] (zD iU):=⟨rfl,rfl,rfl,by decide +kernel,rfl,by decide +kernel,by decide +kernel⟩
def qD:yb ["brims","stall","pair","purse","pairs","given","got"] ["brims","stall","pair"] (zD iT):=⟨rfl,rfl,rfl,by decide +kernel,rfl,by decide +kernel,by decide +kernel⟩
def k8:yb ["floor","pair","way","coins","first","second"] ["floor","pair","way"] (zD iP):=⟨rfl,rfl,rfl,by decide +kernel,rfl,by decide +kernel,by decide +kernel⟩
def kA:yb ["brims","stall","pair","times","purse","left","got"] ["brims","stall","pair","times"] (zD gA):=⟨rfl,rfl,rfl,by decide +kernel,rfl,by decide +kernel,by decide +kernel⟩
def Uq:yb ["_law_script","_law_k"] ["_law_script","_law_k"] (zD gi):=⟨rfl,rfl,rfl,by decide +kernel,rfl,by decide +kernel,by decide +kernel⟩
def Uo:yb ["_law_number"] ["_law_number"] (zD gf):=⟨rfl,rfl,rfl,by decide +kernel,rfl,by decide +kernel,by decide +kernel⟩
def iL:yb ["_law_floor_here","_law_pair","_law_way_here","_law_first_here","_law_second"] ["_law_floor_here","_law_pair","_law_way_here"] (zD gk):=⟨rfl,rfl,rfl,by decide +kernel,rfl,by decide +kernel,by decide +kernel⟩
def qF:yb ["_law_floor_here","_law_place","_law_pair","_law_found","_law_home","_law_purse","_law_give","_law_get","_law_coins_here"] ["_law_floor_here","_law_place","_law_pair"] (zD gh):=⟨rfl,rfl,rfl,by decide +kernel,rfl,by decide +kernel,by decide +kernel⟩
def iJ:yb ["_law_border","_law_pair","_law_x","_law_y"] ["_law_border","_law_pair"] (zD hV):=⟨rfl,rfl,rfl,by decide +kernel,rfl,by decide +kernel,by decide +kernel⟩
def Ul:yb ["_law_found"] ["_law_found"] (zD iW):=⟨rfl,rfl,rfl,by decide +kernel,rfl,by decide +kernel,by decide +kernel⟩
def Us:yb ["thing","least","most"] ["thing","least","most"] (zD gr):=⟨rfl,rfl,rfl,by decide +kernel,rfl,by decide +kernel,by decide +kernel⟩
def Uv:yb ["border","pair"] ["border","pair"] (zD kJ):=⟨rfl,rfl,rfl,by decide +kernel,rfl,by decide +kernel,by decide +kernel⟩
def qH:yb ["border","other","steps","lows","shared","first","side","second"] ["border","other"] (zD nS):=⟨rfl,rfl,rfl,by decide +kernel,rfl,by decide +kernel,by decide +kernel⟩
def Uw:yb ["border","other"] ["border","other"] (zD gw):=⟨rfl,rfl,rfl,by decide +kernel,rfl,by decide +kernel,by decide +kernel⟩
def aF:yb ["brims","way","border","pairs"] ["brims","way","border"] (zD nU):=⟨rfl,rfl,rfl,by decide +kernel,rfl,by decide +kernel,by decide +kernel⟩
def iK:yb ["_law_script","_law_many","_law_number","_law_found"] ["_law_script","_law_many"] (zD gj):=⟨rfl,rfl,rfl,by decide +kernel,rfl,by decide +kernel,by decide +kernel⟩
def nP:yb ["_law_script","_law_many","_law_number","_law_found","_law_place"] ["_law_script","_law_many"] (zD i_):=⟨rfl,rfl,rfl,by decide +kernel,rfl,by decide +kernel,by decide +kernel⟩
def uo:yb ["_law_script","_law_many","_law_number","_law_wide","_law_found","_law_place","_law_size","_law_k","_law_at","_law_drawn","_law_rest"] ["_law_script","_law_many"] (zD iX):=⟨rfl,rfl,rfl,by decide +kernel,rfl,by decide +kernel,by decide +kernel⟩
def qE:yb ["_law_script","_law_owners_here","_law_found","_law_place","_law_drawn","_law_rest","_law_give","_law_get"] ["_law_script","_law_owners_here"] (zD iZ):=⟨rfl,rfl,rfl,by decide +kernel,rfl,by decide +kernel,by decide +kernel⟩
def aD:yb ["_law_told","_law_place","_law_pair","_law_k"] ["_law_told","_law_place","_law_pair"] (zD hZ):=⟨rfl,rfl,rfl,by decide +kernel,rfl,by decide +kernel,by decide +kernel⟩
def Um:yb ["_law_floor_here","_law_place","_law_number"] ["_law_floor_here","_law_place","_law_number"] (zD hJ):=⟨rfl,rfl,rfl,by decide +kernel,rfl,by decide +kernel,by decide +kernel⟩
def t4:yb ["_law_script","_law_floor_here","_law_told","_law_many","_law_found","_law_k","_law_cell_here","_law_place","_law_border","_law_x","_law_y"] ["_law_script","_law_floor_here","_law_told"] (zD gm):=⟨rfl,rfl,rfl,by decide +kernel,rfl,by decide +kernel,by decide +kernel⟩
def Uu:yb ["thing","bounds"] ["thing","bounds"] (zD kI):=⟨rfl,rfl,rfl,by decide +kernel,rfl,by decide +kernel,by decide +kernel⟩
def Ux:yb ["floor","place"] ["floor","place"] (zD gz):=⟨rfl,rfl,rfl,by decide +kernel,rfl,by decide +kernel,by decide +kernel⟩
def kB:yb ["borders","joined","border"] ["borders"] (zD gD):=⟨rfl,rfl,rfl,by decide +kernel,rfl,by decide +kernel,by decide +kernel⟩
def kC:yb ["borders","joined","border"] ["borders"] (zD gE):=⟨rfl,rfl,rfl,by decide +kernel,rfl,by decide +kernel,by decide +kernel⟩
def iM:yb ["told","place","pair","number","held"] ["told","place","pair"] (zD gu):=⟨rfl,rfl,rfl,by decide +kernel,rfl,by decide +kernel,by decide +kernel⟩
def aC:yb ["floor","pair","way","held","behind"] ["floor","pair","way","held"] (zD iV):=⟨rfl,rfl,rfl,by decide +kernel,rfl,by decide +kernel,by decide +kernel⟩
def rJ:yb ["_law_script","_law_number","_law_many","_law_owners_here","_law_brims_here","_law_ways_here","_law_stalls_here"] ["_law_script"] (zD hX):=⟨rfl,rfl,rfl,by decide +kernel,rfl,by decide +kernel,by decide +kernel⟩
def k9:yb ["_law_floor_here","_law_told","_law_place","_law_pair","_law_found","_law_some","_law_way_here","_law_behind_here"] ["_law_floor_here","_law_told","_law_place","_law_pair","_law_found"] (zD h_):=⟨rfl,rfl,rfl,by decide +kernel,rfl,by decide +kernel,by decide +kernel⟩
def nN:yb ["_law_floor_here","_law_told","_law_place","_law_pair","_law_found","_law_steps","_law_way_here","_law_behind_here","_law_left"] ["_law_floor_here","_law_told","_law_place","_law_pair","_law_found"] (zD iY):=⟨rfl,rfl,rfl,by decide +kernel,rfl,by decide +kernel,by decide +kernel⟩
def Uy:yb ["floor","pair"] ["floor","pair"] (zD g9):=⟨rfl,rfl,rfl,by decide +kernel,rfl,by decide +kernel,by decide +kernel⟩
def Ui:yb ["floor","place"] ["floor","place"] (zD kE):=⟨rfl,rfl,rfl,by decide +kernel,rfl,by decide +kernel,by decide +kernel⟩
def aB:yb ["floor","place","stall"] ["floor","place"] (zD iQ):=⟨rfl,rfl,rfl,by decide +kernel,rfl,by decide +kernel,by decide +kernel⟩
def kD:yb ["floor","place","border","stall","pairs","pair"] ["floor","place","border"] (zD gF):=⟨rfl,rfl,rfl,by decide +kernel,rfl,by decide +kernel,by decide +kernel⟩
def aE:yb ["floor","place","pair","times","stall"] ["floor","place","pair","times"] (zD gB):=⟨rfl,rfl,rfl,by decide +kernel,rfl,by decide +kernel,by decide +kernel⟩
def aA:yb ["floor","place","pair","told","steps"] ["floor","place","pair","told"] (zD kF):=⟨rfl,rfl,rfl,by decide +kernel,rfl,by decide +kernel,by decide +kernel⟩
def iH:yb ["floor","place","last","ways","ahead"] ["floor","place","last"] (zD nR):=⟨rfl,rfl,rfl,by decide +kernel,rfl,by decide +kernel,by decide +kernel⟩
def qG:yb ["floor","place","pair","held","ways","times","ready","way"] ["floor","place","pair","held"] (zD gy):=⟨rfl,rfl,rfl,by decide +kernel,rfl,by decide +kernel,by decide +kernel⟩
def iG:yb ["floor","last","fresh","following","place"] ["floor","last","fresh"] (zD kH):=⟨rfl,rfl,rfl,by decide +kernel,rfl,by decide +kernel,by decide +kernel⟩
def pR:yb ["floor","told","fresh","last","following"] ["floor"] (zD kG):=⟨rfl,rfl,rfl,by decide +kernel,rfl,by decide +kernel,by decide +kernel⟩
def Uz:yb ["floor"] ["floor"] (zD gC):=⟨rfl,rfl,rfl,by decide +kernel,rfl,by decide +kernel,by decide +kernel⟩
def Uj:yb ["floor","place","pair"] ["floor","place","pair"] (zD iO):=⟨rfl,rfl,rfl,by decide +kernel,rfl,by decide +kernel,by decide +kernel⟩
def Ur:yb ["floor","place","pair"] ["floor","place","pair"] (zD gq):=⟨rfl,rfl,rfl,by decide +kernel,rfl,by decide +kernel,by decide +kernel⟩
def nQ:yb ["_law_script","_law_floor_here","_law_told","_law_place","_law_pair"] ["_law_script"] (zD gp):=⟨rfl,rfl,rfl,by decide +kernel,rfl,by decide +kernel,by decide +kernel⟩
section
variable (P:Program) (w:World) (K:Ad) (mg:Str->Option Value) (base:Heap)
abbrev WC:=FD P w K mg base "is_whole" 1 ["thing"] (zS zJ jR)
abbrev cA:=FD P w K mg base "places_of" 1 ["floor"] (zS zJ pD)
abbrev cJ:=FD P w K mg base "at_or_above" 1 ["pair","other"] (zS zJ nH)
abbrev lV:=FD P w K mg base "least_pairs" 1 ["pairs"] (zS zJ rm)
abbrev Wv:=FD P w K mg base "pairs_ahead_of_changes" 1 ["brims","stall","pair"] (zS zJ lJ)
abbrev Wu:=FD P w K mg base "step_by" 1 ["floor","pair","way"] (zS zJ nr)
abbrev WI:=FD P w K mg base "change_by" 1 ["brims","stall","pair","times"] (zS zJ pG)
abbrev pJ:=FD P w K mg base "_law_cell" 1 ["_law_script","_law_k"] (zS zJ yO)
abbrev W7:=FD P w K mg base "_law_coins" 1 ["_law_number"] (zS zJ r9)
abbrev cF:=FD P w K mg base "_law_behind" 1 ["_law_floor_here","_law_pair","_law_way_here"] (zS zJ qq)
abbrev W8:=FD P w K mg base "_law_changes" 1 ["_law_floor_here","_law_place","_law_pair"] (zS zJ lL)
abbrev cE:=FD P w K mg base "_law_held" 1 ["_law_border","_law_pair"] (zS zJ rp)
abbrev cC:=FD P w K mg base "_law_whole" 1 ["_law_found"] (zS zJ pE)
abbrev cG:=FD P w K mg base "is_whole_within" 2 ["thing","least","most"] (zS zJ lN)
abbrev cH:=FD P w K mg base "holds" 2 ["border","pair"] (zS zJ qt)
abbrev WK:=FD P w K mg base "both" 2 ["border","other"] (zS zJ lR)
abbrev WG:=FD P w K mg base "either" 2 ["border","other"] (zS zJ lP)
abbrev WO:=FD P w K mg base "border_ahead_of_way" 2 ["brims","way","border"] (zS zJ lU)
abbrev W9:=FD P w K mg base "_law_brims" 2 ["_law_script","_law_many"] (zS zJ nC)
abbrev W3:=FD P w K mg base "_law_owners" 2 ["_law_script","_law_many"] (zS zJ nA)
abbrev Wz:=FD P w K mg base "_law_ways" 2 ["_law_script","_law_many"] (zS zJ nv)
abbrev W2:=FD P w K mg base "_law_stalls" 2 ["_law_script","_law_owners_here"] (zS zJ ny)
abbrev W5:=FD P w K mg base "_law_first" 2 ["_law_told","_law_place","_law_pair"] (zS w9 rq)
abbrev cD:=FD P w K mg base "_law_is_way" 2 ["_law_floor_here","_law_place","_law_number"] (zS zJ qp)
abbrev WA:=FD P w K mg base "_law_asked" 2 ["_law_script","_law_floor_here","_law_told"] (zS zJ nD)
abbrev WD:=FD P w K mg base "is_row_within" 3 ["thing","bounds"] (zS zJ lO)
abbrev lW:=FD P w K mg base "check_place" 3 ["floor","place"] (zS zJ tZ)
abbrev WM:=FD P w K mg base "border_of_either" 3 ["borders"] (zS w9 lS)
abbrev WN:=FD P w K mg base "border_of_all" 3 ["borders"] (zS w9 lT)
abbrev WE:=FD P w K mg base "first_without" 3 ["told","place","pair"] (zS w9 nF)
abbrev cB:=FD P w K mg base "leads_into" 3 ["floor","pair","way","held"] (zS zJ rn)
abbrev W4:=FD P w K mg base "_law_floor" 3 ["_law_script"] (zS zJ nB)
abbrev W6:=FD P w K mg base "_law_deed" 3 ["_law_floor_here","_law_told","_law_place","_law_pair","_law_found"] (zS zJ pF)
abbrev W0:=FD P w K mg base "_law_way" 3 ["_law_floor_here","_law_told","_law_place","_law_pair","_law_found"] (zS zJ qo)
abbrev cI:=FD P w K mg base "check_pair" 4 ["floor","pair"] (zS zJ qu)
abbrev jU:=FD P w K mg base "ways_from" 4 ["floor","place"] (zS zJ uN)
abbrev c9:=FD P w K mg base "stall_at" 4 ["floor","place"] (zS w9 tY)
abbrev WQ:=FD P w K mg base "border_ahead_of_changes" 5 ["floor","place","border"] (zS w9 nG)
abbrev WJ:=FD P w K mg base "change_at" 5 ["floor","place","pair","times"] (zS zJ pH)
abbrev Ws:=FD P w K mg base "way_out_of" 5 ["floor","place","pair","told"] (zS w9 pC)
abbrev Wx:=FD P w K mg base "next_border" 6 ["floor","place","last"] (zS w9 lK)
abbrev WH:=FD P w K mg base "deed_into" 6 ["floor","place","pair","held"] (zS zJ lQ)
abbrev Ww:=FD P w K mg base "next_round" 7 ["floor","last","fresh"] (zS zJ nu)
abbrev jV:=FD P w K mg base "rounds" 8 ["floor"] (zS zJ vO)
abbrev WL:=FD P w K mg base "borders" 9 ["floor"] (zS w9 qw)
abbrev Wt:=FD P w K mg base "taker_way" 9 ["floor","place","pair"] (zS w9 nq)
abbrev WB:=FD P w K mg base "keeper_deed" 10 ["floor","place","pair"] (zS zJ lM)
variable {K mg} (T:Bt mg) (U:Bq mg)
include T U
theorem QK (F:Fy K mg "is_whole" gs):WC P w K mg base:=
 yi (k:=0) F Ut rfl (λ _ _ _ _ _ _=>tR λ _=>rfl) λ f Af A outer s H E hr=>⟨_,
  (zy (zI (sN (Zq T (za 0 (pv 0))) (rL (Zn (Zr T (za 0 (pv 0)))))))),
  (by unfold bq;exact okA)⟩
theorem Qp (F:Fy K mg "places_of" iR):cA P w K mg base:=
 yi (k:=0) F Uk rfl (λ _ _ _ _ _ _=>tR λ _=>rfl) λ f Af A outer s H E hr=>⟨_,
  (zy (zI (vt T.len (ze (zu (za 0 (pv 0)) zg) zo)))),
  (by unfold cP;exact okA)⟩
theorem Pl (F:Fy K mg "at_or_above" gG):cJ P w K mg base:=
 yi (k:=0) F U0 rfl (λ _ _ _ _ _ _=>v8 λ _ _=>rfl) λ f Af A outer s H E hr=>⟨_,
  (zy (zI (sN (Zu (zu (za 0 (pv 0)) zg) (zu (za 1 (pv 1)) zg)) (rL (Zu (zu (za 0 (pv 0)) zg) (zu (za 1 (pv 1)) zg)))))),
  (by unfold bE;exact okA)⟩
theorem Qy (F:Fy K mg "least_pairs" iU):lV P w K mg base:=
 yi (k:=0) F iI rfl (λ _ _ _ _ _ _=>tR λ _=>rfl) λ f Af A outer s H E hr=>⟨_,
  (zw (zH 1 iI.nd (xX zo))
  (zw (wI PassesOwn.never rfl (wq (Zm T.sorted (ze (za 0 (pv 0)) zo))) (yp 2 iI.nd) (zy (yx (xM.pt (uP (vA (wH (za 1 (pv 1)))) (sF (t7 hr (zu (za 2 (pv 2)) zg) (zu (zu (za 1 (pv 1)) (rM zg)) zg))))) (zy (ve (sM (za 1 (pv 1)) (za 2 (pv 2))))) yw)))
  (zy (zI (oa T.tuple (ze (za 1 (pv 1)) zo)))))),
  (by unfold cU oT;exact okA)⟩
theorem Qq (F:Fy K mg "pairs_ahead_of_changes" iT):Wv P w K mg base:=
 yi (k:=0) F qD rfl (λ _ _ _ _ _ _=>v7 λ _ _ _=>rfl) λ f Af A outer s H E hr=>⟨_,
  (zw (zH 3 qD.nd (zu (za 1 (pv 1)) zg))
  (zw (zH 4 qD.nd (xX zo))
  (zw (zH 5 qD.nd (zu (za 2 (pv 2)) (za 3 (pv 3))))
  (zw (zH 6 qD.nd (zu (za 2 (pv 2)) (wR zg (za 3 (pv 3)))))
  (zw (kR PassesOwn.never (Sj (za 5 (pv 5)) (zu (za 0 (pv 0)) (za 3 (pv 3)))) (zw (ve (sM (za 4 (pv 4)) (SH (wA hr (za 3 (pv 3)) zg) (y9 (ze (za 5 (pv 5)) (ze (za 6 (pv 6)) zo))) (y9 (ze (za 6 (pv 6)) (ze (za 5 (pv 5)) zo))))))
  (zw (zH 5 qD.nd (xp (za 5 (pv 5)) (zu (za 1 (pv 1)) zg)))
  (zy (zH 6 qD.nd (oh T.max (ze zg (ze (wR (za 6 (pv 6)) (zu (za 1 (pv 1)) zg)) zo))))))))
  (zy (zI (za 4 (pv 4))))))))),
  (by unfold cQ qe;exact okA)⟩
theorem Qk (F:Fy K mg "step_by" iP):Wu P w K mg base:=
 yi (k:=0) F k8 rfl (λ _ _ _ _ _ _=>v7 λ _ _ _=>rfl) λ f Af A outer s H E hr=>⟨_,
  (zw (zH 3 k8.nd (SD (zu (zu (za 0 (pv 0)) zg) (za 2 (pv 2))) (Sv zg) Sy))
  (zw (zH 4 k8.nd (xp (zu (za 1 (pv 1)) zg) (zu (za 3 (pv 3)) zg)))
  (zw (zH 5 k8.nd (xp (zu (za 1 (pv 1)) zg) (zu (za 3 (pv 3)) zg)))
  (zw (yx (xM.pt (uP (t7 hr (za 4 (pv 4)) zg) (sF (t7 hr (za 5 (pv 5)) zg)))) (zy (zI xR)) yw)
  (zy (zI (y9 (ze (sL T.min (ze (za 4 (pv 4)) (ze (zu (zu (za 0 (pv 0)) zg) zg) zo))) (ze (sL T.min (ze (za 5 (pv 5)) (ze (zu (zu (za 0 (pv 0)) zg) zg) zo))) zo))))))))),
  (by unfold cM;exact okA)⟩
theorem Q_ (F:Fy K mg "change_by" gA):WI P w K mg base:=
 yi (k:=0) F kA rfl (λ _ _ _ _ _ _=>lC λ _ _ _ _=>rfl) λ f Af A outer s H E hr=>⟨_,
  (zw (zH 4 kA.nd (zu (za 1 (pv 1)) zg))
  (zw (zH 5 kA.nd (wR (zu (za 2 (pv 2)) (za 4 (pv 4))) (sJ (za 3 (pv 3)) (zu (za 1 (pv 1)) zg))))
  (zw (yx (t7 hr (za 5 (pv 5)) zg) (zy (zI xR)) yw)
  (zw (zH 6 kA.nd (sL T.min (ze (xp (zu (za 2 (pv 2)) (wR zg (za 4 (pv 4)))) (sJ (za 3 (pv 3)) (zu (za 1 (pv 1)) zg))) (ze (zu (za 0 (pv 0)) (wR zg (za 4 (pv 4)))) zo))))
  (zw (yx (wA hr (za 4 (pv 4)) zg) (zy (zI (y9 (ze (za 5 (pv 5)) (ze (za 6 (pv 6)) zo))))) yw)
  (zy (zI (y9 (ze (za 6 (pv 6)) (ze (za 5 (pv 5)) zo)))))))))),
  (by unfold b8;exact okA)⟩
theorem QD (F:Fy K mg "_law_cell" gi):pJ P w K mg base:=
 yi (k:=0) F Uq rfl (λ _ _ _ _ _ _=>v8 λ _ _=>rfl) λ f Af A outer s H E hr=>⟨_,
  (zw (yx (t7 hr (za 1 (pv 1)) (vt T.len (ze (za 0 (pv 0)) zo))) (zy (zI (yC (zu (za 0 (pv 0)) (za 1 (pv 1))) (SE zg zg)))) yw)
  (zy (zI zg))),
  (by unfold bf;exact okA)⟩
theorem QB (F:Fy K mg "_law_coins" gf):W7 P w K mg base:=
 yi (k:=0) F Uo rfl (λ _ _ _ _ _ _=>tR λ _=>rfl) λ f Af A outer s H E hr=>⟨_,
  (zw (yx (wA hr (yC (za 0 (pv 0)) zg) zg) (zy (zI (wR (yC (xH (za 0 (pv 0)) zg) zg) zg))) yw)
  (zy (zI (wR (yC (yC (xH (za 0 (pv 0)) zg) zg) zg) zg)))),
  (by unfold j_;exact okA)⟩
theorem QF (F:Fy K mg "_law_behind" gk):cF P w K mg base:=
 yi (k:=0) F iL rfl (λ _ _ _ _ _ _=>v7 λ _ _ _=>rfl) λ f Af A outer s H E hr=>⟨_,
  (zw (zH 3 iL.nd (xp (zu (za 1 (pv 1)) zg) (zu (za 2 (pv 2)) zg)))
  (zw (zH 4 iL.nd (xp (zu (za 1 (pv 1)) zg) (zu (za 2 (pv 2)) zg)))
  (zw (yx (xM.pt (uP (t7 hr (za 3 (pv 3)) zg) (sF (t7 hr (za 4 (pv 4)) zg)))) (zy (zI xR)) yw)
  (zy (zI (y9 (ze (sL T.min (ze (za 3 (pv 3)) (ze (zu (zu (za 0 (pv 0)) zg) zg) zo))) (ze (sL T.min (ze (za 4 (pv 4)) (ze (zu (zu (za 0 (pv 0)) zg) zg) zo))) zo)))))))),
  (by unfold bh;exact okA)⟩
theorem QC (F:Fy K mg "_law_changes" gh):W8 P w K mg base:=
 yi (k:=0) F qF rfl (λ _ _ _ _ _ _=>v7 λ _ _ _=>rfl) λ f Af A outer s H E hr=>⟨_,
  (zw (zH 3 qF.nd (xX (ze (za 2 (pv 2)) zo)))
  (zw (wI PassesOwn.never rfl (wq (zu (za 0 (pv 0)) zg)) (sI (n:=4) (xW (yp 4 qF.nd) (xW (yp 5 qF.nd) (xW (yp 6 qF.nd) (xW (yp 7 qF.nd) sH))))) (zy (kR PassesOwn.never (xM.pt (pZ (wA hr (za 4 (pv 4)) (za 1 (pv 1))) (pY (kQ (zu (zu (za 3 (pv 3)) (rM zg)) (za 5 (pv 5))) (za 6 (pv 6)))))) (zw (zH 8 qF.nd (kT T.list (ze (zu (za 3 (pv 3)) (rM zg)) zo)))
  (zw (gZ (za 8 (pv 8)) (za 5 (pv 5)) (wR (zu (za 8 (pv 8)) (za 5 (pv 5))) (za 6 (pv 6))))
  (zw (gZ (za 8 (pv 8)) (wR zg (za 5 (pv 5))) (sL T.min (ze (xp (zu (za 8 (pv 8)) (wR zg (za 5 (pv 5)))) (za 7 (pv 7))) (ze (zu (zu (za 0 (pv 0)) zg) (wR zg (za 5 (pv 5)))) zo))))
  (zy (ve (sM (za 3 (pv 3)) (oa T.tuple (ze (za 8 (pv 8)) zo)))))))))))
  (zy (zI (za 3 (pv 3)))))),
  (by unfold bc q_ pd;exact okA)⟩
theorem Q7 (F:Fy K mg "_law_held" hV):cE P w K mg base:=
 yi (k:=0) F iJ rfl (λ _ _ _ _ _ _=>v8 λ _ _=>rfl) λ f Af A outer s H E hr=>⟨_,
  (zw (wI PassesOwn.never rfl (wq (za 0 (pv 0))) (sI (n:=2) (xW (yp 2 iJ.nd) (xW (yp 3 iJ.nd) sH))) (zy (yx (xM.pt (pZ (kQ (zu (za 1 (pv 1)) zg) (za 2 (pv 2))) (pY (kQ (zu (za 1 (pv 1)) zg) (za 3 (pv 3)))))) (zy (zI t9)) yw)))
  (zy (zI t9))),
  (by unfold c_ jA;exact okA)⟩
theorem Q1 (F:Fy K mg "_law_whole" iW):cC P w K mg base:=
 yi (k:=0) F Ul rfl (λ _ _ _ _ _ _=>tR λ _=>rfl) λ f Af A outer s H E hr=>⟨_,
  (zy (zI (sN (Zq T (za 0 (pv 0))) (rL (Zn (Zr T (za 0 (pv 0)))))))),
  (by unfold cV;exact okA)⟩
theorem QJ (F:Fy K mg "is_whole_within" gr) (cg:WC P w K mg base):cG P w K mg base:=
 yi (k:=1) F Us rfl (λ _ _ _ _ _ _=>v7 λ _ _ _=>rfl) λ f Af A outer s H E hr=>⟨_,
  (zy (zI (sN (zG cg (hr.mono (by decide)) (ze (za 0 (pv 0)) zo)) (rL (Zw kX kX fit_le fit_le xA.mo xA.mo (za 1 (pv 1)) (za 0 (pv 0)) (za 2 (pv 2))))))),
  (by unfold bp;exact okA)⟩
theorem QP (F:Fy K mg "holds" kJ) (nk:cJ P w K mg base):cH P w K mg base:=
 yi (k:=1) F Uv rfl (λ _ _ _ _ _ _=>v8 λ _ _=>rfl) λ f Af A outer s H E hr=>⟨_,
  (zy (zI (SW T.any (ze (rN (N':=["own","pair"]) (pick:=[none,some 1]) (uF (N:=["border","pair"]) (esc:=zD kJ)) rfl (wq (za 0 (pv 0))) (λ _ _ _ _ _=>(yp 0 (by decide +kernel:List.Nodup (α:=Str) ["own","pair"]))) (λ _ _ _ _ _=>qI) (λ _ _ _ _ _=>(zG nk (hr.mono (by decide)) (ze (za 1 (pv 1)) (ze (za 0 (pv 0)) zo))))) zo)))),
  (by unfold bu lu;exact okA)⟩
theorem Pd (F:Fy K mg "both" nS) (uK:lV P w K mg base):WK P w K mg base:=
 yi (k:=1) F qH rfl (λ _ _ _ _ _ _=>v8 λ _ _=>rfl) λ f Af A outer s H E hr=>⟨_,
  (zw (zH 2 qH.nd (xp (rN (N':=["pair"]) (pick:=[none]) (uF (N:=["border","other","steps","lows","shared","first","side","second"]) (esc:=zD nS)) rfl (wq (za 0 (pv 0))) (λ _ _ _ _ _=>(yp 0 (by decide +kernel:List.Nodup (α:=Str) ["pair"]))) (λ _ _ _ _ _=>qI) (λ _ _ _ _ _=>(y9 (ze (zu (za 0 (pv 0)) zg) (ze zg (ze (zu (za 0 (pv 0)) zg) zo)))))) (rN (N':=["pair"]) (pick:=[none]) (uF (N:=["border","other","steps","lows","shared","first","side","second"]) (esc:=zD nS)) rfl (wq (za 1 (pv 1))) (λ _ _ _ _ _=>(yp 0 (by decide +kernel:List.Nodup (α:=Str) ["pair"]))) (λ _ _ _ _ _=>qI) (λ _ _ _ _ _=>(y9 (ze (zu (za 0 (pv 0)) zg) (ze zg (ze (zu (za 0 (pv 0)) zg) zo))))))))
  (zw (zH 3 qH.nd SO)
  (zw (zH 4 qH.nd (xX zo))
  (zw (wI PassesOwn.never rfl (wq (Zm T.sorted (ze (za 2 (pv 2)) zo))) (sI (n:=3) (xW (yp 5 qH.nd) (xW (yp 6 qH.nd) (xW (yp 7 qH.nd) sH)))) (zw (Ss hr (za 3 (pv 3)) (za 6 (pv 6)) (sL T.min (ze (za 7 (pv 7)) (ze (SR hr (za 3 (pv 3)) (za 6 (pv 6)) (za 7 (pv 7))) zo))))
  (zy (yx (wA hr (SN T.len (ze (za 3 (pv 3)) zo)) zg) (zy (ve (sM (za 4 (pv 4)) (y9 (ze (za 5 (pv 5)) (ze (oh T.max (ze (Zv hr (za 3 (pv 3)) zg) (ze (Zv hr (za 3 (pv 3)) zg) zo))) zo)))))) yw))))
  (zy (zI (zG uK (hr.mono (by decide)) (ze (za 4 (pv 4)) zo)))))))),
  (by unfold b9 l8 de df;exact okA)⟩
theorem QU (F:Fy K mg "either" gw) (uK:lV P w K mg base):WG P w K mg base:=
 yi (k:=1) F Uw rfl (λ _ _ _ _ _ _=>v8 λ _ _=>rfl) λ f Af A outer s H E hr=>⟨_,
  (zy (zI (zG uK (hr.mono (by decide)) (ze (xp (kT T.list (ze (za 0 (pv 0)) zo)) (kT T.list (ze (za 1 (pv 1)) zo))) zo)))),
  (by unfold bx;exact okA)⟩
theorem Ph (F:Fy K mg "border_ahead_of_way" nU) (uK:lV P w K mg base) (nk:cJ P w K mg base):WO P w K mg base:=
 yi (k:=1) F aF rfl (λ _ _ _ _ _ _=>v7 λ _ _ _=>rfl) λ f Af A outer s H E hr=>⟨_,
  (zw (kS (i:=3) (N':=["pair","way"]) (pick:=[none,some 1]) (uF (N:=["brims","way","border","pairs"]) (esc:=zD nU)) rfl (wq (za 2 (pv 2))) (λ _ _ _ _ _=>(yp 0 (by decide +kernel:List.Nodup (α:=Str) ["pair","way"]))) (λ _ _ _ _ _=>qI) (λ _ _ _ _ _=>(y9 (ze (oh T.max (ze zg (ze (wR (zu (za 0 (pv 0)) zg) (zu (za 1 (pv 1)) zg)) zo))) (ze (oh T.max (ze zg (ze (wR (zu (za 0 (pv 0)) zg) (zu (za 1 (pv 1)) zg)) zo))) zo)))) aF.nd rfl (by first | exact Or.inl rfl | exact Or.inr rfl))
  (zy (zI (zG uK (hr.mono (by decide)) (ze (rN (N':=["pair","brims"]) (pick:=[none,some 0]) (uF (N:=["brims","way","border","pairs"]) (esc:=zD nU)) rfl (wq (za 3 (pv 3))) (λ _ _ _ _ _=>(yp 0 (by decide +kernel:List.Nodup (α:=Str) ["pair","brims"]))) (λ _ _ _ _ _=>mh (wH (zG nk (hr.mono (by decide)) (ze (za 1 (pv 1)) (ze (za 0 (pv 0)) zo))))) (λ _ _ _ _ _=>(za 0 (pv 0)))) zo))))),
  (by unfold bD lh lx;exact okA)⟩
theorem QE (F:Fy K mg "_law_brims" gj) (xV:pJ P w K mg base):W9 P w K mg base:=
 yi (k:=1) F iK rfl (λ _ _ _ _ _ _=>v8 λ _ _=>rfl) λ f Af A outer s H E hr=>⟨_,
  (zw (zH 2 iK.nd (zG xV (hr.mono (by decide)) (ze (za 0 (pv 0)) (ze zg zo))))
  (zw (zH 3 iK.nd (xX (ze (zu (xX (ze zg (ze zg (ze zg (ze zg (ze zg (ze zg (ze zg (ze zg zo))))))))) (yC (za 2 (pv 2)) zg)) (ze (zu (xX (ze zg (ze zg (ze zg (ze zg (ze zg (ze zg (ze zg (ze zg zo))))))))) (yC (xH (za 2 (pv 2)) zg) zg)) zo))))
  (zw (yx (kP (za 1 (pv 1)) zg) (zy (zI (y9 (ze (sL T.min (ze (zu (za 3 (pv 3)) zg) (ze zg zo))) (ze (sL T.min (ze (zu (za 3 (pv 3)) zg) (ze zg zo))) zo))))) yw)
  (zw (yx (wA hr (yC (xH (za 2 (pv 2)) zg) zg) zg) (zy (zI (y9 (ze zg (ze (yC (zu (za 3 (pv 3)) zg) zg) zo))))) yw)
  (zw (yx (wA hr (yC (xH (za 2 (pv 2)) zg) zg) zg) (zy (zI (y9 (ze (yC (zu (za 3 (pv 3)) zg) zg) (ze zg zo))))) yw)
  (zw (yx (xM.pt (pZ (wA hr (yC (xH (za 2 (pv 2)) zg) zg) zg) (pY (t7 hr (za 1 (pv 1)) zg)))) (zy (zI (y9 (ze zg (ze zg zo))))) yw)
  (zy (zI (oa T.tuple (ze (za 3 (pv 3)) zo)))))))))),
  (by unfold bg;exact okA)⟩
theorem Q5 (F:Fy K mg "_law_owners" i_) (xV:pJ P w K mg base):W3 P w K mg base:=
 yi (k:=1) F nP rfl (λ _ _ _ _ _ _=>v8 λ _ _=>rfl) λ f Af A outer s H E hr=>⟨_,
  (zw (zH 2 nP.nd (zG xV (hr.mono (by decide)) (ze (za 0 (pv 0)) (ze zg zo))))
  (zw (zH 3 nP.nd (xX zo))
  (zw (wI PassesOwn.never rfl (p_ T.range (ze (za 1 (pv 1)) zo)) (yp 4 nP.nd) (zw (ve (sM (za 3 (pv 3)) (zu (xX (ze mj (ze mj zo))) (yC (za 2 (pv 2)) zg))))
  (zy (zH 2 nP.nd (xH (za 2 (pv 2)) zg)))))
  (zy (zI (oa T.tuple (ze (za 3 (pv 3)) zo))))))),
  (by unfold cY l5;exact okA)⟩
theorem Q2 (F:Fy K mg "_law_ways" iX) (xV:pJ P w K mg base) (jO:W7 P w K mg base):Wz P w K mg base:=
 yi (k:=1) F uo rfl (λ _ _ _ _ _ _=>v8 λ _ _=>rfl) λ f Af A outer s H E hr=>⟨_,
  (zw (zH 2 uo.nd (zG xV (hr.mono (by decide)) (ze (za 0 (pv 0)) (ze zg zo))))
  (zw (zH 3 uo.nd (zu (xX (ze zg (ze zg zo))) (Zt T.int (ze (Zo hr (za 1 (pv 1)) zg) zo))))
  (zw (zH 4 uo.nd (xX zo))
  (zw (wI PassesOwn.never rfl (p_ T.range (ze (za 1 (pv 1)) zo)) (yp 5 uo.nd) (zw (zH 6 uo.nd (xp zg (yC (za 2 (pv 2)) zg)))
  (zw (yx (xM.pt (pZ (t7 hr (za 1 (pv 1)) zg) (pY (wA hr (yC (xH (za 2 (pv 2)) zg) zg) zg)))) (zy (zH 6 uo.nd (xp zg (za 6 (pv 6))))) yw)
  (zw (wI PassesOwn.never rfl (p_ T.range (ze (za 6 (pv 6)) zo)) (yp 7 uo.nd) (zw (zH 8 uo.nd (xp (sJ (za 3 (pv 3)) (za 5 (pv 5))) (za 7 (pv 7))))
  (zw (zH 9 uo.nd (yC (xp (xp (sJ (zG xV (hr.mono (by decide)) (ze (za 0 (pv 0)) (ze (xp zg (za 8 (pv 8))) zo))) zg) (sJ zg (za 8 (pv 8)))) zg) zg))
  (zw (zH 10 uo.nd (xH (za 9 (pv 9)) zg))
  (zy (ve (sM (za 4 (pv 4)) (y9 (ze (za 5 (pv 5)) (ze (yC (yC (za 9 (pv 9)) zg) (za 1 (pv 1))) (ze (zG jO (hr.mono (by decide)) (ze (za 10 (pv 10)) zo)) (ze (zG jO (hr.mono (by decide)) (ze (xH (za 10 (pv 10)) zg) zo)) zo))))))))))))
  (zy (zH 2 uo.nd (xH (za 2 (pv 2)) zg)))))))
  (zy (zI (oa T.tuple (ze (Zl hr T.sorted U.set (ze (za 4 (pv 4)) zo)) zo)))))))),
  (by unfold cW ly pb;exact okA)⟩
theorem Q4 (F:Fy K mg "_law_stalls" iZ) (xV:pJ P w K mg base):W2 P w K mg base:=
 yi (k:=1) F qE rfl (λ _ _ _ _ _ _=>v8 λ _ _=>rfl) λ f Af A outer s H E hr=>⟨_,
  (zw (zH 2 qE.nd (xX zo))
  (zw (wI PassesOwn.never rfl (p_ T.range (ze (vt T.len (ze (za 1 (pv 1)) zo)) zo)) (yp 3 qE.nd) (zw (zH 4 qE.nd (yC (xp (xp (sJ (zG xV (hr.mono (by decide)) (ze (za 0 (pv 0)) (ze (xp zg (za 3 (pv 3))) zo))) zg) (sJ zg (za 3 (pv 3)))) zg) zg))
  (zy (yx (xM.pt (pZ (wA hr (zu (za 1 (pv 1)) (za 3 (pv 3))) mj) (pY (wA hr (yC (za 4 (pv 4)) zg) zg)))) (zw (zH 5 qE.nd (xH (za 4 (pv 4)) zg))
  (zw (zH 6 qE.nd (xp zg (zu (xX (ze (yC (za 5 (pv 5)) zg) (ze (yC (za 5 (pv 5)) zg) (ze (yC (za 5 (pv 5)) zg) zo)))) (yC (xH (za 5 (pv 5)) zg) zg))))
  (zw (zH 7 qE.nd (zu (xX (ze (yC (xH (za 5 (pv 5)) zg) zg) (ze (yC (xH (za 5 (pv 5)) zg) zg) (ze (yC (xH (za 5 (pv 5)) zg) zg) zo)))) (yC (xH (za 5 (pv 5)) zg) zg)))
  (zy (ve (sM (za 2 (pv 2)) (y9 (ze (za 3 (pv 3)) (ze (yC (xH (za 4 (pv 4)) zg) zg) (ze (za 6 (pv 6)) (ze (za 7 (pv 7)) zo))))))))))) yw))))
  (zy (zI (oa T.tuple (ze (za 2 (pv 2)) zo)))))),
  (by unfold cX oU;exact okA)⟩
theorem Q9 (F:Fy K mg "_law_first" hZ) (pB:cE P w K mg base):W5 P w K mg base:=
 yi (k:=1) F aD rfl (λ _ _ _ _ _ _=>v7 λ _ _ _=>rfl) λ f Af A outer s H E hr=>⟨_,
  (zw (wI PassesOwn.never rfl (p_ T.range (ze (vt T.len (ze (za 0 (pv 0)) zo)) zo)) (yp 3 aD.nd) (zy (yx (vA (wH (zG pB (hr.mono (by decide)) (ze (zu (zu (za 0 (pv 0)) (za 3 (pv 3))) (za 1 (pv 1))) (ze (za 2 (pv 2)) zo))))) (zy (zI (za 3 (pv 3)))) yw)))
  (zy (zI xR))),
  (by unfold ba l6;exact okA)⟩
theorem Q6 (F:Fy K mg "_law_is_way" hJ) (o_:cC P w K mg base):cD P w K mg base:=
 yi (k:=1) F Um rfl (λ _ _ _ _ _ _=>v7 λ _ _ _=>rfl) λ f Af A outer s H E hr=>⟨_,
  (zy (zI (sN (zG o_ (hr.mono (by decide)) (ze (za 2 (pv 2)) zo)) (sN (Zw kX (fm hr) fit_le vz.fits xA.mo vz.mo zg (za 2 (pv 2)) (vt T.len (ze (zu (za 0 (pv 0)) zg) zo))) (rL (SM hr (zu (zu (zu (za 0 (pv 0)) zg) (za 2 (pv 2))) zg) (za 1 (pv 1)))))))),
  (by unfold cZ;exact okA)⟩
theorem QG (F:Fy K mg "_law_asked" gm) (xV:pJ P w K mg base):WA P w K mg base:=
 yi (k:=1) F t4 rfl (λ _ _ _ _ _ _=>v7 λ _ _ _=>rfl) λ f Af A outer s H E hr=>⟨_,
  (zw (zH 3 t4.nd (vt T.len (ze (zu (za 1 (pv 1)) zg) zo)))
  (zw (zH 4 t4.nd (xX zo))
  (zw (wI PassesOwn.never rfl (p_ T.range (ze (yC (zG xV (hr.mono (by decide)) (ze (za 0 (pv 0)) (ze zg zo))) zg) zo)) (yp 5 t4.nd) (zw (zH 6 t4.nd (zG xV (hr.mono (by decide)) (ze (za 0 (pv 0)) (ze (xp zg (za 5 (pv 5))) zo))))
  (zy (ve (sM (za 4 (pv 4)) (y9 (ze (yC (za 6 (pv 6)) (za 3 (pv 3))) (ze (y9 (ze (yC (xH (za 6 (pv 6)) zg) (xp (zu (zu (za 1 (pv 1)) zg) zg) zg)) (ze (yC (xH (za 6 (pv 6)) zg) (xp (zu (zu (za 1 (pv 1)) zg) zg) zg)) zo))) zo))))))))
  (zw (zH 7 t4.nd (yC (xH (zG xV (hr.mono (by decide)) (ze (za 0 (pv 0)) (ze zg zo))) zg) (za 3 (pv 3))))
  (zw (zH 8 t4.nd (zu (zu (za 2 (pv 2)) (rM zg)) (za 7 (pv 7))))
  (zw (yx (kP (vt T.len (ze (za 8 (pv 8)) zo)) zg) (zw (Su (zu (za 8 (pv 8)) (yC (xH (zG xV (hr.mono (by decide)) (ze (za 0 (pv 0)) (ze zg zo))) zg) (vt T.len (ze (za 8 (pv 8)) zo)))) (sI (n:=2) (xW (yp 9 t4.nd) (xW (yp 10 t4.nd) sH))))
  (zy (zH 4 t4.nd (xp (za 4 (pv 4)) (xX (ze (y9 (ze (za 7 (pv 7)) (ze (y9 (ze (za 9 (pv 9)) (ze (za 10 (pv 10)) zo))) zo))) (ze (y9 (ze (za 7 (pv 7)) (ze (y9 (ze (oh T.max (ze zg (ze (wR (za 9 (pv 9)) zg) zo))) (ze (za 10 (pv 10)) zo))) zo))) (ze (y9 (ze (za 7 (pv 7)) (ze (y9 (ze (za 9 (pv 9)) (ze (oh T.max (ze zg (ze (wR (za 10 (pv 10)) zg) zo))) zo))) zo))) zo)))))))) yw)
  (zy (zI (xp (za 4 (pv 4)) (xX (ze (y9 (ze (za 7 (pv 7)) (ze (zu (za 1 (pv 1)) zg) zo))) zo))))))))))),
  (by unfold ia oV;exact okA)⟩
theorem QL (F:Fy K mg "is_row_within" kI) (nh:cG P w K mg base):WD P w K mg base:=
 yi (k:=2) F Uu rfl (λ _ _ _ _ _ _=>v8 λ _ _=>rfl) λ f Af A outer s H E hr=>⟨_,
  (zw (yx (xM.pt (uP (vA (wH (Zp T (za 0 (pv 0))))) (sF (kO hr (vt T.len (ze (za 0 (pv 0)) zo)) (vt T.len (ze (za 1 (pv 1)) zo)))))) (zy (zI t9)) yw)
  (zy (zI (SX T.all (ze (rN (N':=["number","bound"]) (pick:=[none,none]) (uF (N:=["thing","bounds"]) (esc:=zD kI)) rfl (Sz U.zip (ze (za 0 (pv 0)) (ze (za 1 (pv 1)) zo))) (λ _ _ _ _ _=>(sI (n:=2) (xW (yp 0 (by decide +kernel:List.Nodup (α:=Str) ["number","bound"])) (xW (yp 1 (by decide +kernel:List.Nodup (α:=Str) ["number","bound"])) sH)))) (λ _ _ _ _ _=>qI) (λ _ _ _ _ _=>(zG nh (hr.mono (by decide)) (ze (za 0 (pv 0)) (ze (zu (za 1 (pv 1)) zg) (ze (zu (za 1 (pv 1)) zg) zo)))))) zo))))),
  (by unfold br lq;exact okA)⟩
theorem QY (F:Fy K mg "check_place" gz) (nh:cG P w K mg base) (pA:cA P w K mg base):lW P w K mg base:=
 yi (k:=2) F Ux rfl (λ _ _ _ _ _ _=>v8 λ _ _=>rfl) λ f Af A outer s H E hr=>⟨_,
  (zy (yx (vA (wH (zG nh (hr.mono (by decide)) (ze (za 1 (pv 1)) (ze zg (ze (wR (zG pA (hr.mono (by decide)) (ze (za 0 (pv 0)) zo)) zg) zo)))))) (zy Zk) yw)),
  (by unfold b6;exact okA)⟩
theorem Pf (F:Fy K mg "border_of_either" gD) (cm:WG P w K mg base):WM P w K mg base:=
 yi (k:=2) F kB rfl (λ _ _ _ _ _ _=>tR λ _=>rfl) λ f Af A outer s H E hr=>⟨_,
  (zw (zH 1 kB.nd (y9 zo))
  (zw (wI PassesOwn.never rfl (wq (za 0 (pv 0))) (yp 2 kB.nd) (zy (zH 1 kB.nd (zG cm (hr.mono (by decide)) (ze (za 1 (pv 1)) (ze (za 2 (pv 2)) zo))))))
  (zy (zI (za 1 (pv 1)))))),
  (by unfold bB l9;exact okA)⟩
theorem Pg (F:Fy K mg "border_of_all" gE) (cu:WK P w K mg base):WN P w K mg base:=
 yi (k:=2) F kC rfl (λ _ _ _ _ _ _=>tR λ _=>rfl) λ f Af A outer s H E hr=>⟨_,
  (zw (zH 1 kC.nd (y9 (ze (y9 (ze zg (ze zg zo))) zo)))
  (zw (wI PassesOwn.never rfl (wq (za 0 (pv 0))) (yp 2 kC.nd) (zy (zH 1 kC.nd (zG cu (hr.mono (by decide)) (ze (za 1 (pv 1)) (ze (za 2 (pv 2)) zo))))))
  (zy (zI (za 1 (pv 1)))))),
  (by unfold bC lA;exact okA)⟩
theorem QQ (F:Fy K mg "first_without" gu) (ni:cH P w K mg base):WE P w K mg base:=
 yi (k:=2) F iM rfl (λ _ _ _ _ _ _=>v7 λ _ _ _=>rfl) λ f Af A outer s H E hr=>⟨_,
  (zw (wI PassesOwn.never rfl (g_ U.enumerate (ze (za 0 (pv 0)) zo)) (sI (n:=2) (xW (yp 3 iM.nd) (xW (yp 4 iM.nd) sH))) (zy (yx (vA (wH (zG ni (hr.mono (by decide)) (ze (zu (za 4 (pv 4)) (za 1 (pv 1))) (ze (za 2 (pv 2)) zo))))) (zy (zI (za 3 (pv 3)))) yw)))
  (zy (zI xR))),
  (by unfold bw l7;exact okA)⟩
theorem Qz (F:Fy K mg "leads_into" iV) (dJ:Wu P w K mg base) (ni:cH P w K mg base):cB P w K mg base:=
 yi (k:=2) F aC rfl (λ _ _ _ _ _ _=>lC λ _ _ _ _=>rfl) λ f Af A outer s H E hr=>⟨_,
  (zw (zH 4 aC.nd (zG dJ (hr.mono (by decide)) (ze (za 0 (pv 0)) (ze (za 1 (pv 1)) (ze (za 2 (pv 2)) zo)))))
  (zy (zI (sN (fg (za 4 (pv 4)) xR) (rL (zG ni (hr.mono (by decide)) (ze (zu (za 3 (pv 3)) (zu (zu (zu (za 0 (pv 0)) zg) (za 2 (pv 2))) zg)) (ze (za 4 (pv 4)) zo)))))))),
  (by unfold jY;exact okA)⟩
theorem Q8 (F:Fy K mg "_law_floor" hX) (xV:pJ P w K mg base) (dU:W3 P w K mg base) (dZ:W9 P w K mg base) (dQ:Wz P w K mg base) (dS:W2 P w K mg base):W4 P w K mg base:=
 yi (k:=2) F rJ rfl (λ _ _ _ _ _ _=>tR λ _=>rfl) λ f Af A outer s H E hr=>⟨_,
  (zw (zH 1 rJ.nd (zG xV (hr.mono (by decide)) (ze (za 0 (pv 0)) (ze zg zo))))
  (zw (zH 2 rJ.nd (zu (xX (ze zg (ze zg (ze zg (ze zg (ze zg (ze zg (ze zg (ze (xp zg (yC (xH (za 1 (pv 1)) zg) zg)) zo))))))))) (yC (za 1 (pv 1)) zg)))
  (zw (zH 3 rJ.nd (zG dU (hr.mono (by decide)) (ze (za 0 (pv 0)) (ze (za 2 (pv 2)) zo))))
  (zw (zH 4 rJ.nd (zG dZ (hr.mono (by decide)) (ze (za 0 (pv 0)) (ze (za 2 (pv 2)) zo))))
  (zw (zH 5 rJ.nd (zG dQ (hr.mono (by decide)) (ze (za 0 (pv 0)) (ze (za 2 (pv 2)) zo))))
  (zw (zH 6 rJ.nd (zG dS (hr.mono (by decide)) (ze (za 0 (pv 0)) (ze (za 3 (pv 3)) zo))))
  (zw (yx (xM.pt (pZ (wA hr (za 4 (pv 4)) (y9 (ze zg (ze zg zo)))) (pY (xM.pt (uP (kP (vt T.len (ze (za 5 (pv 5)) zo)) zg) (sF (kP (vt T.len (ze (za 6 (pv 6)) zo)) zg))))))) (zy (zH 4 rJ.nd (y9 (ze zg (ze zg zo))))) yw)
  (zy (zI (y9 (ze (za 4 (pv 4)) (ze (za 3 (pv 3)) (ze (za 5 (pv 5)) (ze (za 6 (pv 6)) zo)))))))))))))),
  (by unfold jZ;exact okA)⟩
theorem QA (F:Fy K mg "_law_deed" h_) (dY:W8 P w K mg base) (ng:cF P w K mg base) (pB:cE P w K mg base) (nc:cD P w K mg base) (o_:cC P w K mg base):W6 P w K mg base:=
 yi (k:=2) F k9 rfl (λ _ _ _ _ _ _=>XM λ _ _ _ _ _=>rfl) λ f Af A outer s H E hr=>⟨_,
  (zw (yx (xM.pt (uP (wA hr (zu (zu (za 0 (pv 0)) zg) (za 2 (pv 2))) mj) (sF (vA (wH (zG pB (hr.mono (by decide)) (ze (zu (zu (za 1 (pv 1)) (rM zg)) (za 2 (pv 2))) (ze (za 3 (pv 3)) zo)))))))) (zy (zI (Zs (za 4 (pv 4)) xR))) yw)
  (zw (yx (xM.pt (uP (vA (wH (Zp T (za 4 (pv 4))))) (uP (kO hr (vt T.len (ze (za 4 (pv 4)) zo)) zg) (sF (vA (wH (zG nc (hr.mono (by decide)) (ze (za 0 (pv 0)) (ze (za 2 (pv 2)) (ze (zu (za 4 (pv 4)) zg) zo)))))))))) (zy (zI t9)) yw)
  (zw (zH 5 k9.nd (zG dY (hr.mono (by decide)) (ze (za 0 (pv 0)) (ze (za 2 (pv 2)) (ze (za 3 (pv 3)) zo)))))
  (zw (yx (xM.pt (uP (vA (wH (zG o_ (hr.mono (by decide)) (ze (zu (za 4 (pv 4)) zg) zo)))) (uP (t7 hr (zu (za 4 (pv 4)) zg) zg) (sF (kQ (zu (za 4 (pv 4)) zg) (vt T.len (ze (za 5 (pv 5)) zo))))))) (zy (zI t9)) yw)
  (zw (zH 6 k9.nd (zu (zu (za 0 (pv 0)) zg) (zu (za 4 (pv 4)) zg)))
  (zw (zH 7 k9.nd (zG ng (hr.mono (by decide)) (ze (za 0 (pv 0)) (ze (zu (za 5 (pv 5)) (zu (za 4 (pv 4)) zg)) (ze (za 6 (pv 6)) zo)))))
  (zy (zI (sN (fg (za 7 (pv 7)) xR) (rL (zG pB (hr.mono (by decide)) (ze (zu (zu (za 1 (pv 1)) (rM zg)) (zu (za 6 (pv 6)) zg)) (ze (za 7 (pv 7)) zo))))))))))))),
  (by unfold l_;exact okA)⟩
theorem Q3 (F:Fy K mg "_law_way" iY) (jN:W5 P w K mg base) (ng:cF P w K mg base) (nc:cD P w K mg base):W0 P w K mg base:=
 yi (k:=2) F nN rfl (λ _ _ _ _ _ _=>XM λ _ _ _ _ _=>rfl) λ f Af A outer s H E hr=>⟨_,
  (zw (zH 5 nN.nd (zG jN (hr.mono (by decide)) (ze (za 1 (pv 1)) (ze (za 2 (pv 2)) (ze (za 3 (pv 3)) zo)))))
  (zw (yx (xM.pt (uP (wA hr (zu (zu (za 0 (pv 0)) zg) (za 2 (pv 2))) mj) (sF (mf (za 5 (pv 5)) xR)))) (zy (zI (Zs (za 4 (pv 4)) xR))) yw)
  (zw (yx (vA (wH (zG nc (hr.mono (by decide)) (ze (za 0 (pv 0)) (ze (za 2 (pv 2)) (ze (za 4 (pv 4)) zo)))))) (zy (zI t9)) yw)
  (zw (zH 6 nN.nd (zu (zu (za 0 (pv 0)) zg) (za 4 (pv 4))))
  (zw (zH 7 nN.nd (zG ng (hr.mono (by decide)) (ze (za 0 (pv 0)) (ze (za 3 (pv 3)) (ze (za 6 (pv 6)) zo)))))
  (zw (yx (mf (za 7 (pv 7)) xR) (zy (zI t9)) yw)
  (zw (zH 8 nN.nd (zG jN (hr.mono (by decide)) (ze (za 1 (pv 1)) (ze (zu (za 6 (pv 6)) zg) (ze (za 7 (pv 7)) zo)))))
  (zy (zI (sN (fg (za 8 (pv 8)) xR) (rL (Zo hr (za 8 (pv 8)) (za 5 (pv 5)))))))))))))),
  (by unfold nI;exact okA)⟩
theorem QZ (F:Fy K mg "check_pair" g9) (cj:WD P w K mg base):cI P w K mg base:=
 yi (k:=3) F Uy rfl (λ _ _ _ _ _ _=>v8 λ _ _=>rfl) λ f Af A outer s H E hr=>⟨_,
  (zy (yx (vA (wH (zG cj (hr.mono (by decide)) (ze (za 1 (pv 1)) (ze (y9 (ze (y9 (ze zg (ze (zu (zu (za 0 (pv 0)) zg) zg) zo))) (ze (y9 (ze zg (ze (zu (zu (za 0 (pv 0)) zg) zg) zo))) zo))) zo))))) (zy Zk) yw)),
  (by unfold b7;exact okA)⟩
theorem R_ (F:Fy K mg "ways_from" kE) (uL:lW P w K mg base):jU P w K mg base:=
 yi (k:=3) F Ui rfl (λ _ _ _ _ _ _=>v8 λ _ _=>rfl) λ f Af A outer s H E hr=>⟨_,
  (zw (ve (zG uL (hr.mono (by decide)) (ze (za 0 (pv 0)) (ze (za 1 (pv 1)) zo))))
  (zy (zI (rN (N':=["number","way","place"]) (pick:=[none,none,some 1]) (uF (N:=["floor","place"]) (esc:=zD kE)) rfl (g_ U.enumerate (ze (zu (za 0 (pv 0)) zg) zo)) (λ _ _ _ _ _=>(sI (n:=2) (xW (yp 0 (by decide +kernel:List.Nodup (α:=Str) ["number","way","place"])) (xW (yp 1 (by decide +kernel:List.Nodup (α:=Str) ["number","way","place"])) sH)))) (λ _ _ _ _ _=>mh (wA hr (zu (za 1 (pv 1)) zg) (za 2 (pv 2)))) (λ _ _ _ _ _=>(za 0 (pv 0))))))),
  (by unfold cL lj;exact okA)⟩
theorem Ql (F:Fy K mg "stall_at" iQ) (uL:lW P w K mg base):c9 P w K mg base:=
 yi (k:=3) F aB rfl (λ _ _ _ _ _ _=>v8 λ _ _=>rfl) λ f Af A outer s H E hr=>⟨_,
  (zw (ve (zG uL (hr.mono (by decide)) (ze (za 0 (pv 0)) (ze (za 1 (pv 1)) zo))))
  (zw (wI PassesOwn.never rfl (wq (zu (za 0 (pv 0)) zg)) (yp 2 aB.nd) (zy (yx (wA hr (zu (za 2 (pv 2)) zg) (za 1 (pv 1))) (zy (zI (za 2 (pv 2)))) yw)))
  (zy (zI xR)))),
  (by unfold cN oS;exact okA)⟩
theorem Pj (F:Fy K mg "border_ahead_of_changes" gF) (oY:c9 P w K mg base) (uK:lV P w K mg base) (dM:Wv P w K mg base):WQ P w K mg base:=
 yi (k:=4) F kD rfl (λ _ _ _ _ _ _=>v7 λ _ _ _=>rfl) λ f Af A outer s H E hr=>⟨_,
  (zw (zH 3 kD.nd (zG oY (hr.mono (by decide)) (ze (za 0 (pv 0)) (ze (za 1 (pv 1)) zo))))
  (zw (yx (mf (za 3 (pv 3)) xR) (zy (zI (za 2 (pv 2)))) yw)
  (zw (zH 4 kD.nd (xX zo))
  (zw (wI PassesOwn.never rfl (wq (za 2 (pv 2))) (yp 5 kD.nd) (zy (ve (SF (za 4 (pv 4)) (zG dM (hr.mono (by decide)) (ze (zu (za 0 (pv 0)) zg) (ze (za 3 (pv 3)) (ze (za 5 (pv 5)) zo))))))))
  (zy (zI (zG uK (hr.mono (by decide)) (ze (za 4 (pv 4)) zo)))))))),
  (by unfold ic lB;exact okA)⟩
theorem Pa (F:Fy K mg "change_at" gB) (oY:c9 P w K mg base) (cp:WI P w K mg base):WJ P w K mg base:=
 yi (k:=4) F aE rfl (λ _ _ _ _ _ _=>lC λ _ _ _ _=>rfl) λ f Af A outer s H E hr=>⟨_,
  (zw (yx (wA hr (za 3 (pv 3)) zg) (zy (zI (y9 (ze (zu (za 2 (pv 2)) zg) (ze (zu (za 2 (pv 2)) zg) zo))))) yw)
  (zw (zH 4 aE.nd (zG oY (hr.mono (by decide)) (ze (za 0 (pv 0)) (ze (za 1 (pv 1)) zo))))
  (zw (yx (mf (za 4 (pv 4)) xR) (zy (zI xR)) yw)
  (zy (zI (zG cp (hr.mono (by decide)) (ze (zu (za 0 (pv 0)) zg) (ze (za 4 (pv 4)) (ze (za 2 (pv 2)) (ze (za 3 (pv 3)) zo)))))))))),
  (by unfold ka;exact okA)⟩
theorem Qa (F:Fy K mg "way_out_of" kF) (ck:WE P w K mg base) (rh:jU P w K mg base) (oZ:cB P w K mg base):Ws P w K mg base:=
 yi (k:=4) F aA rfl (λ _ _ _ _ _ _=>lC λ _ _ _ _=>rfl) λ f Af A outer s H E hr=>⟨_,
  (zw (zH 4 aA.nd (zG ck (hr.mono (by decide)) (ze (za 3 (pv 3)) (ze (za 1 (pv 1)) (ze (za 2 (pv 2)) zo)))))
  (zw (yx (mf (za 4 (pv 4)) xR) (zy (zI xR)) yw)
  (zy (zI (zu (rN (N':=["way","floor","pair","told","steps"]) (pick:=[none,some 0,some 2,some 3,some 4]) (uF (N:=["floor","place","pair","told","steps"]) (esc:=zD kF)) rfl (wq (zG rh (hr.mono (by decide)) (ze (za 0 (pv 0)) (ze (za 1 (pv 1)) zo)))) (λ _ _ _ _ _=>(yp 0 (by decide +kernel:List.Nodup (α:=Str) ["way","floor","pair","told","steps"]))) (λ _ _ _ _ _=>mh (vA (wH (zG oZ (hr.mono (by decide)) (ze (za 1 (pv 1)) (ze (za 2 (pv 2)) (ze (za 0 (pv 0)) (ze (zu (za 3 (pv 3)) (wR (za 4 (pv 4)) zg)) zo)))))))) (λ _ _ _ _ _=>(za 0 (pv 0)))) zg))))),
  (by unfold jW oM;exact okA)⟩
theorem Qu {sg:Value}(F:Fy K mg "next_border" nR) (uS:mg "KEEPER"=some sg) (sD:L2.RelV (.str "keeper") sg) (cx:WN P w K mg base) (cy:WO P w K mg base) (cz:WQ P w K mg base) (rh:jU P w K mg base) (cw:WM P w K mg base):Wx P w K mg base:=
 yi (k:=5) F iH rfl (λ _ _ _ _ _ _=>v7 λ _ _ _=>rfl) λ f Af A outer s H E hr=>⟨_,
  (zw (kS (i:=3) (N':=["number","floor"]) (pick:=[none,some 0]) (uF (N:=["floor","place","last","ways","ahead"]) (esc:=zD nR)) rfl (wq (zG rh (hr.mono (by decide)) (ze (za 0 (pv 0)) (ze (za 1 (pv 1)) zo)))) (λ _ _ _ _ _=>(yp 0 (by decide +kernel:List.Nodup (α:=Str) ["number","floor"]))) (λ _ _ _ _ _=>qI) (λ _ _ _ _ _=>(zu (zu (za 1 (pv 1)) zg) (za 0 (pv 0)))) iH.nd rfl (by first | exact Or.inl rfl | exact Or.inr rfl))
  (zw (kS (i:=4) (N':=["way","floor","last"]) (pick:=[none,some 0,some 2]) (uF (N:=["floor","place","last","ways","ahead"]) (esc:=zD nR)) rfl (wq (za 3 (pv 3))) (λ _ _ _ _ _=>(yp 0 (by decide +kernel:List.Nodup (α:=Str) ["way","floor","last"]))) (λ _ _ _ _ _=>qI) (λ _ _ _ _ _=>(zG cy (hr.mono (by decide)) (ze (zu (za 1 (pv 1)) zg) (ze (za 0 (pv 0)) (ze (zu (za 2 (pv 2)) (zu (za 0 (pv 0)) zg)) zo))))) iH.nd rfl (by first | exact Or.inl rfl | exact Or.inr rfl))
  (zw (yx (wA hr (zu (zu (za 0 (pv 0)) zg) (za 1 (pv 1))) (fj uS sD)) (zy (zI (zG cz (hr.mono (by decide)) (ze (za 0 (pv 0)) (ze (za 1 (pv 1)) (ze (zG cw (hr.mono (by decide)) (ze (za 4 (pv 4)) zo)) zo)))))) yw)
  (zy (zI (zG cx (hr.mono (by decide)) (ze (za 4 (pv 4)) zo))))))),
  (by unfold cT lg lp;exact okA)⟩
theorem QX (F:Fy K mg "deed_into" gy) (rh:jU P w K mg base) (cq:WJ P w K mg base) (oZ:cB P w K mg base):WH P w K mg base:=
 yi (k:=5) F qG rfl (λ _ _ _ _ _ _=>lC λ _ _ _ _=>rfl) λ f Af A outer s H E hr=>⟨_,
  (zw (zH 4 qG.nd (zG rh (hr.mono (by decide)) (ze (za 0 (pv 0)) (ze (za 1 (pv 1)) zo))))
  (zw (zH 5 qG.nd zg)
  (zw (zH 6 qG.nd (za 2 (pv 2)))
  (zw (kR PassesOwn.never (Sk (za 6 (pv 6)) xR) (zw (wI PassesOwn.never rfl (wq (za 4 (pv 4))) (yp 7 qG.nd) (zy (yx (wH (zG oZ (hr.mono (by decide)) (ze (za 0 (pv 0)) (ze (za 6 (pv 6)) (ze (za 7 (pv 7)) (ze (za 3 (pv 3)) zo)))))) (zy (zI (y9 (ze (za 5 (pv 5)) (ze (za 7 (pv 7)) zo))))) yw)))
  (zw (zH 5 qG.nd (xp (za 5 (pv 5)) zg))
  (zy (zH 6 qG.nd (zG cq (hr.mono (by decide)) (ze (za 0 (pv 0)) (ze (za 1 (pv 1)) (ze (za 2 (pv 2)) (ze (za 5 (pv 5)) zo))))))))))
  (zy (zI xR)))))),
  (by unfold bz sY qf;exact okA)⟩
theorem Qt (F:Fy K mg "next_round" kH) (dP:Wx P w K mg base):Ww P w K mg base:=
 yi (k:=6) F iG rfl (λ _ _ _ _ _ _=>v7 λ _ _ _=>rfl) λ f Af A outer s H E hr=>⟨_,
  (zw (zH 3 iG.nd (kT T.list (ze (za 1 (pv 1)) zo)))
  (zw (wI PassesOwn.never rfl (wq (Zl hr T.sorted U.set (ze (rN (N':=["way","fresh"]) (pick:=[none,some 2]) (uF (N:=["floor","last","fresh","following","place"]) (esc:=zD kH)) rfl (wq (zu (za 0 (pv 0)) zg)) (λ _ _ _ _ _=>(yp 0 (by decide +kernel:List.Nodup (α:=Str) ["way","fresh"]))) (λ _ _ _ _ _=>mh (So hr (zu (za 0 (pv 0)) zg) (za 1 (pv 1)))) (λ _ _ _ _ _=>(zu (za 0 (pv 0)) zg))) zo))) (yp 4 iG.nd) (zy (gZ (za 3 (pv 3)) (za 4 (pv 4)) (zG dP (hr.mono (by decide)) (ze (za 0 (pv 0)) (ze (za 4 (pv 4)) (ze (za 1 (pv 1)) zo)))))))
  (zy (zI (za 3 (pv 3)))))),
  (by unfold cR l4 ll;exact okA)⟩
theorem Qn (F:Fy K mg "rounds" kG) (dN:Ww P w K mg base) (pA:cA P w K mg base):jV P w K mg base:=
 yi (k:=7) F pR rfl (λ _ _ _ _ _ _=>tR λ _=>rfl) λ f Af A outer s H E hr=>⟨_,
  (zw (zH 1 pR.nd (xX (ze (sJ (xX (ze (y9 (ze (y9 (ze zg (ze zg zo))) zo)) zo)) (zG pA (hr.mono (by decide)) (ze (za 0 (pv 0)) zo))) zo)))
  (zw (zH 2 pR.nd (SG T.list T.range (ze (zG pA (hr.mono (by decide)) (ze (za 0 (pv 0)) zo)) zo)))
  (zw (kR PassesOwn.never (wH (za 2 (pv 2))) (zw (zH 3 pR.nd (zu (za 1 (pv 1)) (rM zg)))
  (zw (zH 4 pR.nd (zG dN (hr.mono (by decide)) (ze (za 0 (pv 0)) (ze (za 3 (pv 3)) (ze (za 2 (pv 2)) zo)))))
  (zw (kS (i:=2) (N':=["place","border","last"]) (pick:=[none,none,some 3]) (uF (N:=["floor","told","fresh","last","following"]) (esc:=zD kG)) rfl (g_ U.enumerate (ze (za 4 (pv 4)) zo)) (λ _ _ _ _ _=>(sI (n:=2) (xW (yp 0 (by decide +kernel:List.Nodup (α:=Str) ["place","border","last"])) (xW (yp 1 (by decide +kernel:List.Nodup (α:=Str) ["place","border","last"])) sH)))) (λ _ _ _ _ _=>mh (kO hr (za 1 (pv 1)) (zu (za 2 (pv 2)) (za 0 (pv 0))))) (λ _ _ _ _ _=>(za 0 (pv 0))) pR.nd rfl (by first | exact Or.inl rfl | exact Or.inr rfl))
  (zy (yx (wH (za 2 (pv 2))) (zy (ve (sM (za 1 (pv 1)) (za 4 (pv 4))))) yw))))))
  (zy (zI (za 1 (pv 1))))))),
  (by unfold cO u_ oO;exact okA)⟩
theorem Pe (F:Fy K mg "borders" gC) (rj:jV P w K mg base):WL P w K mg base:=
 yi (k:=8) F Uz rfl (λ _ _ _ _ _ _=>tR λ _=>rfl) λ f Af A outer s H E hr=>⟨_,
  (zy (zI (zu (zG rj (hr.mono (by decide)) (ze (za 0 (pv 0)) zo)) (rM zg)))),
  (by unfold bA;exact okA)⟩
theorem Qg {sg:Value}(F:Fy K mg "taker_way" iO) (uS:mg "KEEPER"=some sg) (sD:L2.RelV (.str "keeper") sg) (uL:lW P w K mg base) (nj:cI P w K mg base) (dH:Ws P w K mg base) (rj:jV P w K mg base):Wt P w K mg base:=
 yi (k:=8) F Uj rfl (λ _ _ _ _ _ _=>v7 λ _ _ _=>rfl) λ f Af A outer s H E hr=>⟨_,
  (zw (ve (zG uL (hr.mono (by decide)) (ze (za 0 (pv 0)) (ze (za 1 (pv 1)) zo))))
  (zw (ve (zG nj (hr.mono (by decide)) (ze (za 0 (pv 0)) (ze (za 2 (pv 2)) zo))))
  (zw (yx (wA hr (zu (zu (za 0 (pv 0)) zg) (za 1 (pv 1))) (fj uS sD)) (zy (zI xR)) yw)
  (zy (zI (zG dH (hr.mono (by decide)) (ze (za 0 (pv 0)) (ze (za 1 (pv 1)) (ze (za 2 (pv 2)) (ze (zG rj (hr.mono (by decide)) (ze (za 0 (pv 0)) zo)) zo)))))))))),
  (by unfold jX;exact okA)⟩
theorem QI {sg:Value}(F:Fy K mg "keeper_deed" gq) (uS:mg "KEEPER"=some sg) (sD:L2.RelV (.str "keeper") sg) (uL:lW P w K mg base) (nj:cI P w K mg base) (cn:WH P w K mg base) (cv:WL P w K mg base):WB P w K mg base:=
 yi (k:=9) F Ur rfl (λ _ _ _ _ _ _=>v7 λ _ _ _=>rfl) λ f Af A outer s H E hr=>⟨_,
  (zw (ve (zG uL (hr.mono (by decide)) (ze (za 0 (pv 0)) (ze (za 1 (pv 1)) zo))))
  (zw (ve (zG nj (hr.mono (by decide)) (ze (za 0 (pv 0)) (ze (za 2 (pv 2)) zo))))
  (zw (yx (kO hr (zu (zu (za 0 (pv 0)) zg) (za 1 (pv 1))) (fj uS sD)) (zy (zI xR)) yw)
  (zy (zI (zG cn (hr.mono (by decide)) (ze (za 0 (pv 0)) (ze (za 1 (pv 1)) (ze (za 2 (pv 2)) (ze (zG cv (hr.mono (by decide)) (ze (za 0 (pv 0)) zo)) zo)))))))))),
  (by unfold bo;exact okA)⟩
theorem QH {f:Addr}{fd:FuncData}(F:tj K "law" "law" gp f fd) (dW:W4 P w K mg base) (rj:jV P w K mg base) (d_:WA P w K mg base) (dX:W6 P w K mg base) (dR:W0 P w K mg base) (cf:WB P w K mg base) (dI:Wt P w K mg base):uM P w K mg base vP 11 f fd ["_law_script"] (se K (zS zJ nE)):=
 YB (k:=10) F nQ rfl λ Af A outer s H E hr=>⟨_,
  (zw (zH 1 nQ.nd (zG dW (hr.mono (by decide)) (ze (za 0 (pv 0)) zo)))
  (zw (zH 2 nQ.nd (zG rj (hr.mono (by decide)) (ze (za 1 (pv 1)) zo)))
  (zw (wI PassesOwn.never rfl (wq (SA (zG d_ (hr.mono (by decide)) (ze (za 0 (pv 0)) (ze (za 1 (pv 1)) (ze (za 2 (pv 2)) zo)))) (xp zg (sJ zg (Zt T.int (ze (SJ (vt T.len (ze (za 2 (pv 2)) zo)) zg) zo)))))) (sI (n:=2) (xW (yp 3 nQ.nd) (xW (yp 4 nQ.nd) sH))) (zw (yx (vA (wH (zG dX (hr.mono (by decide)) (ze (za 1 (pv 1)) (ze (za 2 (pv 2)) (ze (za 3 (pv 3)) (ze (za 4 (pv 4)) (ze (zG cf (hr.mono (by decide)) (ze (za 1 (pv 1)) (ze (za 3 (pv 3)) (ze (za 4 (pv 4)) zo)))) zo)))))))) (zy (zI t9)) yw)
  (zy (yx (vA (wH (zG dR (hr.mono (by decide)) (ze (za 1 (pv 1)) (ze (za 2 (pv 2)) (ze (za 3 (pv 3)) (ze (za 4 (pv 4)) (ze (zG dI (hr.mono (by decide)) (ze (za 1 (pv 1)) (ze (za 3 (pv 3)) (ze (za 4 (pv 4)) zo)))) zo)))))))) (zy (zI t9)) yw))))
  (zy (zI t9))))),
  (by unfold bj oW;exact okA)⟩
end
def MX {l:PySem.W.OpenLaw}{w:World}{K:Ad}{h:Heap}{mg:Str->Option Value}{fa:Addr}(X:K.In h) (G:h.Ns mainGlobals mg) (EJ:mg "law"=some (.ref fa))
  (h0:Fx K "is_whole" gs) (h1:Fx K "is_whole_within" gr) (h2:Fx K "is_row_within" kI) (h3:Fx K "places_of" iR) (h4:Fx K "check_place" gz) (h5:Fx K "check_pair" g9) (h6:Fx K "ways_from" kE) (h7:Fx K "stall_at" iQ) (h8:Fx K "at_or_above" gG) (h9:Fx K "least_pairs" iU) (h10:Fx K "holds" kJ) (h11:Fx K "both" nS) (h12:Fx K "either" gw) (h13:Fx K "border_ahead_of_way" nU) (h14:Fx K "pairs_ahead_of_changes" iT) (h15:Fx K "border_ahead_of_changes" gF) (h16:Fx K "border_of_either" gD) (h17:Fx K "border_of_all" gE) (h18:Fx K "next_border" nR) (h19:Fx K "next_round" kH) (h20:Fx K "rounds" kG) (h21:Fx K "first_without" gu) (h22:Fx K "step_by" iP) (h23:Fx K "change_by" gA) (h24:Fx K "change_at" gB) (h25:Fx K "borders" gC) (h26:Fx K "leads_into" iV) (h27:Fx K "deed_into" gy) (h28:Fx K "keeper_deed" gq) (h29:Fx K "way_out_of" kF) (h30:Fx K "taker_way" iO) (h31:Fx K "_law_cell" gi) (h32:Fx K "_law_coins" gf) (h33:Fx K "_law_brims" gj) (h34:Fx K "_law_owners" i_) (h35:Fx K "_law_ways" iX) (h36:Fx K "_law_stalls" iZ) (h37:Fx K "_law_floor" hX) (h38:Fx K "_law_behind" gk) (h39:Fx K "_law_changes" gh) (h40:Fx K "_law_held" hV) (h41:Fx K "_law_whole" iW) (h42:Fx K "_law_first" hZ) (h43:Fx K "_law_is_way" hJ) (h44:Fx K "_law_deed" h_) (h45:Fx K "_law_way" iY) (h46:Fx K "_law_asked" gm) (h47:Fx K "law" gp)
  (uS:Cn K "KEEPER" (.str "keeper"))
  (y0:PySem.W.nsIn K mainGlobals "set"=some none) (y1:PySem.W.nsIn K mainGlobals "zip"=some none) (y2:PySem.W.nsIn K mainGlobals "enumerate"=some none)
  (z0:PySem.W.nsIn K mainGlobals "len"=some none) (z1:PySem.W.nsIn K mainGlobals "range"=some none) (z2:PySem.W.nsIn K mainGlobals "any"=some none) (z3:PySem.W.nsIn K mainGlobals "all"=some none) (z4:PySem.W.nsIn K mainGlobals "sorted"=some none) (z5:PySem.W.nsIn K mainGlobals "isinstance"=some none) (z6:PySem.W.nsIn K mainGlobals "bool"=some none) (z7:PySem.W.nsIn K mainGlobals "int"=some none) (z8:PySem.W.nsIn K mainGlobals "str"=some none) (z9:PySem.W.nsIn K mainGlobals "list"=some none) (z10:PySem.W.nsIn K mainGlobals "tuple"=some none) (z11:PySem.W.nsIn K mainGlobals "max"=some none) (z12:PySem.W.nsIn K mainGlobals "min"=some none):
  ∃ fd:FuncData,(∀ (s:Shared) (v:Value),BindsTo s fd ⟨[v],[]⟩ [("_law_script",v)])/\∀ base:Heap,K.In base->base.Ns mainGlobals mg->uM l.prog w K mg base vP 11 fa fd ["_law_script"] (se K (zS zJ nE)):=by
 have T:Bt mg:=⟨Bc X G z0,Bc X G z1,Bc X G z2,Bc X G z3,Bc X G z4,Bc X G z5,Bc X G z6,Bc X G z7,Bc X G z8,Bc X G z9,Bc X G z10,Bc X G z11,Bc X G z12⟩
 have U:Bq mg:=⟨Bc X G y0,Bc X G y1,Bc X G y2⟩
 obtain⟨sg,uS,sD⟩:=uS.mk X G;obtain⟨fd,Fl,hb⟩:=h47.law X G EJ λ _ _ _ _ _ _ _ _=>.of_eq rfl;refine⟨fd,hb,λ base _ _=>?_⟩;have cg:=QK l.prog w base T U (h0.mk X G);have pA:=Qp l.prog w base T U (h3.mk X G);have nk:=Pl l.prog w base T U (h8.mk X G);have uK:=Qy l.prog w base T U (h9.mk X G);have dM:=Qq l.prog w base T U (h14.mk X G);have dJ:=Qk l.prog w base T U (h22.mk X G);have cp:=Q_ l.prog w base T U (h23.mk X G);have xV:=QD l.prog w base T U (h31.mk X G);have jO:=QB l.prog w base T U (h32.mk X G);have ng:=QF l.prog w base T U (h38.mk X G);have dY:=QC l.prog w base T U (h39.mk X G);have pB:=Q7 l.prog w base T U (h40.mk X G);have o_:=Q1 l.prog w base T U (h41.mk X G);have nh:=QJ l.prog w base T U (h1.mk X G) cg;have ni:=QP l.prog w base T U (h10.mk X G) nk;have cu:=Pd l.prog w base T U (h11.mk X G) uK;have cm:=QU l.prog w base T U (h12.mk X G) uK;have cy:=Ph l.prog w base T U (h13.mk X G) uK nk;have dZ:=QE l.prog w base T U (h33.mk X G) xV;have dU:=Q5 l.prog w base T U (h34.mk X G) xV;have dQ:=Q2 l.prog w base T U (h35.mk X G) xV jO;have dS:=Q4 l.prog w base T U (h36.mk X G) xV;have jN:=Q9 l.prog w base T U (h42.mk X G) pB;have nc:=Q6 l.prog w base T U (h43.mk X G) o_;have d_:=QG l.prog w base T U (h46.mk X G) xV;have cj:=QL l.prog w base T U (h2.mk X G) nh;have uL:=QY l.prog w base T U (h4.mk X G) nh pA;have cw:=Pf l.prog w base T U (h16.mk X G) cm;have cx:=Pg l.prog w base T U (h17.mk X G) cu;have ck:=QQ l.prog w base T U (h21.mk X G) ni;have oZ:=Qz l.prog w base T U (h26.mk X G) dJ ni;have dW:=Q8 l.prog w base T U (h37.mk X G) xV dU dZ dQ dS;have dX:=QA l.prog w base T U (h44.mk X G) dY ng pB nc o_;have dR:=Q3 l.prog w base T U (h45.mk X G) jN ng nc;have nj:=QZ l.prog w base T U (h5.mk X G) cj;have rh:=R_ l.prog w base T U (h6.mk X G) uL;have oY:=Ql l.prog w base T U (h7.mk X G) uL;have cz:=Pj l.prog w base T U (h15.mk X G) oY uK dM;have cq:=Pa l.prog w base T U (h24.mk X G) oY cp;have dH:=Qa l.prog w base T U (h29.mk X G) ck rh oZ;have dP:=Qu l.prog w base T U (h18.mk X G) uS sD cx cy cz rh cw;have cn:=QX l.prog w base T U (h27.mk X G) rh cq oZ;have dN:=Qt l.prog w base T U (h19.mk X G) dP;have rj:=Qn l.prog w base T U (h20.mk X G) dN pA;have cv:=Pe l.prog w base T U (h25.mk X G) rj;have dI:=Qg l.prog w base T U (h30.mk X G) uS sD uL nj dH rj;have cf:=QI l.prog w base T U (h28.mk X G) uS sD uL nj cn cv;exact QH l.prog w base T U Fl dW rj d_ dX dR cf dI
def WZ {l:PySem.W.OpenLaw}{q:Program}{loose:List Str}{XP:(Str->Option Value)->Heap->Prop}{YP:World->Heap->Prop}{d:DefRec}{K:Params->Ad}(hn:l.most=some 63) (Dw:d.params.defaults=[])
  (hY:∀ (w:World) (h:Heap),YP w h->(K w.params).In h)
  (F:∀ (w:World) (mg:Str->Option Value) (fa:Addr) (h:Heap),(K w.params).In h->h.Ns mainGlobals mg->mg d.name=some (.ref fa)->
   ∃ fd:FuncData,(∀ (s:Shared) (u:Value),BindsTo s fd ⟨[u],[]⟩ [("_law_script",u)])/\∀ base:Heap,(K w.params).In base->base.Ns mainGlobals mg->uM l.prog w (K w.params) mg base vP 11 fa fd ["_law_script"] (se (K w.params) (zS zJ nE))):
  PySem.W.WalkO q loose XP YP l.row.toRowW d [] (λ f vs=>PySem.call f vs):=
 L2.WY (n:=63) (k:=11) (x:="_law_script") (CX:=λ _=>vP) (sp:=λ w=>se (K w.params) (zS zJ nE)) hn (by decide) Dw ⟨rfl,by decide,by decide⟩ hY F (λ _ _ a ns hl hO hS=>Ow Ou hO hS hl) λ _ _ _ _ _ z=>z
end yj
open PySem PySem.W PyProof.Rows
set_option maxHeartbeats 0 in
theorem PySem.Challenge.cw_purseborder_k43_deeds_and_ways_told_holds : PySem.Challenge.rw_purseborder_k43_deeds_and_ways_told.Holds := by
 w_on;o_law;k_head;(case hw=>w_witness2)
 k_fill
 refine yj.WZ (l:=PySem.Challenge.rw_purseborder_k43_deeds_and_ways_told) rfl rfl (λ w h Y=>PySem.W.kIn_of Y) ?F
 case F=>
  intro w mg fa h KX G Dn;refine' yj.MX KX G Dn ?_ ?_ ?_ ?_ ?_ ?_ ?_ ?_ ?_ ?_ ?_ ?_ ?_ ?_ ?_ ?_ ?_ ?_ ?_ ?_ ?_ ?_ ?_ ?_ ?_ ?_ ?_ ?_ ?_ ?_ ?_ ?_ ?_ ?_ ?_ ?_ ?_ ?_ ?_ ?_ ?_ ?_ ?_ ?_ ?_ ?_ ?_ ?_ ?_ ?_ ?_ ?_ ?_ ?_ ?_ ?_ ?_ ?_ ?_ ?_ ?_ ?_ ?_ ?_ ?_
  all_goals first | exact L5.Fx.i (by k_is) (by k_is) (by k_is) (by k_is) | k_is | exact L5.Cn.i (by k_is) (by exact⟨_,rfl⟩)
