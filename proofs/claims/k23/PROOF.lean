import PyProof.Rows.All
import Wide.All
import OpenK.AllK
import Wide.FinOn
import Lean
import PyProof.EqAt
import PyProof.EqKinds
import PyProof.TupleCall
import PySem.SetOps
import PyProof.SetScanFacts
import PyProof.TupleKey
import PyProof.SetKind
import PyProof.SetRoads
import PyProof.IsRules
import PyProof.ZipIter
import PyProof.TupleIter
import PyProof.ListMulRoad
import PyProof.FactsAll.tuple
import PyProof.ListRange
import PyProof.Draws
import PyProof.EnumFor
import PyProof.Rows.ListMul
import PyProof.AutoListH
import PyProof.ExcInit
import PyProof.ExcClass2
import PyProof.InstStore
import PyProof.InstStoreFacts
import PyProof.ExcArgsOwn
import PyProof.IsInstance
import PyProof.IsInstanceH
import PyProof.StationsW
import PyProof.Rows.CatchOwn
import PyProof.FactsAll.dict_1
import PySem.Challenge.RW_purseborder_k23_runs
set_option Elab.async false
set_option linter.all false
set_option maxRecDepth 100000
set_option genSizeOf false
noncomputable section
def za0:=@PySem.wpAny_bind
def za1:=@PySem.Heap.get?_push_of_some
def za2:=@PySem.wpAny_loadPart_at
def za3:=@PySem.wpAny_mono
def za4:=@PySem.wpAny_field
def za5:=@PySem.wpAny_holding
def za6:=@PySem.Heap.get?_update_self
def za7:=@decide_eq_false
def za8:=@PySem.wpAny_newObj_type
def za9:=@PySem.Heap.get?_update_other
def zaA:=@PySem.wpAny_setState_of
def zaB:=@PySem.wpAny_call_entry
def zaC:=@PySem.wpAny_setField
def zaD:=@PySem.wpAny_isSubtype_exc
def zaE:=@PySem.wpAny_seqItems
def zaF:=@PySem.wpAny_callSpecial?_slot
def zaG:=@PySem.wpAny_typeOf
def zaH:=@PySem.wpAny_truthy_bool
def zaI:=@PySem.wpAny_execs_nil
def zaJ:=@decide_eq_true
def zaK:=@PySem.wpAny_setField_rec
def zaL:=@PySem.PassesOwn.never
def zaM:=@PySem.wpAny_passesOwn
def zaN:=@PySem.wpAny_Call_Name_kw
def zaO:=@PySem.wpAny_pyIter_list
def zaP:=@PySem.wpAny_askSetting
def zaQ:=@PySem.Heap.get?_none_of_le
def Af:=@Option.bind_eq_some_iff
def Ap:=@List.mem_cons_self
def Au:=@Option.map_eq_some_iff
def Av:=@List.mem_cons_of_mem
def AK:=@List.not_mem_nil
def A2:=@List.nodup_cons
def A5:=@List.lookup_cons
def A4:=@List.contains_cons
def Bc:=@List.map_nil
def Bb:=@Nat.lt_or_ge
def Bu:=@Nat.ne_of_gt
def BC:=@List.append_nil
def BI:=@Bool.false_ne_true
def BH:=@Nat.lt_succ_of_lt
def BV:=@List.replicate_succ
def BU:=@List.mem_iff_getElem
def BS:=@Nat.le_add_right
def B1:=@List.getElem?_append_left
def B0:=@List.flatten_cons
def BZ:=@List.pairwise_cons
def BX:=@Array.getElem_toList
def Ci:=@List.filterMap_cons
def Cg:=@List.mem_append_left
def Cf:=@List.mem_filterMap
def Ce:=@List.length_set
def Cd:=@List.getElem?_set
def Cc:=@List.ext_getElem
def Cb:=@Array.getElem?_eq_none
def Ca:=@Bool.or_true
def CD:=@List.length_take
def CC:=@List.getElem?_append_right
def CB:=@List.length_nil
def CA:=@Array.size_map
def Cz:=@List.pairwise_map
def Cy:=@List.pairwise_iff_getElem
def Cw:=@List.range_succ_eq_map
def Cv:=@Nat.mod_lt
def Cu:=@List.toList_toArray
def Ct:=@Int.zero_add
def De:=@List.of_mem_zip
def Dd:=@Option.isSome_iff_exists
def Dc:=@List.forIn_cons
def C_:=@Nat.lt_trans
def C9:=@Array.getD_eq_getD_getElem?
def C8:=@Bool.and_self
def C7:=@Bool.and_false
def C6:=@List.length_pos_of_mem
def C5:=@Nat.lt_trichotomy
def C4:=@Array.getElem?_setIfInBounds
def C3:=@List.mem_iff_getElem?
def C2:=@List.map_take
def C1:=@List.map_drop
def C0:=@List.filter_cons
def CZ:=@Int.mul_le_mul_of_nonneg_right
def DA:=@List.mem_filter
def Dz:=@Array.append_assoc
def Dy:=@List.getElem?_set_self
def Dx:=@List.getElem?_set_ne
def Dw:=@List.getElem?_replicate
def Dv:=@List.zip_cons_cons
def Du:=@List.length_drop
def Dt:=@Bool.not_eq_true'
def Ds:=@Bool.eq_iff_iff
def Dr:=@List.mem_erase_of_ne
def Dq:=@List.length_erase_of_mem
def Dp:=@List.nodup_range
def Dn:=@List.take_append_drop
def Dm:=@List.perm_ext_iff_of_nodup
def Dl:=@List.append_assoc
def Dk:=@Int.toNat_natCast
def Dj:=@List.map_congr_left
def zbZ:=@Array.getElem?_setIfInBounds_ne
def Ao:=@List.size_toArray
def BL:=@List.getElem?_eq_getElem
def Az:=@List.getElem?_eq_some_iff
def AA:=@List.getElem?_map
def Ad:=@Nat.le_refl
def Aj:=@List.mem_cons
def Ax:=@List.map_cons
def Aq:=@List.length_map
def Ai:=@PySem.Heap.lt_size
def AH:=@PySem.Heap.get?_push_size
def AE:=@List.mem_map
def DB:=@List.getD_eq_getElem?_getD
def Cm:=@Bool.not_false
def Al:=@Nat.ne_of_lt
def AN:=@List.mem_append_right
def Ck:=@Bool.not_true
def AF:=@List.mem_singleton
def Be:=@List.mem_of_getElem?
def A7:=@Array.getElem?_eq_getElem
def A1:=@List.mem_append
def A0:=@List.length_cons
def A6:=@List.mem_range
def AZ:=@PySem.W.mg_none_of
def AO:=@Nat.lt_of_lt_of_le
def A3:=@Bool.false_eq_true
def CH:=@List.length_range
def B4:=@Option.bind_some
def CG:=@List.any_eq_true
def Ab:=@PySem.wpAny_pure
def Bd:=@Array.length_toList
def Br:=@Array.getElem?_toList
def AM:=@Nat.zero_le
def AY:=@Option.some.inj
def Bp:=@List.map_map
def CF:=@List.length_append
def BW:=@List.getElem_mem
def Bo:=@Nat.le_trans
def B3:=@Nat.lt_irrefl
def Cj:=@Nat.lt_succ_self
def BD:=@Nat.le_of_lt
def AW:=@List.all_eq_true
def AU:=@Bool.and_eq_true
def B2:=@List.map_append
def BK:=@Int.emod_nonneg
def BJ:=@Int.emod_lt_of_pos
abbrev Aa:=PySem.W.Frag
namespace L2
open PySem PySem.Spec PyProof.Rows
abbrev Key:=Sum Int Str
noncomputable def dP:Key->Value->Bool
 | .inl k,v=>Value.isInt k v
 | .inr x,v=>Value.isStrOf x v
noncomputable def Tv (w:World):Key->Int
 | .inl k=>hashInt k
 | .inr x=>hashStr w x
theorem u_:∀ {k:Key}{v:Value},dP k v=true->(∃ i t,k=Sum.inl i/\v=Value.int i t)\/(∃ x t,k=Sum.inr x/\v=Value.str x t)
 | .inl i,v,h=>by
  obtain⟨t,e⟩:=Value.isInt_shape (k:=i) (v:=v) h
  exact .inl ⟨i,t,rfl,e⟩
 | .inr x,v,h=>by
  obtain⟨t,e⟩:=Value.isStrOf_shape (x:=x) (v:=v) h
  exact .inr ⟨x,t,rfl,e⟩
def Tu (a b:Int):decide ((Sum.inl a:Key)=Sum.inl b)=(a == b):=by
 by_cases e:a=b
 ·subst e;simp
 ·have h:¬ (Sum.inl a:Key)=Sum.inl b:=λ q=>e (Sum.inl.inj q)
  rw[za7 h]
  exact (beq_eq_false_iff_ne.mpr e).symm
def Tr (a b:Str):decide ((Sum.inr a:Key)=Sum.inr b)=decide (a=b):=by
 by_cases e:a=b
 ·subst e;simp
 ·have h:¬ (Sum.inr a:Key)=Sum.inr b:=λ q=>e (Sum.inr.inj q)
  rw[za7 h,za7 e]
def Tt (a:Int) (b:Str):decide ((Sum.inl a:Key)=Sum.inr b)=false:=za7 (λ q=>nomatch q)
def Ts (a:Str) (b:Int):decide ((Sum.inr a:Key)=Sum.inl b)=false:=za7 (λ q=>nomatch q)
def ju (prog:Program) (w:World):PySem.KeyKind prog w Key where
 is:=dP
 hash:=Tv w
 inj:=λ v a b ha hb=>by
  rcases u_ ha with ⟨i,t,rfl,rfl⟩ | ⟨x,t,rfl,rfl⟩
  ·rcases u_ hb with ⟨j,u,rfl,e⟩ | ⟨y,u,rfl,e⟩
   ·injection e with e1 _;rw[e1]
   ·exact nomatch e
  ·rcases u_ hb with ⟨j,u,rfl,e⟩ | ⟨y,u,rfl,e⟩
   ·exact nomatch e
   ·injection e with e1 _;rw[e1]
 byValue:=λ k v h=>by
  rcases u_ h with ⟨i,t,rfl,rfl⟩ | ⟨x,t,rfl,rfl⟩ <;> rfl
 pyHash:=λ hv h=>by
  rcases u_ hv with ⟨i,t,rfl,rfl⟩ | ⟨x,t,rfl,rfl⟩
  ·exact wpAny_pyHash_int h
  ·exact wpAny_pyHash_str h
 eqBool:=λ hu hv h=>by
  rcases u_ hu with ⟨i,t,rfl,rfl⟩ | ⟨x,t,rfl,rfl⟩
  ·rcases u_ hv with ⟨j,u,rfl,rfl⟩ | ⟨y,u,rfl,rfl⟩
   ·rw[Tu] at h;exact wpAny_eqBool_int h
   ·rw[Tt] at h;exact SeqAt.EqAt.int_str i t y u _ _ _ _ h
  ·rcases u_ hv with ⟨j,u,rfl,rfl⟩ | ⟨y,u,rfl,rfl⟩
   ·rw[Ts] at h;exact SeqAt.EqAt.str_int x t j u _ _ _ _ h
   ·rw[Tr] at h;exact wpAny_eqBool_str h
 «strs»:=λ k x t v h=>by
  rcases u_ h with ⟨i,u,rfl,e⟩ | ⟨y,u,rfl,e⟩
  ·exact nomatch e
  ·injection e with e1 _
   subst e1
   cases v <;> rfl
inductive V where
 | zg | bl (b:Bool) | int (i:Int) | str (x:Str) | o7 (b:Array UInt8) | jY (b:UInt64) | ref (a:Addr) | ty (n:String)
 deriving DecidableEq
noncomputable def RelV:V->Value->Prop
 | .zg,u=>u=Value.none
 | .bl b,u=>u=Value.bool b
 | .int i,u=>∃ t,u=Value.int i t
 | .str x,u=>∃ t,u=Value.str x t
 | .o7 b,u=>∃ t,u=Value.bytes b t
 | .jY b,u=>∃ t,u=Value.float b t
 | .ref a,u=>u=Value.ref a
 | .ty n,u=>u=Value.type n
abbrev Vals:List V->List Value->Prop:=Paired RelV
theorem Vals.length {xs:List V}{us:List Value}(r:Vals xs us):xs.length=us.length:=Paired.length r
theorem Vals.get:∀ {xs:List V}{us:List Value}{i:Nat}{x:V},Vals xs us->xs[i]?=some x->∃ u,us[i]?=some u/\RelV x u
 | _,_,_,_,.nil,e=>by simp at e
 | _,_,0,_,.cons r _,e=>by simp at e;subst e;exact⟨_,rfl,r⟩
 | _,_,i+1,x,.cons _ t,e=>by
  obtain⟨u,h1,h2⟩:=Vals.get (i:=i) (x:=x) t (by simpa using e)
  exact⟨u,by simpa using h1,h2⟩
theorem Vals.set {x:V}{u:Value}(r:RelV x u):∀ {xs:List V}{us:List Value}(i:Nat),Vals xs us->Vals (xs.set i x) (us.set i u)
 | _,_,_,.nil=>.nil
 | _,_,0,.cons _ t=>.cons r t
 | _,_,i+1,.cons q t=>.cons q (Vals.set r i t)
theorem Vals.append:∀ {xs ys:List V}{us ws:List Value},Vals xs us->Vals ys ws->Vals (xs++ys) (us++ws)
 | _,_,_,_,.nil,s=>s
 | _,_,_,_,.cons r t,s=>.cons r (Vals.append t s)
theorem Vals.take:∀ {xs:List V}{us:List Value}(n:Nat),Vals xs us->Vals (xs.take n) (us.take n)
 | _,_,0,_=>.nil
 | _,_,_+1,.nil=>.nil
 | _,_,n+1,.cons r t=>.cons r (Vals.take n t)
theorem Vals.drop:∀ {xs:List V}{us:List Value}(n:Nat),Vals xs us->Vals (xs.drop n) (us.drop n)
 | _,_,0,r=>r
 | _,_,_+1,.nil=>.nil
 | _,_,n+1,.cons _ t=>Vals.drop n t
noncomputable def iK:Option V->Option Value->Prop
 | some v,some u=>RelV v u
 | none,none=>True
 | _,_=>False
def KV {κ:Type}:List (κ × V)->List (κ × Value)->Prop:=Paired λ(p:κ × V) (q:κ × Value)=>p.1=q.1/\RelV p.2 q.2
noncomputable def kV:Key->V
 | .inl i=>.int i
 | .inr x=>.str x
inductive HO where
 /-- a list -/
 | lst (xs:List V)
 /-- a tuple (never changes) -/
 | tup (xs:List V)
 /-- a dict whose keys are ints and texts;one whose keys are tuples of ints and texts (the empty one is both) -/
 | dK (Ae:List (Key×V)) | dT (Ae:List (List Key×V))
 /-- a set of ints: its members,its size -/
 | set (S:Int->Bool) (n:Nat)
 /-- an instance of the class at C,its dict at dx,its attributes -/
 | ins (C dx:Addr) (fs:List (Str×V))
 /-- the dict of the instance at x -/
 | own (x:Addr)
 /-- the dict of an exception -/
 | xd (fs:List (Str×V))
 /-- a bound method,f of x -/
 | met (f x:Addr)
 /-- a range object lo,lo+1,.. below hi -/
 | kL (lo hi:Int)
 /-- a thing that is known to the object (the script;a dict while a loop walks it): read,never written while it is so -/
 | xN (o:Obj) (u:HO)
 /-- a code object's table -/
 | sL (ps:Array Value)
 /-- any other thing,by what is true of its one object (a def of one's own: yD a S n:=HO.ext λ h=>..) -/
 | ext (φ:Heap->Prop)
abbrev Hp:=Addr->Option HO
noncomputable def upd (H:Hp) (a:Addr) (o:HO):Hp:=λ b=>if b=a then some o else H b
def yq {H:Hp}{a:Addr}{o:HO}:upd H a o a=some o:=by unfold upd;rw[if_pos rfl]
def zN {H:Hp}{a b:Addr}{o:HO}(h:b≠a):upd H a o b=H b:=by unfold upd;rw[if_neg h]
def rp {H:Hp}{a b:Addr}{o u:HO}(h:H a=some o) (h':H b=some u) (d:o≠u):a≠b:=by
 intro e;subst e;rw[h] at h';exact d (AY h')
def xm {H:Hp}{a b:Addr}{o:HO}(h:H a=some o) (h':H b=none):a≠b:=by
 intro e;subst e;rw[h] at h';cases h'
section
variable (P:Program)(w:World)
noncomputable def xG (H:Hp) (h:Heap) (a:Addr):HO->Prop
 | .lst xs=>xs.length<=sizeLine/\∃ (its:List Value) (n:Nat),Vals xs its/\h.get? a=some { cls:=.type "list",data:=.seq its.toArray n }
 | .tup xs=>xs.length<=sizeLine/\∃ its:List Value,Vals xs its/\IsTup h a its.toArray
 | .dK Ae=>Ae.length<=sizeLine/\(a == sysModules)=false/\∃ vs,KV Ae vs/\h.DictOf (ju P w) a vs
 | .dT Ae=>Ae.length<=sizeLine/\(a == sysModules)=false/\∃ xs:List (List Key×Addr×Value),
   Paired (λ(p:List Key×V) (q:List Key×Addr×Value)=>p.1=q.1/\H q.2.1=some (.tup (p.1.map kV))/\RelV p.2 q.2.2) Ae xs/\
   ∃ o es ep,h.get? a=some o/\o.ExactDict/\o.data=.dict es ep/\es.toList=xs.map (entryOfKey (tupleKind (ju P w)))/\(xs.map (·.1)).Nodup
 | .set S n=>h.SetOf (intKind P w) a S n
 | .ins C dx fs=>H dx=some (.own a)/\fs.length<=1000/\dx≠a/\h.get? a=some (PySem.W.instObj C dx)/\
   ∃ mA,h.Ns1 dx mA/\(∀ f,iK (fs.lookup f) (mA f))/\PySem.Within mA (fs.map (·.1))
 | .own _=>∃ o,h.get? a=some o
 | .xd fs=>∃ mA,h.Ns1 a mA/\∀ f,iK (fs.lookup f) (mA f)
 | .kL lo hi=>∃ t u v,h.get? a=some { cls:=.type "range",data:=.fields #[.int lo t,.int hi u,.int 1 v] }
 | .xN o u=>h.get? a=some o/\xG H h a u
 | .sL ps=>h.get? a=some { cls:=.none,data:=.fields ps }
 | .met f x=>h.get? a=some (PySem.W.methodObj (.ref f) (.ref x))
 | .ext φ=>φ h/\(∃ o,h.get? a=some o)/\∀ h1 h2:Heap,φ h1->(∀ o,h1.get? a=some o->h2.get? a=some o)->φ h2
def yn (H:Hp) (h:Heap):Prop:=∀ a o,H a=some o->xG P w H h a o
end
section
variable {P:Program}{w:World}{H H':Hp}{h h':Heap}{a:Addr}{o:HO}
theorem xG.lt (x:xG P w H h a o):a<h.objs.size:=by
 cases o with
 | lst xs=>obtain⟨_,_,_,_,e⟩:=x;exact Ai e
 | tup xs=>obtain⟨_,_,_,p⟩:=x;exact p.lt
 | dK Ae=>obtain⟨_,_,_,_,o,_,_,e,_⟩:=x;exact Ai e
 | dT Ae=>obtain⟨_,_,_,_,o,_,_,e,_⟩:=x;exact Ai e
 | set S n=>obtain⟨o,_,_,_,e,_⟩:=x;exact Ai e
 | ins C dx fs=>obtain⟨_,_,_,e,_⟩:=x;exact Ai e
 | own y=>obtain⟨_,e⟩:=x;exact Ai e
 | xd fs=>obtain⟨_,⟨_,_,_,e,_⟩,_⟩:=x;exact Ai e
 | kL lo hi=>obtain⟨_,_,_,e⟩:=x;exact Ai e
 | xN ob u=>obtain⟨e,_⟩:=x;exact Ai e
 | sL ps=>exact Ai (show h.get? a=some _ from x)
 | met f y=>exact Ai (show h.get? a=some _ from x)
 | ext φ=>obtain⟨_,⟨_,e⟩,_⟩:=x;exact Ai e
theorem Paired.jw {α β:Type}{F G:α->β->Prop}:∀ {l₁:List α}{l₂:List β},Paired F l₁ l₂->(∀ a b,F a b->G a b)->Paired G l₁ l₂
 | _,_,.nil,_=>.nil
 | _,_,.cons r t,f=>.cons (f _ _ r) (Paired.jw t f)
def xG.wL (x:xG P w H h a o) (k:∀ b u,(b=a\/H b=some (.own a))->h.get? b=some u->h'.get? b=some u)
  (ho:∀ b,H b=some (.own a)->H' b=some (.own a)) (ht:∀ b xs,H b=some (.tup xs)->H' b=some (.tup xs)):xG P w H' h' a o:=by
 induction o with
 | lst xs=>obtain⟨z,its,n,r,e⟩:=x;exact⟨z,its,n,r,k _ _ (.inl rfl) e⟩
 | tup xs=>obtain⟨z,its,r,ob,e,c⟩:=x;exact⟨z,its,r,ob,k _ _ (.inl rfl) e,c⟩
 | dK Ae=>obtain⟨z,y,vs,r,ob,es,ep,e,c⟩:=x;exact⟨z,y,vs,r,ob,es,ep,k _ _ (.inl rfl) e,c⟩
 | dT Ae=>
  obtain⟨z,y,xs,r,ob,es,ep,e,c⟩:=x
  exact⟨z,y,xs,Paired.jw r λ p q z=>⟨z.1,ht _ _ z.2.1,z.2.2⟩,ob,es,ep,k _ _ (.inl rfl) e,c⟩
 | set S n=>obtain⟨ob,es,ep,t,e,c⟩:=x;exact⟨ob,es,ep,t,k _ _ (.inl rfl) e,c⟩
 | ins C dx fs=>
  obtain⟨d,z,ne,e,mA,⟨od,es,ep,e2,c⟩,r⟩:=x
  exact⟨ho _ d,z,ne,k _ _ (.inl rfl) e,mA,⟨od,es,ep,k _ _ (.inr d) e2,c⟩,r⟩
 | own y=>obtain⟨ob,e⟩:=x;exact⟨ob,k _ _ (.inl rfl) e⟩
 | xd fs=>obtain⟨mA,⟨od,es,ep,e,c⟩,r⟩:=x;exact⟨mA,⟨od,es,ep,k _ _ (.inl rfl) e,c⟩,r⟩
 | kL lo hi=>obtain⟨t,u,v,e⟩:=x;exact⟨t,u,v,k _ _ (.inl rfl) e⟩
 | xN ob u ih=>obtain⟨e,q⟩:=x;exact⟨k _ _ (.inl rfl) e,ih q⟩
 | sL ps=>
  have e:h.get? a=some { cls:=.none,data:=.fields ps }:=x
  show h'.get? a=some { cls:=.none,data:=.fields ps }
  exact k a _ (.inl rfl) e
 | met f y=>
  have e:h.get? a=some (PySem.W.methodObj (.ref f) (.ref y)):=x
  show h'.get? a=some (PySem.W.methodObj (.ref f) (.ref y))
  exact k a _ (.inl rfl) e
 | ext φ=>obtain⟨p,⟨o,e⟩,st⟩:=x;exact⟨st _ _ p λ o q=>k _ _ (.inl rfl) q,⟨o,k _ _ (.inl rfl) e⟩,st⟩
theorem yn.lt (x:yn P w H h) (e:H a=some o):a<h.objs.size:=(x a o e).lt
def yn.fresh (x:yn P w H h) (e:h.objs.size<=a):H a=none:=by
 cases q:H a with
 | none=>rfl
 | some u=>exact absurd (AO (x.lt q) e) (B3 _)
def yn.kept (x:yn P w H h) (k:∀ b u,h.get? b=some u->h'.get? b=some u):yn P w H h':=λ a o e=>
 (x a o e).wL (λ b u _ q=>k b u q) (λ _ q=>q) λ _ _ q=>q
def yn.laid (x:yn P w H h) (k:∀ b u,h.get? b=some u->h'.get? b=some u) (hp:h.objs.size<=a) (new:xG P w (upd H a o) h' a o):yn P w (upd H a o) h':=λ b u e=>by
 have hn:=x.fresh hp
 by_cases hb:b=a
 ·subst hb;rw[yq] at e;cases e;exact new
 ·rw[zN hb] at e
  exact (x b u e).wL (λ c v _ q=>k c v q) (λ c q=>by rw[zN (xm q hn)];exact q) λ c xs q=>by rw[zN (xm q hn)];exact q
end
def Rd (H:Hp) (a:Addr) (u:HO):Prop:=H a=some u\/∃ o,H a=some (.xN o u)
def Rd.ok {P:Program}{w:World}{H:Hp}{h:Heap}{a:Addr}{u:HO}(r:Rd H a u) (x:yn P w H h):xG P w H h a u:=by
 rcases r with r | ⟨o,r⟩
 ·exact x a u r
 ·obtain⟨_,q⟩:=x a _ r
  exact q
noncomputable def mY:Option HO->Prop
 | some (.lst _)=>True
 | some (.dK _)=>True
 | some (.dT _)=>True
 | some (.set _ _)=>True
 | some (.ins _ _ _)=>True
 | some (.ext _)=>True
 | _=>False
section
variable {P:Program}{w:World}{H:Hp}{h h':Heap}{x e:Addr}{o':HO}
def yn.write (ok:yn P w H h) (mu:mY (H x)) (he:e=x\/H e=some (.own x)) (k:∀ b u,b≠e->h.get? b=some u->h'.get? b=some u) (BQ:∃ u,h'.get? e=some u)
  (new:xG P w (upd H x o') h' x o'):yn P w (upd H x o') h':=λ b u q=>by
 have nown:∀ c y,H c=some (.own y)->c≠x:=λ c y r z=>by subst z;rw[r] at mu;exact mu
 have ntup:∀ c xs,H c=some (.tup xs)->c≠x:=λ c xs r z=>by subst z;rw[r] at mu;exact mu
 by_cases hb:b=x
 ·subst hb;rw[yq] at q;cases q;exact new
 ·rw[zN hb] at q
  by_cases BB:b=e
  ·have q':H b=some (.own x):=by
    rcases he with z | z
    ·exact absurd (BB.trans z) hb
    ·rw[BB];exact z
   rw[q] at q';cases q'
   obtain⟨v,hv⟩:=BQ
   exact⟨v,by rw[BB];exact hv⟩
  ·refine (ok b u q).wL (λ c v hc r=>k c v ?_ r) (λ c r=>by rw[zN (nown c b r)];exact r) λ c xs r=>by rw[zN (ntup c xs r)];exact r
   rcases hc with rfl | hc
   ·exact BB
   ·rintro rfl
    rcases he with z | z
    ·exact nown c b hc z
    ·rw[hc] at z;cases z;exact hb rfl
end
structure Un (fs ex:List Addr) (H H':Hp) (h h':Heap):Prop where
 keep:∀ b o,h.get? b=some o->H b=none->b∉fs->b∉ex->h'.get? b=some o
 slot:∀ b o,h.get? b=some o->H b=none->b∈fs->b∉ex->∃ sl,h'.get? b=some { o with slots:=sl }
 free:∀ b o,h.get? b=some o->H b=none->b∉ex->H' b=none
 there:∀ b o,h.get? b=some o->b∉ex->∃ o',h'.get? b=some o'
 wK:∀ b xs,H b=some (.tup xs)->H' b=some (.tup xs)
 vi:∀ b o u,H b=some (.xN o u)->H' b=some (.xN o u)
 vz:∀ b ps,H b=some (.sL ps)->∃ more,H' b=some (.sL (ps++more))
section
variable {fs ex:List Addr}{H H1:Hp}{h h1 h':Heap}{a x e:Addr}{o:HO}
def Un.any (u:Un fs ex H H1 h h1) {b:Addr}{ob:Obj}(q:h.get? b=some ob) (n:H b=none) (hx:b∉ex):∃ sl,h1.get? b=some { ob with slots:=sl }:=by
 by_cases hb:b∈fs
 ·exact u.slot b ob q n hb hx
 ·exact⟨ob.slots,u.keep b ob q n hb hx⟩
def Un.kept (k:∀ b u,h.get? b=some u->h'.get? b=some u):Un fs ex H H h h':=
 ⟨λ b ob q _ _ _=>k b ob q,λ b ob q _ _ _=>⟨ob.slots,k b ob q⟩,λ _ _ _ n _=>n,λ b ob q _=>⟨ob,k b ob q⟩,λ _ _ q=>q,λ _ _ _ q=>q,λ _ ps q=>⟨#[],by rw[q];simp⟩⟩
def Un.refl:Un fs ex H H h h:=Un.kept λ _ _ q=>q
def Un.laid (k:∀ b u,h.get? b=some u->h'.get? b=some u) (hp:h.objs.size<=a) (hn:H a=none):Un fs ex H (upd H a o) h h' where
 keep:=λ b u q _ _ _=>k b u q
 slot:=λ b u q _ _ _=>⟨u.slots,k b u q⟩
 free:=λ b u q n _=>by rw[zN (Al (AO (Ai q) hp))];exact n
 there:=λ b u q _=>⟨u,k b u q⟩
 wK:=λ b xs q=>by rw[zN (xm q hn)];exact q
 vi:=λ b u xs q=>by rw[zN (xm q hn)];exact q
 vz:=λ b ps q=>⟨#[],by rw[zN (xm q hn),q];simp⟩
def Un.write (mu:mY (H x)) (he:e=x\/H e=some (.own x)) (k:∀ b u,b≠e->h.get? b=some u->h'.get? b=some u) (BQ:∃ u,h'.get? e=some u):Un fs ex H (upd H x o) h h':=by
 have hx:∀ b,H b=none->b≠x:=λ b n z=>by subst z;rw[n] at mu;exact mu
 have hb:∀ b,H b=none->b≠e:=λ b n z=>by
  subst z
  rcases he with r | r
  ·exact hx b n r
  ·rw[n] at r;cases r
 have hm:∀ b u,H b=some u->¬ mY (some u)->b≠x:=λ b u q nm z=>by subst z;rw[q] at mu;exact nm mu
 refine⟨λ b u q n _ _=>k b u (hb b n) q,λ b u q n _ _=>⟨u.slots,k b u (hb b n) q⟩,λ b u q n _=>by rw[zN (hx b n)];exact n,λ b u q _=>?_,
  λ b xs q=>by rw[zN (hm b _ q λ z=>z)];exact q,λ b u xs q=>by rw[zN (hm b _ q λ z=>z)];exact q,λ b ps q=>⟨#[],by rw[zN (hm b _ q λ z=>z),q];simp⟩⟩
 by_cases BB:b=e
 ·subst BB;exact BQ
 ·exact⟨u,k b u BB q⟩
end
noncomputable def nj (h:Heap) (H:Hp):List Addr:=(List.range h.objs.size).filter λ a=>(H a).isSome
def tf (h:Heap) (H:Hp):Heap:=PySem.W.hideAll h (nj h H)
def TZ (h:Heap) (H:Hp):(tf h H).objs.size=h.objs.size:=PySem.W.hideAll_size _ _
def T_ {h:Heap}{H:Hp}{b:Addr}{o:Obj}(e:h.get? b=some o) (n:H b=none):(tf h H).get? b=some o:=
 PySem.W.hideAll_get _ e λ hm=>by
  have q:(H b).isSome=true:=(DA.mp hm).2
  rw[n] at q;simp at q
def U9 {h:Heap}{H:Hp}{b:Addr}{o:Obj}(e:(tf h H).get? b=some o):h.get? b=some o/\H b=none:=by
 have e':h.get? b=some o:=PySem.W.of_hideAll (nj h H) e
 refine⟨e',?_⟩
 cases q:H b with
 | none=>rfl
 | some x=>
  have hm:b∈nj h H:=DA.mpr ⟨A6.mpr (Ai e'),by simp[q]⟩
  have z:(tf h H).get? b=none:=PySem.W.hideAll_none (nj h H) hm
  rw[z] at e;cases e
structure Mod (K:Aa) (mg:Str->Option Value) (base:Heap):Prop where
 qC:K.In base
 glob:base.Ns mainGlobals mg
 blt:∃ mb,base.Ns builtinsNs mb/\∀ x:Str,x≠"__name__"->mb x=bootBuiltins x
 nolimit:base.NoLimit
structure Cx where
 prog:Program
 w:World
 K:Aa
 mg:Str->Option Value
 base:Heap
 A:Around
 N:List Str
 s₀:Shared
 H₀:Hp
 env:Env
 outer:List Env
 stack:List Env
 ex:List Addr
 fn:Str->Bool
 calm:Bool
 pn:List (Addr×Obj)
 xe:Value->Shared->Prop
noncomputable def yK (l:List Env):List Addr:=l.filterMap (·.frame)
abbrev Cx.fs (X:Cx):List Addr:=yK X.outer
def oB (sc:Scope) (x:Str):Prop:=sc.names.lookup x=some .local\/sc.names.lookup x=some .cell\/sc.names.lookup x=some .free
def Loc (sc:Scope) (x:Str):Prop:=sc.names.lookup x=some .local\/sc.names.lookup x=some .cell
def Look (env:Env) (h:Heap) (m:Str->Option Value) (x:Str) (u:Value):Prop:=
 (env.kindOf x=some .local/\m x=some u)\/((env.kindOf x=some .cell\/env.kindOf x=some .free)/\∃ c,env.cells.lookup x=some c/\h.IsCell c (some u))
structure Cx.Ok (X:Cx):Prop where
 mod:Mod X.K X.mg X.base
 kind:X.env.scope.kind=.function
 glob:X.env.globals=mainGlobals
 blt:X.env.builtins=builtinsNs
 above:X.s₀.heap.objs.size<=X.env.locals
 inj:∀ x y c,X.env.cells.lookup x=some c->X.env.cells.lookup y=some c->x=y
 has:∀ x,(X.env.kindOf x=some .cell\/X.env.kindOf x=some .free)->∃ c,X.env.cells.lookup x=some c
 rF:∀ x c,X.fn x=true->X.env.cells.lookup x=some c->X.s₀.heap.objs.size<=c
 hd:X.calm=true->X.A.handled=none
 frames:X.A.frames=some X.stack
 qh:X.stack=X.outer\/(X.stack=X.env::X.outer/\X.env.frame=some X.env.locals)
 ou:∀ b∈X.ex,b≠X.env.locals/\∀ x c,X.env.cells.lookup x=some c->c≠b
 bs:∀ b o,X.base.get? b=some o->X.s₀.heap.get? b=some o/\X.H₀ b=none
 uE:X.base.objs.size<=X.s₀.heap.objs.size
 rm:∀ b o,X.base.get? b=some o->b∉X.ex
 rA:∀ b∈X.ex,b∉X.fs
 wU:X.s₀.heap.FunFrames X.base X.outer
 tj:∀ b∈X.fs,X.H₀ b=none
structure Inv (X:Cx) (pins:List (Addr×Obj)) (Y:List (Option V)) (H:Hp) (s:Shared):Prop where
 ok:X.Ok
 os:s.os=X.s₀.os
 bare:AllBare s.gens
 base:Un X.fs X.ex X.H₀ H X.s₀.heap s.heap
 loc:∃ m,s.heap.Ns X.env.locals m/\∀ (i:Nat) (x:Str) (v:V),X.N[i]?=some x->Y[i]?=some (some v)->oB X.env.scope x->∃ u,RelV v u/\Look X.env s.heap m x u
 cell:∀ x c,X.env.cells.lookup x=some c->∃ v,s.heap.IsCell c v
 free:H X.env.locals=none
 wG:∀ x c,X.env.cells.lookup x=some c->H c=none
 pin:∀ p∈X.pn++pins,s.heap.get? p.1=some p.2/\H p.1=none/\p.1≠X.env.locals/\p.1∉X.fs/\∀ v,p.2.data≠.cell v
 zu:yn X.prog X.w H s.heap
 len:Y.length=X.N.length
section
variable {X:Cx}{pins:List (Addr×Obj)}{Y:List (Option V)}{H H':Hp}{s:Shared}{h':Heap}
def Cx.Ok.UE (ok:X.Ok) {b:Addr}{o:Obj}(e:X.base.get? b=some o):b∉X.fs:=λ hb=>by
 have:=(ok.wU.mem hb).1
 rw[e] at this;cases this
theorem Inv.bs (I:Inv X pins Y H s):∀ b o,X.base.get? b=some o->s.heap.get? b=some o/\H b=none:=λ b o e=>
 ⟨I.base.keep b o (I.ok.bs b o e).1 (I.ok.bs b o e).2 (I.ok.UE e) (I.ok.rm b o e),I.base.free b o (I.ok.bs b o e).1 (I.ok.bs b o e).2 (I.ok.rm b o e)⟩
def Inv.bk (I:Inv X pins Y H s):∀ b o,X.base.get? b=some o->s.heap.get? b=some o:=λ b o e=>(I.bs b o e).1
theorem Inv.mod (I:Inv X pins Y H s):Mod X.K X.mg X.base:=I.ok.mod
def Inv.y8 (I:Inv X pins Y H s):X.K.In s.heap:=I.ok.mod.qC.keeps I.bk
theorem Inv.lt (I:Inv X pins Y H s):X.env.locals<s.heap.objs.size:=let ⟨_,hn,_⟩:=I.loc;hn.lt
def Inv.sz (I:Inv X pins Y H s):X.s₀.heap.objs.size<=s.heap.objs.size:=Bo I.ok.above (BD I.lt)
def Inv.dm (I:Inv X pins Y H s) {a:Addr}(h:s.heap.objs.size<=a):a∉X.fs:=λ hb=>by
 obtain⟨_,o,ho,_⟩:=I.ok.wU.mem hb
 exact absurd (AO (Ai ho) (Bo I.sz h)) (B3 _)
def Inv.uf (I:Inv X pins Y H s):∀ x c,X.env.cells.lookup x=some c->c≠X.env.locals:=λ x c e z=>by
 obtain⟨v,o,ho,hd⟩:=I.cell x c e
 obtain⟨m,⟨o',es,ep,ho',hd',_⟩,_⟩:=I.loc
 rw[z,ho'] at ho;cases ho;rw[hd'] at hd;cases hd
theorem Inv.wU (I:Inv X pins Y H s):s.heap.FunFrames X.base X.outer:=by
 have all:∀ (l:List Env),(∀ b∈yK l,b∈X.fs)->X.s₀.heap.FunFrames X.base l->s.heap.FunFrames X.base l:=by
  intro l
  induction l with
  | nil=>intro _ _;trivial
  | cons env r ih=>
   intro hs hl
   obtain⟨hk,⟨L,o,hf,hn,ho,hd⟩,hr⟩:=hl
   have hL:L∈X.fs:=hs L (by unfold yK;rw[Ci,hf];exact Ap)
   obtain⟨sl,e⟩:=I.base.slot L o ho (I.ok.tj L hL) hL λ z=>I.ok.rA L z hL
   exact⟨hk,⟨L,_,hf,hn,e,hd⟩,ih (λ b hb=>hs b (by unfold yK;rw[Ci,hf];exact Av _ hb)) hr⟩
 exact all X.outer (λ _ hb=>hb) I.ok.wU
theorem Inv.stack (I:Inv X pins Y H s):s.heap.FunFrames X.base X.stack:=by
 rcases I.ok.qh with e | ⟨e,hf⟩
 ·rw[e];exact I.wU
 ·rw[e]
  obtain⟨m,hn,_⟩:=I.loc
  refine .cons (by rw[I.ok.kind];decide) hf hn ?_ I.wU
  exact zaQ (Bo I.ok.uE I.ok.above)
def Inv.lU (I:Inv X pins Y H s):∀ b∈yK X.stack,b∈X.env.locals::X.fs:=λ b hb=>by
 rcases I.ok.qh with e | ⟨e,hf⟩
 ·rw[e] at hb;exact Av _ hb
 ·rw[e] at hb
  unfold yK at hb
  rw[Ci,hf] at hb
  exact hb
def Inv.lW (I:Inv X pins Y H s):∀ b∈yK X.stack,H b=none:=λ b hb=>by
 rcases Aj.mp (I.lU b hb) with e | hb
 ·rw[e];exact I.free
 ·obtain⟨_,o,ho,_⟩:=I.ok.wU.mem hb
  exact I.base.free b o ho (I.ok.tj b hb) λ z=>I.ok.rA b z hb
def Inv.step {g':Array GenState}{t':Nat}{d':Drawn}{ch:List Addr}(I:Inv X pins Y H s)
  (Bn:∀ b∈ch,(b∈X.ex\/X.s₀.heap.objs.size<=b)/\b≠X.env.locals/\(∀ x c,X.env.cells.lookup x=some c->c≠b)/\∀ p∈X.pn++pins,p.1≠b)
  (keep:∀ b o,b≠X.env.locals->b∉X.fs->b∉ch->s.heap.get? b=some o->H b=none->h'.get? b=some o)
  (slot:∀ b o,b≠X.env.locals->b∈X.fs->b∉ch->s.heap.get? b=some o->H b=none->∃ sl,h'.get? b=some { o with slots:=sl }) (free:∀ b o,b∉ch->s.heap.get? b=some o->H b=none->H' b=none)
  (there:∀ b o,b∉ch->s.heap.get? b=some o->∃ o',h'.get? b=some o')
  (wK:∀ b xs,H b=some (.tup xs)->H' b=some (.tup xs)) (vi:∀ b o u,H b=some (.xN o u)->H' b=some (.xN o u)) (vz:∀ b ps,H b=some (.sL ps)->∃ more,H' b=some (.sL (ps++more)))
  (ns:∀ m,s.heap.Ns X.env.locals m->h'.Ns X.env.locals m) (zu:yn X.prog X.w H' h') (hg:AllBare g'):
  Inv X pins Y H' { s with heap:=h',gens:=g',drawn:=d',toks:=t' }:=by
 have neL:∀ b o,X.s₀.heap.get? b=some o->b≠X.env.locals:=λ b o e=>Al (AO (Ai e) I.ok.above)
 have neC:∀ b o,X.s₀.heap.get? b=some o->b∉X.ex->b∉ch:=λ b o e hx hb=>by
  rcases (Bn b hb).1 with z | z
  ·exact hx z
  ·exact absurd (AO (Ai e) z) (B3 _)
 have cellK:∀ x c,X.env.cells.lookup x=some c->∀ v,s.heap.IsCell c v->h'.IsCell c v:=λ x c e v ⟨o,ho,hd⟩=>by
  have nch:c∉ch:=λ z=>(Bn c z).2.2.1 x c e rfl
  by_cases hc:c∈X.fs
  ·obtain⟨sl,q⟩:=slot c o (I.uf x c e) hc nch ho (I.wG x c e)
   exact⟨_,q,hd⟩
  ·exact⟨o,keep c o (I.uf x c e) hc nch ho (I.wG x c e),hd⟩
 refine⟨I.ok,I.os,hg,⟨λ b o e n hb hx=>?_,λ b o e n hb hx=>?_,λ b o e n hx=>?_,λ b o e hx=>?_,λ b xs e=>wK b xs (I.base.wK b xs e),λ b o xs e=>vi b o xs (I.base.vi b o xs e),λ b ps e=>?_⟩,?_,λ x c e=>?_,?_,λ x c e=>?_,λ p hp=>?_,zu,I.len⟩
 ·exact keep b o (neL b o e) hb (neC b o e hx) (I.base.keep b o e n hb hx) (I.base.free b o e n hx)
 ·obtain⟨sl,e1⟩:=I.base.slot b o e n hb hx
  obtain⟨sl',e2⟩:=slot b _ (neL b o e) hb (neC b o e hx) e1 (I.base.free b o e n hx)
  exact⟨sl',e2⟩
 ·obtain⟨o',e1⟩:=I.base.there b o e hx
  exact free b o' (neC b o e hx) e1 (I.base.free b o e n hx)
 ·obtain⟨o',e1⟩:=I.base.there b o e hx
  exact there b o' (neC b o e hx) e1
 ·obtain⟨m1,e1⟩:=I.base.vz b ps e
  obtain⟨m2,e2⟩:=vz b _ e1
  exact⟨m1++m2,by rw[e2,Dz]⟩
 ·obtain⟨m,hn,hl⟩:=I.loc
  refine⟨m,ns m hn,λ i x v e1 e2 e3=>?_⟩
  obtain⟨u,r,l⟩:=hl i x v e1 e2 e3
  refine⟨u,r,?_⟩
  rcases l with l | ⟨k,c,e,z⟩
  ·exact .inl l
  ·exact .inr ⟨k,c,e,cellK x c e _ z⟩
 ·obtain⟨v,z⟩:=I.cell x c e
  exact⟨v,cellK x c e v z⟩
 ·obtain⟨m,⟨o,_,_,ho,_⟩,_⟩:=I.loc
  exact free _ o (λ z=>(Bn _ z).2.1 rfl) ho I.free
 ·obtain⟨v,o,ho,hd⟩:=I.cell x c e
  exact free c o (λ z=>(Bn c z).2.2.1 x c e rfl) ho (I.wG x c e)
 ·obtain⟨e,n,ne,nf,d⟩:=I.pin p hp
  have nch:p.1∉ch:=λ z=>(Bn p.1 z).2.2.2 p hp rfl
  exact⟨keep p.1 p.2 ne nf nch e n,free p.1 p.2 nch e n,ne,nf,d⟩
def Inv.un {t':Nat}(I:Inv X pins Y H s) (u:Un X.fs [] H H' s.heap h') (zu:yn X.prog X.w H' h'):Inv X pins Y H' { s with heap:=h',toks:=t' }:=by
 obtain⟨m,⟨o,es,ep,ho,r⟩,_⟩:=id I.loc
 obtain⟨sl,hL⟩:=u.any ho I.free (by simp)
 exact I.step (g':=s.gens) (d':=s.drawn) (ch:=[]) (λ _ z=>nomatch z) (λ b o _ hb _ e n=>u.keep b o e n hb (by simp)) (λ b o _ hb _ e n=>u.slot b o e n hb (by simp)) (λ b o _ e n=>u.free b o e n (by simp)) (λ b o _ e=>u.there b o e (by simp)) u.wK u.vi u.vz (λ m' hm=>by
  obtain⟨o',es',ep',ho',r'⟩:=hm
  rw[ho] at ho';cases ho'
  exact⟨_,es',ep',hL,r'⟩) zu I.bare
def Inv.call {g':Array GenState}{t':Nat}{d':Drawn}{ch:List Addr}(I:Inv X pins Y H s) (u:Un (yK X.stack) ch H H' s.heap h') (zu:yn X.prog X.w H' h') (hg:AllBare g')
  (Bn:∀ b∈ch,(b∈X.ex\/X.s₀.heap.objs.size<=b)/\b≠X.env.locals/\(∀ x c,X.env.cells.lookup x=some c->c≠b)/\∀ p∈X.pn++pins,p.1≠b):
  Inv X pins Y H' { s with heap:=h',gens:=g',drawn:=d',toks:=t' }:=by
 obtain⟨m,⟨o,es,ep,ho,r⟩,_⟩:=id I.loc
 obtain⟨sl,hL⟩:=u.any ho I.free λ z=>(Bn _ z).2.1 rfl
 exact I.step (ch:=ch) Bn (λ b o hL hb hc e n=>u.keep b o e n (λ z=>(Aj.mp (I.lU b z)).elim hL hb) hc) (λ b o _ _ hc e n=>u.any e n hc) (λ b o hc e n=>u.free b o e n hc) (λ b o hc e=>u.there b o e hc) u.wK u.vi u.vz (λ m' hm=>by
  obtain⟨o',es',ep',ho',r'⟩:=hm
  rw[ho] at ho';cases ho'
  exact⟨_,es',ep',hL,r'⟩) zu hg
def Inv.turned {t':Nat}{it:Addr}(I:Inv X pins Y H s) (k:∀ b o,b≠it->s.heap.get? b=some o->h'.get? b=some o) (hn:H it=none) (hL:it≠X.env.locals)
  (h1:it∈X.ex\/X.s₀.heap.objs.size<=it) (h2:∀ x c,X.env.cells.lookup x=some c->c≠it) (h3:∀ p∈X.pn++pins,p.1≠it):Inv X pins Y H { s with heap:=h',toks:=t' }:=by
 have nit:∀ b u,H b=some u->b≠it:=λ b u e z=>by rw[z,hn] at e;cases e
 refine I.step (g':=s.gens) (d':=s.drawn) (ch:=[it]) (λ b hb=>?_) (λ b o _ _ hc e _=>k b o (λ z=>hc (by simp[z])) e) (λ b o _ _ hc e _=>⟨o.slots,k b o (λ z=>hc (by simp[z])) e⟩) (λ _ _ _ _ n=>n)
  (λ b o hc e=>⟨o,k b o (λ z=>hc (by simp[z])) e⟩) (λ _ _ e=>e) (λ _ _ _ e=>e) (λ b ps e=>⟨#[],by rw[e];simp⟩) (λ m hm=>?_) (λ b u e=>?_) I.bare
 ·have e:b=it:=by simpa using hb
  subst e
  exact⟨h1,hL,h2,h3⟩
 ·obtain⟨o,es,ep,ho,r⟩:=hm
  exact⟨o,es,ep,k _ o (Ne.symm hL) ho,r⟩
 ·refine (I.zu b u e).wL (λ c v hc q=>k c v ?_ q) (λ _ q=>q) λ _ _ q=>q
  rcases hc with z | z
  ·rw[z];exact nit b u e
  ·exact nit c _ z
def Inv.tok (I:Inv X pins Y H s) (t:Nat):Inv X pins Y H { s with toks:=t }:=I.un (h':=s.heap) (t':=t) Un.refl I.zu
theorem Inv.kept {t':Nat}(I:Inv X pins Y H s) (k:∀ b u,s.heap.get? b=some u->h'.get? b=some u):Inv X pins Y H { s with heap:=h',toks:=t' }:=I.un (Un.kept k) (I.zu.kept k)
theorem Inv.laid {a:Addr}{o:HO}{t':Nat}(I:Inv X pins Y H s) (k:∀ b u,s.heap.get? b=some u->h'.get? b=some u) (hp:s.heap.objs.size<=a) (new:xG X.prog X.w (upd H a o) h' a o):
  Inv X pins Y (upd H a o) { s with heap:=h',toks:=t' }:=I.un (Un.laid k hp (I.zu.fresh hp)) (I.zu.laid k hp new)
theorem Inv.write {x e:Addr}{o:HO}{t':Nat}(I:Inv X pins Y H s) (mu:mY (H x)) (he:e=x\/H e=some (.own x)) (k:∀ b u,b≠e->s.heap.get? b=some u->h'.get? b=some u) (BQ:∃ u,h'.get? e=some u)
  (new:xG X.prog X.w (upd H x o) h' x o):Inv X pins Y (upd H x o) { s with heap:=h',toks:=t' }:=I.un (Un.write mu he k BQ) (I.zu.write mu he k BQ new)
def Inv.kS {pins':List (Addr×Obj)}(I:Inv X pins Y H s) (h:∀ p∈pins',s.heap.get? p.1=some p.2/\H p.1=none/\p.1≠X.env.locals/\p.1∉X.fs/\∀ v,p.2.data≠.cell v):Inv X pins' Y H s:=
 ⟨I.ok,I.os,I.bare,I.base,I.loc,I.cell,I.free,I.wG,λ p hp=>(A1.mp hp).elim (λ z=>I.pin p (Cg _ z)) (h p),I.zu,I.len⟩
def jr {N:List Str}(hN:N.Nodup) {i j:Nat}{x:Str}(a:N[i]?=some x) (b:N[j]?=some x):i=j:=by
 obtain⟨h1,e1⟩:=Az.mp a
 obtain⟨h2,e2⟩:=Az.mp b
 exact (List.getElem_inj hN).mp (e1.trans e2.symm)
def Yf {M:Model}{A:Around}{E:Value->Shared->Prop}{i:Nat}{x:Str}{v:V}{u:Value}{Q:Unit->Shared->Prop}(I:Inv X pins Y H s) (hN:X.N.Nodup) (hi:X.N[i]?=some x) (hx:Loc X.env.scope x) (r:RelV v u)
  (h:∀ s',Inv X pins (Y.set i (some v)) H s'->(∃ a,Heap.SameBut a s.heap s'.heap/\(a=X.env.locals\/X.env.cells.lookup x=some a))->Q () s') (hf:X.fn x=true\/X.env.scope.names.lookup x=some .local:=by first | exact .inl rfl | exact .inr rfl | assumption):wpAny M A (storeName X.env x u) Q E s:=by
 obtain⟨m,hn,hl⟩:=id I.loc
 have AX:(X.env.scope.kind == .class||(X.env.scope.kind == .module&&X.env.locals != X.env.globals))=false:=by rw[I.ok.kind];rfl
 have hiσ:i < Y.length:=by rw[I.len];exact (Az.mp hi).1
 have uf:=I.uf
 have tracked:∀ {a:Addr}{h':Heap},(∃ o,s.heap.get? a=some o/\H a=none)->Heap.SameBut a s.heap h'->yn X.prog X.w H h':=λ{a h'} ha hs b ob e=>by
  obtain⟨_,_,hfree⟩:=ha
  refine (I.zu b ob e).wL (λ c w' hc q=>(hs.2 c ?_).trans q) (λ _ q=>q) λ _ _ q=>q
  rintro rfl
  rcases hc with rfl | hc
  ·rw[hfree] at e;cases e
  ·rw[hfree] at hc;cases hc
 rcases hx with hk | hk
 ·refine wpAny_storeName_local hk hn (λ h' hn' hs=>?_) AX
  obtain⟨oL,_,_,hoL,_⟩:=id hn
  refine h _ ⟨I.ok,I.os,I.bare,⟨λ b o e n hb hx=>?_,λ b o e n hb hx=>?_,I.base.free,λ b o e hx=>?_,I.base.wK,I.base.vi,I.base.vz⟩,⟨_,hn',λ j y v' e1 e2 e3=>?_⟩,λ y c e=>?_,I.free,I.wG,λ p hp=>?_,tracked ⟨oL,hoL,I.free⟩ hs,by simpa using I.len⟩ ⟨_,hs,.inl rfl⟩
  ·exact (hs.2 b (Al (AO (Ai e) I.ok.above))).trans (I.base.keep b o e n hb hx)
  ·obtain⟨sl,e1⟩:=I.base.slot b o e n hb hx
   exact⟨sl,(hs.2 b (Al (AO (Ai e) I.ok.above))).trans e1⟩
  ·obtain⟨o',e1⟩:=I.base.there b o e hx
   exact⟨o',(hs.2 b (Al (AO (Ai e) I.ok.above))).trans e1⟩
  ·by_cases hj:j=i
   ·subst hj
    rw[hi] at e1;cases e1
    rw[Dy hiσ] at e2
    cases e2
    exact⟨u,r,.inl ⟨hk,by simp⟩⟩
   ·rw[Dx (Ne.symm hj)] at e2
    obtain⟨u',r',q⟩:=hl j y v' e1 e2 e3
    refine⟨u',r',?_⟩
    rcases q with ⟨k,e⟩ | ⟨k,c,e,z⟩
    ·refine .inl ⟨k,?_⟩
     have:y≠x:=λ e=>hj (jr hN e1 (e▸hi))
     simp[this,e]
    ·exact .inr ⟨k,c,e,z.sameBut hs (uf y c e)⟩
  ·obtain⟨w',z⟩:=I.cell y c e
   exact⟨w',z.sameBut hs (uf y c e)⟩
  ·obtain⟨e,n,ne,nf,d⟩:=I.pin p hp
   exact⟨(hs.2 p.1 ne).trans e,n,ne,nf,d⟩
 ·have BP:X.fn x=true:=by
   rcases hf with z | z
   ·exact z
   ·rw[z] at hk;cases hk
  obtain⟨c,hc⟩:=I.ok.has x (.inl hk)
  obtain⟨w',z⟩:=I.cell x c hc
  refine wpAny_storeName_cell I.ok.kind hk hc z (λ h' hc' hs=>?_)
  obtain⟨oc,hoc,DR⟩:=id z
  refine h { s with heap:=h' } ⟨I.ok,I.os,I.bare,⟨λ b o e n hb hx=>?_,λ b o e n hb hx=>?_,I.base.free,λ b o e hx=>?_,I.base.wK,I.base.vi,I.base.vz⟩,⟨m,hn.sameBut hs (Ne.symm (uf x c hc)),λ j y v' e1 e2 e3=>?_⟩,λ y c' e=>?_,I.free,I.wG,λ p hp=>?_,tracked ⟨oc,hoc,I.wG x c hc⟩ hs,by simpa using I.len⟩ ⟨c,hs,.inr hc⟩
  ·exact (hs.2 b (Al (AO (Ai e) (I.ok.rF x c BP hc)))).trans (I.base.keep b o e n hb hx)
  ·obtain⟨sl,e1⟩:=I.base.slot b o e n hb hx
   exact⟨sl,(hs.2 b (Al (AO (Ai e) (I.ok.rF x c BP hc)))).trans e1⟩
  ·obtain⟨o',e1⟩:=I.base.there b o e hx
   exact⟨o',(hs.2 b (Al (AO (Ai e) (I.ok.rF x c BP hc)))).trans e1⟩
  ·by_cases hj:j=i
   ·subst hj
    rw[hi] at e1;cases e1
    rw[Dy hiσ] at e2
    cases e2
    exact⟨u,r,.inr ⟨.inl hk,c,hc,hc'⟩⟩
   ·rw[Dx (Ne.symm hj)] at e2
    obtain⟨u',r',q⟩:=hl j y v' e1 e2 e3
    refine⟨u',r',?_⟩
    rcases q with q | ⟨k,c',e,z'⟩
    ·exact .inl q
    ·refine .inr ⟨k,c',e,z'.sameBut hs ?_⟩
     rintro rfl
     exact hj (jr hN e1 (I.ok.inj _ _ _ e hc▸hi))
  ·by_cases Bg:c'=c
   ·subst Bg;exact⟨_,hc'⟩
   ·obtain⟨w2,z2⟩:=I.cell y c' e
    exact⟨w2,z2.sameBut hs Bg⟩
  ·obtain⟨e,n,ne,nf,d⟩:=I.pin p hp
   refine⟨(hs.2 p.1 ?_).trans e,n,ne,nf,d⟩
   intro q
   rw[q,hoc] at e
   have q':oc=p.2:=AY e
   exact d w' (by rw[<- q'];exact DR)
def pE {M:Model}{A:Around}{E:Value->Shared->Prop}{i:Nat}{x:Str}{v:V}{u:Value}{Q:Unit->Shared->Prop}(I:Inv X pins Y H s) (hN:X.N.Nodup) (hi:X.N[i]?=some x) (hx:Loc X.env.scope x) (r:RelV v u)
  (h:∀ s',Inv X pins (Y.set i (some v)) H s'->Q () s') (hf:X.fn x=true\/X.env.scope.names.lookup x=some .local:=by first | exact .inl rfl | exact .inr rfl | assumption):wpAny M A (storeName X.env x u) Q E s:=
 Yf I hN hi hx r (λ s' I' _=>h s' I') hf
def Inv.bH {s':Shared}{ch:List Addr}(I:Inv X pins Y H s) (ho:s'.os=s.os) (u:Un (yK X.stack) ch H H' s.heap s'.heap) (zu:yn X.prog X.w H' s'.heap) (hg:AllBare s'.gens)
  (Bn:∀ b∈ch,(b∈X.ex\/X.s₀.heap.objs.size<=b)/\b≠X.env.locals/\(∀ x c,X.env.cells.lookup x=some c->c≠b)/\∀ p∈X.pn++pins,p.1≠b):Inv X pins Y H' s':=by
 obtain⟨h',g',d',t',o'⟩:=s'
 have e:o'=s.os:=ho
 subst e
 exact I.call (g':=g') (t':=t') (d':=d') u zu hg Bn
end
abbrev XK:=Value->Option Addr->Hp->Prop
abbrev St:=List (Option V)
abbrev VK:=V->Hp->Prop
abbrev TE:=St->Hp->VK->Prop
abbrev TT:=St->Hp->(Bool->Hp->Prop)->Prop
abbrev TA:=St->Hp->(List V->Hp->Prop)->Prop
structure Ends where
 nx:St->Hp->Prop
 rt:VK
 bk:St->Hp->Prop:=λ _ _=>False
 ct:St->Hp->Prop:=λ _ _=>False
abbrev TS:=Ends->St->Hp->Prop
def EP (X:Cx) (pins:List (Addr×Obj)) (Y:St) (Q:VK) (u:Value) (s':Shared):Prop:=∃ v H',Inv X pins Y H' s'/\RelV v u/\Q v H'
def TP (X:Cx) (pins:List (Addr×Obj)) (Y:St) (Q:Bool->Hp->Prop) (b:Bool) (s':Shared):Prop:=∃ H',Inv X pins Y H' s'/\Q b H'
def AP (X:Cx) (pins:List (Addr×Obj)) (Y:St) (Q:List V->Hp->Prop) (us:List Value) (s':Shared):Prop:=∃ vs H',Inv X pins Y H' s'/\Vals vs us/\Q vs H'
def SP (X:Cx) (pins:List (Addr×Obj)) (D:Ends) (f:Flow) (s':Shared):Prop:=
 match f with
 | .next=>∃ Y' H',Inv X pins Y' H' s'/\D.nx Y' H'
 | .brk=>∃ Y' H',Inv X pins Y' H' s'/\D.bk Y' H'
 | .cont=>∃ Y' H',Inv X pins Y' H' s'/\D.ct Y' H'
 | .ret u=>∃ v Y' H',Inv X pins Y' H' s'/\RelV v u/\D.rt v H'
def PE (X:Cx) (e:Expr) (t:TE):Prop:=
 ∀ (pins:List (Addr×Obj)) (s:Shared) (Y:St) (H:Hp) (Q:VK),Inv X pins Y H s->t Y H Q->wpAny (model X.prog X.w) X.A (eval e X.env) (EP X pins Y Q) X.xe s
def PT (X:Cx) (e:Expr) (t:TT):Prop:=
 ∀ (pins:List (Addr×Obj)) (s:Shared) (Y:St) (H:Hp) (Q:Bool->Hp->Prop),Inv X pins Y H s->t Y H Q->wpAny (model X.prog X.w) X.A (isTrue e X.env (eval e X.env)) (TP X pins Y Q) X.xe s
def PW (X:Cx) (e:Expr) (t:TT):Prop:=
 ∀ (whole:Sem Value) (pins:List (Addr×Obj)) (s:Shared) (Y:St) (H:Hp) (Q:Bool->Hp->Prop),Inv X pins Y H s->t Y H Q->wpAny (model X.prog X.w) X.A (isTrue e X.env whole) (TP X pins Y Q) X.xe s
def PW.pt {X:Cx}{e:Expr}{t:TT}(h:PW X e t):PT X e t:=h _
def PA (X:Cx) (es:List Expr) (t:TA):Prop:=
 ∀ (pos:Pos) (pins:List (Addr×Obj)) (s:Shared) (Y:St) (H:Hp) (Q:List V->Hp->Prop),Inv X pins Y H s->t Y H Q->wpAny (model X.prog X.w) X.A (spliced (backTo pos (starEach es X.env))) (AP X pins Y Q) X.xe s
def PS (X:Cx) (st:Stmt) (t:TS):Prop:=
 ∀ (pins:List (Addr×Obj)) (s:Shared) (Y:St) (H:Hp) (D:Ends),Inv X pins Y H s->t D Y H->wpAny (model X.prog X.w) X.A (exec st X.env) (SP X pins D) X.xe s
def xF (X:Cx) (st:List Stmt) (t:TS):Prop:=
 ∀ (pins:List (Addr×Obj)) (s:Shared) (Y:St) (H:Hp) (D:Ends),Inv X pins Y H s->t D Y H->wpAny (model X.prog X.w) X.A (execs st X.env) (SP X pins D) X.xe s
def zH {α:Type}{t:Sem α}{Q Q':α->Shared->Prop}{M:Model}{A:Around}{E:Value->Shared->Prop}{s:Shared}(h:wpAny M A t Q E s) (hQ:∀ a s,Q a s->Q' a s):wpAny M A t Q' E s:=za3 h hQ λ _ _ x=>x
section
variable {X:Cx}
def pB (i:Nat):TE:=fun Y H Q=>∃ v,Y[i]?=some (some v)/\Q v H
def tC (v:V):TE:=λ _ H Q=>Q v H
def XD {i:Nat}{x:Str}{pos:Pos}(hN:X.N[i]?=some x) (hv:oB X.env.scope x) (hd:(x == ("__debug__":Str))=false:=by decide) (AR:(x == ("__classdict__":Str))=false:=by decide):PE X (.Name x pos) (pB i):=by
 intro pins s Y H Q I h
 obtain⟨v,e,h⟩:=h
 obtain⟨m,hn,hl⟩:=I.loc
 obtain⟨u,r,l⟩:=hl i x v hN e hv
 have fin:EP X pins Y Q u s:=⟨v,H,I,r,h⟩
 rcases l with ⟨hk,hm⟩ | ⟨hk,c,hc,hcell⟩
 ·exact wpAny_Name (wpAny_loadName_local I.ok.kind hk hn hm fin) hd
 ·rcases hk with hk | hk
  ·exact wpAny_Name (wpAny_loadName_cell I.ok.kind hk hc hcell fin) hd
  ·exact wpAny_Name (wpAny_loadName_free I.ok.kind hk hc hcell fin AR) hd
def XT {i j pos}:PE X (.Constant (.int i) j pos) (tC (.int i)):=λ _ _ _ H _ I h=>wpAny_Constant_int ⟨.int i,H,I.tok _,⟨_,rfl⟩,h⟩
def X_ {b j pos}:PE X (.Constant (.bool b) j pos) (tC (.bl b)):=λ _ _ _ H _ I h=>Constant_bool ⟨.bl b,H,I,rfl,h⟩
def XN {j pos}:PE X (.Constant .none j pos) (tC .zg):=λ _ _ _ H _ I h=>Constant_none ⟨.zg,H,I,rfl,h⟩
def XG {x j pos}:PE X (.Constant (.str x) j pos) (tC (.str x)):=λ _ _ _ H _ I h=>Calls.Constant_str ⟨.str x,H,I.tok _,⟨_,rfl⟩,h⟩
def Gl (X:Cx) (x:Str):Prop:=X.env.kindOf x=some .globalImplicit
def oh {E:Value->Shared->Prop}{pins:List (Addr×Obj)}{s:Shared}{Y:St}{H:Hp}{x:Str}{u:Value}{pos:Pos}{Q:Value->Shared->Prop}(I:Inv X pins Y H s) (hg:Gl X x) (hm:X.mg x=some u) (h:Q u s)
  (hd:(x == ("__debug__":Str))=false:=by decide):wpAny (model X.prog X.w) X.A (eval (.Name x pos) X.env) Q E s:=
 Calls.Name_function_global I.ok.kind hg (Calls.loadGlobal_global (by rw[I.ok.glob];exact I.mod.glob.keeps I.bk) hm h) hd
def qA {E:Value->Shared->Prop}{pins:List (Addr×Obj)}{s:Shared}{Y:St}{H:Hp}{x:Str}{u:Value}{pos:Pos}{Q:Value->Shared->Prop}(I:Inv X pins Y H s) (hg:Gl X x) (hm:X.mg x=none) (hv:bootBuiltins x=some u) (h:Q u s)
  (hn:x≠"__name__":=by decide) (hd:(x == ("__debug__":Str))=false:=by decide):wpAny (model X.prog X.w) X.A (eval (.Name x pos) X.env) Q E s:=by
 obtain⟨mb,h1,h2⟩:=I.mod.blt
 exact Calls.Name_function_global I.ok.kind hg (Calls.loadGlobal_builtin (by rw[I.ok.glob];exact I.mod.glob.keeps I.bk) hm (by rw[I.ok.blt];exact h1.keeps I.bk) ((h2 x hn).trans hv) h) hd
def XU {x:Str}{v:V}{u:Value}{pos:Pos}(hg:Gl X x) (hm:X.mg x=some u) (r:RelV v u) (hd:(x == ("__debug__":Str))=false:=by decide):PE X (.Name x pos) (tC v):=
 λ _ _ _ H _ I h=>oh I hg hm ⟨v,H,I,r,h⟩ hd
def eG {x:Str}{v:V}{u:Value}{pos:Pos}(hg:Gl X x) (hm:X.mg x=none) (hv:bootBuiltins x=some u) (r:RelV v u) (hn:x≠"__name__":=by decide) (hd:(x == ("__debug__":Str))=false:=by decide):PE X (.Name x pos) (tC v):=
 λ _ _ _ H _ I h=>qA I hg hm hv ⟨v,H,I,r,h⟩ hn hd
variable {a b:Expr}{ta tb:TE}{pos:Pos}
variable {tA tB':TT}{rest:List Expr}
def Ye (t u:TT):TT:=fun Y H Q=>t Y H λ c H1=>if c=true then u Y H1 Q else Q false H1
def ZU (t u:TT):TT:=fun Y H Q=>t Y H λ c H1=>if c=true then Q true H1 else u Y H1 Q
def ZW (t:TT):TT:=fun Y H Q=>t Y H λ c H1=>Q (!c) H1
def Xf (ha:PT X a tA):PW X (.BoolOp .And [a] pos) tA:=by
 intro wh pins s Y H Q I h
 refine isTrue_and (zH (ha pins s Y H Q I h) λ c s1 e=>?_)
 cases c with
 | true=>exact isTrue_and_nil e
 | false=>exact e
def Xd (ha:PT X a tA):PW X (.BoolOp .Or [a] pos) tA:=by
 intro wh pins s Y H Q I h
 refine isTrue_or (zH (ha pins s Y H Q I h) λ c s1 e=>?_)
 cases c with
 | false=>exact isTrue_or_nil e
 | true=>exact e
def Xg (ha:PT X a tA) (hb:PW X (.BoolOp .And (b::rest) pos) tB'):PW X (.BoolOp .And (a::b::rest) pos) (Ye tA tB'):=by
 intro wh pins s Y H Q I h
 refine isTrue_and (zH (ha pins s Y H _ I h) λ c s1 ⟨H1,I1,q1⟩=>?_)
 cases c with
 | true=>exact hb wh pins s1 Y H1 Q I1 q1
 | false=>exact⟨H1,I1,q1⟩
def Xe (ha:PT X a tA) (hb:PW X (.BoolOp .Or (b::rest) pos) tB'):PW X (.BoolOp .Or (a::b::rest) pos) (ZU tA tB'):=by
 intro wh pins s Y H Q I h
 refine isTrue_or (zH (ha pins s Y H _ I h) λ c s1 ⟨H1,I1,q1⟩=>?_)
 cases c with
 | true=>exact⟨H1,I1,q1⟩
 | false=>exact hb wh pins s1 Y H1 Q I1 q1
def Xi (ha:PT X a tA):PT X (.UnaryOp .Not a pos) (ZW tA):=by
 intro pins s Y H Q I h
 exact isTrue_not (ha pins s Y H (λ c H1=>Q (!c) H1) I h)
def Yd (ta tb:TE):TE:=fun Y H Q=>ta Y H λ x H1=>∃ c,x=.bl c/\if c=true then tb Y H1 Q else Q (.bl false) H1
def ZV (ta:TE):TE:=fun Y H Q=>ta Y H λ x H1=>∃ c,x=.bl c/\Q (.bl (!c)) H1
def XJ {op} {t:TE}(h:PE X a t):PE X (.BoolOp op [a] pos) t:=λ pins s Y H Q I hw=>BoolOp_one (h pins s Y H Q I hw)
def Wa (ha:PE X a ta) (hb:PE X (.BoolOp .And (b::rest) pos) tb):PE X (.BoolOp .And (a::b::rest) pos) (Yd ta tb):=by
 intro pins s Y H Q I h
 refine BoolOp_and (zH (ha pins s Y H _ I h) λ v s1 ⟨x,H1,I1,r1,q1⟩=>?_)
 obtain⟨c,rfl,q1⟩:=q1
 cases r1
 refine zaH ?_
 cases c with
 | true=>exact hb pins s1 Y H1 Q I1 q1
 | false=>exact⟨.bl false,H1,I1,rfl,q1⟩
def XM (ha:PE X a ta):PE X (.UnaryOp .Not a pos) (ZV ta):=by
 intro pins s Y H Q I h
 refine UnaryOp_ (zH (ha pins s Y H _ I h) λ v s1 ⟨x,H1,I1,r1,q1⟩=>?_)
 obtain⟨c,rfl,q1⟩:=q1
 cases r1
 exact not_of (zaH ⟨.bl (!c),H1,I1,rfl,q1⟩)
end
def zP (K:Aa) (H:Hp) (a:Addr) (xs:List V):Prop:=
 Rd H a (.lst xs)\/
  ∃ (o:Obj) (its:Array Value) (n:Nat),K.lookup a=some o/\o.cls=.type "list"/\o.dict=none/\o.data=.seq its n/\its.size<=sizeLine/\Vals xs its.toList
def zY (K:Aa) (H:Hp) (a:Addr) (xs:List V):Prop:=
 Rd H a (.tup xs)\/
  ∃ (o:Obj) (its:Array Value) (n:Nat),K.lookup a=some o/\o.cls=.type "tuple"/\o.data=.seq its n/\its.size<=sizeLine/\Vals xs its.toList
noncomputable def Qh:Value->Option V
 | .none=>some .zg
 | .bool b=>some (.bl b)
 | .int i _=>some (.int i)
 | .str x _=>some (.str x)
 | .bytes b _=>some (.o7 b)
 | .float b _=>some (.jY b)
 | .ref a=>some (.ref a)
 | .type n=>some (.ty n)
 | _=>none
def RelV.abs {x:V}{u:Value}(r:RelV x u):Qh u=some x:=by
 cases x with
 | zg=>cases r;rfl
 | bl _=>cases r;rfl
 | ref _=>cases r;rfl
 | ty _=>cases r;rfl
 | _=>obtain⟨t,rfl⟩:=r;rfl
theorem RelV.inj {x y:V}{u:Value}(r:RelV x u) (q:RelV y u):x=y:=AY (r.abs.symm.trans q.abs)
theorem Vals.inj:∀ {xs ys:List V}{us:List Value},Vals xs us->Vals ys us->xs=ys
 | _,_,_,.nil,.nil=>rfl
 | _,_,_,.cons r t,.cons r' t'=>by rw[r.inj r',Vals.inj t t']
section
variable {X:Cx}{pins:List (Addr×Obj)}{Y:St}{H:Hp}{s:Shared}{a:Addr}{xs ys:List V}
def zP.of {K:Aa}(h:H a=some (.lst xs)):zP K H a xs:=.inl (.inl h)
def zY.of {K:Aa}(h:H a=some (.tup xs)):zY K H a xs:=.inl (.inl h)
def Inv.list (I:Inv X pins Y H s) (h:zP X.K H a xs):∃ its:List Value,Vals xs its/\PlainL s.heap a its.toArray/\xs.length<=sizeLine:=by
 rcases h with h | ⟨o,its,n,hk,hc,hd,hs,hz,r⟩
 ·obtain⟨z,its,n,r,e⟩:=h.ok I.zu
  exact⟨its,r,⟨_,n,e,rfl,rfl,rfl⟩,z⟩
 ·refine⟨its.toList,r,⟨o,n,I.y8 a o hk,hc,hd,by simpa using hs⟩,?_⟩
  have e:=r.length
  simp only[Bd] at e
  lia
def Inv.tuple (I:Inv X pins Y H s) (h:zY X.K H a xs):∃ its:List Value,Vals xs its/\IsTup s.heap a its.toArray/\xs.length<=sizeLine:=by
 rcases h with h | ⟨o,its,n,hk,hc,hs,hz,r⟩
 ·obtain⟨z,its,r,p⟩:=h.ok I.zu
  exact⟨its,r,p,z⟩
 ·refine⟨its.toList,r,⟨o,I.y8 a o hk,hc,n,by simpa using hs⟩,?_⟩
  have e:=r.length
  simp only[Bd] at e
  lia
def Inv.jz (I:Inv X pins Y H s) (h:zP X.K H a xs) (h':zP X.K H a ys):xs=ys:=by
 obtain⟨its,r,⟨o,n,e,_,_,d⟩,_⟩:=I.list h
 obtain⟨AB,r',⟨o',n',e',_,_,d'⟩,_⟩:=I.list h'
 rw[e] at e';cases e'
 rw[d] at d'
 injection d' with d1 _
 have:its=AB:=by simpa using congrArg Array.toList d1
 subst this
 exact r.inj r'
def Inv.lO (I:Inv X pins Y H s) (h:zY X.K H a xs) (h':zY X.K H a ys):xs=ys:=by
 obtain⟨its,r,⟨o,e,_,n,d⟩,_⟩:=I.tuple h
 obtain⟨AB,r',⟨o',e',_,n',d'⟩,_⟩:=I.tuple h'
 rw[e] at e';cases e'
 rw[d] at d'
 injection d' with d1 _
 have:its=AB:=by simpa using congrArg Array.toList d1
 subst this
 exact r.inj r'
end
abbrev Cx.xI (X:Cx) (E:Value->Shared->Prop):Cx:={ X with xe:=E }
abbrev Cx.ve (X:Cx):Cx:=X.xI λ _ _=>False
theorem Cx.Ok.xI {X:Cx}(ok:X.Ok) (E:Value->Shared->Prop):(X.xI E).Ok:=
 ⟨ok.mod,ok.kind,ok.glob,ok.blt,ok.above,ok.inj,ok.has,ok.rF,ok.hd,ok.frames,ok.qh,ok.ou,ok.bs,ok.uE,ok.rm,ok.rA,ok.wU,ok.tj⟩
def Cx.Ok.tK {X:Cx}{E:Value->Shared->Prop}(ok:(X.xI E).Ok):X.Ok:=
 ⟨ok.mod,ok.kind,ok.glob,ok.blt,ok.above,ok.inj,ok.has,ok.rF,ok.hd,ok.frames,ok.qh,ok.ou,ok.bs,ok.uE,ok.rm,ok.rA,ok.wU,ok.tj⟩
section
variable {X:Cx}{pins:List (Addr×Obj)}{Y:St}{H:Hp}{s:Shared}{E:Value->Shared->Prop}
theorem Inv.xI (I:Inv X pins Y H s) (E:Value->Shared->Prop):Inv (X.xI E) pins Y H s:=⟨I.ok.xI E,I.os,I.bare,I.base,I.loc,I.cell,I.free,I.wG,I.pin,I.zu,I.len⟩
theorem Inv.tK (I:Inv (X.xI E) pins Y H s):Inv X pins Y H s:=⟨I.ok.tK,I.os,I.bare,I.base,I.loc,I.cell,I.free,I.wG,I.pin,I.zu,I.len⟩
theorem SP.tK {D:Ends}{f:Flow}{s':Shared}(h:SP (X.xI E) pins D f s'):SP X pins D f s':=by
 cases f with
 | ret u=>obtain⟨v,Y',H',I,r,q⟩:=h;exact⟨v,Y',H',I.tK,r,q⟩
 | _=>obtain⟨Y',H',I,q⟩:=h;exact⟨Y',H',I.tK,q⟩
theorem xF.ve {st:List Stmt}{t:TS}(h:xF X.ve st t):xF X st t:=λ pins s Y H D I hw=>
 za3 (h pins s Y H D (I.xI _) hw) (λ _ _ q=>q.tK) λ _ _ z=>False.elim z
end
section
variable {X:Cx}{st:Stmt}{rest:List Stmt}{t u:TS}{e:Expr}{te:TE}{pos:Pos}
def ZY:TS:=λ D Y H=>D.nx Y H
def ZQ (t u:TS):TS:=λ D Y H=>t { D with nx:=u D } Y H
def Xk:xF X [] ZY:=λ _ _ Y H _ I h=>zaI ⟨Y,H,I,h⟩
def Xl (h1:PS X st t) (h2:xF X rest u):xF X (st::rest) (ZQ t u):=by
 intro pins s Y H D I h
 refine wpAny_execs_cons (zH (h1 pins s Y H { D with nx:=u D } I h) λ f s1 q=>?_)
 cases f with
 | next=>
  obtain⟨Y',H',I',q⟩:=q
  exact h2 pins s1 Y' H' D I' q
 | ret v=>exact q
 | _=>exact q
def kQ (h1:PS X st t):xF X [st] t:=by
 intro pins s Y H D I h
 refine wpAny_execs_cons (zH (h1 pins s Y H D I h) λ f s1 q=>?_)
 cases f with
 | next=>exact zaI q
 | ret v=>exact q
 | _=>exact q
def Yc:TS:=λ D Y H=>D.bk Y H
def Xr:PS X (.Break pos) Yc:=λ _ _ Y H _ I h=>wpAny_Break ⟨Y,H,I,h⟩
def Inv.quiet {pins:List (Addr×Obj)}{Y:St}{H:Hp}{s:Shared}(I:Inv X pins Y H s):interactive X.env=false:=by simp[interactive,I.ok.kind]
def Yb (te:TE):TS:=λ D Y H=>te Y H λ _ H1=>D.nx Y H1
def Xq (he:PE X e te) (hs:swapsWith e none pos.line X.env=pure false:=by rfl):PS X (.Expr e pos) (Yb te):=by
 intro pins s Y H D I h
 exact wpAny_Expr_any (zH (he pins s Y H _ I h) λ v s1 ⟨x,H1,I1,r1,q1⟩=>⟨Y,H1,I1,q1⟩) I.quiet hs
def ZS (te:TE):TS:=λ D Y H=>te Y H D.rt
def Xo (he:PE X e te):PS X (.Return (some e) pos) (ZS te):=by
 intro pins s Y H D I h
 exact wpAny_Return_some (zH (he pins s Y H _ I h) λ v s1 ⟨x,H1,I1,r1,q1⟩=>⟨x,Y,H1,I1,r1,q1⟩)
def Z_ (c:TT) (t u:TS):TS:=λ D Y H=>c Y H λ b H1=>if b=true then t D Y H1 else u D Y H1
def Xp {c:Expr}{a b:List Stmt}{tc:TT}(hc:PT X c tc) (ha:xF X a t) (hb:xF X b u):PS X (.If c a b pos) (Z_ tc t u):=by
 intro pins s Y H D I h
 refine wpAny_If (zH (hc pins s Y H _ I h) λ d s1 ⟨H1,I1,q1⟩=>?_)
 cases d with
 | true=>exact ha pins s1 Y H1 D I1 q1
 | false=>exact hb pins s1 Y H1 D I1 q1
end
abbrev TG:=V->St->Hp->(St->Hp->Prop)->Prop
abbrev t9:=List V->St->Hp->(St->Hp->Prop)->Prop
def PG (X:Cx) (target:Expr) (t:TG):Prop:=
 ∀ (pins:List (Addr×Obj)) (s:Shared) (Y:St) (H:Hp) (v:V) (u:Value) (Q:St->Hp->Prop),Inv X pins Y H s->RelV v u->t v Y H Q->
  wpAny (model X.prog X.w) X.A (assign target X.env u) (λ _ s'=>∃ Y' H',Inv X pins Y' H' s'/\Q Y' H') X.xe s
def uH (X:Cx) (ts:List Expr) (t:t9):Prop:=
 ∀ (pins:List (Addr×Obj)) (s:Shared) (Y:St) (H:Hp) (vs:List V) (us:List Value) (Q:St->Hp->Prop),Inv X pins Y H s->Vals vs us->t vs Y H Q->
  wpAny (model X.prog X.w) X.A (assignInOrder ((assignEach ts X.env).map (·.2)) us) (λ _ s'=>∃ Y' H',Inv X pins Y' H' s'/\Q Y' H') X.xe s
abbrev iJ:=V->V->V->Hp->(Hp->Prop)->Prop
def b_ (X:Cx) (t:iJ):Prop:=
 ∀ (pins:List (Addr×Obj)) (s:Shared) (Y:St) (H:Hp) (o i v:V) (ov iv u:Value) (Q:Hp->Prop),Inv X pins Y H s->RelV o ov->RelV i iv->RelV v u->t o i v H Q->
  wpAny (model X.prog X.w) X.A (setItem ov iv u) (λ _ s'=>∃ H',Inv X pins Y H' s'/\Q H') X.xe s
section
variable {X:Cx}{pos:Pos}
noncomputable def qK (i:Nat):TG:=λ v Y H Q=>Q (Y.set i (some v)) H
def X9 {i:Nat}{x:Str}(hN:X.N.Nodup) (hi:X.N[i]?=some x) (hx:Loc X.env.scope x) (hf:X.fn x=true\/X.env.scope.names.lookup x=some .local:=by first | exact .inl rfl | exact .inr rfl | assumption):PG X (.Name x pos) (qK i):=by
 intro pins s Y H v u Q I r h
 exact wpAny_assign_Name (pE I hN hi hx r (λ s' I'=>⟨_,H,I',h⟩) hf)
noncomputable def SA:t9:=λ vs Y H Q=>vs=[]/\Q Y H
noncomputable def SD (t:TG) (u:t9):t9:=λ vs Y H Q=>∃ v r,vs=v::r/\t v Y H fun Y' H'=>u r Y' H' Q
def X5:uH X [] SA:=by
 intro pins s Y H vs us Q I r h
 obtain⟨e,h⟩:=h
 subst e
 cases r
 exact assignInOrder_nil ⟨Y,H,I,h⟩
def X6 {e:Expr}{es:List Expr}{t:TG}{u:t9}(h1:PG X e t) (h2:uH X es u)
  (hs:(assignEach (e::es) X.env).map (·.2)=assign e X.env::(assignEach es X.env).map (·.2):=by rfl):uH X (e::es) (SD t u):=by
 intro pins s Y H vs us Q I r h
 obtain⟨v,vr,e1,h⟩:=h
 subst e1
 cases r with
 | cons r rr=>
  rw[hs]
  refine assignInOrder_cons (zH (h1 pins s Y H _ _ _ I r h) λ _ s1 ⟨Y1,H1,I1,q1⟩=>?_)
  exact h2 pins s1 Y1 H1 _ _ Q I1 rr q1
noncomputable def cC (K:Aa) (n:Nat) (t:t9):TG:=λ v Y H Q=>∃ a xs,v=.ref a/\zY K H a xs/\xs.length=n/\t xs Y H Q
def X7 {es:List Expr}{k:Nat}{t:t9}{n:Nat}(hc:X.calm=true) (h:uH X es t)
  (hn:(assignEach es X.env).length=n:=by rfl) (Aw:(assignEach es X.env).findIdx? (·.1)=none:=by rfl):PG X (.Tuple es k pos) (cC X.K n t):=by
 intro pins s Y H v u Q I r hw
 obtain⟨a,xs,e1,hq,hl,hw⟩:=hw
 subst e1
 cases r
 obtain⟨its,rv,ht,hz⟩:=I.tuple hq
 refine assign_Tuple_tuple (I.ok.hd hc) ht (by simp[hn,<- hl,rv.length]) Aw λ h' hx=>?_
 have I1:Inv X pins Y H { s with heap:=h' }:=I.kept (t':=s.toks) λ b o e=>hx b o (Al (Ai e)) e
 exact h pins _ Y H xs _ Q I1 (by simpa using rv) hw
noncomputable def S9 (to ti:TE) (t:iJ):TG:=λ v Y H Q=>to Y H λ o H1=>ti Y H1 λ i H2=>t o i v H2 λ H3=>Q Y H3
def X8 {o i:Expr}{to ti:TE}{t:iJ}(ho:PE X o to) (hi:PE X i ti) (hs:b_ X t)
  (ha:∀ v,assign (.Subscript o i pos) X.env v=(do
   let ov <- holding [v] (eval o X.env)
   let iv <- holding [v,ov] (eval i X.env)
   standAt pos
   holding [v,ov,iv] (setItem ov iv v)
   release [v,ov,iv] []):=by intro _;rfl):PG X (.Subscript o i pos) (S9 to ti t):=by
 intro pins s Y H v u Q I r h
 rw[ha]
 refine za0 (za5 (zH (ho pins s Y H _ I h) λ ov s1 ⟨x,H1,I1,r1,q1⟩=>?_))
 refine za0 (za5 (zH (hi pins s1 Y H1 _ I1 q1) λ iv s2 ⟨y,H2,I2,r2,q2⟩=>?_))
 refine za0 (wpAny_standAt (za0 (za5 (zH (hs pins s2 Y H2 x y v ov iv u _ I2 r1 r2 r q2) λ _ s3 ⟨H3,I3,q3⟩=>?_))))
 exact wpAny_release ⟨Y,H3,I3,q3⟩
def pD (te:TE) (g:TG):TS:=λ D Y H=>te Y H λ x H1=>g x Y H1 D.nx
def eA {tg e:Expr}{te:TE}{g:TG}(he:PE X e te) (hg:PG X tg g) (hs:swapsWithSole [tg] e pos.line X.env=pure false:=by rfl) (hw:swappedStores [tg] e X.env=pure none:=by rfl)
  (h1:(assignEach [tg] X.env).map (·.2)=[assign tg X.env]:=by rfl):PS X (.Assign [tg] e pos) (pD te g):=by
 intro pins s Y H D I h
 refine wpAny_Assign_stores (zH (he pins s Y H _ I h) λ v s1 ⟨x,H1,I1,r1,q1⟩=>?_) hs hw
 rw[h1]
 exact zH (hg pins s1 Y H1 x v _ I1 r1 q1) λ _ s2 q=>q
def ez {i:Nat}{x:Str}{e:Expr}{te:TE}{pos':Pos}(hN:X.N.Nodup) (hi:X.N[i]?=some x) (hx:Loc X.env.scope x) (he:PE X e te) (hs:swapsWith e (some (.Name x pos')) pos.line X.env=pure false:=by rfl) (hf:X.fn x=true\/X.env.scope.names.lookup x=some .local:=by first | exact .inl rfl | exact .inr rfl | assumption):
  PS X (.Assign [.Name x pos'] e pos) (pD te (qK i)):=by
 intro pins s Y H D I h
 refine wpAny_Assign_Name (zH (he pins s Y H _ I h) λ v s1 ⟨y,H1,I1,r1,q1⟩=>?_) hs
 exact pE I1 hN hi hx r1 (λ s2 I2=>⟨_,H1,I2,q1⟩) hf
end
structure It where
 go:Nat->Hp->Prop
 qf:Nat->Hp->V->Hp->Prop
 stop:Nat->Hp->Prop
def vv (X:Cx) (pins:List (Addr×Obj)) (H:Hp) (b:Addr):Prop:=
 H b=none/\b≠X.env.locals/\b∉X.fs/\(b∈X.ex\/X.s₀.heap.objs.size<=b)/\(∀ x c,X.env.cells.lookup x=some c->c≠b)/\∀ p∈X.pn++pins,p.1≠b
def Inv.jW {X:Cx}{pins:List (Addr×Obj)}{Y:St}{H H':Hp}{s:Shared}{b:Addr}(I:Inv X pins Y H s) (hb:s.heap.objs.size<=b) (hn:H' b=none):vv X pins H' b:=by
 refine⟨hn,Bu (AO I.lt hb),I.dm hb,.inr (Bo I.sz hb),λ x c e z=>?_,λ p hp z=>?_⟩
 ·obtain⟨v,q⟩:=I.cell x c e
  exact absurd (AO q.lt (by rw[z];exact hb)) (B3 _)
 ·exact absurd (AO (Ai (I.pin p hp).1) (by rw[z];exact hb)) (B3 _)
structure Turn (P:Program) (w:World) (K:Aa) (tg:Expr) (J:It) (fp:List Addr) (it:Addr) (tn:Nat->Heap->Prop):Prop where
 mem:it∈fp
 obj:∀ i h,tn i h->∀ b∈fp,∃ o,h.get? b=some o/\∀ v,o.data≠.cell v
 keep:∀ i h h',tn i h->(∀ b∈fp,∀ o,h.get? b=some o->h'.get? b=some o)->tn i h'
 item:∀ (X:Cx),X.prog=P->X.w=w->X.K=K->X.calm=true->∀ (i:Nat) (pins:List (Addr×Obj)) (s:Shared) (Y:St) (H:Hp) (E:Value->Shared->Prop),Inv X pins Y H s->(∀ b∈fp,vv X pins H b)->tn i s.heap->J.go i H->
  wpAny (model P w) X.A (pyNext (.ref it)) (λ r s1=>∃ u,r=some u/\
   wpAny (model P w) X.A (letOwnedTupleGo tg (.ref it) u) (λ _ s2=>∃ x H',Inv X pins Y H' s2/\RelV x u/\J.qf i H x H'/\tn (i+1) s2.heap/\∀ b∈fp,H' b=none) E s1) E s
 done:∀ (X:Cx),X.prog=P->X.w=w->X.K=K->X.calm=true->∀ (i:Nat) (pins:List (Addr×Obj)) (s:Shared) (Y:St) (H:Hp) (E:Value->Shared->Prop),Inv X pins Y H s->(∀ b∈fp,vv X pins H b)->tn i s.heap->J.stop i H->
  wpAny (model P w) X.A (pyNext (.ref it)) (λ r s1=>r=none/\Inv X pins Y H s1) E s
 self:∀ (A:Around) (i:Nat) (s:Shared) (Q:Value->Shared->Prop) (E:Value->Shared->Prop),tn i s.heap->Q (.ref it) s->wpAny (model P w) A (pyIter (.ref it)) Q E s
abbrev TI:=St->Hp->(It->Hp->Prop)->Prop
def aa (X:Cx) (pins:List (Addr×Obj)) (Y:St) (tg:Expr) (R:It->Hp->Prop) (itv:Value) (s2:Shared):Prop:=
 ∃ (it:Addr) (fp:List Addr) (tn:Nat->Heap->Prop) (J:It) (H':Hp),itv=.ref it/\Inv X pins Y H' s2/\Turn X.prog X.w X.K tg J fp it tn/\tn 0 s2.heap/\(∀ b∈fp,vv X pins H' b)/\R J H'
def PI (X:Cx) (tg iter:Expr) (wi:TI):Prop:=
 ∀ (pins:List (Addr×Obj)) (s:Shared) (Y:St) (H:Hp) (R:It->Hp->Prop),Inv X pins Y H s->wi Y H R->
  wpAny (model X.prog X.w) X.A (eval iter X.env) (λ v s1=>wpAny (model X.prog X.w) X.A (pyIter v) (aa X pins Y tg R) X.xe s1) X.xe s
def jO {M:Model}{A:Around}{E:Value->Shared->Prop}{s:Shared}{tg:Expr}{it:Addr}{u:Value}{o:Obj}{n:String}{vs:Array Value}{Q:Unit->Shared->Prop}(ho:s.heap.get? it=some o) (hc:o.cls=.type n) (hd:o.data=.fields vs)
  (hn:["enumerate","zip","dict_itemiterator","dict_reverseitemiterator","odict_iterator","itertools.zip_longest","itertools.pairwise"].contains n=false) (hQ:Q () s):wpAny M A (letOwnedTupleGo tg (.ref it) u) Q E s:=by
 unfold letOwnedTupleGo
 cases tg <;> first
  | exact Ab hQ
  | (cases u <;> first
    | exact Ab hQ
    | (refine za0 (wpAny_load ho ?_)
       rw[hc,hd]
       show wpAny M A (if (["enumerate","zip","dict_itemiterator","dict_reverseitemiterator","odict_iterator","itertools.zip_longest","itertools.pairwise"].contains n&&vs[0]? == some (rawInt _))=true then _ else _) Q E s
       rw[if_neg (by intro h;rw[hn,Bool.false_and] at h;cases h)]
       exact Ab hQ))
def aj (K:Aa) (a:Addr):It:=
 ⟨λ i H=>∃ xs x,zP K H a xs/\xs[i]?=some x,λ i H x H'=>H'=H/\∀ xs,zP K H a xs->xs[i]?=some x,λ i H=>∃ xs,zP K H a xs/\xs.length<=i⟩
def ai (K:Aa) (a:Addr):It:=
 ⟨λ i H=>∃ xs x,zY K H a xs/\xs[i]?=some x,λ i H x H'=>H'=H/\∀ xs,zY K H a xs->xs[i]?=some x,λ i H=>∃ xs,zY K H a xs/\xs.length<=i⟩
def oJ (lo:Int) (n:Nat):It:=⟨λ i _=>i<n,λ i H x H'=>H'=H/\x=.int (lo+i),λ i _=>n<=i⟩
def ZH {P:Program}{w:World}{K:Aa}{tg:Expr}(a it:Addr):Turn P w K tg (aj K a) [it] it (λ i h=>h.IsListIter it a i) where
 mem:=by simp
 obj:=λ i h st b hb=>by
  have e:b=it:=by simpa using hb
  subst e
  obtain⟨o,e,c,d⟩:=st
  exact⟨o,e,λ v z=>by rw[d] at z;cases z⟩
 keep:=λ i h h' st k=>st.at λ o e=>k it (by simp) o e
 item:=by
  intro X hP hw hK hc i pins s Y H E I hf st hg
  subst hP hw hK
  obtain⟨xs,x,hq,hx⟩:=hg
  obtain⟨its,rv,p,hz⟩:=I.list hq
  obtain⟨u,hu,ru⟩:=rv.get hx
  obtain⟨f0,f1,f2,f3,f4,f5⟩:=hf it (by simp)
  refine wpAny_pyNext_list_item st p.isList (x:=u) (by simpa using hu) λ h' st' sb=>?_
  have I1:Inv X pins Y H { s with heap:=h' }:=I.turned (t':=s.toks) (λ b o hb e=>(sb.2 b hb).trans e) f0 f1 f3 f4 f5
  obtain⟨o,e,c,d⟩:=id st'
  exact⟨u,rfl,jO (s:={ s with heap:=h' }) e c d (by decide) ⟨x,H,I1,ru,⟨rfl,λ ys hy=>by rw[I.jz hy hq];exact hx⟩,st',λ b hb=>(hf b hb).1⟩⟩
 done:=by
  intro X hP hw hK hc i pins s Y H E I hf st hg
  subst hP hw hK
  obtain⟨xs,hq,hx⟩:=hg
  obtain⟨its,rv,p,hz⟩:=I.list hq
  obtain⟨f0,f1,f2,f3,f4,f5⟩:=hf it (by simp)
  have hl:=rv.length
  exact wpAny_pyNext_list_end (I.ok.hd hc) st p.isList (by simp;lia) λ h' eb=>⟨rfl,I.turned (t':=s.toks) (λ b o hb e=>eb b o hb e) f0 f1 f3 f4 f5⟩
 self:=λ _ _ _ _ _ st h=>wpAny_pyIter_listiter st h
def ZF {P:Program}{w:World}{K:Aa}{tg:Expr}(a it:Addr):Turn P w K tg (ai K a) [it] it (λ i h=>h.IsTupleIter it a i) where
 mem:=by simp
 obj:=λ i h st b hb=>by
  have e:b=it:=by simpa using hb
  subst e
  obtain⟨o,e,c,d⟩:=st
  exact⟨o,e,λ v z=>by rw[d] at z;cases z⟩
 keep:=λ i h h' st k=>st.at λ o e=>k it (by simp) o e
 item:=by
  intro X hP hw hK hc i pins s Y H E I hf st hg
  subst hP hw hK
  obtain⟨xs,x,hq,hx⟩:=hg
  obtain⟨its,rv,p,hz⟩:=I.tuple hq
  obtain⟨u,hu,ru⟩:=rv.get hx
  obtain⟨f0,f1,f2,f3,f4,f5⟩:=hf it (by simp)
  refine wpAny_pyNext_tuple_item st (show s.heap.IsTuple a its.toArray from p) (x:=u) (by simpa using hu) λ h' st' sb=>?_
  have I1:Inv X pins Y H { s with heap:=h' }:=I.turned (t':=s.toks) (λ b o hb e=>(sb.2 b hb).trans e) f0 f1 f3 f4 f5
  obtain⟨o,e,c,d⟩:=id st'
  exact⟨u,rfl,jO (s:={ s with heap:=h' }) e c d (by decide) ⟨x,H,I1,ru,⟨rfl,λ ys hy=>by rw[I.lO hy hq];exact hx⟩,st',λ b hb=>(hf b hb).1⟩⟩
 done:=by
  intro X hP hw hK hc i pins s Y H E I hf st hg
  subst hP hw hK
  obtain⟨xs,hq,hx⟩:=hg
  obtain⟨its,rv,p,hz⟩:=I.tuple hq
  obtain⟨f0,f1,f2,f3,f4,f5⟩:=hf it (by simp)
  have hl:=rv.length
  exact wpAny_pyNext_tuple_end (I.ok.hd hc) st (show s.heap.IsTuple a its.toArray from p) (by simp;lia) λ h' eb=>⟨rfl,I.turned (t':=s.toks) (λ b o hb e=>eb b o hb e) f0 f1 f3 f4 f5⟩
 self:=λ _ _ _ _ _ st h=>wpAny_pyIter_tupleiter st h
def ZG {P:Program}{w:World}{K:Aa}{tg:Expr}(it:Addr) (lo:Int) (n:Nat):Turn P w K tg (oJ lo n) [it] it (λ i h=>IsRangeIter h it (lo+(i:Nat)*1) ((n:Int)-(i:Nat)) 1) where
 mem:=by simp
 obj:=λ i h st b hb=>by
  have e:b=it:=by simpa using hb
  subst e
  exact⟨_,st,λ v z=>by
   have z':Data.fields _=Data.cell v:=z
   cases z'⟩
 keep:=λ i h h' st k=>k it (by simp) _ st
 item:=by
  intro X hP hw hK hc i pins s Y H E I hf st hg
  subst hP hw hK
  obtain⟨f0,f1,f2,f3,f4,f5⟩:=hf it (by simp)
  have W:=Walks.range (prog:=X.prog) (w:=X.w) (I.ok.hd hc) it lo 1 n
  refine W.item i s _ _ hg st λ v h' tk hv st' kk=>?_
  obtain⟨t,rfl⟩:=hv
  have I1:Inv X pins Y H { s with heap:=h',toks:=tk }:=I.turned (λ b o hb e=>kk b o (by simpa using hb) e) f0 f1 f3 f4 f5
  refine⟨_,rfl,jO (s:={ s with heap:=h',toks:=tk }) (n:="range_iterator") st' rfl rfl (by decide) ⟨.int (lo+i),H,I1,⟨t,?_⟩,⟨rfl,rfl⟩,st',λ b hb=>(hf b hb).1⟩⟩
  rw[Int.mul_one]
 done:=by
  intro X hP hw hK hc i pins s Y H E I hf st hg
  subst hP hw hK
  obtain⟨f0,f1,f2,f3,f4,f5⟩:=hf it (by simp)
  exact wpAny_pyNext_range_end (I.ok.hd hc) st (by have:n<=i:=hg;lia) λ h' eb=>⟨rfl,I.turned (t':=s.toks) (λ b o hb e=>eb b o hb e) f0 f1 f3 f4 f5⟩
 self:=λ _ _ _ _ _ st h=>wpAny_pyIter_rangeiter st h
section
variable {X:Cx}{tg:Expr}
def fQ {pins:List (Addr×Obj)}{Y:St}{H:Hp}{s:Shared}{R:It->Hp->Prop}{E:Value->Shared->Prop}{lo hi:Int}{t u v:Tok}{tk:Nat}(I:Inv X pins Y H s) (h1:-(2 ^ 62)<=lo) (h2:lo<2 ^ 62) (h3:-(2 ^ 62)<=hi) (h4:hi<2 ^ 62)
  (q:R (oJ lo (hi-lo).toNat) H):wpAny (model X.prog X.w) X.A (pyIter (.ref s.heap.objs.size)) (aa X pins Y tg R) E { s with heap:=s.heap.push { cls:=.type "range",data:=.fields #[.int lo t,.int hi u,.int 1 v] },toks:=tk }:=by
 refine wpAny_pyIter_range (IsRange.new ..) (small_one h1 h2 h3 h4) ?_
 have I1:Inv X pins Y H { s with heap:=s.heap.push { cls:=.type "range",data:=.fields #[.int lo t,.int hi u,.int 1 v] },toks:=tk }:=I.kept λ b o e=>za1 _ e
 refine⟨(s.heap.push { cls:=.type "range",data:=.fields #[.int lo t,.int hi u,.int 1 v] }).objs.size,[(s.heap.push { cls:=.type "range",data:=.fields #[.int lo t,.int hi u,.int 1 v] }).objs.size],_,_,H,rfl,
  I1.kept (t':=tk) λ b o e=>za1 _ e,ZG _ lo (hi-lo).toNat,?_,λ b hb=>?_,q⟩
 ·have e1:lo+((0:Nat):Int)*1=lo:=by simp
  have e2:(((hi-lo).toNat:Nat):Int)-((0:Nat):Int)=Builtin.Range.rangeSize lo hi 1:=by rw[rangeSize_one];split <;> lia
  show IsRangeIter _ _ (lo+((0:Nat):Int)*1) ((((hi-lo).toNat:Nat):Int)-((0:Nat):Int)) 1
  rw[e1,e2]
  exact AH _ rfl
 ·have e:b=(s.heap.push { cls:=.type "range",data:=.fields #[.int lo t,.int hi u,.int 1 v] }).objs.size:=by simpa using hb
  subst e
  exact I1.jW (Ad _) (I1.zu.fresh (Ad _))
def c5 (ta:TA):TI:=fun Y H R=>ta Y H λ vs H1=>∃ j:Int,vs=[.int j]/\-(2 ^ 62)<=j/\j<2 ^ 62/\R (oJ 0 j.toNat) H1
def c4 (ta:TA):TI:=fun Y H R=>ta Y H λ vs H1=>∃ i j:Int,vs=[.int i,.int j]/\(-(2 ^ 62)<=i/\i<2 ^ 62/\-(2 ^ 62)<=j/\j<2 ^ 62)/\R (oJ i (j-i).toNat) H1
def X4 {a:Expr}{ta:TA}{p pos:Pos}(hg:Gl X "range") (hm:X.mg "range"=none) (ha:PA X [a] ta) (hs:starEach [a] X.env=[(false,eval a X.env)]:=by rfl):PI X tg (.Call (.Name "range" p) [a] [] pos) (c5 ta):=by
 intro pins s Y H R I h
 refine Call_ (qA I hg hm boot_range (PyProof.Rows.callWith_type1 (zH (ha pos pins s Y H _ I h) λ us s1 ⟨vs,H1,I1,r1,q1⟩=>?_) hs rfl))
 obtain⟨j,e,q1,q2,q⟩:=q1
 subst e
 cases r1 with
 | cons r rr=>
  cases rr
  obtain⟨t,rfl⟩:=r
  exact call_range_1 (fQ I1 (by lia) (by lia) q1 q2 (by simpa using q))
def X3 {a b:Expr}{ta:TA}{p pos:Pos}(hg:Gl X "range") (hm:X.mg "range"=none) (ha:PA X [a,b] ta) (hs:starEach [a,b] X.env=[(false,eval a X.env),(false,eval b X.env)]:=by rfl) (hs2:starEach [b] X.env=[(false,eval b X.env)]:=by rfl):
  PI X tg (.Call (.Name "range" p) [a,b] [] pos) (c4 ta):=by
 intro pins s Y H R I h
 refine Call_ (qA I hg hm boot_range (PyProof.Rows.callWith_type1 (zH (ha pos pins s Y H _ I h) λ us s1 ⟨vs,H1,I1,r1,q1⟩=>?_) (by rw[hs,hs2]) (by rw[hs2];rfl)))
 obtain⟨i,j,e,⟨q1,q2,q3,q4⟩,q⟩:=q1
 subst e
 cases r1 with
 | cons r rr=>
  cases rr with
  | cons r' rr=>
   cases rr
   obtain⟨t,rfl⟩:=r
   obtain⟨t',rfl⟩:=r'
   exact call_range_2 (fQ I1 q1 q2 q3 q4 q)
def Ya (wi:TI) (g:TG) (tb:TS):TS:=λ D Y H=>wi Y H λ J H1=>∃ W:Nat->Nat->St->Hp->Prop,(∃ m,W 0 m Y H1)/\∀ i m Y H,W i m Y H->
 (J.stop i H/\D.nx Y H)\/(J.go i H/\∃ N:St->Hp->Prop,(∀ Y' H',N Y' H'->∃ m',m'<m/\W (i+1) m' Y' H')/\∀ x H',J.qf i H x H'->g x Y H' fun Y2 H2=>tb { D with nx:=N,ct:=N,bk:=D.nx } Y2 H2)
noncomputable def pR (fp:List Addr) (h:Heap):List (Addr×Obj):=fp.filterMap λ b=>(h.get? b).map λ o=>(b,o)
def mf {fp:List Addr}{h:Heap}{b:Addr}{o:Obj}(hb:b∈fp) (e:h.get? b=some o):(b,o)∈pR fp h:=Cf.mpr ⟨b,hb,by rw[e];rfl⟩
def U8 {fp:List Addr}{h:Heap}{p:Addr×Obj}(hp:p∈pR fp h):p.1∈fp/\h.get? p.1=some p.2:=by
 obtain⟨b,hb,e⟩:=Cf.mp hp
 cases q:h.get? b with
 | none=>rw[q] at e;cases e
 | some o=>
  rw[q] at e
  have e':(b,o)=p:=AY e
  subst e'
  exact⟨hb,q⟩
def Inv.pinned {pins:List (Addr×Obj)}{Y:St}{H:Hp}{s:Shared}{fp:List Addr}(I:Inv X pins Y H s) (hf:∀ b∈fp,vv X pins H b) (ho:∀ b∈fp,∃ o,s.heap.get? b=some o/\∀ v,o.data≠.cell v):Inv X (pins++pR fp s.heap) Y H s:=
 I.kS λ p hp=>(A1.mp hp).elim (λ z=>I.pin p (AN _ z)) λ z=>by
  obtain⟨hb,e⟩:=U8 z
  obtain⟨f0,f1,f2,_⟩:=hf p.1 hb
  obtain⟨o,e',d⟩:=ho p.1 hb
  rw[e] at e';cases e'
  exact⟨e,f0,f1,f2,d⟩
def Inv.p9 {pins pl:List (Addr×Obj)}{Y:St}{H:Hp}{s:Shared}(I:Inv X (pins++pl) Y H s):Inv X pins Y H s:=I.kS λ p hp=>I.pin p (AN _ (Cg _ hp))
def e9 {iter:Expr}{body:List Stmt}{wi:TI}{g:TG}{tb:TS}{pos:Pos}(hp:PassesOwn (model X.prog X.w) X.A X.env X.xe) (hc:X.calm=true) (hi:PI X tg iter wi) (hg:PG X tg g) (hb:xF X body tb)
  (hs:∀ x,foldedSetIterable iter X.env x=pure x:=by intro _;rfl):PS X (.For tg iter body [] pos) (Ya wi g tb):=by
 intro pins s Y H D I h
 refine wpAny_For (zH (hi pins s Y H _ I h) λ v s1 h1=>zH h1 λ itv s2 h2=>?_) hs
 obtain⟨it,fp,tn,J,H2,e,I2,T,st2,f2,W,⟨m0,w0⟩,turn⟩:=h2
 subst e
 have stat:∀ {H':Hp},(∀ b∈fp,H' b=none)->∀ b∈fp,vv X pins H' b:=λ hn b hb=>⟨hn b hb,(f2 b hb).2⟩
 refine codeAny_forLoop_any (λ n s'=>∃ i Y' H',Inv X pins Y' H' s'/\tn i s'.heap/\(∀ b∈fp,H' b=none)/\W i n Y' H') ?_ m0 ⟨0,Y,H2,I2,st2,λ b hb=>(f2 b hb).1,w0⟩
 rintro n s3 ⟨i,Y3,H3,I3,st3,fr3,w3⟩
 rcases turn i n Y3 H3 w3 with ⟨stop,qn⟩ | ⟨go,N,hN,step⟩
 ·refine zaM hp (zH (T.done X rfl rfl rfl hc i pins s3 Y3 H3 X.xe I3 (stat fr3) st3 stop) λ r s4 ⟨hr,I4⟩=>?_)
  subst hr
  exact zaI ⟨Y3,H3,I4,qn⟩
 ·refine zaM hp (zH (T.item X rfl rfl rfl hc i pins s3 Y3 H3 X.xe I3 (stat fr3) st3 go) λ r s4 ⟨u,hr,h4⟩=>?_)
  subst hr
  refine zaM hp (zH h4 λ _ s5 ⟨x,H5,I5,r5,y5,st5,fr5⟩=>?_)
  have I5':=I5.pinned (stat fr5) (T.obj _ _ st5)
  refine zaM hp (zH (hg _ s5 Y3 H5 x u _ I5' r5 (step x H5 y5)) λ _ s6 ⟨Y6,H6,I6,q6⟩=>?_)
  refine zaM hp (zH (hb _ s6 Y6 H6 _ I6 q6) λ f s7 q7=>?_)
  have again:∀ {Y7:St}{H7:Hp},Inv X (pins++pR fp s5.heap) Y7 H7 s7->N Y7 H7->∃ m,m<n/\∃ i Y' H',Inv X pins Y' H' s7/\tn i s7.heap/\(∀ b∈fp,H' b=none)/\W i m Y' H':=λ{Y7 H7} I7 n7=>by
   obtain⟨m',hm,w7⟩:=hN Y7 H7 n7
   refine⟨m',hm,i+1,Y7,H7,I7.p9,T.keep _ _ _ st5 λ b hb o e=>(I7.pin (b,o) (AN _ (AN _ (mf hb e)))).1,λ b hb=>?_,w7⟩
   obtain⟨o,e,d⟩:=T.obj _ _ st5 b hb
   exact (I7.pin (b,o) (AN _ (AN _ (mf hb e)))).2.1
  cases f with
  | brk=>obtain⟨Y7,H7,I7,q7⟩:=q7;exact⟨Y7,H7,I7.p9,q7⟩
  | ret v=>obtain⟨x7,Y7,H7,I7,r7,q7⟩:=q7;exact⟨x7,Y7,H7,I7.p9,r7,q7⟩
  | _=>obtain⟨Y7,H7,I7,n7⟩:=q7;exact again I7 n7
end
abbrev R2:=V->V->Hp->VK->Prop
def z_ (X:Cx) (f:Value->Value->Sem Value) (r:R2):Prop:=
 ∀ (pins:List (Addr×Obj)) (s:Shared) (Y:St) (H:Hp) (x y:V) (v u:Value) (Q:VK),Inv X pins Y H s->RelV x v->RelV y u->r x y H Q->
  wpAny (model X.prog X.w) X.A (f v u) (EP X pins Y Q) X.xe s
def iH (X:Cx) (f:Value->Sem Value) (r:V->Hp->VK->Prop):Prop:=
 ∀ (pins:List (Addr×Obj)) (s:Shared) (Y:St) (H:Hp) (x:V) (v:Value) (Q:VK),Inv X pins Y H s->RelV x v->r x H Q->
  wpAny (model X.prog X.w) X.A (f v) (EP X pins Y Q) X.xe s
def yW (X:Cx) (f:Value) (r:List V->Hp->VK->Prop):Prop:=
 ∀ (pins:List (Addr×Obj)) (s:Shared) (Y:St) (H:Hp) (xs:List V) (us:List Value) (Q:VK),Inv X pins Y H s->Vals xs us->r xs H Q->
  wpAny (model X.prog X.w) X.A (call f us) (EP X pins Y Q) X.xe s
def Qi (X:Cx) (r:V->Hp->(Bool->Hp->Prop)->Prop):Prop:=
 ∀ (pins:List (Addr×Obj)) (s:Shared) (Y:St) (H:Hp) (x:V) (v:Value) (Q:Bool->Hp->Prop),Inv X pins Y H s->RelV x v->r x H Q->
  wpAny (model X.prog X.w) X.A (truthy v) (TP X pins Y Q) X.xe s
def pC (r:R2) (ta tb:TE):TE:=fun Y H Q=>ta Y H λ x H1=>tb Y H1 λ y H2=>r x y H2 Q
def ZL (r:V->Hp->VK->Prop) (ta:TE):TE:=fun Y H Q=>ta Y H λ x H1=>r x H1 Q
def rI (C:Int->Int->Prop) (g:Int->Int->V):R2:=λ x y H Q=>∃ i j,x=.int i/\y=.int j/\C i j/\Q (g i j) H
def wq (g:Int->Int->V):R2:=λ x y H Q=>∃ i j,x=.int i/\y=.int j/\Q (g i j) H
def rU (g:Int->V):V->Hp->VK->Prop:=λ x H Q=>∃ i,x=.int i/\Q (g i) H
section
variable {X:Cx}{a b:Expr}{ta tb:TE}{pos:Pos}
def i5 (ha:PE X a ta) (hb:PE X b tb) {pins:List (Addr×Obj)}{s:Shared}{Y:St}{H:Hp}{R:V->V->Hp->Prop}(I:Inv X pins Y H s)
  (h:ta Y H λ x H1=>tb Y H1 λ y H2=>R x y H2) {Q:Value->Shared->Prop}{f:Value->Value->Sem Value}
  (hf:∀ v u s2 x y H2,Inv X pins Y H2 s2->RelV x v->RelV y u->R x y H2->wpAny (model X.prog X.w) X.A (f v u) Q X.xe s2):
  wpAny (model X.prog X.w) X.A (eval a X.env) (λ v s₁=>wpAny (model X.prog X.w) X.A (eval b X.env) (λ u s₂=>wpAny (model X.prog X.w) X.A (f v u) Q X.xe s₂) X.xe s₁) X.xe s:=by
 refine zH (ha pins s Y H _ I h) λ v s1 ⟨x,H1,I1,r1,q1⟩=>?_
 refine zH (hb pins s1 Y H1 _ I1 q1) λ u s2 ⟨y,H2,I2,r2,q2⟩=>?_
 exact hf v u s2 x y H2 I2 r1 r2 q2
def XI {op:Operator}{r:R2}(ho:z_ X (binaryOp op) r) (ha:PE X a ta) (hb:PE X b tb):PE X (.BinOp a op b pos) (pC r ta tb):=by
 intro pins s Y H Q I h
 exact wpAny_BinOp (i5 ha hb I h λ v u s2 x y H2 I2 rx ry q=>ho pins s2 Y H2 x y v u Q I2 rx ry q)
def XE {op:UnaryOp}{r:V->Hp->VK->Prop}(ho:iH X (unaryOp op) r) (ha:PE X a ta):PE X (.UnaryOp op a pos) (ZL r ta):=by
 intro pins s Y H Q I h
 exact UnaryOp_ (zH (ha pins s Y H _ I h) λ v s1 ⟨x,H1,I1,r1,q1⟩=>ho pins s1 Y H1 x v Q I1 r1 q1)
def pX {f:Value->Value->Sem Value}{C:Int->Int->Prop}{g:Int->Int->Int}
  (rule:∀ (i j:Int) (t u:Tok) (s:Shared) (Q:Value->Shared->Prop) (E:Value->Shared->Prop),C i j->Q (.int (g i j) s.toks) { s with toks:=s.toks+1 }->wpAny (model X.prog X.w) X.A (f (.int i t) (.int j u)) Q E s):
  z_ X f (rI C λ i j=>.int (g i j)):=by
 intro pins s Y H x y v u Q I rx ry h
 obtain⟨i,j,rfl,rfl,hc,q⟩:=h
 obtain⟨t,rfl⟩:=rx
 obtain⟨t',rfl⟩:=ry
 exact rule i j t t' s _ _ hc ⟨.int (g i j),H,I.tok _,⟨_,rfl⟩,q⟩
def ji {f:Value->Value->Sem Value}{g:Int->Int->Int}
  (rule:∀ (i j:Int) (t u:Tok) (s:Shared) (Q:Value->Shared->Prop) (E:Value->Shared->Prop),Q (.int (g i j) s.toks) { s with toks:=s.toks+1 }->wpAny (model X.prog X.w) X.A (f (.int i t) (.int j u)) Q E s):
  z_ X f (wq λ i j=>.int (g i j)):=by
 intro pins s Y H x y v u Q I rx ry h
 obtain⟨i,j,rfl,rfl,q⟩:=h
 obtain⟨t,rfl⟩:=rx
 obtain⟨t',rfl⟩:=ry
 exact rule i j t t' s _ _ ⟨.int (g i j),H,I.tok _,⟨_,rfl⟩,q⟩
def n_ {f:Value->Value->Sem Value}{g:Int->Int->Bool}
  (rule:∀ (i j:Int) (t u:Tok) (s:Shared) (Q:Value->Shared->Prop) (E:Value->Shared->Prop),Q (.bool (g i j)) s->wpAny (model X.prog X.w) X.A (f (.int i t) (.int j u)) Q E s):
  z_ X f (wq λ i j=>.bl (g i j)):=by
 intro pins s Y H x y v u Q I rx ry h
 obtain⟨i,j,rfl,rfl,q⟩:=h
 obtain⟨t,rfl⟩:=rx
 obtain⟨t',rfl⟩:=ry
 exact rule i j t t' s _ _ ⟨.bl (g i j),H,I,rfl,q⟩
def y6 (i j:Int):Prop:=0<j/\j<1073741824
def tG (i j:Int):Prop:=0<=j/\j<=1000000/\i.natAbs<2 ^ 64
def xh (i j:Int):Prop:=(-(2 ^ 64)<i/\i<2 ^ 64)\/(-(2 ^ 64)<j/\j<2 ^ 64)
def xh.ok {i j:Int}(h:xh i j):IntMulOk i j:=by
 rcases h with ⟨h1,h2⟩ | ⟨h1,h2⟩
 ·exact .of_left (intBits_le_64 h1 h2)
 ·exact .of_right (intBits_le_64 h1 h2)
def ZD (k:Nat):(0:Int)<=2 ^ k:=by
 rw[two_pow_cast]
 exact Int.natCast_nonneg _
def WU:z_ X (binaryOp .Add) (wq λ i j=>.int (i+j)):=ji λ _ _ _ _ _ _ _ q=>add_int q
def WA:z_ X (binaryOp .Sub) (wq λ i j=>.int (i-j)):=ji λ _ _ _ _ _ _ _ q=>sub_int q
def WG:z_ X (binaryOp .Mult) (rI xh λ i j=>.int (i*j)):=pX λ _ _ _ _ _ _ _ hc q=>mul_int q hc.ok
def WN:z_ X (binaryOp .FloorDiv) (rI y6 λ i j=>.int (i/j)):=pX λ i j _ _ _ _ _ hc q=>by
 have h1:(0:Int)<j:=hc.1
 have h2:j<1073741824:=hc.2
 exact floordiv_int (by lia) (by rw[Int.fdiv_eq_ediv_of_nonneg i (by lia)];exact q) (.inl (PyProof.noPylong_small (by lia)))
def WH:z_ X (binaryOp .Mod) (rI (λ _ j=>0<j) λ i j=>.int (i%j)):=pX λ i j _ _ _ _ _ hc q=>by
 have h1:(0:Int)<j:=hc
 exact mod_int' (by lia) (by rw[Int.fmod_eq_emod_of_nonneg i (by lia)];exact q)
def WC:z_ X (binaryOp .Pow) (rI tG λ i j=>.int (i ^ j.toNat)):=pX λ _ _ _ _ _ _ _ hc q=>pow_int_small hc.1 hc.2.1 hc.2.2 q
def WB:z_ X (binaryOp .RShift) (rI (λ _ j=>0<=j) λ i j=>.int (i/2 ^ j.toNat)):=pX λ i j _ _ _ _ _ hc q=>
 rshift_int hc (by rw[Int.fdiv_eq_ediv_of_nonneg i (ZD _)];exact q)
def WS:z_ X (binaryOp .BitAnd) (wq λ i j=>.int (Builtin.bitAnd i j)):=ji λ _ _ _ _ _ _ _ q=>and_int q
def Z9 {f:Value->Sem Value}{g:Int->Int}
  (rule:∀ (i:Int) (t:Tok) (s:Shared) (Q:Value->Shared->Prop) (E:Value->Shared->Prop),Q (.int (g i) s.toks) { s with toks:=s.toks+1 }->wpAny (model X.prog X.w) X.A (f (.int i t)) Q E s):
  iH X f (rU λ i=>.int (g i)):=by
 intro pins s Y H x v Q I rx h
 obtain⟨i,rfl,q⟩:=h
 obtain⟨t,rfl⟩:=rx
 exact rule i t s _ _ ⟨.int (g i),H,I.tok _,⟨_,rfl⟩,q⟩
def Z7:iH X (unaryOp .USub) (rU λ i=>.int (-i)):=Z9 λ _ _ _ _ _ q=>neg_int q
end
section
variable {X:Cx}{a b c:Expr}{ta tb tc:TE}{pos:Pos}
def cP {pins:List (Addr×Obj)}{Y:St}{H:Hp}{s:Shared}{Q:VK}{k k':Bool}(I:Inv X pins Y H s) (q:Q (.bl k) H) (e:k=k'):EP X pins Y Q (.bool k') s:=by
 subst e
 exact⟨.bl k,H,I,rfl,q⟩
def WK:z_ X (compareOp .Lt) (wq λ i j=>.bl (decide (i<j))):=n_ λ _ _ _ _ _ _ _ q=>lt_int q
def eX:z_ X (compareOp .LtE) (wq λ i j=>.bl (decide (i<=j))):=n_ λ _ _ _ _ _ _ _ q=>le_int q
def WM:z_ X (compareOp .Gt) (wq λ i j=>.bl (decide (j<i))):=n_ λ _ _ _ _ _ _ _ q=>gt_int q
def e_:z_ X (compareOp .GtE) (wq λ i j=>.bl (decide (j<=i))):=n_ λ _ _ _ _ _ _ _ q=>ge_int q
def eY:z_ X (compareOp .Is) (λ x y H Q=>y=.zg/\Q (.bl (decide (x=.zg))) H):=by
 intro pins s Y H x y v u Q I rx ry h
 obtain⟨rfl,q⟩:=h
 cases ry
 refine is_none_gen (cP I q ?_)
 cases x <;> first
  | (cases rx;rfl)
  | (obtain⟨t,rfl⟩:=rx;rfl)
def eV:z_ X (compareOp .IsNot) (λ x y H Q=>y=.zg/\Q (.bl (!decide (x=.zg))) H):=by
 intro pins s Y H x y v u Q I rx ry h
 obtain⟨rfl,q⟩:=h
 cases ry
 refine isnot_none_gen (cP I q ?_)
 cases x <;> first
  | (cases rx;rfl)
  | (obtain⟨t,rfl⟩:=rx;rfl)
def z_.or {f:Value->Value->Sem Value}{r r':R2}(h:z_ X f r) (h':z_ X f r'):z_ X f (λ x y H Q=>r x y H Q\/r' x y H Q):=by
 intro pins s Y H x y v u Q I rx ry q
 rcases q with q | q
 ·exact h pins s Y H x y v u Q I rx ry q
 ·exact h' pins s Y H x y v u Q I rx ry q
def vT (b:Expr) {op:CmpOp}(h:op≠.In:=by decide) (h2:op≠.NotIn:=by decide):behindInMarks op b=false:=by
 have e1:(op == CmpOp.In)=false:=by cases op <;> first | rfl | exact absurd rfl h
 have e2:(op == CmpOp.NotIn)=false:=by cases op <;> first | rfl | exact absurd rfl h2
 cases b <;> simp[behindInMarks,e1,e2]
def XW {op:CmpOp}{r:R2}(ho:z_ X (compareOp op) r) (ha:PE X a ta) (hb:PE X b tb) (hm:behindInMarks op b=false):PE X (.Compare a [op] [b] pos) (pC r ta tb):=by
 intro pins s Y H Q I h
 exact wpAny_Compare1 (i5 ha hb I h λ v u s2 x y H2 I2 rx ry q=>ho pins s2 Y H2 x y v u Q I2 rx ry q) hm
def ZN (t:TE):TT:=fun Y H Q=>t Y H λ x H'=>∃ k,x=.bl k/\Q k H'
def Xj {op:CmpOp}{r:R2}(ho:z_ X (compareOp op) r) (ha:PE X a ta) (hb:PE X b tb) (hm:behindInMarks op b=false):PT X (.Compare a [op] [b] pos) (ZN (pC r ta tb)):=by
 intro pins s Y H Q I h
 refine wpAny_isTrue_Compare1 (zH (ha pins s Y H _ I h) λ v s1 ⟨x,H1,I1,r1,q1⟩=>zH (hb pins s1 Y H1 _ I1 q1) λ u s2 ⟨y,H2,I2,r2,q2⟩=>
  zH (ho pins s2 Y H2 x y v u _ I2 r1 r2 q2) λ c s3 ⟨z,H3,I3,r3,k,e,q3⟩=>?_) hm
 subst e
 cases r3
 exact zaH ⟨H3,I3,q3⟩
def gT (r r':R2) (ta tb tc:TE):TE:=fun Y H Q=>ta Y H λ x H1=>tb Y H1 λ y H2=>r x y H2 λ z H3=>∃ k,z=.bl k/\
 (if k=true then tc Y H3 λ w' H4=>r' y w' H4 Q else Q (.bl false) H3)
def XX {op op':CmpOp}{r r':R2}(ho:z_ X (compareOp op) r) (ho':z_ X (compareOp op') r') (ha:PE X a ta) (hb:PE X b tb) (hc:PE X c tc)
  (hm:lastMarks [op,op'] [b,c]=false:=by with_unfolding_all rfl):PE X (.Compare a [op,op'] [b,c] pos) (gT r r' ta tb tc):=by
 intro pins s Y H Q I h
 refine Compare_chain (zH (ha pins s Y H _ I h) λ v s1 ⟨x,H1,I1,r1,q1⟩=>chain_link (zH (hb pins s1 Y H1 _ I1 q1) λ u s2 ⟨y,H2,I2,r2,q2⟩=>
  zH (ho pins s2 Y H2 x y v u _ I2 r1 r2 q2) λ d s3 ⟨z,H3,I3,r3,k,e,q3⟩=>?_)) hm
 subst e
 cases r3
 refine zaH ?_
 cases k with
 | false=>exact ite_ff ⟨.bl false,H3,I3,rfl,q3⟩
 | true=>exact ite_tt (chain_last (zH (hc pins s3 Y H3 _ I3 q3) λ w' s4 ⟨z',H4,I4,r4,q4⟩=>ho' pins s4 Y H4 y z' u w' Q I4 r2 r4 q4))
def iI (K:Aa) (x:V) (H:Hp) (k:Bool):Prop:=
 match x with
 | .zg=>k=false
 | .bl b=>k=b
 | .int i=>k=(i != 0)
 | .str y=>y.length<=sizeLine/\k=((y.length:Int) != 0)
 | .o7 y=>y.size<=sizeLine/\k=((y.size:Int) != 0)
 | .ref p=>(∃ xs,zP K H p xs/\k=!xs.isEmpty)\/(∃ xs,zY K H p xs/\k=!xs.isEmpty)\/∃ Ae,H p=some (.dK Ae)/\k=!Ae.isEmpty
 | _=>False
def TB {κ:Type}{Ae:List (κ × V)}{vs:List (κ × Value)}(r:KV Ae vs):(!vs.isEmpty)=!Ae.isEmpty:=by
 cases r <;> rfl
def dZ {xs:List V}{its:List Value}(r:Vals xs its):(!its.toArray.isEmpty)=!xs.isEmpty:=by
 cases r <;> simp
def rz:(sizeLine:Nat)<2 ^ 63:=by rw[sizeLine_eq];decide
def ZK:Qi X (λ x H Q=>∃ k,iI X.K x H k/\Q k H):=by
 intro pins s Y H x v Q I rx h
 obtain⟨k,e,q⟩:=h
 have hl:=rz
 have hs:sizeLine=16777216:=sizeLine_eq
 cases x with
 | zg=>
  cases rx
  have e':k=false:=e
  subst e'
  exact truthy_none ⟨H,I,q⟩
 | bl b=>
  cases rx
  have e':k=b:=e
  subst e'
  exact zaH ⟨H,I,q⟩
 | int i=>
  obtain⟨t,rfl⟩:=rx
  have e':k=(i != 0):=e
  subst e'
  exact PySem.P.truthy_int ⟨H,I,q⟩
 | str y=>
  obtain⟨t,rfl⟩:=rx
  obtain⟨hy,e'⟩:y.length<=sizeLine/\k=((y.length:Int) != 0):=e
  subst e'
  exact PySem.P.truthy_str (by lia) ⟨H,I.tok _,q⟩
 | o7 y=>
  obtain⟨t,rfl⟩:=rx
  obtain⟨hy,e'⟩:y.size<=sizeLine/\k=((y.size:Int) != 0):=e
  subst e'
  exact PySem.W.truthy_bytes (by lia) ⟨H,I.tok _,q⟩
 | ref p=>
  cases rx
  have e':(∃ xs,zP X.K H p xs/\k=!xs.isEmpty)\/(∃ xs,zY X.K H p xs/\k=!xs.isEmpty)\/∃ Ae,H p=some (.dK Ae)/\k=!Ae.isEmpty:=e
  rcases e' with ⟨xs,hx,e'⟩ | ⟨xs,hx,e'⟩ | ⟨Ae,hx,e'⟩
  ·subst e'
   obtain⟨its,r,pl,hz⟩:=I.list hx
   have hlen:=r.length
   exact wpAny_truthy_list pl.isList (by simp only[Ao];lia) ⟨H,I.tok _,by rw[dZ r];exact q⟩
  ·subst e'
   obtain⟨its,r,pl,hz⟩:=I.tuple hx
   have hlen:=r.length
   exact truthy_tuple pl (by simp only[Ao];lia) ⟨H,I.tok _,by rw[dZ r];exact q⟩
  ·subst e'
   obtain⟨hz,hS,vs,r,m⟩:Ae.length<=sizeLine/\(p == sysModules)=false/\∃ vs,KV Ae vs/\s.heap.DictOf (ju X.prog X.w) p vs:=I.zu p _ hx
   have hlen:Ae.length=vs.length:=Paired.length r
   exact wpAny_truthy_dict hS m (by lia) ⟨H,I.tok _,by rw[TB r];exact q⟩
 | _=>exact (show False from e).elim
def Xh (ha:PE X a ta) (he:∀ whole,isTrue a X.env whole=(do let v <- whole;standAt a.pos;holding [v] (truthy v))):
  PT X a (fun Y H Q=>ta Y H λ x H'=>∃ k,iI X.K x H' k/\Q k H'):=by
 intro pins s Y H Q I h
 exact isTrue_plain (zH (ha pins s Y H _ I h) λ v s1 ⟨x,H1,I1,r1,q1⟩=>ZK pins s1 Y H1 x v Q I1 r1 q1) (he _)
def WT:z_ X (binaryOp .Add) (λ x y H Q=>∃ i j,x=.str i/\y=.str j/\i.length+j.length<=sizeLine/\Q (.str (i++j)) H):=by
 intro pins s Y H x y v u Q I rx ry h
 obtain⟨i,j,rfl,rfl,hz,q⟩:=h
 obtain⟨t,rfl⟩:=rx
 obtain⟨t',rfl⟩:=ry
 exact add_str (λ t' tk=>⟨.str (i++j),H,I.tok _,⟨_,rfl⟩,q⟩) hz
def vals1 {x:V}{us:List Value}(r:Vals [x] us):∃ u,us=[u]/\RelV x u:=by
 cases r with
 | cons r1 r2=>cases r2;exact⟨_,rfl,r1⟩
def vals2 {x y:V}{us:List Value}(r:Vals [x,y] us):∃ u w',us=[u,w']/\RelV x u/\RelV y w':=by
 cases r with
 | cons r1 r2=>
  cases r2 with
  | cons r3 r4=>cases r4;exact⟨_,_,rfl,r1,r3⟩
def RE (hc:X.calm=true):yW X (.builtin "min") (λ xs H Q=>∃ i j,xs=[.int i,.int j]/\Q (.int (if j<i then j else i)) H):=by
 intro pins s Y H xs us Q I r h
 obtain⟨i,j,rfl,q⟩:=h
 obtain⟨u,w',rfl,⟨t,rfl⟩,⟨t',rfl⟩⟩:=vals2 r
 refine min_two_ints (I.ok.hd hc) λ h' tk k=>⟨_,H,I.kept k,?_,q⟩
 by_cases hj:j<i
 ·rw[if_pos hj,if_pos hj];exact⟨_,rfl⟩
 ·rw[if_neg hj,if_neg hj];exact⟨_,rfl⟩
def RJ:yW X (.type "int") (λ xs H Q=>(∃ i,xs=[.int i]/\Q (.int i) H)\/∃ k,xs=[.bl k]/\Q (.int (if k then 1 else 0)) H):=by
 intro pins s Y H xs us Q I r h
 rcases h with ⟨i,rfl,q⟩ | ⟨k,rfl,q⟩
 ·obtain⟨u,rfl,t,rfl⟩:=vals1 r
  exact call_int_int ⟨.int i,H,I,⟨_,rfl⟩,q⟩
 ·obtain⟨u,rfl,r1⟩:=vals1 r
  cases r1
  exact call_int_bool ⟨.int (if k then 1 else 0),H,I.tok _,⟨_,rfl⟩,q⟩
end
def Sd {v:V}{u:Value}(r:RelV v u):PySem.W.handedIn u=true:=by
 cases v with
 | zg=>cases (show u=Value.none from r);rfl
 | bl b=>cases (show u=Value.bool b from r);rfl
 | int i=>obtain⟨t,e⟩:=(show ∃ t,u=Value.int i t from r);cases e;rfl
 | str x=>obtain⟨t,e⟩:=(show ∃ t,u=Value.str x t from r);cases e;rfl
 | o7 b=>obtain⟨t,e⟩:=(show ∃ t,u=Value.bytes b t from r);cases e;rfl
 | jY b=>obtain⟨t,e⟩:=(show ∃ t,u=Value.float b t from r);cases e;rfl
 | ref a=>cases (show u=Value.ref a from r);rfl
 | ty n=>cases (show u=Value.type n from r);rfl
section
variable {s:Shared}{f:Str}{A:Around}{E:Value->Shared->Prop}
def RY {prog:Program}{w:World}{env:Env}{e:Expr}{f:Str}{pos:Pos}{s:Shared}{Q:Value->Shared->Prop}(hb:attributeBase e f env (eval e env)=eval e env)
  (h:wpAny (model prog w) A (eval e env) (λ o s₁=>wpAny (model prog w) A (getAttr o f true) Q E s₁) E s):wpAny (model prog w) A (eval (.Attribute e f pos) env) Q E s:=
 Attribute_any_ h (by rw[arm_eval_Attribute,hb])
end
structure ye (k:Nat) (A:Around):Prop where
 hd:A.handled=none
 dp:A.depth+3*k+5<recursionLimit
 un:A.units+16*k+200<cLine
def ye.mono {j k:Nat}{A:Around}(r:ye k A) (h:j<=k):ye j A:=⟨r.hd,by have:=r.dp;lia,by have:=r.un;lia⟩
theorem ye.deeper {k:Nat}{A:Around}(r:ye (k+1) A) (env:Env):ye k (A.deeper env):=
 ⟨r.hd,by have:=r.dp;show A.depth+1+3*k+5<_;lia,by have:=r.un;show A.units+3+16*k+200<_;lia⟩
def UQ {A:Around}{C:Addr}{us:List Value}{kw:List (Str×Value)}:(A.under (.builtin "type.__call__" ⟨.ref C::us,kw⟩)).depth=A.depth+1:=by
 first | rfl | simp[Around.under,Code.weight,Code.isCreation,Code.isGuard,Code.isCaller,Code.frames,Code.isFrame,guardIds]
def UP {A:Around}{C:Addr}{us:List Value}{kw:List (Str×Value)}:(A.under (.builtin "type.__call__" ⟨.ref C::us,kw⟩)).units=A.units+1:=by
 first | rfl | simp[Around.under,Code.cUnits,Code.frames,Code.isFrame]
def ye.make {k:Nat}{A:Around}(r:ye (k+1) A) (C:Addr) (us:List Value) (kw:List (Str×Value)):ye k (A.under (.builtin "type.__call__" ⟨.ref C::us,kw⟩)):=
 ⟨r.hd,by have:=r.dp;rw[UQ];lia,by have:=r.un;rw[UP];lia⟩
theorem ye.depth {k:Nat}{A:Around}(r:ye k A):A.depth<recursionLimit:=by have:=r.dp;lia
theorem ye.units {k:Nat}{A:Around}(r:ye k A):A.units+64<cLine:=by have:=r.un;lia
def lR:TA:=λ _ H Q=>Q [] H
def lT (ta:TE) (tr:TA):TA:=fun Y H Q=>ta Y H λ x H1=>tr Y H1 λ xs H2=>Q (x::xs) H2
section
variable {X:Cx}{e:Expr}{es:List Expr}{te:TE}{t:TA}{pos:Pos}
def qx:PA X [] lR:=λ _ _ _ _ H Q I h=>Calls.spliced_nil ⟨[],H,I,.nil,h⟩
def tW (ha:PE X e te) (hr:PA X es t) (hs:starEach (e::es) X.env=(false,eval e X.env)::starEach es X.env:=by rfl):PA X (e::es) (lT te t):=by
 intro pos pins s Y H Q I h
 rw[hs]
 show wpAny _ _ (spliced ((false,eval e X.env)::backTo pos (starEach es X.env))) _ _ s
 refine Calls.spliced_cons (zH (ha pins s Y H _ I h) λ u s1 ⟨x,H1,I1,r1,q1⟩=>?_)
 exact zH (hr pos pins s1 Y H1 _ I1 q1) λ us s2 ⟨xs,H2,I2,r2,q2⟩=>⟨x::xs,H2,I2,.cons r1 r2,q2⟩
def ZM (t:TA):TE:=fun Y H Q=>t Y H λ xs H1=>xs.length<=sizeLine/\∀ p,H1 p=none->Q (.ref p) (upd H1 p (.tup xs))
def ZZ (t:TA):TE:=fun Y H Q=>t Y H λ xs H1=>xs.length<=sizeLine/\∀ p,H1 p=none->Q (.ref p) (upd H1 p (.lst xs))
def XF {x1} (h:PA X es t):PE X (.Tuple es x1 pos) (ZM t):=by
 intro pins s Y H Q I hq
 refine wpAny_Tuple_spliced (zH (h pos pins s Y H _ I hq) λ us s1 ⟨xs,H1,I1,r,z,q⟩=>⟨by rw[<- r.length];exact z,?_⟩)
 have hf:H1 s1.heap.objs.size=none:=I1.zu.fresh (Ad _)
 refine⟨.ref s1.heap.objs.size,upd H1 s1.heap.objs.size (.tup xs),I1.laid (t':=s1.toks) (λ b u e=>za1 _ e) (Ad _) ?_,rfl,q _ hf⟩
 exact⟨z,us,r,⟨_,AH _ rfl,rfl,_,rfl⟩⟩
def XO (h:PA X es t):PE X (.List es pos) (ZZ t):=by
 intro pins s Y H Q I hq
 refine wpAny_List_spliced (zH (h pos pins s Y H _ I hq) λ us s1 ⟨xs,H1,I1,r,z,q⟩=>⟨by rw[<- r.length];exact z,?_⟩)
 have hf:H1 s1.heap.objs.size=none:=I1.zu.fresh (Ad _)
 refine⟨.ref s1.heap.objs.size,upd H1 s1.heap.objs.size (.lst xs),I1.laid (t':=s1.toks) (λ b u e=>za1 _ e) (Ad _) ?_,rfl,q _ hf⟩
 exact⟨z,us,0,r,AH _ rfl⟩
end
abbrev Sp:=List V->Hp->VK->XK->Prop
abbrev vx:=List Env->Hp->Shared->XK->Value->Shared->Prop
structure rZ (P:Program) (w:World) (K:Aa) (mg:Str->Option Value) (base:Heap) (A:Around) (outer:List Env) (s:Shared) (H:Hp):Prop where
 frames:A.frames=some outer
 mod:Mod K mg base
 bs:∀ b o,base.get? b=some o->s.heap.get? b=some o/\H b=none
 uE:base.objs.size<=s.heap.objs.size
 wU:s.heap.FunFrames base outer
 tj:∀ b∈yK outer,H b=none
 zu:yn P w H s.heap
 bare:AllBare s.gens
def CE (outer:List Env) (P:Program) (w:World) (H:Hp) (s:Shared) (Q:VK) (u:Value) (s':Shared):Prop:=
 ∃ v H',s'.os=s.os/\AllBare s'.gens/\Un (yK outer) [] H H' s.heap s'.heap/\yn P w H' s'.heap/\RelV v u/\Q v H'
def CR (CX:vx) (outer:List Env) (P:Program) (w:World) (H:Hp) (s:Shared) (Q:VK) (E:XK) (r:Result) (s':Shared):Prop:=
 match r with
 | .ok (.ret u)=>CE outer P w H s Q u s'
 | .ok _=>False
 | .error e=>CX outer H s E e s'
structure xg (P:Program) (w:World) (K:Aa) (mg:Str->Option Value) (base:Heap) (CX:vx) (k:Nat) (f:Addr) (fd:FuncData) (ps:List Str) (sp:Sp):Prop where
 len:∀ vs H Q E,sp vs H Q E->vs.length=ps.length
 run:∀ (A:Around) (outer:List Env) (s:Shared) (H:Hp) (args:Args) (us:List Value) (vs:List V) (Q:VK) (E:XK),ye k A->rZ P w K mg base A outer s H->BindsTo s fd args (ps.zip us)->Vals vs us->sp vs H Q E->
  codeAny (model P w) A (.call (.ref f) args) (CR CX outer P w H s Q E) s
def xg.imp {P:Program}{w:World}{K:Aa}{mg:Str->Option Value}{base:Heap}{CX:vx}{k:Nat}{f:Addr}{fd:FuncData}{ps:List Str}{sp sp':Sp}(F:xg P w K mg base CX k f fd ps sp)
  (h:∀ vs H Q E,sp' vs H Q E->sp vs H Q E):xg P w K mg base CX k f fd ps sp':=
 ⟨λ vs H Q E q=>F.len vs H Q E (h _ _ _ _ q),λ A outer s H args us vs Q E hr he hb hv hs=>F.run A outer s H args us vs Q E hr he hb hv (h _ _ _ _ hs)⟩
def rZ.make {P:Program}{w:World}{K:Aa}{mg:Str->Option Value}{base:Heap}{A:Around}{outer:List Env}{s:Shared}{H:Hp}(e:rZ P w K mg base A outer s H) (C:Addr) (us:List Value) (kw:List (Str×Value)):
  rZ P w K mg base (A.under (.builtin "type.__call__" ⟨.ref C::us,kw⟩)) outer s H:=⟨by first | exact e.frames | (simpa [Around.under,Code.envs,Code.isFrame,pushEnvs] using e.frames),e.mod,e.bs,e.uE,e.wU,e.tj,e.zu,e.bare⟩
section
variable {X:Cx}{pins:List (Addr×Obj)}{Y:St}{H:Hp}{s s':Shared}
def Inv.ic (I:Inv X pins Y H s):rZ X.prog X.w X.K X.mg X.base X.A X.stack s H:=
 ⟨I.ok.frames,I.ok.mod,I.bs,Bo I.ok.uE I.sz,I.stack,I.lW,I.zu,I.bare⟩
def Inv.after {Q:VK}{u:Value}(I:Inv X pins Y H s) (h:CE X.stack X.prog X.w H s Q u s'):EP X pins Y Q u s':=by
 obtain⟨v,H',os,bare,un,zu,r,q⟩:=h
 obtain⟨hh,g,d,t,os'⟩:=s'
 obtain rfl:os'=s.os:=os
 exact⟨v,H',I.call (h':=hh) (g':=g) (d':=d) (t':=t) (ch:=[]) un zu bare (λ b z=>absurd z (by simp)),r,q⟩
end
def gU (sp:Sp) (dvs:List V) (E:XK) (t:TA):TE:=fun Y H Q=>t Y H λ vs H1=>sp (vs++dvs) H1 Q E
def Binds (K:Aa) (fd:FuncData) (ps:List Str) (ds:List Value):Prop:=
 ∀ (s:Shared) (us:List Value),K.In s.heap->(us++ds).length=ps.length->BindsTo s fd ⟨us,[]⟩ (ps.zip (us++ds))
def Binds.all {K:Aa}{fd:FuncData}{ps:List Str}(h:∀ us:List Value,us.length=ps.length->bindArgs fd ⟨us,[]⟩=pure (ps.zip us)):Binds K fd ps []:=λ s us _ hl=>by
 rw[BC] at hl ⊢
 exact .of_eq (h us hl)
def Passes (CX:vx) (X:Cx) (E:XK):Prop:=∀ (pins:List (Addr×Obj)) (Y:St) (H:Hp) (s:Shared) (e:Value) (s':Shared),Inv X pins Y H s->CX X.stack H s E e s'->X.xe e s'
section
variable {X:Cx}{CX:vx}{k:Nat}{f:Addr}{fd:FuncData}{ps:List Str}{sp:Sp}{dvs:List V}{ds:List Value}{E:XK}{x:Str}{p pos:Pos}{e:Expr}{es:List Expr}{t:TA}
def YL {pins:List (Addr×Obj)}{Y:St}{H:Hp}{s:Shared}{Q:VK}{us:List Value}{vs:List V}(F:xg X.prog X.w X.K X.mg X.base CX k f fd ps sp) (hr:ye k X.A) (hb:Binds X.K fd ps ds) (hd:Vals dvs ds) (hx:Passes CX X E)
  (I:Inv X pins Y H s) (r:Vals vs us) (h:sp (vs++dvs) H Q E):wpAny (model X.prog X.w) X.A (call (.ref f) us) (EP X pins Y Q) X.xe s:=by
 have r2:Vals (vs++dvs) (us++ds):=r.append hd
 have hl:(us++ds).length=ps.length:=by rw[<- r2.length];exact F.len _ _ _ _ h
 refine wpAny_call (codeAny_mono (F.run X.A X.stack s H ⟨us,[]⟩ (us++ds) (vs++dvs) Q E hr I.ic (hb s us I.y8 hl) r2 h) λ r s' hq=>?_)
 cases r with
 | error e=>exact hx pins Y H s e s' I hq
 | ok fl=>
  cases fl with
  | ret u=>exact I.after hq
  | _=>exact False.elim hq
def XY (F:xg X.prog X.w X.K X.mg X.base CX k f fd ps sp) (hr:ye k X.A) (hg:Gl X x) (hm:X.mg x=some (.ref f)) (hk:PySem.W.keepIn X.K (.ref f)=true) (hb:Binds X.K fd ps ds) (hd:Vals dvs ds) (hx:Passes CX X E)
  (ha:PA X (e::es) t) (AQ:(x == ("__debug__":Str))=false:=by decide) (he:starEach (e::es) X.env=(false,eval e X.env)::starEach es X.env:=by rfl) (Ag:(backTo pos (starEach es X.env)).any (·.1)=false:=by rfl):
  PE X (.Call (.Name x p) (e::es) [] pos) (gU sp dvs E t):=by
 intro pins s Y H Q I h
 refine zaN (oh I hg hm ?_ AQ)
 refine PySem.W.callWith_K (h₀:=X.base) I.ok.mod.qC hk (zH (ha pos pins s Y H _ I h) λ us s1 ⟨vs,H1,I1,r,q⟩=>⟨I1.y8,?_⟩) he Ag
 exact YL F hr hb hd hx I1 r q
end
structure yd (N P:List Str) (sc:Scope):Prop where
 kind:sc.kind=.function
 co:sc.isCoroutine=false
 gen:sc.isGenerator=false
 nd:N.Nodup
 pre:N.take P.length=P
 par:∀ x∈P,sc.names.lookup x=some .local\/sc.names.lookup x=some .cell
 UD:∀ y∈sc.names,y.2≠.free
theorem bO {kindOf:Str->Option NameKind}{x:Str}:∀ {binds:List (Str×Value)}{m:Str->Option Value},(∀ v,(x,v)∉binds)->bindL kindOf binds m x=m x
 | [],_,_=>rfl
 | (n,v)::r,m,h=>by
  unfold bindL
  rw[bO λ w hw=>h w (Av _ hw)]
  split
  ·have:x≠n:=by rintro rfl;exact h v Ap
   simp[this]
  ·rfl
theorem bQ {kindOf:Str->Option NameKind}{x:Str}:∀ {binds:List (Str×Value)}{m:Str->Option Value},(∀ v,(x,v)∉binds)->bindC kindOf binds m x=m x
 | [],_,_=>rfl
 | (n,v)::r,m,h=>by
  unfold bindC
  rw[bQ λ w hw=>h w (Av _ hw)]
  split
  ·rfl
  ·have:x≠n:=by rintro rfl;exact h v Ap
   simp[this]
theorem bP {kindOf:Str->Option NameKind}{x:Str}{v:Value}:∀ {P:List Str}{vs:List Value}{i:Nat}{m:Str->Option Value},P.Nodup->P[i]?=some x->vs[i]?=some v->kindOf x=some .local->
  bindL kindOf (P.zip vs) m x=some v
 | [],_,_,_,_,h,_,_=>by simp at h
 | _::_,[],_,_,_,_,h,_=>by simp at h
 | p::P,w::vs,0,m,nd,h1,h2,hk=>by
  simp at h1 h2;subst h1;subst h2
  show bindL kindOf ((p,w)::P.zip vs) m p=_
  unfold bindL
  rw[bO λ v hv=>(A2.mp nd).1 (De hv).1,if_pos hk]
  simp
 | p::P,w::vs,i+1,m,nd,h1,h2,hk=>by
  show bindL kindOf ((p,w)::P.zip vs) m x=_
  unfold bindL
  exact bP (i:=i) (A2.mp nd).2 (by simpa using h1) (by simpa using h2) hk
theorem bR {kindOf:Str->Option NameKind}{x:Str}{v:Value}:∀ {P:List Str}{vs:List Value}{i:Nat}{m:Str->Option Value},P.Nodup->P[i]?=some x->vs[i]?=some v->kindOf x≠some .local->
  bindC kindOf (P.zip vs) m x=some v
 | [],_,_,_,_,h,_,_=>by simp at h
 | _::_,[],_,_,_,_,h,_=>by simp at h
 | p::P,w::vs,0,m,nd,h1,h2,hk=>by
  simp at h1 h2;subst h1;subst h2
  show bindC kindOf ((p,w)::P.zip vs) m p=_
  unfold bindC
  rw[bQ λ v hv=>(A2.mp nd).1 (De hv).1,if_neg hk]
  simp
 | p::P,w::vs,i+1,m,nd,h1,h2,hk=>by
  show bindC kindOf ((p,w)::P.zip vs) m x=_
  unfold bindC
  exact bR (i:=i) (A2.mp nd).2 (by simpa using h1) (by simpa using h2) hk
noncomputable def start (N:List Str) (vs:List V):St:=vs.map some++List.replicate (N.length-vs.length) none
noncomputable def xX (CX:vx) (P:Program) (w:World) (K:Aa) (mg:Str->Option Value) (base:Heap) (N:List Str) (qual:Str) (scope:Scope) (f:Addr) (cd:Value) (A:Around) (outer:List Env) (s:Shared) (H:Hp) (E:XK):Cx where
 prog:=P
 w:=w
 K:=K
 mg:=mg
 base:=base
 A:=A.deeper (envOfC qual scope s.heap.objs.size f cd)
 N:=N
 s₀:=s
 H₀:=H
 env:=envOfC qual scope s.heap.objs.size f cd
 outer:=outer
 stack:=envOfC qual scope s.heap.objs.size f cd::outer
 ex:=[]
 calm:=true
 fn:=λ _=>true
 pn:=[]
 xe:=λ e s'=>wpAny (model P w) (A.deeper (envOfC qual scope s.heap.objs.size f cd)) (leaving (envOfC qual scope s.heap.objs.size f cd) e) (λ _ s''=>CX outer H s E e s'') (λ e' s''=>CX outer H s E e' s'') s'
def bG {sc:Scope}{n:Nat}{x:Str}(h:sc.names.lookup x=some .cell):∃ c,(cellsFrom n sc.names []).lookup x=some c:=by
 have q:=PySem.W.cellsFrom_some sc.names n [] (.inl h)
 exact Dd.mp q
def TJ {CX:vx}{P:Program}{w:World}{K:Aa}{mg:Str->Option Value}{base:Heap}{N ps:List Str}{qual:Str}{scope:Scope}{f:Addr}{cd:Value}{A:Around}{outer:List Env}{s s1:Shared}{H:Hp}{E:XK}{us:List Value}{vs:List V}
  (S:yd N ps scope) (hd:A.handled=none) (e0:rZ P w K mg base A outer s H) (hl:vs.length=ps.length) (r:Vals vs us)
  (x:InCallC s s.heap.objs.size (bindL (envOfC qual scope s.heap.objs.size f cd).kindOf (ps.zip us) λ _=>none) (cellsFrom (s.heap.objs.size+1) scope.names []) (bindC (envOfC qual scope s.heap.objs.size f cd).kindOf (ps.zip us) λ _=>none) s1):
  Inv (xX CX P w K mg base N qual scope f cd A outer s H E) [] (start N vs) H s1:=by
 have Ag:ps.length<=N.length:=by have:=congrArg List.length S.pre;rw[CD] at this;lia
 obtain⟨h1,tk,rfl,hk⟩:=x.done
 have noA:∀ b:Addr,b∉(xX CX P w K mg base N qual scope f cd A outer s H E).ex:=λ b z=>absurd (show b∈([]:List Addr) from z) (by simp)
 refine⟨⟨e0.mod,S.kind,rfl,rfl,Ad _,λ y z c h1 h2=>?_,λ y hy=>?_,λ y c _ h=>?_,λ _=>hd,Around.frames_deeper e0.frames,.inr ⟨rfl,rfl⟩,λ b z=>absurd z (noA b),e0.bs,e0.uE,λ b _ _=>noA b,λ b z=>absurd z (noA b),e0.wU,e0.tj⟩,
  rfl,e0.bare,Un.kept hk,⟨_,x.toInCall.ns,λ i y v h1 h2 h3=>?_⟩,λ y c h=>⟨_,x.cell y c h⟩,e0.zu.fresh (Ad _),λ y c h=>?_,λ p hp=>absurd (show p∈([]:List (Addr×Obj)) from hp) (by simp),e0.zu.kept hk,?_⟩
 ·exact name_of_addr x.apart (PySem.mem_of_lookup h1) (PySem.mem_of_lookup h2)
 ·have hy:scope.names.lookup y=some .cell\/scope.names.lookup y=some .free:=hy
  rcases hy with hy | hy
  ·exact bG hy
  ·exact absurd rfl (S.UD _ (PySem.mem_of_lookup hy))
 ·exact BD (x.above y c (PySem.mem_of_lookup h))
 ·have hi:i<vs.length:=by
   unfold start at h2
   by_cases hi:i<vs.length
   ·exact hi
   ·rw[CC (by simpa using hi)] at h2
    rw[Dw] at h2
    split at h2 <;> cases h2
  have ha:vs[i]?=some v:=by
   unfold start at h2
   rw[B1 (by simpa using hi),AA] at h2
   cases e:vs[i]? with
   | none=>rw[e] at h2;cases h2
   | some a=>rw[e] at h2;cases h2;rfl
  obtain⟨u,hu,rv⟩:=r.get ha
  have hp:ps[i]?=some y:=by
   rw[<- S.pre,List.getElem?_take_of_lt (by lia)];exact h1
  have ndP:ps.Nodup:=by rw[<- S.pre];exact S.nd.sublist (List.take_sublist _ _)
  refine⟨u,rv,?_⟩
  rcases S.par y (Be hp) with k | k
  ·exact .inl ⟨k,bP ndP hp hu k⟩
  ·obtain⟨c,e⟩:=bG (n:=s.heap.objs.size+1) k
   refine .inr ⟨.inl k,c,e,?_⟩
   have q:=x.cell y c e
   rw[bR ndP hp hu (by show scope.names.lookup y≠_;rw[k];decide)] at q
   exact q
 ·exact e0.zu.fresh (BD (x.above y c (PySem.mem_of_lookup h)))
 ·unfold start
  show _=N.length
  rw[CF,Aq,List.length_replicate]
  lia
def cG {CX:vx}{P:Program}{w:World}{K:Aa}{mg:Str->Option Value}{base:Heap}{k:Nat}{f:Addr}{name qual:Str}{params:Arguments}{body:List Stmt}{scope:Scope}{dV kV doc pm Ac ct oc:Value}{an od:Option Addr}
  {osl:Array (Option Value)}{N ps:List Str}{sp:Sp}(lk:K.lookup f=some ⟨oc,od,.func (PySem.W.fnOf name qual params body scope dV kV doc pm an Ac ct),osl⟩) (AR:PySem.W.codeIn K Ac qual=true) (S:yd N ps scope)
  (len:∀ vs H Q E,sp vs H Q E->vs.length=ps.length)
  (hbody:∀ (A:Around) (outer:List Env) (s:Shared) (H:Hp) (vs:List V) (Q:VK) (E:XK),ye k (A.deeper (envOfC qual scope s.heap.objs.size f Ac))->sp vs H Q E->
   ∃ t,xF (xX CX P w K mg base N qual scope f Ac A outer s H E) body t/\t { nx:=λ _ H'=>Q .zg H',rt:=Q } (start N vs) H):
  xg P w K mg base CX (k+1) f (PySem.W.fnOf name qual params body scope dV kV doc pm an Ac ct) ps sp:=by
 refine⟨len,λ A outer s H args us vs Q E hr e0 hb r BE=>?_⟩
 have hl:=len _ _ _ _ BE
 have KX:K.In s.heap:=e0.mod.qC.keeps λ b o e=>(e0.bs b o e).1
 have lim:s.heap.NoLimit:=e0.mod.nolimit.keeps λ b o e=>(e0.bs b o e).1
 have hkind:∀ y∈ps.zip us,scope.names.lookup y.1=some .local\/(scope.names.lookup y.1=some .cell/\((cellsFrom (s.heap.objs.size+1) scope.names []).lookup y.1).isSome=true):=λ⟨n,v⟩ hy=>by
  rcases S.par n (De hy).1 with q | q
  ·exact .inl q
  ·exact .inr ⟨q,PySem.W.cellsFrom_some _ _ _ (.inl q)⟩
 refine codeAny_call_function hr.depth (KX _ _ lk) rfl S.co S.gen rfl (PySem.W.codeRec_of KX AR) (hb _ _ _ _ ?_)
 refine wpAny_newFunctionEnv_cells S.kind hkind λ env he s1 x=>?_
 subst he
 refine⟨lim.keeps x.toInCall.keep,codeAny_func ?_⟩
 obtain⟨t,ht,hq⟩:=hbody A outer s H vs Q E (hr.deeper _) BE
 have I:Inv (xX CX P w K mg base N qual scope f Ac A outer s H E) [] (start N vs) H s1:=TJ S hr.hd e0 hl r x
 refine za3 (ht [] s1 (start N vs) H _ I hq) (λ fl s' hs=>?_) λ e s' hs=>hs
 have fin:∀ {Y':St}{H':Hp}{v:V}{u:Value},Inv (xX CX P w K mg base N qual scope f Ac A outer s H E) [] Y' H' s'->RelV v u->Q v H'->CE outer P w H s Q u s':=
  λ{Y' H' v u} J rv q=>⟨v,H',J.os,J.bare,J.base,J.zu,rv,q⟩
 cases fl with
 | ret u=>
  obtain⟨v,Y',H',J,rv,q⟩:=hs
  exact fin J rv q
 | next=>
  obtain⟨Y',H',J,q⟩:=hs
  exact fin (v:=V.zg) (u:=Value.none) J rfl q
 | brk=>
  obtain⟨_,_,_,q⟩:=hs
  exact False.elim q
 | cont=>
  obtain⟨_,_,_,q⟩:=hs
  exact False.elim q
section
variable {X:Cx}{x:Str}{p pos:Pos}{e:Expr}{es:List Expr}{t:TA}{id T:String}{r:List V->Hp->VK->Prop}
def nk (r:List V->Hp->VK->Prop) (t:TA):TE:=fun Y H Q=>t Y H λ vs H1=>r vs H1 Q
def qq (hc:yW X (.builtin id) r) (hg:Gl X x) (hm:X.mg x=none) (hv:bootBuiltins x=some (.builtin id)) (ha:PA X (e::es) t) (hn:x≠"__name__":=by decide) (AQ:(x == ("__debug__":Str))=false:=by decide)
  (he:starEach (e::es) X.env=(false,eval e X.env)::starEach es X.env:=by rfl) (Ag:(backTo pos (starEach es X.env)).any (·.1)=false:=by rfl):PE X (.Call (.Name x p) (e::es) [] pos) (nk r t):=by
 intro pins s Y H Q I h
 refine zaN (qA I hg hm hv ?_ hn AQ)
 exact PyProof.Rows.callWith_builtin1 (zH (ha pos pins s Y H _ I h) λ us s1 ⟨vs,H1,I1,r1,q1⟩=>hc pins s1 Y H1 vs us Q I1 r1 q1) he Ag
def nU (hc:yW X (.type T) r) (hg:Gl X x) (hm:X.mg x=none) (hv:bootBuiltins x=some (.type T)) (ha:PA X (e::es) t) (hn:x≠"__name__":=by decide) (AQ:(x == ("__debug__":Str))=false:=by decide)
  (he:starEach (e::es) X.env=(false,eval e X.env)::starEach es X.env:=by rfl) (Ag:(backTo pos (starEach es X.env)).any (·.1)=false:=by rfl):PE X (.Call (.Name x p) (e::es) [] pos) (nk r t):=by
 intro pins s Y H Q I h
 refine zaN (qA I hg hm hv ?_ hn AQ)
 exact PyProof.Rows.callWith_type1 (zH (ha pos pins s Y H _ I h) λ us s1 ⟨vs,H1,I1,r1,q1⟩=>hc pins s1 Y H1 vs us Q I1 r1 q1) he Ag
end
end L2
namespace HT
open PySem PyProof.Rows
noncomputable def lexLt:List Int->List Int->Bool
 | [],[]=>false
 | [],_::_=>true
 | _::_,[]=>false
 | x::xs,y::ys=>if x=y then lexLt xs ys else decide (x<y)
def og (x y:Int) (xs ys:List Int):lexLt (x::xs) (y::ys)=if x=y then lexLt xs ys else decide (x<y):=rfl
def Ta:lexLt [] []=false:=rfl
def Tb (y:Int) (ys:List Int):lexLt [] (y::ys)=true:=rfl
def Tc (x:Int) (xs:List Int):lexLt (x::xs) []=false:=rfl
def Rg (A:Around) (s:Shared) (a:Int) (t:Tok) (c:Int) (u:Tok):∃ e,SeqAt.EqAt A s (.int a t) (.int c u) e/\(e=true↔a=c):=
 ⟨(a == c),SeqAt.EqAt.int_int a t c u,by simp⟩
def YW (A:Around) (s:Shared) (a:Int) (t:Tok) (c:Int) (u:Tok) (prog:Program) (w:World) (E:Value->Shared->Prop) (Q:Value->Shared->Prop) (h:Q (.bool (decide (a<c))) s):
  wpAny (model prog w) A (richCompare .Lt (.int a t) (.int c u)) Q E s:=
 (PyProof.Rows.lt_int h:wpAny (model prog w) A (compareOp .Lt (.int a t) (.int c u)) Q E s)
section
open PySem.SeqAt
open PySem.AutoSeq1 (wpAny_loadPart')
open PySem.MeetsSeq PySem.MeetsSeq2 PySem.MeetsSeq3
def ZI (l b:Addr) (items items2:Array Value) (n n2:Nat) (dd dd2:Option Addr) (sl sl2:Array (Option Value)) (ns ms:List Int) (hi:IntsAre items.toList ns) (hj:IntsAre items2.toList ms):
  Meets (Builtin.«tuple.__lt__» ⟨[.ref l,.ref b],[]⟩)
   (λ _ R s=>s.heap.get? l=some { cls:=.type "tuple",dict:=dd,data:=.seq items n,slots:=sl }/\s.heap.get? b=some { cls:=.type "tuple",dict:=dd2,data:=.seq items2 n2,slots:=sl2 }/\
    R (.ok (.ret (.bool (lexLt ns ms)))) s):=
 .of_wp λ prog w A R s h=>by
  obtain⟨hp,g,d,tk,os⟩:=s;obtain⟨hl,hb,h⟩:=h
  have f2:=AutoSeq1.sub_tuple_tuple
  have z1:items.size=ns.length:=by rw[<- hi.length];simp
  have z2:items2.size=ms.length:=by rw[<- hj.length];simp
  wp_walk using wpAny_loadPart' hl,wpAny_loadPart' hb,wpAny_forIn_list _ (λ rest b s'=>b.1=none/\s'=⟨hp,g,d,tk,os⟩/\∃ (vs ws:List Value) (ns' ms':List Int),rest=vs.zip ws/\
   IntsAre vs ns'/\IntsAre ws ms'/\ns'.length+items2.size=ms'.length+items.size/\R (.ok (.ret (.bool (lexLt ns' ms')))) ⟨hp,g,d,tk,os⟩) _
  case turn=>
   rintro⟨y,x⟩ rest b s' ⟨hb',rfl,vs,ws,ns',ms',hz,DG,Df,hlen,hR⟩
   cases DG with
   | nil=>rw[List.zip_nil_left] at hz;cases hz
   | cons a t DF=>
    cases Df with
    | nil=>rw[List.zip_nil_right] at hz;cases hz
    | cons c u DE=>
     rw[Dv] at hz
     injection hz with hyx hrest
     injection hyx with hy hx
     subst hy hx
     rw[og] at hR
     simp only[A0] at hlen
     obtain⟨e,he,CP⟩:=Rg A.in1 ⟨hp,g,d,tk,os⟩ a t c u
     refine za0 (he prog w _ _ ?_)
     cases e with
     | true=>
      rw[if_pos (CP.mp rfl)] at hR
      wp_walk
      exact⟨rfl,rfl,_,_,_,_,hrest,DF,DE,by lia,hR⟩
     | false=>
      rw[if_neg (λ q=>absurd (CP.mpr q) BI)] at hR
      have hri:=YW A.in1 ⟨hp,g,d,tk,os⟩ a t c u prog w
      wp_walk using hri
      exact⟨_,rfl,by simpa using hR⟩
  case fin=>
   rintro⟨b1,b2⟩ s' ⟨hb',rfl,vs,ws,ns',ms',hz,DG,Df,hlen,hR⟩
   simp only at hb'
   subst hb'
   have hv:lexLt ns' ms'=decide (items.size<items2.size):=by
    cases DG with
    | nil=>
     cases Df with
     | nil=>
      simp only[CB] at hlen
      rw[Ta]
      exact (za7 (by lia)).symm
     | cons c u hw=>
      simp only[CB,A0] at hlen
      rw[Tb]
      exact (zaJ (by lia)).symm
    | cons a t hv=>
     cases Df with
     | nil=>
      simp only[CB,A0] at hlen
      rw[Tc]
      exact (za7 (by lia)).symm
     | cons c u hw=>
      rw[Dv] at hz
      cases hz
   rw[hv] at hR
   wp_walk
   exact⟨_,rfl,by simpa [Builtin.Tuple.tupleCompareSizes] using hR⟩
  case h=>
   exact⟨rfl,rfl,items.toList,items2.toList,ns,ms,rfl,hi,hj,by lia,h⟩
end
section
variable {prog:Program}{w:World}{A:Around}{E:Value->Shared->Prop}{s:Shared}
def UR {l b:Addr}{items items2:Array Value}{ns ms:List Int}{Q:Value->Shared->Prop}(hl:IsTup s.heap l items) (hb:IsTup s.heap b items2) (hi:IntsAre items.toList ns) (hj:IntsAre items2.toList ms)
  (hu:A.units<cLine) (h:Q (.bool (lexLt ns ms)) s):wpAny (model prog w) A (compareOp .Lt (.ref l) (.ref b)) Q E s:=by
 obtain⟨⟨cls,dd,data,sl⟩,ho,hc,n,hd⟩:=id hl
 obtain⟨⟨cls2,dd2,data2,sl2⟩,ho2,hc2,n2,hd2⟩:=id hb
 simp only at hc hd hc2 hd2
 subst hc hd hc2 hd2
 exact richCompare_meets_room (op:=.Lt) ⟨_,ho,rfl⟩ ⟨_,ho2,rfl⟩ PySem.F.slot_tuple_lt PySem.F.entry_tuple_lt (PySem.F.args_tuple_lt_2 _ _) (ZI l b items items2 n n2 dd dd2 sl sl2 ns ms hi hj)
  ⟨ho,ho2,show Value.bool (lexLt ns ms)≠Value.notImplemented/\Q (.bool (lexLt ns ms)) s from ⟨(λ x=>nomatch x),h⟩⟩ hu
def R6 {t b:Addr}{vs ws:List Value}{Q:Value->Shared->Prop}(ht:IsTup s.heap t vs.toArray) (hb:IsTup s.heap b ws.toArray) (hv:vs≠[])
  (h1:ws=[]->Q (.ref t) s) (h2:ws≠[]->Q (.ref s.heap.objs.size) { s with heap:=s.heap.push { cls:=.type "tuple",data:=.seq (vs++ws).toArray } })
  (Ar:vs.length+ws.length<=sizeLine):wpAny (model prog w) A (binaryOp .Add (.ref t) (.ref b)) Q E s:=by
 obtain⟨⟨cls,dd,data,sl⟩,ho,hc,n,hd⟩:=id ht
 obtain⟨⟨cls2,dd2,data2,sl2⟩,ho2,hc2,n2,hd2⟩:=id hb
 simp only at hc hd hc2 hd2
 subst hc hd hc2 hd2
 have e:vs.toArray++ws.toArray=(vs++ws).toArray:=by simp
 by_cases hw:ws=[]
 ·exact concat_meets ⟨_,ho,rfl⟩ ⟨_,ho2,rfl⟩ noFill_tuple_add seq_tuple_add PySem.F.slot_tuple_add PySem.F.entry_tuple_add (PySem.F.args_tuple_add_2 _ _)
   (tuple_addW1 t b vs.toArray ws.toArray n n2 dd dd2 sl sl2 (by simpa using hv) (by simp[hw])) ⟨ho,ho2,h1 hw⟩
 ·refine concat_meets ⟨_,ho,rfl⟩ ⟨_,ho2,rfl⟩ noFill_tuple_add seq_tuple_add PySem.F.slot_tuple_add PySem.F.entry_tuple_add (PySem.F.args_tuple_add_2 _ _)
   (tuple_addW2 t b vs.toArray ws.toArray n n2 dd dd2 sl sl2 (by simpa using hv) (by simpa using hw) (by rw[Ao,Ao];exact Ar)) ⟨ho,ho2,?_⟩
  rw[e]
  exact h2 hw
noncomputable def zF (n d:Nat):Option Int->Nat
 | none=>d
 | some v=>if v<0 then (v+(n:Int)).toNat else min v.toNat n
def YK (n d:Nat) (hd:d<=n) (o:Option Int):zF n d o<=n:=by
 cases o with
 | none=>exact hd
 | some v=>
  show (if v<0 then (v+(n:Int)).toNat else min v.toNat n)<=n
  by_cases hv:v<0
  ·rw[if_pos hv];lia
  ·rw[if_neg hv];exact Nat.min_le_right _ _
def bC (v:Int) (n d:Nat):(if v<0 then max (v+(n:Int)) 0 else min v (n:Int))=((zF n d (some v):Nat):Int):=by
 show (if v<0 then max (v+(n:Int)) 0 else min v (n:Int))=(((if v<0 then (v+(n:Int)).toNat else min v.toNat n):Nat):Int)
 by_cases hv:v<0
 ·simp only[if_pos hv];lia
 ·simp only[if_neg hv];lia
def Qf (lo hi:Option Int) (n:Nat):Builtin.Slice.sliceAdjust lo hi 1 (n:Int)=(((zF n 0 lo:Nat):Int),((zF n n hi:Nat):Int)):=by
 have h1:¬ ((1:Int)<0):=by lia
 unfold Builtin.Slice.sliceAdjust
 simp only[h1,if_false]
 refine Prod.ext ?_ ?_
 ·cases lo with
  | none=>rfl
  | some v=>exact bC v n 0
 ·cases hi with
  | none=>rfl
  | some v=>exact bC v n n
def Xv (i j:Nat):Builtin.Slice.slicePlaces (i:Int) (j:Int) 1=j-i:=by
 unfold Builtin.Slice.slicePlaces
 have h1:(1:Int)>0:=by lia
 simp only[h1,if_true,Int.ediv_one]
 split <;> lia
def fu {v:Value}{o:Option Int}{Q:Option Int->Shared->Prop}(p:IsPart v o) (h:Q o s):wpAny (model prog w) A (Builtin.Slice.slicePartIndex v) Q E s:=by
 cases p with
 | none=>exact slicePart_none h
 | int i t=>exact slicePart_int h
def fx {sl:Addr}{vl vu:Value}{lo hi:Option Int}{n:Nat}{Q:Int×Int×Nat->Shared->Prop}(hs:s.heap.IsSliceOf sl vl vu .none) (pl:IsPart vl lo) (pu:IsPart vu hi)
  (h:Q (((zF n 0 lo:Nat):Int),1,zF n n hi-zF n 0 lo) s):wpAny (model prog w) A (Builtin.Slice.sliceApplied (.ref sl) (pure (n:Int))) Q E s:=by
 obtain⟨os,BG,hcs,Di⟩:=id hs
 unfold Builtin.Slice.sliceApplied Builtin.Slice.sliceFields
 refine za0 (za0 (za4 BG Di (x:=vl) rfl (za0 (za4 BG Di (x:=vu) rfl (za0 (za4 BG Di (x:=.none) rfl (Ab ?_)))))))
 refine za0 (slicePart_none ?_)
 show wpAny _ _ (if ((1:Int) == 0)=true then _ else _) _ _ s
 rw[if_neg (by decide)]
 refine za0 (fu pl (za0 (fu pu (za0 (Ab ?_)))))
 show wpAny _ _ (match Builtin.Slice.sliceAdjust lo hi 1 (n:Int) with | (lo,hi)=>pure (lo,(1:Int),Builtin.Slice.slicePlaces lo hi 1)) _ _ s
 rw[Qf lo hi n]
 show wpAny _ _ (pure (((zF n 0 lo:Nat):Int),(1:Int),Builtin.Slice.slicePlaces ((zF n 0 lo:Nat):Int) ((zF n n hi:Nat):Int) 1)) _ _ s
 rw[Xv]
 exact Ab h
def Xy (xs:Array Value) (i k:Nat):((List.range k).filterMap λ(m:Nat)=>xs[((i:Int)+(m:Int)*1).toNat]?).toArray=((xs.toList.drop i).take k).toArray:=by
 have e:(λ(m:Nat)=>xs[((i:Int)+(m:Int)*1).toNat]?)=λ m=>xs[i+m]?:=by
  funext m
  have:((i:Int)+(m:Int)*1).toNat=i+m:=by lia
  rw[this]
 rw[e]
 have:=pick_run xs i k
 rw[List.filterMap_map] at this
 have e2:((λ x=>xs[x]?) ∘ λ x=>i+x)=λ m=>xs[i+m]?:=rfl
 rw[e2] at this
 rw[this]
def Sz {t sl:Addr}{items:Array Value}{vl vu:Value}{lo hi:Option Int}{Q:Value->Shared->Prop}(ht:IsTup s.heap t items) (hs:s.heap.IsSliceOf sl vl vu .none) (pl:IsPart vl lo) (pu:IsPart vu hi)
  (hw:¬ (zF items.size 0 lo=0/\zF items.size items.size hi=items.size))
  (h:Q (.ref s.heap.objs.size) { s with heap:=s.heap.push { cls:=.type "tuple",data:=.seq ((items.toList.drop (zF items.size 0 lo)).take (zF items.size items.size hi-zF items.size 0 lo)).toArray } })
  (Ar:items.size<=sizeLine):wpAny (model prog w) A (getItem (.ref t) (.ref sl)) Q E s:=by
 have htake:sizeOk (.seq ((items.toList.drop (zF items.size 0 lo)).take (zF items.size items.size hi-zF items.size 0 lo)).toArray):=by
  show ((items.toList.drop (zF items.size 0 lo)).take (zF items.size items.size hi-zF items.size 0 lo)).toArray.size<=sizeLine
  rw[Ao,CD,Du,Bd]
  lia
 have hj:zF items.size items.size hi<=items.size:=YK _ _ (Ad _) hi
 obtain⟨os,BG,hcs,Di⟩:=id hs
 have hTs:s.TypeIs (.ref sl) "slice":=⟨os,BG,hcs⟩
 unfold getItem
 try with_reducible refine za5 ?_
 first | refine za0 (Ab ?_) | skip
 refine za0 (wpAny_sequenceKey ht.typeIs (by decide) ?_)
 refine za0 (zaF (name:=Str.ofString "__getitem__") ht.typeIs PyProof.Rows.slot_tuple_getitem
  (zaB PyProof.Rows.slot_tuple_getitem ht.typeIs entry_tuple_getitem ?_ (args_tuple_getitem _ _)))
 show wpAny _ _ (Builtin.Tuple.tupleItemsOf (.ref t) >>= _) _ _ s
 refine za0 (tupleItemsOf_ ht ?_)
 refine za0 (zaG hTs ?_)
 rw[if_pos (by decide)]
 refine za0 (fx hs pl pu ?_)
 have hno:¬ ((((zF items.size 0 lo:Nat):Int) == 0&&(1:Int) == 1&&(zF items.size items.size hi-zF items.size 0 lo) == items.size)=true):=by
  intro q
  rw[AU,AU] at q
  have q1:((zF items.size 0 lo:Nat):Int)=0:=eq_of_beq q.1.1
  have q2:zF items.size items.size hi-zF items.size 0 lo=items.size:=eq_of_beq q.2
  exact hw ⟨by lia,by lia⟩
 show wpAny _ _ (if (((zF items.size 0 lo:Nat):Int) == 0&&(1:Int) == 1&&(zF items.size items.size hi-zF items.size 0 lo) == items.size)=true then _ else _) _ _ s
 rw[if_neg hno,Xy]
 first
  | exact za0 (m:=Builtin.Tuple.tupleExact _) (za8 (Ab ⟨_,rfl,Ab h⟩) htake)
  | exact za0 (m:=Builtin.Tuple.tupleExact _) (za8 (za0 (Ab (Ab ⟨_,rfl,Ab h⟩))) htake)
  | exact za0 (za0 (m:=Builtin.Tuple.tupleExact _) (za8 (Ab (Ab ⟨_,rfl,Ab h⟩)) htake))
  | exact za0 (za0 (m:=Builtin.Tuple.tupleExact _) (za8 (Ab ⟨_,rfl,Ab h⟩) htake))
end
end HT
namespace L2
open PySem PySem.Spec PyProof.Rows
abbrev TO:=St->Hp->(Option Int->Hp->Prop)->Prop
def PO (X:Cx) (e:Option Expr) (t:TO):Prop:=
 ∀ (pins:List (Addr×Obj)) (s:Shared) (Y:St) (H:Hp) (Q:Option Int->Hp->Prop),Inv X pins Y H s->t Y H Q->
  wpAny (model X.prog X.w) X.A (evalPart e X.env) (λ u s'=>∃ o H',Inv X pins Y H' s'/\IsPart u o/\Q o H') X.xe s
noncomputable def ZX:TO:=λ _ H Q=>Q none H
noncomputable def ZT (t:TE):TO:=fun Y H Q=>t Y H λ x H1=>∃ i,x=.int i/\Q (some i) H1
def intsAre_of {ns:List Int}:∀ {us:List Value},Vals (ns.map V.int) us->IntsAre us ns:=by
 induction ns with
 | nil=>intro us r;rw[Bc] at r;cases r;exact .nil
 | cons n ns ih=>
  intro us r
  rw[Ax] at r
  cases r with
  | cons r1 r2=>
   obtain⟨t,e⟩:=r1
   subst e
   exact .cons n t (ih r2)
section
variable {X:Cx}{e:Expr}{te:TE}{lo hi:Option Expr}{tl th:TO}{pos p2:Pos}
def Xu:PO X none ZX:=by
 intro pins s Y H Q I h
 rw[evalPart_none]
 exact Ab ⟨none,H,I,.none,h⟩
def Xt (h:PE X e te):PO X (some e) (ZT te):=by
 intro pins s Y H Q I hw
 rw[evalPart_some]
 refine zH (h pins s Y H _ I hw) λ u s1 ⟨x,H1,I1,r1,q1⟩=>?_
 obtain⟨i,rfl,q⟩:=q1
 obtain⟨t,rfl⟩:=r1
 exact⟨some i,H1,I1,.int i t,q⟩
def sv (X:Cx) (r:V->Option Int->Option Int->Hp->VK->Prop):Prop:=
 ∀ (pins:List (Addr×Obj)) (s:Shared) (Y:St) (H:Hp) (x:V) (v vl vu:Value) (lo hi:Option Int) (sl:Addr) (Q:VK),Inv X pins Y H s->RelV x v->s.heap.IsSliceOf sl vl vu .none->IsPart vl lo->IsPart vu hi->r x lo hi H Q->
  ∃ T id,typeLookup (.type T) "__getitem__"=pure (some (.builtin id))/\s.TypeIs v T/\wpAny (model X.prog X.w) X.A (getItem v (.ref sl)) (EP X pins Y Q) X.xe s
def sv.or {r r':V->Option Int->Option Int->Hp->VK->Prop}(h:sv X r) (h':sv X r'):sv X (λ x lo hi H Q=>r x lo hi H Q\/r' x lo hi H Q):=by
 intro pins s Y H x v vl vu lo hi sl Q I rx hs pl pu q
 rcases q with q | q
 ·exact h pins s Y H x v vl vu lo hi sl Q I rx hs pl pu q
 ·exact h' pins s Y H x v vl vu lo hi sl Q I rx hs pl pu q
def ZO (r:V->Option Int->Option Int->Hp->VK->Prop) (te:TE) (tl th:TO):TE:=fun Y H Q=>te Y H λ x H1=>tl Y H1 λ l H2=>th Y H2 λ u H3=>r x l u H3 Q
def XH {r:V->Option Int->Option Int->Hp->VK->Prop}(hr:sv X r) (he:PE X e te) (hl:PO X lo tl) (hu:PO X hi th):PE X (.Subscript e (.Slice lo hi none p2) pos) (ZO r te tl th):=by
 intro pins s Y H Q I h
 refine Subscript_ (zH (he pins s Y H _ I h) λ v s1 ⟨x,H1,I1,r1,q1⟩=>?_)
 refine wpAny_Slice (zH (hl pins s1 Y H1 _ I1 q1) λ vl s2 ⟨l,H2,I2,pl,q2⟩=>zH (hu pins s2 Y H2 _ I2 q2) λ vu s3 ⟨u,H3,I3,pu,q3⟩=>?_)
 rw[evalPart_none]
 refine Ab ?_
 have I4:Inv X pins Y H3 { s3 with heap:=s3.heap.push { cls:=.type "slice",data:=.fields #[vl,vu,.none] } }:=I3.kept (t':=s3.toks) λ b ob q=>za1 _ q
 obtain⟨T,id,hT,ht,hg⟩:=hr pins { s3 with heap:=s3.heap.push { cls:=.type "slice",data:=.fields #[vl,vu,.none] } } Y H3 x v vl vu l u s3.heap.objs.size Q I4 r1 (Heap.IsSliceOf.new ..) pl pu q3
 show wpAny (model X.prog X.w) X.A (subscriptTail e (.Slice lo hi none p2) v (.ref s3.heap.objs.size)) (EP X pins Y Q) X.xe { s3 with heap:=s3.heap.push { cls:=.type "slice",data:=.fields #[vl,vu,.none] } }
 exact tail_any (ops:=[.ref s3.heap.objs.size,v]) ht hT hg (by with_unfolding_all rfl)
def uB (xs:List V) (lo hi:Option Int):List V:=(xs.drop (HT.zF xs.length 0 lo)).take (HT.zF xs.length xs.length hi-HT.zF xs.length 0 lo)
def b7 (xs:List V) (lo hi:Option Int):(uB xs lo hi).length<=xs.length:=by
 unfold uB
 rw[CD,Du]
 lia
def fT (K:Aa):V->Option Int->Option Int->Hp->VK->Prop:=λ x lo hi H Q=>∃ a xs,x=.ref a/\zY K H a xs/\
 ¬ (HT.zF xs.length 0 lo=0/\HT.zF xs.length xs.length hi=xs.length)/\∀ p,H p=none->Q (.ref p) (upd H p (.tup (uB xs lo hi)))
def Yt:sv X (fT X.K):=by
 intro pins s Y H x v vl vu lo hi sl Q I rx hs pl pu h
 obtain⟨a,xs,rfl,hx,hw,q⟩:=h
 cases rx
 obtain⟨its,r,ht,hz⟩:=I.tuple hx
 have hlen:its.toArray.size=xs.length:=by rw[Ao];exact r.length.symm
 refine⟨"tuple",_,PyProof.Rows.slot_tuple_getitem.lookup,ht.typeIs,?_⟩
 refine HT.Sz ht hs pl pu (by rw[hlen];exact hw) ?_ (by rw[hlen];exact hz)
 rw[hlen]
 refine⟨.ref s.heap.objs.size,_,I.laid (t':=s.toks) (o:=.tup (uB xs lo hi)) (λ b ob q=>za1 _ q) (Ad _) ?_,rfl,q _ (I.zu.fresh (Ad _))⟩
 exact⟨Bo (b7 xs lo hi) hz,_,(r.drop (HT.zF xs.length 0 lo)).take (HT.zF xs.length xs.length hi-HT.zF xs.length 0 lo),IsTup.new _ _⟩
def kO (K:Aa):R2:=λ x y H Q=>∃ a b ns ms,x=.ref a/\y=.ref b/\zY K H a (ns.map V.int)/\zY K H b (ms.map V.int)/\Q (.bl (HT.lexLt ns ms)) H
def WJ (hu:X.A.units<cLine):z_ X (compareOp .Lt) (kO X.K):=by
 intro pins s Y H x y v u Q I rx ry h
 obtain⟨a,b,ns,ms,rfl,rfl,ha,hb,q⟩:=h
 cases rx
 cases ry
 obtain⟨its,r1,p1,_⟩:=I.tuple ha
 obtain⟨its2,r2,p2,_⟩:=I.tuple hb
 have i1:IntsAre its.toArray.toList ns:=intsAre_of r1
 have i2:IntsAre its2.toArray.toList ms:=intsAre_of r2
 exact HT.UR p1 p2 i1 i2 hu ⟨.bl (HT.lexLt ns ms),H,I,rfl,q⟩
def eh (K:Aa):R2:=λ x y H Q=>∃ a b xs ys,x=.ref a/\y=.ref b/\zY K H a xs/\zY K H b ys/\xs≠[]/\xs.length+ys.length<=sizeLine/\
 (ys=[]->Q (.ref a) H)/\(ys≠[]->∀ p,H p=none->Q (.ref p) (upd H p (.tup (xs++ys))))
def Vals.me {xs:List V}{us:List Value}(r:Vals xs us):us=[]↔xs=[]:=by
 cases r with
 | _=>simp
def WQ:z_ X (binaryOp .Add) (eh X.K):=by
 intro pins s Y H x y v u Q I rx ry h
 obtain⟨a,b,xs,ys,rfl,rfl,ha,hb,hx,hz,q1,q2⟩:=h
 cases rx
 cases ry
 obtain⟨its,r1,p1,_⟩:=I.tuple ha
 obtain⟨its2,r2,p2,_⟩:=I.tuple hb
 refine HT.R6 p1 p2 (λ z=>hx (r1.me.mp z)) (λ z=>⟨.ref a,H,I,rfl,q1 (r2.me.mp z)⟩) (λ z=>?_) (by rw[<- r1.length,<- r2.length];exact hz)
 refine⟨.ref s.heap.objs.size,_,I.laid (t':=s.toks) (o:=.tup (xs++ys)) (λ b ob q=>za1 _ q) (Ad _) ?_,rfl,q2 (λ w=>z (r2.me.mpr w)) _ (I.zu.fresh (Ad _))⟩
 exact⟨by rw[CF];exact hz,_,r1.append r2,IsTup.new _ _⟩
end
noncomputable def xV (n:Nat) (i:Int):Option Nat:=if 0<=i then (if i<n then some i.toNat else none) else if -(n:Int)<=i then some (i+n).toNat else none
def zD {α:Type}(xs:List α) (i:Int):Option α:=(xV xs.length i).bind λ j=>xs[j]?
def dU {n:Nat}{i:Int}{j:Nat}(h:xV n i=some j):seqIndex? i n=some j/\j<n/\-(n:Int)<=i/\i<n:=by
 unfold xV at h
 by_cases h0:0<=i
 ·rw[if_pos h0] at h
  by_cases h1:i<n
  ·rw[if_pos h1] at h
   have e:i.toNat=j:=AY h
   exact⟨by rw[seqIndex_of h0 h1,e],by lia,by lia,h1⟩
  ·rw[if_neg h1] at h;cases h
 ·rw[if_neg h0] at h
  by_cases h1:-(n:Int)<=i
  ·rw[if_pos h1] at h
   have e:(i+n).toNat=j:=AY h
   exact⟨by rw[seqIndex_neg (by lia) h1,e],by lia,h1,by lia⟩
  ·rw[if_neg h1] at h;cases h
def i9 {α:Type}{xs:List α}{i:Int}{v:α}(h:zD xs i=some v):∃ j,seqIndex? i xs.length=some j/\xs[j]?=some v/\j<xs.length/\-(xs.length:Int)<=i/\i<xs.length:=by
 unfold zD at h
 cases e:xV xs.length i with
 | none=>rw[e] at h;cases h
 | some j=>
  rw[e] at h
  obtain⟨h1,h2,h3,h4⟩:=dU e
  exact⟨j,h1,h,h2,h3,h4⟩
def bZ (b:Expr):Prop:=∀ o i,subscripted b false o i=operate [o,i] (getItem o i)
def tD (X:Cx) (r:R2):Prop:=
 ∀ (value slice:Expr) (pins:List (Addr×Obj)) (s:Shared) (Y:St) (H:Hp) (x y:V) (v u:Value) (Q:VK),Inv X pins Y H s->RelV x v->RelV y u->r x y H Q->
  subscripted slice false v u=operate [v,u] (getItem v u)->wpAny (model X.prog X.w) X.A (subscriptTail value slice v u) (EP X pins Y Q) X.xe s
def Qm (X:Cx) (id:String) (r:V->List V->Hp->VK->Prop):Prop:=
 ∀ (pins:List (Addr×Obj)) (s:Shared) (Y:St) (H:Hp) (x:V) (xs:List V) (v:Value) (us:List Value) (Q:VK),Inv X pins Y H s->RelV x v->Vals xs us->r x xs H Q->
  wpAny (model X.prog X.w) X.A (call (.builtin id) (v::us)) (EP X pins Y Q) X.xe s
section
variable {X:Cx}{a b:Expr}{ta tb:TE}{pos:Pos}
def tD.or {r r':R2}(h:tD X r) (h':tD X r'):tD X (λ x y H Q=>r x y H Q\/r' x y H Q):=by
 intro value slice pins s Y H x y v u Q I rx ry q hs
 rcases q with q | q
 ·exact h value slice pins s Y H x y v u Q I rx ry q hs
 ·exact h' value slice pins s Y H x y v u Q I rx ry q hs
def XR {r:R2}(hr:tD X r) (ha:PE X a ta) (hb:PE X b tb) (hs:bZ b):PE X (.Subscript a b pos) (pC r ta tb):=by
 intro pins s Y H Q I h
 exact Subscript_ (i5 ha hb I h λ v u s2 x y H2 I2 rx ry q=>hr a b pins s2 Y H2 x y v u Q I2 rx ry q (hs _ _))
def fY (K:Aa):R2:=λ x y H Q=>∃ p xs i v,x=.ref p/\y=.int i/\zP K H p xs/\zD xs i=some v/\Q v H
def fW (K:Aa):R2:=λ x y H Q=>∃ p xs i v,x=.ref p/\y=.int i/\zY K H p xs/\zD xs i=some v/\Q v H
def fX:R2:=λ x y H Q=>∃ z i c,x=.str z/\y=.int i/\z.length<=sizeLine/\zD z.cps.toList i=some c/\Q (.str ⟨#[c]⟩) H
def T4:tD X (fY X.K):=by
 intro value slice pins s Y H x y v u Q I rx ry h hs
 obtain⟨p,xs,i,z,rfl,rfl,hq,he,q⟩:=h
 cases rx
 obtain⟨t,rfl⟩:=ry
 obtain⟨its,r,pl,hz⟩:=I.list hq
 obtain⟨j,h1,h2,h3,h4,h5⟩:=i9 he
 obtain⟨w,ew,xw⟩:=r.get h2
 have hl:=r.length
 have hn:=rz
 have fin:EP X pins Y Q w s:=⟨z,H,I,xw,q⟩
 by_cases h0:0<=i
 ·have hj:i.toNat=j:=by
   rw[seqIndex_of h0 h5] at h1
   exact AY h1
  exact item_listR pl.isList h0 (by lia) (by rw[hj];simpa using ew) fin hs
 ·have hj:(i+(its.toArray.size:Int)).toNat=j:=by
   rw[seqIndex_neg (by lia) h4] at h1
   rw[Ao,<- hl]
   exact AY h1
  exact subscriptTail_builtinR (x:=w) pl.isList.typeIs slot_list_getitem.lookup
   (wpAny_getItem_list_neg (Q:=λ r s'=>r=w/\EP X pins Y Q r s') pl.isList (by lia) (by rw[Ao] <;> lia) (by lia) (by rw[hj];simpa using ew) ⟨rfl,fin⟩) hs
def Tz:tD X (fW X.K):=by
 intro value slice pins s Y H x y v u Q I rx ry h hs
 obtain⟨p,xs,i,z,rfl,rfl,hq,he,q⟩:=h
 cases rx
 obtain⟨t,rfl⟩:=ry
 obtain⟨its,r,pl,hz⟩:=I.tuple hq
 obtain⟨j,h1,h2,h3,h4,h5⟩:=i9 he
 obtain⟨w,ew,xw⟩:=r.get h2
 have hl:=r.length
 have hn:=rz
 have fin:EP X pins Y Q w s:=⟨z,H,I,xw,q⟩
 exact subscriptTail_builtinR (x:=w) pl.typeIs slot_tuple_getitem.lookup
  (getItem_tuple (j:=j) (Q:=λ r s'=>r=w/\EP X pins Y Q r s') pl (by lia) (by lia) (by rw[Ao,<- hl];exact h1) (by simpa using ew) ⟨rfl,fin⟩) hs
def T2:tD X fX:=by
 intro value slice pins s Y H x y v u Q I rx ry h hs
 obtain⟨z,i,c,rfl,rfl,hz,he,q⟩:=h
 obtain⟨t,rfl⟩:=rx
 obtain⟨t',rfl⟩:=ry
 obtain⟨j,h1,h2,h3,h4,h5⟩:=i9 he
 have hl:z.cps.toList.length=z.length:=by simp[Str.length]
 rw[hl] at h1 h4 h5
 have hn:=rz
 exact tail_any (typeIs_str s z t) slot_str_getitem.lookup (getItem_str (c:=c) (by
  have e1:decide (i < -(2 ^ 63:Int))=false:=za7 (by lia)
  have e2:decide (i≥2 ^ 63)=false:=za7 (by lia)
  rw[e1,e2,Bool.or_false]) (by rw[h1];simpa using h2) ⟨.str ⟨#[c]⟩,H,I.tok _,⟨_,rfl⟩,q⟩) hs
def fZ (K:Aa):R2:=λ x y H Q=>fY K x y H Q\/fW K x y H Q\/fX x y H Q
def T3:tD X (fZ X.K):=T4.or (Tz.or T2)
def UO (its:List Value) (n j:Nat) (u:Value):Obj.mapSeq (·.setIfInBounds j u) { cls:=.type "list",data:=.seq its.toArray n }={ cls:=.type "list",data:=.seq (its.set j u).toArray n }:=by
 simp[Obj.mapSeq]
theorem Inv.lst {pins:List (Addr×Obj)}{Y:St}{H:Hp}{s:Shared}{p:Addr}{xs:List V}(I:Inv X pins Y H s) (h:H p=some (.lst xs)):
  ∃ (its:List Value) (n:Nat),Vals xs its/\s.heap.get? p=some { cls:=.type "list",data:=.seq its.toArray n }/\xs.length<=sizeLine:=by
 obtain⟨z,its,n,r,e⟩:=I.zu p _ h
 exact⟨its,n,r,e,z⟩
def Inv.US {pins:List (Addr×Obj)}{Y:St}{H:Hp}{s:Shared}{p:Addr}{xs ys:List V}{its AB:List Value}{n n':Nat}{f:Obj->Obj}(I:Inv X pins Y H s) (h:H p=some (.lst xs))
  (ho:s.heap.get? p=some { cls:=.type "list",data:=.seq its.toArray n }) (hf:f { cls:=.type "list",data:=.seq its.toArray n }={ cls:=.type "list",data:=.seq AB.toArray n' }) (r:Vals ys AB) (hz:ys.length<=sizeLine) (t:Nat):
  Inv X pins Y (upd H p (.lst ys)) { s with heap:=s.heap.update p f,toks:=t }:=by
 have e:(s.heap.update p f).get? p=some { cls:=.type "list",data:=.seq AB.toArray n' }:=by
  rw[za6 f ho (by rw[hf] <;> rfl),hf]
 refine I.write (x:=p) (e:=p) (by rw[h];trivial) (.inl rfl) (λ b u hb q=>(za9 _ _ (Ne.symm hb)).trans q) ⟨_,e⟩ ?_
 exact⟨hz,AB,n',r,e⟩
def Xb:V->V->V->Hp->(Hp->Prop)->Prop:=λ o i v H Q=>∃ p xs k j,o=.ref p/\i=.int k/\H p=some (.lst xs)/\xV xs.length k=some j/\Q (upd H p (.lst (xs.set j v)))
def set_list:b_ X Xb:=by
 intro pins s Y H o i v ov iv u Q I ro ri rv h
 obtain⟨p,xs,k,j,rfl,rfl,hp,hj,q⟩:=h
 cases ro
 obtain⟨t,rfl⟩:=ri
 obtain⟨its,n,r,ho,hz⟩:=I.lst hp
 obtain⟨h1,h2,h3,h4⟩:=dU hj
 have hl:=r.length
 have hn:=rz
 have I':Inv X pins Y (upd H p (.lst (xs.set j v))) { s with heap:=s.heap.update p (Obj.mapSeq (·.setIfInBounds j u)) }:=
  I.US hp ho (UO its n j u) (r.set rv j) (by rw[Ce];exact hz) s.toks
 by_cases h0:0<=k
 ·have hk:k.toNat=j:=by
   rw[seqIndex_of h0 h4] at h1
   exact AY h1
  exact PySem.W.ki_setAt ho h0 (by lia) (by rw[Ao,<- hl];exact h4) (by rw[hk];exact⟨_,I',q⟩)
 ·have hk:(k+(its.toArray.size:Int)).toNat=j:=by
   rw[seqIndex_neg (by lia) h3] at h1
   rw[Ao,<- hl]
   exact AY h1
  exact PySem.W.ki_setBack ho (by lia) (by rw[Ao,<- hl];exact h3) (by lia) (by rw[hk];exact⟨_,I',q⟩)
def Yq (lo hi:Option Int) (n:Nat):(sliceBounds lo hi none n).1=((HT.zF n 0 lo:Nat):Int)/\(sliceBounds lo hi none n).2.1=((HT.zF n n hi:Nat):Int)/\(sliceBounds lo hi none n).2.2=1:=by
 refine⟨?_,?_,rfl⟩
 ·cases lo with
  | none=>simp[sliceBounds,HT.zF]
  | some i=>
   simp only[sliceBounds,HT.zF,Option.getD_none,show (1:Int)>0 by decide,if_true]
   by_cases h:i<0
   ·simp only[h,if_true] <;> lia
   ·simp only[h,if_false] <;> lia
 ·cases hi with
  | none=>simp[sliceBounds,HT.zF]
  | some i=>
   simp only[sliceBounds,HT.zF,Option.getD_none,show (1:Int)>0 by decide,if_true]
   by_cases h:i<0
   ·simp only[h,if_true] <;> lia
   ·simp only[h,if_false] <;> lia
def Yr (its:List Value) (lo hi:Option Int):slicePick its.toArray lo hi none=((its.drop (HT.zF its.length 0 lo)).take (HT.zF its.length its.length hi-HT.zF its.length 0 lo)).toArray:=by
 obtain⟨h1,h2,h3⟩:=Yq lo hi its.toArray.size
 unfold slicePick
 rw[h1,h2,h3]
 simp only[sliceRange_one,pick_run,Ao] <;> rfl
def fU (K:Aa):V->Option Int->Option Int->Hp->VK->Prop:=λ x lo hi H Q=>∃ a xs,x=.ref a/\zP K H a xs/\∀ p,H p=none->Q (.ref p) (upd H p (.lst (uB xs lo hi)))
def Yu:sv X (fU X.K):=by
 intro pins s Y H x v vl vu lo hi sl Q I rx hs pl pu h
 obtain⟨a,xs,rfl,hx,q⟩:=h
 cases rx
 obtain⟨its,r,ht,hz⟩:=I.list hx
 have hlen:=r.length
 refine⟨"list",_,slot_list_getitem.lookup,ht.isList.typeIs,?_⟩
 refine wpAny_getItem_list_slice ht.isList hs pl pu .none (by simp) ?_ (by rw[Ao] <;> lia)
 rw[Yr,<- hlen]
 refine⟨.ref s.heap.objs.size,_,I.laid (t':=s.toks) (o:=.lst (uB xs lo hi)) (λ b ob q=>za1 _ q) (Ad _) ?_,rfl,q _ (I.zu.fresh (Ad _))⟩
 exact⟨Bo (b7 xs lo hi) hz,_,0,(r.drop (HT.zF xs.length 0 lo)).take (HT.zF xs.length xs.length hi-HT.zF xs.length 0 lo),AH _ rfl⟩
def RH:yW X (.builtin "len") (λ xs H Q=>∃ p ys,xs=[.ref p]/\(zP X.K H p ys\/zY X.K H p ys)/\Q (.int ys.length) H):=by
 intro pins s Y H xs us Q I r h
 obtain⟨p,ys,rfl,hq,q⟩:=h
 obtain⟨u,rfl,rx⟩:=vals1 r
 cases rx
 have hn:=rz
 rcases hq with hq | hq
 ·obtain⟨its,r',pl,hz⟩:=I.list hq
  have hlen:=r'.length
  exact Calls.call_len_list pl.isList (by simp only[Ao] <;> lia) ⟨.int ys.length,H,I.tok _,⟨s.toks+1,by rw[Ao,hlen]⟩,q⟩
 ·obtain⟨its,r',pl,hz⟩:=I.tuple hq
  have hlen:=r'.length
  exact len_tuple pl (by simp only[Ao] <;> lia) ⟨.int ys.length,H,I.tok _,⟨s.toks+1,by rw[Ao,hlen]⟩,q⟩
def RG:yW X (.builtin "len") (λ xs H Q=>∃ z,xs=[.str z]/\z.length<=sizeLine/\Q (.int z.length) H):=by
 intro pins s Y H xs us Q I r h
 obtain⟨z,rfl,hz,q⟩:=h
 obtain⟨u,rfl,t,rfl⟩:=vals1 r
 have hn:=rz
 exact len_str (by lia) ⟨.int z.length,H,I.tok _,⟨_,rfl⟩,q⟩
def yW.or {f:Value}{r r':List V->Hp->VK->Prop}(h:yW X f r) (h':yW X f r'):yW X f (λ xs H Q=>r xs H Q\/r' xs H Q):=by
 intro pins s Y H xs us Q I rs q
 rcases q with q | q
 ·exact h pins s Y H xs us Q I rs q
 ·exact h' pins s Y H xs us Q I rs q
def RF:yW X (.type "list") (λ xs H Q=>∃ p ys,xs=[.ref p]/\(zP X.K H p ys\/zY X.K H p ys)/\∀ l,H l=none->Q (.ref l) (upd H l (.lst ys))):=by
 intro pins s Y H xs us Q I r h
 obtain⟨p,ys,rfl,hq,q⟩:=h
 obtain⟨u,rfl,rx⟩:=vals1 r
 cases rx
 have fin:∀ (its:List Value),Vals ys its->ys.length<=sizeLine->∀ (h':Heap) (c':Nat),(∀ b o',s.heap.get? b=some o'->h'.get? b=some o')->
   h'.get? s.heap.objs.size=some { cls:=.type "list",dict:=none,data:=.seq its.toArray c',slots:=#[] }->EP X pins Y Q (.ref s.heap.objs.size) { s with heap:=h' }:=λ its r' hz h' c' kp e=>
  ⟨.ref s.heap.objs.size,_,I.laid (t':=s.toks) kp (Ad _) (show xG X.prog X.w _ h' _ (.lst ys) from ⟨hz,its,c',r',e⟩),rfl,q _ (I.zu.fresh (Ad _))⟩
 rcases hq with hq | hq
 ·obtain⟨its,r',pl,hz⟩:=I.list hq
  have hlen:=r'.length
  obtain⟨o,ho,hc,n,hd⟩:=pl.isList
  exact call_list_seq p (.inl rfl) ho hc hd (λ h' c' kp e=>fin its r' hz h' c' kp e) (by simp only[Ao] <;> lia)
 ·obtain⟨its,r',pl,hz⟩:=I.tuple hq
  have hlen:=r'.length
  obtain⟨o,ho,hc,n,hd⟩:=pl
  exact call_list_seq p (.inr rfl) ho hc hd (λ h' c' kp e=>fin its r' hz h' c' kp e) (by simp only[Ao] <;> lia)
def R7:yW X (.type "tuple") (λ xs H Q=>∃ p ys,xs=[.ref p]/\((zP X.K H p ys/\∀ l,H l=none->Q (.ref l) (upd H l (.tup ys)))\/(zY X.K H p ys/\Q (.ref p) H))):=by
 intro pins s Y H xs us Q I r h
 obtain⟨p,ys,rfl,h⟩:=h
 obtain⟨u,rfl,rx⟩:=vals1 r
 cases rx
 rcases h with ⟨hq,q⟩ | ⟨hq,q⟩
 ·obtain⟨its,r',pl,hz⟩:=I.list hq
  have hlen:=r'.length
  refine call_tuple_list pl.isList (λ h' kp=>?_) (by simp only[Ao] <;> lia)
  have I1:Inv X pins Y H { s with heap:=h' }:=I.kept (t':=s.toks) kp
  have I2:Inv X pins Y (upd H h'.objs.size (.tup ys)) { s with heap:=h'.push { cls:=.type "tuple",data:=.seq its.toArray } }:=
   I1.laid (t':=s.toks) (λ b o e=>za1 _ e) (Ad _) (show xG X.prog X.w _ _ _ (.tup ys) from ⟨hz,its,r',IsTup.new _ _⟩)
  exact⟨.ref h'.objs.size,_,I2,rfl,q _ (I1.zu.fresh (Ad _))⟩
 ·obtain⟨its,r',pl,hz⟩:=I.tuple hq
  exact call_tuple_same pl ⟨.ref p,H,I,rfl,q⟩
def gN (K:Aa) (T:String) (x:V) (H:Hp):Prop:=match x with
 | .str _=>T="str"
 | .int _=>T="int"
 | .ref p=>(T="list"/\∃ xs,zP K H p xs)\/(T="tuple"/\∃ o,K.lookup p=some o/\o.cls=.type "tuple"/\o.dict=none)\/
   (T="dict"/\((∃ Ae,H p=some (.dK Ae))\/∃ Ae,H p=some (.dT Ae)))\/(T="set"/\∃ S n,H p=some (.set S n))
 | _=>False
def ZA {pins:List (Addr×Obj)}{Y:St}{H:Hp}{s:Shared}{T:String}{x:V}{v:Value}(I:Inv X pins Y H s) (r:RelV x v) (ty:gN X.K T x H):
  s.TypeIs v T/\∀ a,v=.ref a->∃ ob,s.heap.get? a=some ob/\ob.dict=none:=by
 cases x with
 | str z=>
  obtain⟨t,rfl⟩:=r
  cases (show T="str" from ty)
  exact⟨typeIs_str s z t,λ _ e=>nomatch e⟩
 | int i=>
  obtain⟨t,rfl⟩:=r
  cases (show T="int" from ty)
  exact⟨typeIs_int s i t,λ _ e=>nomatch e⟩
 | ref p=>
  cases r
  rcases ty with ⟨rfl,xs,hq⟩ | ⟨rfl,o,hk,hc,hd⟩ | ⟨rfl,hk⟩ | ⟨rfl,S,n,hk⟩
  ·obtain⟨its,_,pl,_⟩:=I.list hq
   refine⟨pl.isList.typeIs,λ a e=>?_⟩
   cases e
   obtain⟨o,n,e,c,hd,_⟩:=pl
   exact⟨o,e,hd⟩
  ·refine⟨⟨o,I.y8 p o hk,hc⟩,λ a e=>?_⟩
   cases e
   exact⟨o,I.y8 _ o hk,hd⟩
  ·have z:∃ o,s.heap.get? p=some o/\o.ExactDict:=by
    rcases hk with ⟨Ae,hk⟩ | ⟨Ae,hk⟩
    ·obtain⟨_,_,_,_,o,_,_,e,ex,_⟩:=I.zu p _ hk
     exact⟨o,e,ex⟩
    ·obtain⟨_,_,_,_,o,_,_,e,ex,_⟩:=I.zu p _ hk
     exact⟨o,e,ex⟩
   obtain⟨o,e,ex⟩:=z
   refine⟨⟨o,e,ex.1⟩,λ a e2=>?_⟩
   cases e2
   exact⟨o,e,ex.2.1⟩
  ·obtain⟨o,_,_,_,e,ex,_⟩:=I.zu p _ hk
   refine⟨⟨o,e,ex.1⟩,λ a e2=>?_⟩
   cases e2
   exact⟨o,e,ex.2.1⟩
 | _=>exact False.elim ty
def gW (K:Aa) (T:String) (r:V->List V->Hp->VK->Prop) (to:TE) (t:TA):TE:=fun Y H Q=>to Y H λ x H1=>gN K T x H1/\t Y H1 λ xs H2=>r x xs H2 Q
variable {o e:Expr}{es:List Expr}{to:TE}{t:TA}{name:Str}{apos Ah:Pos}{T id:String}{r:V->List V->Hp->VK->Prop}
def XZ (pa:PlainAttrs T) (slot:Slot T name id) (hty:typeOf (.builtin id)=pure (.type "method_descriptor")) (hm:Qm X id r) (ho:PE X o to) (ha:PA X (e::es) t)
  (hbase:attributeBase o name X.env (eval o X.env)=eval o X.env:=by rfl)
  (AL:((backTo Ah (starEach (e::es) X.env)).all (λ x=>!x.1)&&(backToKw Ah (keywordEach [] X.env)).all (λ x=>x.1.isSome)
   && decide ((e::es).length+([]:List Keyword).length+(if ([]:List Keyword).isEmpty then 0 else 1)<30))=true:=by rfl)
  (hline:(apos.endLine == Ah.line)=true:=by rfl) (hs:starEach (e::es) X.env=(false,eval e X.env)::starEach es X.env:=by rfl) (hplain:(backTo Ah (starEach es X.env)).any (·.1)=false:=by rfl):
  PE X (.Call (.Attribute o name apos) (e::es) [] Ah) (gW X.K T r to t):=by
 intro pins s Y H Q I h
 refine wpAny_Call_method_late hbase AL hline rfl (zH (ho pins s Y H _ I h) λ v s1 ⟨x,H1,I1,r1,ty,q1⟩=>?_)
 obtain⟨h1,h2⟩:=ZA I1 r1 ty
 refine⟨T,id,pa,slot,hty,h1,h2,?_⟩
 have hA:=ha Ah pins s1 Y H1 _ I1 q1
 rw[hs] at hA ⊢
 refine Calls.callWith_builtin (by show (false||(backTo Ah (starEach es X.env)).any (·.1))=false;rw[hplain] <;> rfl) (Calls.evalArgs_plain ?_)
 exact zH hA λ us s2 ⟨vs,H2,I2,r2,q2⟩=>hm pins s2 Y H2 x vs v us Q I2 r1 r2 q2
end
def Qn (X:Cx) (id:String) (r:V->List V->Hp->VK->Prop):Prop:=
 ∀ (pins:List (Addr×Obj)) (s:Shared) (Y:St) (H:Hp) (x:V) (xs:List V) (v:Value) (us:List Value) (Q:VK),Inv X pins Y H s->RelV x v->Vals xs us->r x xs H Q->
  wpAny (model X.prog X.w) X.A (call (.builtin id) (v::us)) (EP X pins Y Q) X.xe s
theorem Vals.one:∀ {x:V}{us:List Value},Vals [x] us->∃ u,us=[u]/\RelV x u
 | _,_,.cons r .nil=>⟨_,rfl,r⟩
theorem Vals.rep {xs:List V}{us:List Value}(h:Vals xs us):∀ k:Nat,Vals (List.replicate k xs).flatten (List.replicate k us).flatten
 | 0=>.nil
 | k+1=>by
  rw[BV,BV,B0,B0]
  exact Vals.append h (Vals.rep h k)
section
variable {X:Cx}{pins:List (Addr×Obj)}{Y:St}{H:Hp}{s:Shared}{l:Addr}{xs ys:List V}
def Inv.UU {its AB:List Value}{n:Nat}{f:Array Value->Array Value}{t':Nat}(I:Inv X pins Y H s) (hH:H l=some (.lst xs))
  (e:s.heap.get? l=some { cls:=.type "list",data:=.seq its.toArray n }) (hf:f its.toArray=AB.toArray) (hv:Vals ys AB) (hz:ys.length<=sizeLine):
  Inv X pins Y (upd H l (.lst ys)) { s with heap:=s.heap.update l (Obj.mapSeq f),toks:=t' }:=by
 have q:=PySem.IsL.update e f
 rw[hf] at q
 refine I.write (x:=l) (e:=l) (by rw[hH];exact trivial) (.inl rfl) (λ b' u hb hu=>(za9 s.heap (Obj.mapSeq f) (Ne.symm hb)).trans hu) ⟨_,q⟩ ?_
 exact⟨hz,AB,_,hv,q⟩
def Inv.UY {its:List Value}{t':Nat}(I:Inv X pins Y H s) (hv:Vals ys its) (hz:ys.length<=sizeLine):
  Inv X pins Y (upd H s.heap.objs.size (.lst ys)) { s with heap:=s.heap.push { cls:=.type "list",data:=.seq its.toArray },toks:=t' }:=
 I.laid (λ _ _ q=>za1 _ q) (Ad _) ⟨hz,its,0,hv,AH _ rfl⟩
theorem Inv.fresh (I:Inv X pins Y H s):H s.heap.objs.size=none:=I.zu.fresh (Ad _)
def Inv.UT (I:Inv X pins Y H s) (hH:H l=some (.lst xs)):xs.length<=sizeLine/\∃ (its:List Value) (n:Nat),Vals xs its/\xs.length=its.length/\s.heap.get? l=some { cls:=.type "list",data:=.seq its.toArray n }:=by
 obtain⟨z,its,n,r,e⟩:=I.zu l _ hH
 exact⟨z,its,n,r,r.length,e⟩
def ej:V->List V->Hp->VK->Prop:=λ x vs H Q=>∃ l xs y,x=.ref l/\vs=[y]/\H l=some (.lst xs)/\xs.length<sizeLine/\Q .zg (upd H l (.lst (xs++[y])))
def dw:Qn X "list.append" ej:=by
 intro pins s Y H x vs v us Q I rx rv h
 obtain⟨l,xs,y,rfl,rfl,hH,hz,q⟩:=h
 cases rx
 obtain⟨u,rfl,ru⟩:=rv.one
 obtain⟨z,its,n,r,hl,e⟩:=I.UT hH
 refine call_meets F.slot_list_append ⟨_,e,rfl⟩ F.entry_list_append (F.args_list_append_2 _ _) (PySem.list_append l its.toArray n u (by rw[Ao];lia)) ⟨e,?_⟩
 refine⟨.zg,_,I.UU (AB:=its++[u]) hH e (by simp) (r.append (.cons ru .nil)) ?_,rfl,q⟩
 rw[CF,List.length_singleton]
 lia
end
end L2
namespace aV
open PySem PySem.W PySem.Calls PyProof.Rows
def TN {P:Params}{h:Heap}:∀ (ns:List Int) (vs:List Value),WellAll P h vs (ns.map WData.int)->IntsAre vs ns:=by
 intro ns
 induction ns with
 | nil=>
  intro vs w
  rw[Bc] at w
  cases w
  exact .nil
 | cons n ns ih=>
  intro vs w
  rw[Ax] at w
  cases w with
  | cons a b=>
   cases a
   exact .cons _ _ (ih _ b)
def Y3 {l:OpenLaw}{n:Nat}(hn:l.most=some n) {P:Params}{h:Heap}{args:List WData}{vals:List Value}
  (BM:l.row.toRowW.claim.pre args=true) (DD:WellAll P h vals args):
  ∃ a vs ns,vals=[Value.ref a]/\args=[WData.list (ns.map WData.int)]/\h.get? a=some { cls:=.type "list",data:=.seq vs.toArray }/\IntsAre vs ns/\ns.length<=n:=by
 have hsh:WShape.hasAll [] args [.list .int]=true:=(pre_splitW BM).1
 have hc:l.pre.holds [] { args:=args }=true:=(pre_splitW BM).2
 obtain⟨d,r,rfl,h1,h2⟩:=hasAllW_cons hsh
 obtain rfl:=hasAllW_nil h2
 obtain⟨xs,rfl,h3⟩:=hasW_list h1
 obtain⟨ns,rfl⟩:=items_int h3
 have hlen:ns.length<=n:=by
  unfold OpenLaw.pre at hc
  have h4:(WTm.not (.lt (.lit (.int (n:Int))) (.len (.arg 0)))).holds [] { args:=[.list (ns.map .int)] }=true:=by
   have h4:=(holds_andW hc).1
   rw[hn] at h4
   exact h4
  have h5:=condW_of h4 (w_not (w_lt w_lit (w_len_list (w_arg rfl))))
  rw[Aq] at h5
  refine Nat.le_of_not_lt λ q=>?_
  have q':(n:Int)<((ns.length:Nat):Int):=by lia
  first
   | (rw[zaJ q'] at h5;exact absurd h5 (by decide))
   | (simp at h5;lia)
 cases DD with
 | cons w1 w2=>
  cases w2
  cases w1 with
  | list ho Ay=>exact⟨_,_,ns,rfl,rfl,ho,TN ns _ Ay,hlen⟩
def Xs (l:OpenLaw) (args:List WData):l.row.toRowW.claim.post args (.bool true) args=true:=
 postW_of (r:=l.row.toRowW) (X:=(true == true))
  (show WShape.has [] (.bool true) .bool=true by first | rfl | decide | simp[WShape.has,WShape.arms,WShape.armsAll])
  (show (WTm.eq .res (.lit (.bool true))).value [] { args:=args,res:=some (.bool true),after:=args }=some (.bool (true == true)) from w_eq_bool (w_res rfl) w_lit) rfl
def RZ {l:OpenLaw}{n:Nat}{q:Program}{loose:List Str}{XP:(Str->Option Value)->Heap->Prop}{YP:World->Heap->Prop}{d:DefRec}
  (hn:l.most=some n) (CW:d.params.defaults=[])
  (call:∀ (w:World) (s₀ s₁:Shared) (mg mb:Str->Option Value) (fa:Addr) (o:Obj) (pm cd doc:Value) (a:Addr) (vs:List Value) (ns:List Int),
   Ground q loose [] XP w s₀ mg mb s₁.heap->YP w s₁.heap->
   s₁.heap.get? fa=some o->o.data=.func (docDef d.name d.params d.body d.scope pm cd doc)->s₁.heap.CodeRec cd d.name->mg d.name=some (.ref fa)->
   s₁.heap.get? a=some { cls:=.type "list",data:=.seq vs.toArray }->IntsAre vs ns->ns.length<=n->s₁.gens=#[]->
   codeAny (model l.prog w) callerA (.call (.ref fa) ⟨[.ref a],[]⟩) (λ r s'=>r=.ok (.ret (.bool true))/\OldK s₁.heap s'.heap/\s'.os=s₁.os/\AllBare s'.gens) s₁):
  WalkO q loose XP YP l.row.toRowW d [] (λ f vs=>PySem.call f vs):=by
 intro w s₀ s₁ mg mb G Y fa o pm cd doc dV kV ho hd AR hD CM hg args vals as BM CN hrd DD hlo
 obtain rfl:dV=.none:=Dflts.none hD CW
 obtain rfl:kV=.none:=Dflts.noKw hD
 obtain⟨a,vs,ns,rfl,rfl,B8,hints,hlen⟩:=Y3 hn BM DD
 refine enter_call (codeAny_mono (call w s₀ s₁ mg mb fa o pm cd doc a vs ns G Y ho (fd_plain hd) AR CM B8 hints hlen hg) λ r s' hq=>?_)
 obtain⟨rfl,h2,h3,h4⟩:=hq
 exact⟨.inl ⟨.bool true,.bool true,[],rfl,λ _=>rfl,.bool true,Xs l _,λ _=>⟨List.Pairwise.nil,λ _ hm=>(nomatch hm)⟩⟩,h2,h3,h4⟩
end aV
namespace L2
open PySem PySem.Spec PyProof.Rows
theorem gG:∀ {vs:List Value}{ns:List Int},IntsAre vs ns->Vals (ns.map V.int) vs
 | _,_,.nil=>.nil
 | _,_,.cons n t h=>.cons ⟨t,rfl⟩ (gG h)
def mT (H:Hp):Prop:=∀ b,H b=none\/∃ o xs,H b=some (.xN o (.lst xs))
def Tj {P:Program}{w:World}{K:Aa}{mg mb:Str->Option Value}{CX:vx}{k:Nat}{fa a:Addr}{fd:FuncData}{x:Str}{sp:Sp}{s₁:Shared}{vs:List Value}{ns:List Int}
  (KX:K.In s₁.heap) (Bf:s₁.heap.Ns mainGlobals mg) (hb:s₁.heap.Ns builtinsNs mb) (hbb:∀ x:Str,x≠"__name__"->mb x=bootBuiltins x) (DU:s₁.heap.NoLimit) (hg:s₁.gens=#[])
  (ha:s₁.heap.get? a=some { cls:=.type "list",data:=.seq vs.toArray }) (hi:IntsAre vs ns) (hl:ns.length<=sizeLine) (hr:ye k callerA)
  (F:∀ base:Heap,K.In base->base.Ns mainGlobals mg->xg P w K mg base CX k fa fd [x] sp) (hbind:∀ (s:Shared) (u:Value),BindsTo s fd ⟨[u],[]⟩ [(x,u)])
  (BE:∀ H:Hp,mT H->zP K H a (ns.map V.int)->sp [.ref a] H (λ v _=>v=.bl true) λ _ _ _=>False)
  (hCX:∀ H e s',CX [] H s₁ (λ _ _ _=>False) e s'->False):
  codeAny (model P w) callerA (.call (.ref fa) ⟨[.ref a],[]⟩) (λ r s'=>r=.ok (.ret (.bool true))/\OldK s₁.heap s'.heap/\s'.os=s₁.os/\AllBare s'.gens) s₁:=by
 have rv:=gG hi
 have lenV:=hi.length
 have core:∀ H:Hp,mT H->zP K H a (ns.map V.int)->yn P w H s₁.heap->(∀ b,H b≠none->b=a)->(H a≠none->K.lookup a=none)->
   codeAny (model P w) callerA (.call (.ref fa) ⟨[.ref a],[]⟩) (λ r s'=>r=.ok (.ret (.bool true))/\OldK s₁.heap s'.heap/\s'.os=s₁.os/\AllBare s'.gens) s₁:=by
  intro H hO hS zu hA hK
  have base_of:∀ {b:Addr}{o:Obj},s₁.heap.get? b=some o->H b=none->(tf s₁.heap H).get? b=some o:=λ e n=>T_ e n
  have noA:∀ {b:Addr}{o:Obj}{es:Array DictEntry}{ep:Nat},s₁.heap.get? b=some o->o.data=.dict es ep->H b=none:=λ{b o es ep} e d=>by
   cases q:H b with
   | none=>rfl
   | some u=>
    have e':b=a:=hA b (by rw[q];simp)
    subst e'
    rw[ha] at e;cases e
    have d':Data.seq vs.toArray _=Data.dict es ep:=d
    cases d'
  have nsK:∀ {b:Addr}{m:Str->Option Value},s₁.heap.Ns b m->(tf s₁.heap H).Ns b m:=λ{b m} ⟨o,es,ep,e,d,r⟩=>⟨o,es,ep,base_of e (noA e d),d,r⟩
  have hKb:K.In (tf s₁.heap H):=λ b o e=>base_of (KX b o e) (by
   cases q:H b with
   | none=>rfl
   | some u=>
    have e':b=a:=hA b (by rw[q];simp)
    subst e'
    rw[hK (by rw[q];simp)] at e;cases e)
  have hM:Mod K mg (tf s₁.heap H):=⟨hKb,nsK Bf,⟨mb,nsK hb,hbb⟩,let ⟨mc,h1,h2⟩:=DU;⟨mc,nsK h1,h2⟩⟩
  have e0:rZ P w K mg (tf s₁.heap H) callerA [] s₁ H:=⟨rfl,hM,λ b o e=>U9 e,Nat.le_of_eq (TZ _ _),trivial,λ b hb=>absurd (show b∈([]:List Addr) from hb) (by simp),zu,.of_eq hg⟩
  refine codeAny_mono ((F _ hKb (nsK Bf)).run callerA [] s₁ H ⟨[.ref a],[]⟩ [.ref a] [.ref a] _ _ hr e0 (hbind s₁ (.ref a)) (.cons rfl .nil) (BE H hO hS)) λ r s' h=>?_
  cases r with
  | error e=>exact (hCX H e s' h).elim
  | ok fl=>
   cases fl with
   | ret u=>
    obtain⟨v,H',os,bare,un,A9,r',q⟩:=h
    have q':v=.bl true:=q
    subst q'
    obtain rfl:u=Value.bool true:=r'
    refine⟨rfl,OldK.of_keep λ b o e=>?_,os,bare⟩
    cases q:H b with
    | none=>exact un.keep b o e q (by intro z;exact absurd (show b∈([]:List Addr) from z) (by simp)) (by simp)
    | some u=>
     rcases hO b with z | ⟨ob,xs,z⟩
     ·rw[q] at z;cases z
     ·have z2:=un.vi b ob _ z
      obtain⟨e1,_⟩:=zu b _ z
      obtain⟨e2,_⟩:=A9 b _ z2
      rw[e] at e1;cases e1
      exact e2
   | _=>exact False.elim h
 cases hk:K.lookup a with
 | some o=>
  have e:=KX a o hk
  rw[ha] at e
  cases e
  refine core (λ _=>none) (λ _=>.inl rfl) (.inr ⟨_,vs.toArray,_,hk,rfl,rfl,rfl,by rw[Ao,lenV];exact hl,by simpa using rv⟩) (λ b u z=>by have z':(none:Option HO)=some u:=z;cases z') (λ b z=>absurd rfl z) λ z=>absurd rfl z
 | none=>
  refine core (λ b=>if b=a then some (.xN { cls:=.type "list",data:=.seq vs.toArray } (.lst (ns.map V.int))) else none) (λ b=>?_) (.inl (.inr ⟨{ cls:=.type "list",data:=.seq vs.toArray },if_pos rfl⟩)) (λ b u z=>?_) (λ b z=>?_) λ _=>hk
  ·by_cases hb:b=a
   ·exact .inr ⟨_,_,if_pos hb⟩
   ·exact .inl (if_neg hb)
  ·by_cases hb:b=a
   ·have z':=(if_pos hb).symm.trans z
    cases z'
    subst hb
    exact⟨ha,by rw[Aq];exact hl,vs,_,rv,ha⟩
   ·have z':=(if_neg hb).symm.trans z
    cases z'
  ·by_cases hb:b=a
   ·exact hb
   ·exact absurd (if_neg hb) z
def Zu {l:PySem.W.OpenLaw}{n k:Nat}{q:Program}{loose:List Str}{XP:(Str->Option Value)->Heap->Prop}{YP:World->Heap->Prop}{d:DefRec}{K:Params->Aa}{CX:World->vx}{sp:World->Sp}{x:Str}
  (hn:l.most=some n) (hn2:n<=sizeLine) (CW:d.params.defaults=[]) (hr:ye k callerA)
  (hY:∀ (w:World) (h:Heap),YP w h->(K w.params).In h)
  (F:∀ (w:World) (mg:Str->Option Value) (fa:Addr) (h:Heap),(K w.params).In h->h.Ns mainGlobals mg->mg d.name=some (.ref fa)->
   ∃ fd:FuncData,(∀ (s:Shared) (u:Value),BindsTo s fd ⟨[u],[]⟩ [(x,u)])/\
    ∀ base:Heap,(K w.params).In base->base.Ns mainGlobals mg->xg l.prog w (K w.params) mg base (CX w) k fa fd [x] (sp w))
  (BE:∀ (w:World) (H:Hp) (a:Addr) (ns:List Int),ns.length<=n->mT H->zP (K w.params) H a (ns.map V.int)->sp w [.ref a] H (λ v _=>v=.bl true) λ _ _ _=>False)
  (hCX:∀ (w:World) (H:Hp) (s:Shared) (e:Value) (s':Shared),CX w [] H s (λ _ _ _=>False) e s'->False):
  PySem.W.WalkO q loose XP YP l.row.toRowW d [] (λ f vs=>PySem.call f vs):=by
 refine aV.RZ hn CW λ w s₀ s₁ mg mb fa o pm cd doc a vs ns G Y ho hd AR CM B8 hints hlen hg=>?_
 have KX:=hY w _ Y
 obtain⟨fd,hb,hF⟩:=F w mg fa _ KX G.T.g CM
 exact Tj KX G.T.g G.T.b G.T.builtins G.T.nolimit hg B8 hints (Bo hlen hn2) hr hF hb (λ H hO hS=>BE w H a ns hlen hO hS) λ H e s'=>hCX w H s₁ e s'
noncomputable def vj (s:Stmt):Arguments:=match s with
 | .FunctionDef _ a _ _ _ _ _ _ _ _=>a
 | _=>{ posonlyargs:=[],args:=[],vararg:=none,kwonlyargs:=[],kw_defaults:=[],kwarg:=none,defaults:=[] }
noncomputable def xo (s:Stmt):List Stmt:=match s with
 | .FunctionDef _ _ b _ _ _ _ _ _ _=>b
 | _=>[]
noncomputable def zB (s:Stmt):Scope:=match s with
 | .FunctionDef _ _ _ _ _ _ sc _ _ _=>sc
 | _=>{ kind:=.function,names:=[],isGenerator:=false,isCoroutine:=false }
abbrev xv:vx:=λ _ _ _ _ _ _=>False
abbrev E0:XK:=λ _ _ _=>False
def W4 {X:Cx}:Passes xv X E0:=λ _ _ _ _ _ _ _ h=>h.elim
structure wI (K:Aa) (x qual:Str) (st:Stmt) (f:Addr) (fd:FuncData):Prop where
 ex:∃ (oc:Value) (od:Option Addr) (kV doc pm:Value) (an:Option Addr) (Ac ct:Value) (osl:Array (Option Value)),
  fd=PySem.W.fnOf x qual (vj st) (xo st) (zB st) .none kV doc pm an Ac ct/\K.lookup f=some ⟨oc,od,.func fd,osl⟩/\PySem.W.codeIn K Ac qual=true
 kp:PySem.W.keepIn K (.ref f)=true
section
variable {P:Program}{w:World}{K:Aa}{mg:Str->Option Value}{base:Heap}
def wI.ok {x qual:Str}{st:Stmt}{f:Addr}{fd:FuncData}{N ps:List Str}{k:Nat}{sp:Sp}(F:wI K x qual st f fd) (S:yd N ps (zB st)) (len:∀ vs H Q E,sp vs H Q E->vs.length=ps.length)
  (hbody:∀ (Ac:Value) (A:Around) (outer:List Env) (s:Shared) (H:Hp) (vs:List V) (Q:VK) (E:XK),ye k (A.deeper (envOfC qual (zB st) s.heap.objs.size f Ac))->sp vs H Q E->
   ∃ t,xF (xX xv P w K mg base N qual (zB st) f Ac A outer s H E).ve (xo st) t/\t { nx:=λ _ H'=>Q .zg H',rt:=Q } (start N vs) H):xg P w K mg base xv (k+1) f fd ps sp:=by
 obtain⟨oc,od,kV,doc,pm,an,Ac,ct,osl,rfl,lk,AR⟩:=F.ex
 refine cG lk AR S len λ A outer s H vs Q E hr BE=>?_
 obtain⟨t,h,q⟩:=hbody Ac A outer s H vs Q E hr BE
 exact⟨t,h.ve,q⟩
def wI.binds {x qual:Str}{st:Stmt}{f:Addr}{fd:FuncData}{ps:List Str}(F:wI K x qual st f fd)
  (h:∀ (kV doc pm:Value) (an:Option Addr) (Ac ct:Value) (us:List Value),us.length=ps.length->bindArgs (PySem.W.fnOf x qual (vj st) (xo st) (zB st) .none kV doc pm an Ac ct) ⟨us,[]⟩=pure (ps.zip us)):Binds K fd ps []:=by
 obtain⟨oc,od,kV,doc,pm,an,Ac,ct,osl,rfl,lk,AR⟩:=F.ex
 exact .all (h kV doc pm an Ac ct)
def jU {x qual:Str}{st:Stmt}{f:Addr}{oc:Value}{od an:Option Addr}{osl:Array (Option Value)}{kV doc pm Ac ct:Value}(l:K.lookup f=some ⟨oc,od,.func (PySem.W.fnOf x qual (vj st) (xo st) (zB st) .none kV doc pm an Ac ct),osl⟩)
  (c:PySem.W.codeIn K Ac qual=true) (k:PySem.W.keepIn K (.ref f)=true):wI K x qual st f (PySem.W.fnOf x qual (vj st) (xo st) (zB st) .none kV doc pm an Ac ct):=⟨⟨oc,od,kV,doc,pm,an,Ac,ct,osl,rfl,l,c⟩,k⟩
end
section
variable {X:Cx}
def pv (i:Nat) {x:Str}{pos:Pos}(hN:X.N[i]?=some x:=by rfl) (hv:oB X.env.scope x:=by first | exact Or.inl rfl | exact Or.inr (Or.inl rfl) | exact Or.inr (Or.inr rfl)) (hd:(x == ("__debug__":Str))=false:=by decide)
  (AR:(x == ("__classdict__":Str))=false:=by decide):PE X (.Name x pos) (pB i):=XD hN hv hd AR
end
def oE (H H':Hp):Prop:=∀ b o,H b=some o->H' b=some o
end L2
namespace PySem
theorem iy {env:Env}:∀ (l:List (Str×NameKind)) (acc:List (Str×Addr)),(∀ y∈l,y.2=.free->∃ c,env.cells.lookup y.1=some c)->
  ∃ cl,(forIn l acc (λ(x:Str×NameKind) r=>if (x.2 == NameKind.free)=true then do let a <- cellOf env x.1;pure (ForInStep.yield ((x.1,a)::r)) else pure (ForInStep.yield r)):Sem (List (Str×Addr)))=pure cl/\
   (∀ x c,cl.lookup x=some c->acc.lookup x=some c\/((x,NameKind.free)∈l/\env.cells.lookup x=some c))/\(∀ x,(x,NameKind.free)∈l\/(acc.lookup x).isSome->(cl.lookup x).isSome)
 | [],acc,_=>⟨acc,rfl,λ x c h=>.inl h,λ x h=>by simpa using h⟩
 | (n,k)::l,acc,h=>by
  by_cases hk:k=.free
  ·subst hk
   obtain⟨c,hc⟩:=h (n,.free) Ap rfl
   obtain⟨cl,e1,e2,e3⟩:=iy l ((n,c)::acc) λ y hy=>h y (Av _ hy)
   refine⟨cl,?_,λ x d hx=>?_,λ x hx=>?_⟩
   ·rw[Dc]
    simp only[beq_self_eq_true,if_true,cellOf,hc]
    exact e1
   ·rcases e2 x d hx with q | ⟨q1,q2⟩
    ·rw[A5] at q
     cases CI:x == n with
     | true=>
      rw[CI] at q
      have:x=n:=by simpa using CI
      subst this
      refine .inr ⟨Ap,?_⟩
      rw[hc];exact q
     | false=>rw[CI] at q;exact .inl q
    ·exact .inr ⟨Av _ q1,q2⟩
   ·refine e3 x ?_
    rcases hx with hx | hx
    ·rcases Aj.mp hx with q | q
     ·have:x=n:=congrArg Prod.fst q
      subst this
      exact .inr (by simp[A5])
     ·exact .inl q
    ·refine .inr ?_
     rw[A5]
     cases x == n <;> simp[hx]
  ·have hb:(k == NameKind.free)=false:=by simpa using hk
   obtain⟨cl,e1,e2,e3⟩:=iy l acc λ y hy=>h y (Av _ hy)
   refine⟨cl,?_,λ x d hx=>?_,λ x hx=>?_⟩
   ·rw[Dc]
    simp only[hb,A3,if_false]
    exact e1
   ·rcases e2 x d hx with q | ⟨q1,q2⟩
    ·exact .inl q
    ·exact .inr ⟨Av _ q1,q2⟩
   ·refine e3 x ?_
    rcases hx with hx | hx
    ·rcases Aj.mp hx with q | q
     ·exact absurd (congrArg Prod.snd q).symm hk
     ·exact .inl q
    ·exact .inr hx
def bB {scope:Scope}{env:Env}(h:∀ y∈scope.names,y.2=.free->∃ c,env.cells.lookup y.1=some c):
  ∃ cl,closureFor scope env=pure cl/\(∀ x c,cl.lookup x=some c->(x,NameKind.free)∈scope.names/\env.cells.lookup x=some c)/\∀ x,(x,NameKind.free)∈scope.names->(cl.lookup x).isSome:=by
 obtain⟨cl,e1,e2,e3⟩:=iy (env:=env) scope.names [] h
 refine⟨cl,?_,λ x c hx=>?_,λ x hx=>e3 x (.inl hx)⟩
 ·simp only[closureFor]
  rw[e1]
  rfl
 ·rcases e2 x c hx with q | q
  ·simp at q
  ·exact q
theorem dA {env:Env}:∀ {names:List (Str×NameKind)}{x:Str},names.lookup x=some .free->
  (names.map λ(n,k)=>if (k == NameKind.free&&env.scope.kind == .function&&env.kindOf n == some .cell) then (n,NameKind.cell) else (n,k)).lookup x=some .cell\/
  (names.map λ(n,k)=>if (k == NameKind.free&&env.scope.kind == .function&&env.kindOf n == some .cell) then (n,NameKind.cell) else (n,k)).lookup x=some .free
 | [],_,h=>by simp at h
 | (n,k)::r,x,h=>by
  have ih:=@dA env r x
  show List.lookup x ((if (k == NameKind.free&&env.scope.kind == .function&&env.kindOf n == some .cell)=true then (n,NameKind.cell) else (n,k))::_)=_\/List.lookup x ((if (k == NameKind.free&&env.scope.kind == .function&&env.kindOf n == some .cell)=true then (n,NameKind.cell) else (n,k))::_)=_
  cases hx:x == n with
  | true=>
   simp only[A5,hx] at h
   cases h
   by_cases hc:(NameKind.free == NameKind.free&&env.scope.kind == .function&&env.kindOf n == some .cell)=true
   ·rw[if_pos hc];simp[A5,hx]
   ·rw[if_neg hc];simp[A5,hx]
  | false=>
   simp only[A5,hx] at h
   by_cases hc:(k == NameKind.free&&env.scope.kind == .function&&env.kindOf n == some .cell)=true
   ·rw[if_pos hc];simp only[A5,hx];exact ih h
   ·rw[if_neg hc];simp only[A5,hx];exact ih h
theorem fP {env:Env}:∀ {names:List (Str×NameKind)}{x:Str},(∀ y∈names,y.2≠.cell)->
  ((names.map λ(n,k)=>if (k == NameKind.free&&env.scope.kind == .function&&env.kindOf n == some .cell) then (n,NameKind.cell) else (n,k)).lookup x=some .cell\/
  (names.map λ(n,k)=>if (k == NameKind.free&&env.scope.kind == .function&&env.kindOf n == some .cell) then (n,NameKind.cell) else (n,k)).lookup x=some .free)->(x,NameKind.free)∈names
 | [],_,_,h=>by simp at h
 | (n,k)::r,x,hn,h=>by
  have ih:=@fP env r x λ y hy=>hn y (Av _ hy)
  have h':List.lookup x ((if (k == NameKind.free&&env.scope.kind == .function&&env.kindOf n == some .cell)=true then (n,NameKind.cell) else (n,k))::_)=some .cell\/List.lookup x ((if (k == NameKind.free&&env.scope.kind == .function&&env.kindOf n == some .cell)=true then (n,NameKind.cell) else (n,k))::_)=some .free:=h
  have hf:∀ k',((if (k == NameKind.free&&env.scope.kind == .function&&env.kindOf n == some .cell)=true then (n,NameKind.cell) else (n,k)):Str×NameKind)=(n,k')->(k'=.cell\/k'=.free)->k=.free:=by
   intro k' e hk'
   by_cases hc:(k == NameKind.free&&env.scope.kind == .function&&env.kindOf n == some .cell)=true
   ·simp only[AU] at hc;simpa using hc.1.1
   ·rw[if_neg hc] at e
    have:k=k':=congrArg Prod.snd e
    subst this
    rcases hk' with q | q
    ·exact absurd q (hn (n,k) Ap)
    ·exact q
  cases hx:x == n with
  | true=>
   have CI:x=n:=by simpa using hx
   subst CI
   by_cases hc:(k == NameKind.free&&env.scope.kind == .function&&env.kindOf x == some .cell)=true
   ·simp only[AU] at hc
    have:k=.free:=by simpa using hc.1.1
    subst this;exact Ap
   ·rw[if_neg hc] at h'
    simp only[A5,beq_self_eq_true] at h'
    rcases h' with q | q
    ·exact absurd (AY q) (hn (x,k) Ap)
    ·have:=AY q
     subst this;exact Ap
  | false=>
   refine Av _ (ih ?_)
   by_cases hc:(k == NameKind.free&&env.scope.kind == .function&&env.kindOf n == some .cell)=true
   ·rw[if_pos hc] at h';simp only[A5,hx] at h';exact h'
   ·rw[if_neg hc] at h';simp only[A5,hx] at h';exact h'
end PySem
namespace L2
open PySem PySem.Spec PyProof.Rows
noncomputable def v5 (pick:List (Option Nat)) (Y:St):St:=pick.map λ o=>o.bind λ i=>(Y[i]?).join
noncomputable def yF (X:Cx) (N':List Str) (scope:Scope) (cl:List (Str×Addr)) (C:Addr) (s:Shared) (H:Hp) (ex:List Addr):Cx:=
 { X with N:=N',s₀:=s,H₀:=H,env:=compEnvC scope cl C X.env,outer:=X.stack,stack:=X.stack,ex:=ex,fn:=λ _=>false,pn:=[],xe:=λ _ _=>False }
noncomputable def qp (N N':List Str) (pick:List (Option Nat)) (scope:Scope):Bool:=(N'.zip pick).all λ p=>match p.2 with
 | none=>true
 | some j=>decide (N[j]?=some p.1)&&decide (scope.names.lookup p.1=some .free)
structure r_ (X:Cx) (N':List Str) (pick:List (Option Nat)) (scope:Scope):Prop where
 kind:scope.kind=.function
 dr:∀ y∈scope.names,y.2≠.cell
 names:∀ y∈scope.names,y.2=.local->scope.names.lookup y.1=some .local
 free:∀ y∈scope.names,y.2=.free->X.env.scope.names.lookup y.1=some .cell\/X.env.scope.names.lookup y.1=some .free
 len:pick.length=N'.length
 ok:qp X.N N' pick scope=true
def qp.get {N N':List Str}{pick:List (Option Nat)}{scope:Scope}(h:qp N N' pick scope=true) {i j:Nat}{x:Str}(h1:N'[i]?=some x) (h2:pick[i]?=some (some j)):N[j]?=some x/\scope.names.lookup x=some .free:=by
 unfold qp at h
 have hm:(x,some j)∈N'.zip pick:=by
  refine Be (i:=i) ?_
  rw[List.getElem?_zip_eq_some]
  exact⟨h1,h2⟩
 have q:=AW.mp h _ hm
 simp only[AU,decide_eq_true_eq] at q
 exact q
def v5.get {pick:List (Option Nat)}{Y:St}{i:Nat}{v:V}(h:(v5 pick Y)[i]?=some (some v)):∃ j,pick[i]?=some (some j)/\Y[j]?=some (some v):=by
 unfold v5 at h
 rw[AA] at h
 cases e:pick[i]? with
 | none=>rw[e] at h;cases h
 | some o=>
  rw[e] at h
  cases o with
  | none=>simp at h
  | some j=>
   refine⟨j,rfl,?_⟩
   simp only[Option.map_some,Option.some.injEq,B4] at h
   cases q:Y[j]? with
   | none=>rw[q] at h;simp at h
   | some w=>rw[q] at h;simp at h;rw[h]
def PF (X:Cx) (ifs:List Expr) (t:TT):Prop:=∀ (pins:List (Addr×Obj)) (s:Shared) (Y:St) (H:Hp) (Q:Bool->Hp->Prop),Inv X pins Y H s->t Y H Q->
 wpAny (model X.prog X.w) X.A (forIn ifs true λ c r=>if r=true then do let ok <- isTrue c X.env (eval c X.env);pure (ForInStep.yield ok) else pure (ForInStep.yield r)) (TP X pins Y Q) X.xe s
def XB {X:Cx}:PF X [] (λ _ H Q=>Q true H):=λ _ _ _ H _ I h=>wpAny_tests_nil ⟨H,I,h⟩
def XA {X:Cx}{c:Expr}{t:TT}(h:PT X c t):PF X [c] t:=λ pins s Y H Q I q=>wpAny_tests_one (h pins s Y H Q I q)
def lS (pick:List (Option Nat)) (wi:TI) (g:TG) (tc:TT) (te:TE):TE:=fun Y H Q=>wi Y H λ J H1=>∀ D,H1 D=none->∃ W:Nat->Nat->St->Hp->Prop,(∃ m,W 0 m (v5 pick Y) (upd H1 D (.lst [])))/\
 ∀ i m Y H,W i m Y H->(J.stop i H/\Q (.ref D) H)\/(J.go i H/\∀ x H',J.qf i H x H'->g x Y H' fun Y2 H2=>tc Y2 H2 λ b H3=>
  if b=true then te Y2 H3 λ y H4=>∃ ys m',H4 D=some (.lst ys)/\ys.length<sizeLine/\m'<m/\W (i+1) m' Y2 (upd H4 D (.lst (ys++[y]))) else ∃ m',m'<m/\W (i+1) m' Y2 H3)
section
variable {X:Cx}{pins:List (Addr×Obj)}{Y:St}{H:Hp}{s:Shared}{N':List Str}{pick:List (Option Nat)}{scope:Scope}{cl:List (Str×Addr)}{C:Addr}{fp:List Addr}
def TL (S:r_ X N' pick scope) (I:Inv X pins Y H s) (Ba:∀ b∈fp,vv X pins H b) (Ak:∀ b∈fp,b<s.heap.objs.size)
  (c1:∀ x c,cl.lookup x=some c->(x,NameKind.free)∈scope.names/\X.env.cells.lookup x=some c) (c2:∀ x,(x,NameKind.free)∈scope.names->(cl.lookup x).isSome)
  {h1:Heap}{m1:Str->Option Value}{t':Nat}(hC:s.heap.objs.size<C) (old:∀ b o,s.heap.get? b=some o->h1.get? b=some o) (Bf:h1.Ns C m1)
  (hD:h1.get? s.heap.objs.size=some { cls:=.type "list",data:=.seq #[] 0 }):
  Inv (yF X N' scope cl C s H fp) [] (v5 pick Y) (upd H s.heap.objs.size (.lst [])) { s with heap:=h1,toks:=t' }:=by
 have hDn:H s.heap.objs.size=none:=I.zu.fresh (Ad _)
 have hCn:H C=none:=I.zu.fresh (BD hC)
 have clt:∀ x c,cl.lookup x=some c->c<s.heap.objs.size:=λ x c e=>by
  obtain⟨v,q⟩:=I.cell x c (c1 x c e).2
  exact q.lt
 refine⟨⟨I.ok.mod,S.kind,I.ok.glob,I.ok.blt,BD hC,λ x y c e1 e2=>I.ok.inj x y c (c1 x c e1).2 (c1 y c e2).2,λ x hx=>?_,λ x c hf _=>absurd (show false=true from hf) BI,I.ok.hd,I.ok.frames,.inl rfl,
  λ b hb=>⟨Al (C_ (Ak b hb) hC),λ x c e=>(Ba b hb).2.2.2.2.1 x c (c1 x c e).2⟩,I.bs,Bo I.ok.uE I.sz,λ b o e hb=>?_,λ b hb z=>?_,I.stack,I.lW⟩,
  rfl,I.bare,Un.laid old (Ad _) hDn,⟨m1,Bf,λ i x v e1 e2 e3=>?_⟩,λ x c e=>?_,?_,λ x c e=>?_,λ p hp=>absurd (show p∈([]:List (Addr×Obj)) from hp) (by simp),I.zu.laid old (Ad _) ?_,?_⟩
 ·exact Dd.mp (c2 x (fP S.dr hx))
 ·rcases (Ba b hb).2.2.2.1 with z | z
  ·exact I.ok.rm b o e z
  ·exact absurd (AO (Ai (I.ok.bs b o e).1) z) (B3 _)
 ·rcases Aj.mp (I.lU b z) with q | q
  ·exact (Ba b hb).2.1 q
  ·exact (Ba b hb).2.2.1 q
 ·obtain⟨j,p1,p2⟩:=v5.get e2
  obtain⟨q1,q2⟩:=qp.get S.ok e1 p1
  obtain⟨m0,n0,l0⟩:=I.loc
  have hm:(x,NameKind.free)∈scope.names:=PySem.mem_of_lookup q2
  have hk:X.env.scope.names.lookup x=some .cell\/X.env.scope.names.lookup x=some .free:=S.free _ hm rfl
  obtain⟨u,r,l⟩:=l0 j x v q1 p2 (.inr hk)
  refine⟨u,r,.inr ⟨dA q2,?_⟩⟩
  rcases l with ⟨k,_⟩ | ⟨_,c,e,z⟩
  ·have k':X.env.scope.names.lookup x=some .local:=k
   rcases hk with hk | hk <;> (rw[k'] at hk;cases hk)
  ·obtain⟨c',e'⟩:=Dd.mp (c2 x hm)
   have e'':=(c1 x c' e').2
   rw[e] at e'';cases e''
   obtain⟨o,z1,z2⟩:=z
   exact⟨c,e',o,old _ _ z1,z2⟩
 ·obtain⟨v,o,z1,z2⟩:=I.cell x c (c1 x c e).2
  exact⟨v,o,old _ _ z1,z2⟩
 ·show upd H s.heap.objs.size (.lst []) C=none
  rw[zN (Bu hC)];exact hCn
 ·show upd H s.heap.objs.size (.lst []) c=none
  rw[zN (Al (clt x c e))];exact I.wG x c (c1 x c e).2
 ·exact⟨AM _,[],0,.nil,hD⟩
 ·show (v5 pick Y).length=N'.length
  unfold v5
  rw[Aq];exact S.len
def TH {Y':St}{H':Hp}{s':Shared}{oC:Obj}(I:Inv X pins Y H s) (Ba:∀ b∈fp,vv X pins H b) (hC:s.heap.objs.size<C)
  (I':Inv (yF X N' scope cl C s H fp) [] Y' H' s') (hoC:s'.heap.get? C=some oC):Inv X (pins++[(C,oC)]) Y H' s':=by
 have J:Inv X pins Y H' s':=I.bH (ch:=fp) I'.os I'.base I'.zu I'.bare λ b hb=>⟨(Ba b hb).2.2.2.1,(Ba b hb).2.1,(Ba b hb).2.2.2.2.1,(Ba b hb).2.2.2.2.2⟩
 refine J.kS λ p hp=>(A1.mp hp).elim (λ z=>J.pin p (AN _ z)) λ z=>?_
 obtain rfl:p=(C,oC):=AF.mp z
 refine⟨hoC,I'.free,Bu (C_ I.lt hC),I.dm (BD hC),λ v hv=>?_⟩
 obtain⟨m,⟨o,es,ep,ho,hd,_⟩,_⟩:=I'.loc
 have ho':s'.heap.get? C=some o:=ho
 rw[hoC] at ho';cases ho'
 rw[hd] at hv;cases hv
def cj {Y':St}{H':Hp}{s':Shared}{oC:Obj}{h':Heap}(I:Inv X pins Y H s) (hC:s.heap.objs.size<C) (J:Inv X (pins++[(C,oC)]) Y' H' s') (hs:Heap.SameBut C s'.heap h'):Inv X pins Y' H' { s' with heap:=h' }:=by
 have J':=J.p9
 have hp:=J.pin (C,oC) (AN _ (AN _ (AF.mpr rfl)))
 have lt:∀ c,c<s.heap.objs.size->c≠C:=λ c h=>Al (C_ h hC)
 refine J'.turned (t':=s'.toks) (it:=C) (λ b o hb e=>hs.extBut b o hb e) hp.2.1 hp.2.2.1 (.inr (Bo I.sz (BD hC))) (λ x c e z=>?_) (λ p hq z=>?_)
 ·obtain⟨v,q⟩:=I.cell x c e
  exact lt c q.lt z
 ·exact lt p.1 (Ai (I.pin p hq).1) z
end
section
variable {X:Cx}{N':List Str}{pick:List (Option Nat)}{scope:Scope}{elt iter tg:Expr}{ifs:List Expr}{pos:Pos}{wi:TI}{g:TG}{tc:TT}{te:TE}
def Tf {pins:List (Addr×Obj)}{Y:St}{H:Hp}{s:Shared}{it C:Addr}{fp:List Addr}{tn:Nat->Heap->Prop}{J:It}{cl:List (Str×Addr)}{W:Nat->Nat->St->Hp->Prop}{Q:V->Hp->Prop}{R:Result->Shared->Prop}{D:Addr}
  (hc:X.calm=true) (hg:PG (yF X N' scope cl C s H fp) tg g) (hf:PF (yF X N' scope cl C s H fp) ifs tc) (he:PE (yF X N' scope cl C s H fp) elt te)
  (T:Turn X.prog X.w X.K tg J fp it tn) (Ba:∀ b∈fp,vv X pins H b) (hstat:∀ b∈fp,b≠C/\b∉yK X.stack/\∀ x c,cl.lookup x=some c->c≠b)
  (turn:∀ i m Y H,W i m Y H->(J.stop i H/\Q (.ref D) H)\/(J.go i H/\∀ x H',J.qf i H x H'->g x Y H' fun Y2 H2=>tc Y2 H2 λ b H3=>
   if b=true then te Y2 H3 λ y H4=>∃ ys m',H4 D=some (.lst ys)/\ys.length<sizeLine/\m'<m/\W (i+1) m' Y2 (upd H4 D (.lst (ys++[y]))) else ∃ m',m'<m/\W (i+1) m' Y2 H3))
  (fin:∀ Y' H' s',Inv (yF X N' scope cl C s H fp) [] Y' H' s'->Q (.ref D) H'->R (.ok .next) s')
  {m0:Nat}{Y0:St}{H0:Hp}{s0:Shared}(I0:Inv (yF X N' scope cl C s H fp) [] Y0 H0 s0) (t0:tn 0 s0.heap) (f0:∀ b∈fp,H0 b=none) (w0:W 0 m0 Y0 H0):
  codeAny (model X.prog X.w) X.A (.compLoop (.ListComp elt [⟨tg,iter,ifs,0⟩] scope pos) 0 (.ref it) (.ref D) (compEnvC scope cl C X.env)) R s0:=by
 have stat:∀ {H':Hp},(∀ b∈fp,H' b=none)->∀ b∈fp,vv (yF X N' scope cl C s H fp) [] H' b:=λ hn b hb=>⟨hn b hb,(hstat b hb).1,(hstat b hb).2.1,.inl hb,(hstat b hb).2.2,λ p hp=>absurd (show p∈([]:List (Addr×Obj)) from hp) (by simp)⟩
 refine codeAny_loop rfl (λ n s'=>∃ i Y' H',Inv (yF X N' scope cl C s H fp) [] Y' H' s'/\tn i s'.heap/\(∀ b∈fp,H' b=none)/\W i n Y' H') (λ n s3 hI=>?_) m0 ⟨0,Y0,H0,I0,t0,f0,w0⟩
 obtain⟨i,Y3,H3,I3,st3,fr3,w3⟩:=hI
 show wpAny _ X.A ((compTurn (.ListComp elt [⟨tg,iter,ifs,0⟩] scope pos) 0 (.ref it) (.ref D) (compEnvC scope cl C X.env)).onRaise (λ x=>do noteFrame x (compEnvC scope cl C X.env);theTreesLotGoes x)) _ _ s3
 refine wpAny_noted ?_
 rw[compTurn_list]
 refine za0 (wpAny_standAt (za0 ?_))
 rcases turn i n Y3 H3 w3 with ⟨stop,qn⟩ | ⟨go,step⟩
 ·refine zH (T.done (yF X N' scope cl C s H fp) rfl rfl rfl hc i [] s3 Y3 H3 _ I3 (stat fr3) st3 stop) λ r s4 ⟨hr,I4⟩=>?_
  subst hr
  exact Ab (fin Y3 H3 s4 I4 qn)
 ·refine zH (T.item (yF X N' scope cl C s H fp) rfl rfl rfl hc i [] s3 Y3 H3 _ I3 (stat fr3) st3 go) λ r s4 ⟨u,hr,h4⟩=>?_
  subst hr
  refine za0 (zH h4 λ _ s5 ⟨x,H5,I5,r5,y5,st5,fr5⟩=>?_)
  have I5':=I5.pinned (stat fr5) (T.obj _ _ st5)
  refine za0 (za3 (hg _ s5 Y3 H5 x u _ I5' r5 (step x H5 y5)) (λ _ s6 ⟨Y6,H6,I6,q6⟩=>?_) λ _ _ z=>False.elim z)
  refine za0 (za3 (hf _ s6 Y6 H6 _ I6 q6) (λ ok s7 ⟨H7,I7,q7⟩=>?_) λ _ _ z=>False.elim z)
  have back:∀ {H8:Hp}{s8:Shared},Inv (yF X N' scope cl C s H fp) ([]++pR fp s5.heap) Y6 H8 s8->(∃ m',m'<n/\W (i+1) m' Y6 H8)->∃ m,m<n/\∃ i Y' H',Inv (yF X N' scope cl C s H fp) [] Y' H' s8/\tn i s8.heap/\(∀ b∈fp,H' b=none)/\W i m Y' H':=λ{H8 s8} I8 ⟨m',hm,w8⟩=>by
   refine⟨m',hm,i+1,Y6,H8,I8.p9,T.keep _ _ _ st5 λ b hb o e=>(I8.pin (b,o) (AN _ (AN _ (mf hb e)))).1,λ b hb=>?_,w8⟩
   obtain⟨o,e,d⟩:=T.obj _ _ st5 b hb
   exact (I8.pin (b,o) (AN _ (AN _ (mf hb e)))).2.1
  cases ok with
  | false=>
   rw[if_neg BI] at q7
   exact Ab ⟨rfl,back I7 q7⟩
  | true=>
   rw[if_pos rfl] at q7
   refine za0 (za0 (za3 (he _ s7 Y6 H7 _ I7 q7) (λ uy s8 ⟨y,H8,I8,r8,ys,m',e8,z8,hm,w8⟩=>?_) λ _ _ z=>False.elim z))
   refine za0 (za3 (dw (X:=yF X N' scope cl C s H fp) _ s8 Y6 H8 (.ref D) [y] (.ref D) [uy] (λ _ H9=>W (i+1) m' Y6 H9) I8 rfl (.cons r8 .nil) ⟨D,ys,y,rfl,rfl,e8,z8,w8⟩) (λ _ s9 ⟨_,H9,I9,_,q9⟩=>?_) λ _ _ z=>False.elim z)
   exact Ab (Ab ⟨rfl,back I9 ⟨m',hm,q9⟩⟩)
def dI {pins:List (Addr×Obj)}{Y:St}{H:Hp}{s:Shared}{it:Addr}{fp:List Addr}{tn:Nat->Heap->Prop}{J:It}{cl:List (Str×Addr)}{Q:V->Hp->Prop}{E:Value->Shared->Prop}{RR:Value->Addr->Result->Shared->Prop}
  (S:r_ X N' pick scope) (hc:X.calm=true) (hg:∀ cl C s H fp,PG (yF X N' scope cl C s H fp) tg g) (hf:∀ cl C s H fp,PF (yF X N' scope cl C s H fp) ifs tc) (he:∀ cl C s H fp,PE (yF X N' scope cl C s H fp) elt te)
  (c1:∀ x c,cl.lookup x=some c->(x,NameKind.free)∈scope.names/\X.env.cells.lookup x=some c) (c2:∀ x,(x,NameKind.free)∈scope.names->(cl.lookup x).isSome)
  (I:Inv X pins Y H s) (T:Turn X.prog X.w X.K tg J fp it tn) (t0:tn 0 s.heap) (Ba:∀ b∈fp,vv X pins H b)
  (rd:∀ D,H D=none->∃ W:Nat->Nat->St->Hp->Prop,(∃ m,W 0 m (v5 pick Y) (upd H D (.lst [])))/\
   ∀ i m Y H,W i m Y H->(J.stop i H/\Q (.ref D) H)\/(J.go i H/\∀ x H',J.qf i H x H'->g x Y H' fun Y2 H2=>tc Y2 H2 λ b H3=>
    if b=true then te Y2 H3 λ y H4=>∃ ys m',H4 D=some (.lst ys)/\ys.length<sizeLine/\m'<m/\W (i+1) m' Y2 (upd H4 D (.lst (ys++[y]))) else ∃ m',m'<m/\W (i+1) m' Y2 H3))
  (fin:∀ C D oC H' s',s.heap.objs.size<C->Inv X (pins++[(C,oC)]) Y H' s'->s'.heap.get? C=some oC->(∃ m,s'.heap.Ns C m)->Q (.ref D) H'->RR (.ref D) C (.ok .next) s'):
  wpAny (model X.prog X.w) X.A (newList []) (λ acc s₃=>wpAny (model X.prog X.w) X.A (newFunctionEnv scope X.env.globals cl [] X.env.qual none .none (some X.env)) (λ cenv s₄=>
   codeAny (model X.prog X.w) X.A (.compStart (.ListComp elt [⟨tg,iter,ifs,0⟩] scope pos) 0 (.ref it) acc { cenv with scope:=relabel scope X.env }) (RR acc cenv.locals) s₄) E s₃) E s:=by
 refine za8 (wpAny_newFunctionEnv S.dr (by intro y hy;simp at hy) (λ h₁ hns₁ hsb₁=>?_) S.kind)
 dsimp only at hns₁ hsb₁ ⊢
 generalize hH2:s.heap.push { cls:=.type "list",dict:=none,data:=.seq ([]:List Value).toArray }=H2 at hns₁ hsb₁ ⊢
 have hC:H2.objs.size=s.heap.objs.size+1:=by rw[<- hH2,Heap.size_push]
 have Ak:s.heap.objs.size<H2.objs.size:=by rw[hC];exact Cj _
 have old:∀ b o,s.heap.get? b=some o->h₁.get? b=some o:=λ b o e=>hsb₁.extBut b o (Al (C_ (Ai e) Ak)) (za1 _ (hH2▸za1 _ e))
 have AG:h₁.get? s.heap.objs.size=some { cls:=.type "list",data:=.seq #[] 0 }:=hsb₁.extBut _ _ (Al Ak) (za1 _ (hH2▸AH _ rfl))
 have CT:∀ b∈fp,b<s.heap.objs.size:=λ b hb=>by
  obtain⟨o,e,_⟩:=T.obj _ _ t0 b hb
  exact Ai e
 have hDn:H s.heap.objs.size=none:=I.zu.fresh (Ad _)
 obtain⟨W,⟨m0,w0⟩,turn⟩:=rd s.heap.objs.size hDn
 have I0:=TL (t':=s.toks+([]:List (Str×Value)).length) S I Ba CT c1 c2 Ak old hns₁ AG
 have t1:tn 0 h₁:=T.keep _ _ _ t0 λ b _ o e=>old b o e
 have Aw:∀ b∈fp,b≠H2.objs.size/\b∉yK X.stack/\∀ x c,cl.lookup x=some c->c≠b:=λ b hb=>I0.ok.ou b hb |> λ q=>⟨q.1,I0.ok.rA b hb,q.2⟩
 have loop:codeAny (model X.prog X.w) X.A (.compLoop (.ListComp elt [⟨tg,iter,ifs,0⟩] scope pos) 0 (.ref it) (.ref s.heap.objs.size) (compEnvC scope cl H2.objs.size X.env)) (RR (.ref s.heap.objs.size) H2.objs.size) { s with heap:=h₁,toks:=s.toks+([]:List (Str×Value)).length }:=by
  refine Tf (Y:=Y) hc (hg _ _ _ _ _) (hf _ _ _ _ _) (he _ _ _ _ _) T Ba Aw turn (fun Y' H' s' I' q=>?_) I0 t1 (λ b hb=>?_) w0
  ·obtain⟨m,hn,_⟩:=I'.loc
   have hn':s'.heap.Ns H2.objs.size m:=hn
   obtain⟨oC,es,ep,ho,hr⟩:=id hn'
   exact fin _ _ oC H' s' Ak (TH I Ba Ak I' ho) ho ⟨m,hn'⟩ q
  ·show upd H s.heap.objs.size (.lst []) b=none
   rw[zN (Al (CT b hb))]
   exact (Ba b hb).1
 exact codeAny_compStart_list loop (T.self _ 0 _ _ _ t1 loop)
def XQ (S:r_ X N' pick scope) (hc:X.calm=true) (hi:PI X tg iter wi) (hg:∀ cl C s H fp,PG (yF X N' scope cl C s H fp) tg g) (hf:∀ cl C s H fp,PF (yF X N' scope cl C s H fp) ifs tc) (he:∀ cl C s H fp,PE (yF X N' scope cl C s H fp) elt te)
  (hs:∀ x,foldedSetIterable iter X.env x=pure x:=by intro _;rfl):PE X (.ListComp elt [⟨tg,iter,ifs,0⟩] scope pos) (lS pick wi g tc te):=by
 intro pins s Y H Q I h
 obtain⟨cl,hclos,c1,c2⟩:=bB (scope:=scope) (env:=X.env) λ y hy hk=>I.ok.has y.1 (S.free y hy hk)
 rw[eval_ListComp]
 refine wpAny_comprehension_free (use:=none) rfl hs hclos S.kind S.names (zH (hi pins s Y H _ I h) λ v s1 h1=>zH h1 λ itv s2 h2=>?_)
 obtain⟨it,fp,tn,J,H2,e,I2,T,st2,f2,rd⟩:=h2
 subst e
 refine dI (RR:=λ acc C=>compPost (model X.prog X.w) X.A X.xe none (EP X pins Y Q) acc C) S hc hg hf he c1 c2 I2 T st2 f2 rd λ C D oC H' s' hC J' ho hn q=>?_
 obtain⟨m,hn⟩:=hn
 exact⟨m,hn,λ h' hs'=>⟨.ref D,H',cj I2 hC J' hs',rfl,q⟩⟩
def Xm {i:Nat}{y:Str}{py Bv:Pos}(S:r_ X N' pick scope) (hc:X.calm=true) (hi:PI X tg iter wi) (hg:∀ cl C s H fp,PG (yF X N' scope cl C s H fp) tg g) (hf:∀ cl C s H fp,PF (yF X N' scope cl C s H fp) ifs tc) (he:∀ cl C s H fp,PE (yF X N' scope cl C s H fp) elt te)
  (hN:X.N.Nodup) (hy:X.N[i]?=some y) (hx:Loc X.env.scope y)
  (B5:swapsWith (.ListComp elt [⟨tg,iter,ifs,0⟩] scope pos) (some (.Name y py)) Bv.line X.env=pure true:=by rfl)
  (BP:X.fn y=true\/X.env.scope.names.lookup y=some .local:=by first | exact .inl rfl | exact .inr rfl | assumption)
  (hs:∀ x,foldedSetIterable iter X.env x=pure x:=by intro _;rfl):PS X (.Assign [.Name y py] (.ListComp elt [⟨tg,iter,ifs,0⟩] scope pos) Bv) (pD (lS pick wi g tc te) (qK i)):=by
 intro pins s Y H Q I h
 obtain⟨cl,hclos,c1,c2⟩:=bB (scope:=scope) (env:=X.env) λ y hy hk=>I.ok.has y.1 (S.free y hy hk)
 rw[exec_Assign_Name_used _ _ _ _ B5]
 refine za0 (wpAny_standAt (za0 ?_))
 show wpAny _ X.A (do let _ <- comprehension (.ListComp elt [⟨tg,iter,ifs,0⟩] scope pos) scope X.env _ (newList []) false (eval iter X.env) (some (assign (.Name y py) X.env))) _ _ s
 refine za0 (za3 (wpAny_comprehension_free (use:=some (assign (.Name y py) X.env)) (Q:=λ _ s'=>SP X pins Q .next s') rfl hs hclos S.kind S.names
  (zH (hi pins s Y H _ I h) λ v s1 h1=>zH h1 λ itv s2 h2=>?_)) (λ _ s' hq=>Ab (Ab hq)) λ _ _ e=>e)
 obtain⟨it,fp,tn,J,H2,e,I2,T,st2,f2,rd⟩:=h2
 subst e
 refine dI (Q:=λ x H1=>qK i x Y H1 Q.nx) (RR:=λ acc C=>compPost (model X.prog X.w) X.A X.xe (some (assign (.Name y py) X.env)) (λ _ s'=>SP X pins Q .next s') acc C) S hc hg hf he c1 c2 I2 T st2 f2 rd λ C D oC H' s' hC J' ho hn q=>?_
 show wpAny _ X.A (assign (.Name y py) X.env (.ref D)) _ _ _
 refine wpAny_assign_Name (pE J' hN hy hx (v:=.ref D) rfl (λ s3 J3=>?_) BP)
 have hp:=(J3.pin (C,oC) (AN _ (AN _ (AF.mpr rfl)))).1
 obtain⟨m,o,es,ep,ho',hr⟩:=hn
 have:o=oC:=AY (ho'.symm.trans ho)
 subst this
 exact⟨m,⟨o,es,ep,hp,hr⟩,λ h' hs'=>⟨_,H',cj I2 hC J3 hs',q⟩⟩
end
end L2
namespace L3
open PySem PySem.Spec L2
open PyProof.Rows hiding St
inductive D where
 | zg | bl (b:Bool) | int (i:Int) | str (x:Str) | tup (ds:List D) | xx (ds:List D) | ref (a:Addr) | err (c f:Str) (d:D)
def qV (K:Aa) (H:Hp) (a:Addr) (xs:List V):Prop:=
 (∃ o,H a=some (.xN o (.lst xs)))\/
  ∃ (o:Obj) (its:Array Value) (n:Nat),K.lookup a=some o/\o.cls=.type "list"/\o.dict=none/\o.data=.seq its n/\its.size<=sizeLine/\Vals xs its.toList
def qV.sq {K:Aa}{H:Hp}{a:Addr}{xs:List V}(h:qV K H a xs):zP K H a xs:=by
 rcases h with h | h
 ·exact .inl (.inr h)
 ·exact .inr h
abbrev vn:List Value:=[.type "ValueError",.type "Exception",.type "BaseException",.type "object"]
abbrev tX:List Str:=["__getattribute__","__getattr__","__class__","__setattr__","place","pair","way","times","told","name","row"]
def sy (K:Aa) (c:Str) (C:Addr) (bm:List Value) (N:Addr):Prop:=
 (∃ (q:Str) (bs:List Value) (sn:List Str) (sub:List Value) (ab:Bool) (col:Option Bool) (dd:Option Addr) (k0 k1 k2 k3 k5:Option Value),K.lookup C=some (excClassObj c q C N bs bm true sn sub ab col dd k0 k1 k2 k3 k5 "ValueError.__new__"))/\
 PySem.W.nsOkIn K N=true/\∀ n∈tX,PySem.W.nsIn K N n=some none
structure sF (K:Aa) (c:Str) (C P N NP:Addr):Prop where
 own:sy K c C (.ref P::vn) N
 par:sy K "PurseError" P vn NP
 top:PySem.W.nsIn K mainGlobals c=some (some (.ref C))
 nS:PySem.W.nsIn K mainGlobals "PurseError"=some (some (.ref P))
 Xw:PySem.W.nsIn K NP "__init__"=some none
def uk (K:Aa) (c:Str) (C:Addr):Prop:=∃ P N NP,sF K c C P N NP
noncomputable def ownIn (K:Aa) (c:Str) (C:Addr) (bm:List Value):Option Addr:=match K.lookup C with
 | some ⟨.type "type",_,.cls cd,sl⟩=>(match cd.mro,sl.toList with
  | .ref C'::bm',[_,_,_,_,some (.builtin n),_]=>if C' == C&&n == "ValueError.__new__"&&!cd.hasDel&&bm' == bm&&cd.hasDict&&cd.name == c&&PySem.W.nsOkIn K cd.ns&&tX.all (λ n=>PySem.W.nsIn K cd.ns n == some none) then some cd.ns else none
  | _,_=>none)
 | _=>none
def eS {K:Aa}{c:Str}{C N:Addr}{bm:List Value}(h:ownIn K c C bm=some N):sy K c C bm N:=by
 unfold ownIn at h
 split at h
 ·rename_i dd cd sl ho
  split at h
  ·rename_i C' bm' k0 k1 k2 k3 n k5 hm hs
   split at h
   ·rename_i hc
    cases h
    simp only[AU,beq_iff_eq,Dt,AW] at hc
    obtain⟨⟨⟨⟨⟨⟨⟨rfl,rfl⟩,CY⟩,rfl⟩,hhd⟩,rfl⟩,zu⟩,hn⟩:=hc
    obtain⟨nm,bs,mro,ns,qn,hd,sn,sub,ab,col,del⟩:=cd
    dsimp only at hm CY zu hn hhd
    subst hm CY hhd
    have BF:sl=#[k0,k1,k2,k3,some (.builtin "ValueError.__new__"),k5]:=by
     obtain⟨l⟩:=sl
     simp only at hs
     rw[hs]
    subst BF
    exact⟨⟨qn,bs,sn,sub,ab,col,dd,k0,k1,k2,k3,k5,ho⟩,zu,hn⟩
   ·cases h
  ·cases h
 ·cases h
def m9 (K:Aa) (c:Str):Option (Addr×Addr×Addr×Addr):=match PySem.W.nsIn K mainGlobals c,PySem.W.nsIn K mainGlobals "PurseError" with
 | some (some (.ref C)),some (some (.ref P))=>(match ownIn K c C (.ref P::vn),ownIn K "PurseError" P vn with
  | some N,some NP=>if PySem.W.nsIn K NP "__init__" == some none then some (C,P,N,NP) else none
  | _,_=>none)
 | _,_=>none
def cT {K:Aa}{c:Str}{C P N NP:Addr}(h:m9 K c=some (C,P,N,NP)):sF K c C P N NP:=by
 unfold m9 at h
 split at h
 ·rename_i h1 h2
  split at h
  ·rename_i h3 h4
   split at h
   ·rename_i h5
    cases h
    exact⟨eS h3,eS h4,h1,h2,beq_iff_eq.mp h5⟩
   ·cases h
  ·cases h
 ·cases h
noncomputable def wz (e C dx:Addr):HO:=.ext λ h=>∃ oe vs,h.get? e=some oe/\oe.cls=.ref C/\oe.dict=some dx/\oe.data=.fields vs
mutual
noncomputable def zi (K:Aa) (H:Hp):D->V->Prop
 | .zg,v=>v=.zg
 | .bl b,v=>v=.bl b
 | .int i,v=>v=.int i
 | .str x,v=>v=.str x
 | .tup ds,v=>∃ a xs,v=.ref a/\zY K H a xs/\zm K H ds xs
 | .xx ds,v=>∃ a xs,v=.ref a/\qV K H a xs/\zm K H ds xs
 | .ref a,v=>v=.ref a
 | .err c f d,v=>∃ e C dx w,v=.ref e/\(uk K c C/\H e=some (wz e C dx)/\H dx=some (.xd [(f,w)]))/\zi K H d w
noncomputable def zm (K:Aa) (H:Hp):List D->List V->Prop
 | [],xs=>xs=[]
 | d::ds,xs=>∃ x r,xs=x::r/\zi K H d x/\zm K H ds r
end
structure Ext (H H':Hp):Prop where
 tup:∀ b xs,H b=some (.tup xs)->H' b=some (.tup xs)
 xN:∀ b o u,H b=some (.xN o u)->H' b=some (.xN o u)
 ext:∀ b φ,H b=some (.ext φ)->H' b=some (.ext φ)
 xd:∀ b fs,H b=some (.xd fs)->H' b=some (.xd fs)
def Ext.refl (H:Hp):Ext H H:=⟨λ _ _ h=>h,λ _ _ _ h=>h,λ _ _ h=>h,λ _ _ h=>h⟩
def Ext.trans {H H1 H2:Hp}(a:Ext H H1) (b:Ext H1 H2):Ext H H2:=⟨λ c xs h=>b.tup c xs (a.tup c xs h),λ c o u h=>b.xN c o u (a.xN c o u h),λ c u h=>b.ext c u (a.ext c u h),λ c u h=>b.xd c u (a.xd c u h)⟩
def Ext.new {H:Hp}{p:Addr}(h:H p=none) (o:HO):Ext H (upd H p o):=
 ⟨λ b xs q=>by rw[zN (xm q h)];exact q,λ b ob u q=>by rw[zN (xm q h)];exact q,λ b u q=>by rw[zN (xm q h)];exact q,λ b u q=>by rw[zN (xm q h)];exact q⟩
theorem Ext.lst {H:Hp}{p:Addr}{xs:List V}(h:H p=some (.lst xs)) (o:HO):Ext H (upd H p o):=
 ⟨λ b ys q=>by rw[zN (rp q h (by intro z;cases z))];exact q,λ b ob u q=>by rw[zN (rp q h (by intro z;cases z))];exact q,λ b u q=>by rw[zN (rp q h (by intro z;cases z))];exact q,λ b u q=>by rw[zN (rp q h (by intro z;cases z))];exact q⟩
def Ext.nr {K:Aa}{H H':Hp}{a:Addr}{xs:List V}(e:Ext H H') (h:zY K H a xs):zY K H' a xs:=by
 rcases h with (h | ⟨o,h⟩) | h
 ·exact .inl (.inl (e.tup _ _ h))
 ·exact .inl (.inr ⟨o,e.xN _ _ _ h⟩)
 ·exact .inr h
def Ext.nu {K:Aa}{H H':Hp}{a:Addr}{xs:List V}(e:Ext H H') (h:qV K H a xs):qV K H' a xs:=by
 rcases h with ⟨o,h⟩ | h
 ·exact .inl ⟨o,e.xN _ _ _ h⟩
 ·exact .inr h
section
variable {K:Aa}{H H':Hp}
mutual
theorem zi.ext (e:Ext H H'):∀ (d:D) {v:V},zi K H d v->zi K H' d v
 | .zg,v,h=>by simpa only [zi] using h
 | .bl b,v,h=>by simpa only [zi] using h
 | .int i,v,h=>by simpa only [zi] using h
 | .str x,v,h=>by simpa only [zi] using h
 | .ref a,v,h=>by simpa only [zi] using h
 | .err c f d,v,h=>by
  simp only[zi] at h ⊢
  obtain⟨a,C,dx,w,h1,⟨h2,h3,h4⟩,h5⟩:=h
  exact⟨a,C,dx,w,h1,⟨h2,e.ext _ _ h3,e.xd _ _ h4⟩,zi.ext e d h5⟩
 | .tup ds,v,h=>by
  simp only[zi] at h ⊢
  obtain⟨a,xs,h1,h2,h3⟩:=h
  exact⟨a,xs,h1,e.nr h2,zm.ext e ds h3⟩
 | .xx ds,v,h=>by
  simp only[zi] at h ⊢
  obtain⟨a,xs,h1,h2,h3⟩:=h
  exact⟨a,xs,h1,e.nu h2,zm.ext e ds h3⟩
theorem zm.ext (e:Ext H H'):∀ (ds:List D) {xs:List V},zm K H ds xs->zm K H' ds xs
 | [],xs,h=>by simpa only [zm] using h
 | d::ds,xs,h=>by
  simp only[zm] at h ⊢
  obtain⟨x,r,h1,h2,h3⟩:=h
  exact⟨x,r,h1,zi.ext e d h2,zm.ext e ds h3⟩
end
theorem zm.length:∀ {ds:List D}{xs:List V},zm K H ds xs->ds.length=xs.length
 | [],xs,h=>by simp only[zm] at h;subst h;rfl
 | d::ds,xs,h=>by
  simp only[zm] at h
  obtain⟨x,r,h1,_,h3⟩:=h
  subst h1
  simp[zm.length h3]
theorem zm.get:∀ {ds:List D}{xs:List V}{i:Nat}{d:D},zm K H ds xs->ds[i]?=some d->∃ x,xs[i]?=some x/\zi K H d x
 | [],_,i,d,_,e=>by simp at e
 | c::ds,xs,i,d,h,e=>by
  simp only[zm] at h
  obtain⟨x,r,h1,h2,h3⟩:=h
  subst h1
  cases i with
  | zero=>simp at e;subst e;exact⟨x,rfl,h2⟩
  | succ i=>
   obtain⟨y,e1,e2⟩:=zm.get (i:=i) h3 (by simpa using e)
   exact⟨y,by simpa using e1,e2⟩
theorem zm.append:∀ {ds es:List D}{xs ys:List V},zm K H ds xs->zm K H es ys->zm K H (ds++es) (xs++ys)
 | [],es,xs,ys,h,h'=>by simp only[zm] at h;subst h;simpa using h'
 | d::ds,es,xs,ys,h,h'=>by
  simp only[zm] at h
  obtain⟨x,r,h1,h2,h3⟩:=h
  subst h1
  show zm K H (d::(ds++es)) (x::(r++ys))
  simp only[zm]
  exact⟨x,r++ys,rfl,h2,zm.append h3 h'⟩
def zm.nil:zm K H [] []:=by simp only[zm]
def zm.cons {d:D}{ds:List D}{x:V}{xs:List V}(h:zi K H d x) (h':zm K H ds xs):zm K H (d::ds) (x::xs):=by
 simp only[zm];exact⟨x,xs,rfl,h,h'⟩
def zm.snoc {d:D}{ds:List D}{x:V}{xs:List V}(h':zm K H ds xs) (h:zi K H d x):zm K H (ds++[d]) (xs++[x]):=h'.append (.cons h .nil)
theorem zm.ints:∀ {ns:List Int}{xs:List V},zm K H (ns.map D.int) xs->xs=ns.map V.int
 | [],xs,h=>by simpa only [Bc,zm] using h
 | n::ns,xs,h=>by
  rw[Ax] at h
  simp only[zm,zi] at h
  obtain⟨x,r,h1,h2,h3⟩:=h
  subst h1 h2
  rw[Ax,zm.ints h3]
theorem zm.jn:∀ (ns:List Int),zm K H (ns.map D.int) (ns.map V.int)
 | []=>.nil
 | n::ns=>.cons (by simp only[zi]) (zm.jn ns)
theorem zm.bools:∀ {ns:List Bool}{xs:List V},zm K H (ns.map D.bl) xs->xs=ns.map V.bl
 | [],xs,h=>by simpa only [Bc,zm] using h
 | n::ns,xs,h=>by
  rw[Ax] at h
  simp only[zm,zi] at h
  obtain⟨x,r,h1,h2,h3⟩:=h
  subst h1 h2
  rw[Ax,zm.bools h3]
end
inductive O where
 | lst (ds:List D)
 | yo (Ae:List (Key×D))
abbrev SS:=Addr->Option O
def mO (K:Aa) (H:Hp):List (Key×D)->List (Key×V)->Prop:=Paired λ p q=>p.1=q.1/\zi K H p.2 q.2
noncomputable def rN (K:Aa) (H:Hp) (a:Addr):O->Prop
 | .lst ds=>∃ xs,H a=some (.lst xs)/\zm K H ds xs
 | .yo Ae=>∃ vs,H a=some (.dK vs)/\mO K H Ae vs
def zE (K:Aa) (H:Hp) (S:SS):Prop:=∀ a o,S a=some o->rN K H a o
noncomputable def ups (S:SS) (a:Addr) (o:O):SS:=λ b=>if b=a then some o else S b
def sI {S:SS}{a:Addr}{o:O}:ups S a o a=some o:=by unfold ups;rw[if_pos rfl]
def uR {S:SS}{a b:Addr}{o:O}(h:b≠a):ups S a o b=S b:=by unfold ups;rw[if_neg h]
def Sx (S S':SS):Prop:=∀ b o,S b=some o->S' b=some o
def Sx.refl (S:SS):Sx S S:=λ _ _ h=>h
def Sx.trans {S S1 S2:SS}(a:Sx S S1) (b:Sx S1 S2):Sx S S2:=λ c o h=>b c o (a c o h)
def Sx.new {S:SS}{p:Addr}(h:S p=none) (o:O):Sx S (ups S p o):=λ b u q=>by
 rw[uR (by intro z;subst z;rw[h] at q;cases q)];exact q
theorem Sx.none {S S':SS}(e:Sx S S') {p:Addr}(h:S' p=Option.none):S p=Option.none:=by
 cases q:S p with
 | none=>rfl
 | some o=>rw[e p o q] at h;cases h
section
variable {K:Aa}{H H':Hp}{S:SS}
def rN.has {a:Addr}{o:O}(h:rN K H a o):H a≠none:=by
 cases o with
 | lst ds=>obtain⟨xs,h,_⟩:=h;rw[h];simp
 | yo Ae=>obtain⟨xs,h,_⟩:=h;rw[h];simp
theorem zE.none (r:zE K H S) {p:Addr}(h:H p=Option.none):S p=Option.none:=by
 cases q:S p with
 | none=>rfl
 | some o=>exact absurd h (r p o q).has
theorem mO.ext (e:Ext H H') {Ae:List (Key×D)}{vs:List (Key×V)}(h:mO K H Ae vs):mO K H' Ae vs:=
 Paired.jw h λ p q z=>⟨z.1,zi.ext e p.2 z.2⟩
def rN.keep {a:Addr}{o:O}(e:Ext H H') (k:∀ u,H a=some u->H' a=some u) (h:rN K H a o):rN K H' a o:=by
 cases o with
 | lst ds=>obtain⟨xs,h1,h2⟩:=h;exact⟨xs,k _ h1,zm.ext e ds h2⟩
 | yo Ae=>obtain⟨xs,h1,h2⟩:=h;exact⟨xs,k _ h1,h2.ext e⟩
theorem zE.keep (e:Ext H H') (k:∀ a u o,S a=some o->H a=some u->H' a=some u) (r:zE K H S):zE K H' S:=λ a o h=>(r a o h).keep e λ u q=>k a u o h q
def zE.same (e:oE H H') (r:zE K H S):zE K H' S:=r.keep ⟨λ b xs q=>e _ _ q,λ b o u q=>e _ _ q,λ b u q=>e _ _ q,λ b u q=>e _ _ q⟩ λ a u _ _ q=>e a u q
theorem zE.new {p:Addr}{u:HO}(hp:H p=Option.none) (r:zE K H S):zE K (upd H p u) S:=
 r.keep (Ext.new hp u) λ a v o _ q=>by rw[zN (xm q hp)];exact q
theorem zE.ups {p:Addr}{u:HO}{o:O}(e:Ext H (upd H p u)) (hn:rN K (upd H p u) p o) (r:zE K H S):zE K (upd H p u) (ups S p o):=λ a o' h=>by
 by_cases ha:a=p
 ·subst ha;rw[sI] at h;cases h;exact hn
 ·rw[uR ha] at h
  exact (r a o' h).keep e λ v q=>by rw[zN ha];exact q
end
abbrev yc:=List (Option D)
def yp (K:Aa) (H:Hp) (L:yc) (Y:St):Prop:=L.length=Y.length/\∀ (i:Nat) (d:D),L[i]?=some (some d)->∃ v,Y[i]?=some (some v)/\zi K H d v
theorem yp.ext {K:Aa}{H H':Hp}{L:yc}{Y:St}(e:Ext H H') (r:yp K H L Y):yp K H' L Y:=⟨r.1,λ i d h=>by
 obtain⟨v,h1,h2⟩:=r.2 i d h
 exact⟨v,h1,zi.ext e d h2⟩⟩
theorem yp.set {K:Aa}{H:Hp}{L:yc}{Y:St}(i:Nat) {d:D}{v:V}(r:yp K H L Y) (h:zi K H d v):yp K H (L.set i (some d)) (Y.set i (some v)):=by
 refine⟨by rw[Ce,Ce];exact r.1,λ j c hc=>?_⟩
 rw[Cd] at hc ⊢
 by_cases hj:i=j
 ·subst hj
  rw[if_pos rfl] at hc ⊢
  by_cases hl:i < L.length
  ·rw[if_pos hl] at hc
   rw[if_pos (by rw[<- r.1];exact hl)]
   cases hc
   exact⟨v,rfl,h⟩
  ·rw[if_neg hl] at hc;cases hc
 ·rw[if_neg hj] at hc ⊢
  exact r.2 j c hc
abbrev DK:=D->SS->Prop
abbrev zx:=yc->SS->DK->Prop
abbrev yL:=yc->SS->(Bool->SS->Prop)->Prop
abbrev yb:=yc->SS->(List D->SS->Prop)->Prop
def yz (t:zx):Prop:=∀ L S (Q Q':DK),(∀ d S',Q d S'->Q' d S')->t L S Q->t L S Q'
def vc (t:yL):Prop:=∀ L S (Q Q':Bool->SS->Prop),(∀ d S',Q d S'->Q' d S')->t L S Q->t L S Q'
def uM (t:yb):Prop:=∀ L S (Q Q':List D->SS->Prop),(∀ d S',Q d S'->Q' d S')->t L S Q->t L S Q'
def xO (K:Aa) (H:Hp) (Q:VK):DK:=λ d S'=>∀ v H',zi K H' d v->Ext H H'->zE K H' S'->Q v H'
def o3 (K:Aa) (H:Hp) (Q:Bool->Hp->Prop):Bool->SS->Prop:=λ b S'=>∀ H',Ext H H'->zE K H' S'->Q b H'
def Rn (K:Aa) (H:Hp) (Q:List V->Hp->Prop):List D->SS->Prop:=λ ds S'=>∀ vs H',zm K H' ds vs->Ext H H'->zE K H' S'->Q vs H'
def xn (K:Aa) (H:Hp) (Q:St->Hp->Prop):yc->SS->Prop:=fun L S'=>∀ Y H',yp K H' L Y->Ext H H'->zE K H' S'->Q Y H'
def xO.ext {K:Aa}{H H':Hp}{Q:VK}(e:Ext H H') {d:D}{S:SS}(h:xO K H Q d S):xO K H' Q d S:=λ v H2 r x q=>h v H2 r (e.trans x) q
def o3.ext {K:Aa}{H H':Hp}{Q:Bool->Hp->Prop}(e:Ext H H') {d:Bool}{S:SS}(h:o3 K H Q d S):o3 K H' Q d S:=λ H2 x q=>h H2 (e.trans x) q
def xn.ext {K:Aa}{H H':Hp}{Q:St->Hp->Prop}(e:Ext H H') {d:yc}{S:SS}(h:xn K H Q d S):xn K H' Q d S:=λ v H2 r x q=>h v H2 r (e.trans x) q
def zU (K:Aa) (t:zx):TE:=fun Y H Q=>∃ L S,yp K H L Y/\zE K H S/\t L S (xO K H Q)
def x_ (K:Aa) (t:yL):TT:=fun Y H Q=>∃ L S,yp K H L Y/\zE K H S/\t L S (o3 K H Q)
def xJ (K:Aa) (t:yb):TA:=fun Y H Q=>∃ L S,yp K H L Y/\zE K H S/\t L S (Rn K H Q)
structure PD (X:Cx) (e:Expr) (t:zx):Prop where
 mo:yz t
 pe:PE X e (zU X.K t)
structure x9 (X:Cx) (e:Expr) (t:yL):Prop where
 mo:vc t
 pt:PT X e (x_ X.K t)
structure xA (X:Cx) (es:List Expr) (t:yb):Prop where
 mo:uM t
 pa:PA X es (xJ X.K t)
def PE.imp {X:Cx}{e:Expr}{t t':TE}(h:PE X e t) (hi:∀ Y H Q,t' Y H Q->t Y H Q):PE X e t':=λ pins s Y H Q I q=>h pins s Y H Q I (hi Y H Q q)
def PT.imp {X:Cx}{e:Expr}{t t':TT}(h:PT X e t) (hi:∀ Y H Q,t' Y H Q->t Y H Q):PT X e t':=λ pins s Y H Q I q=>h pins s Y H Q I (hi Y H Q q)
def PA.imp {X:Cx}{e:List Expr}{t t':TA}(h:PA X e t) (hi:∀ Y H Q,t' Y H Q->t Y H Q):PA X e t':=λ pos pins s Y H Q I q=>h pos pins s Y H Q I (hi Y H Q q)
def PS.imp {X:Cx}{e:Stmt}{t t':TS}(h:PS X e t) (hi:∀ D Y H,t' D Y H->t D Y H):PS X e t':=λ pins s Y H Q I q=>h pins s Y H Q I (hi Q Y H q)
def xF.imp {X:Cx}{e:List Stmt}{t t':TS}(h:xF X e t) (hi:∀ D Y H,t' D Y H->t D Y H):xF X e t':=λ pins s Y H Q I q=>h pins s Y H Q I (hi Q Y H q)
section
variable {X:Cx}{K:Aa}
def zU.go {t:zx}{Y:St}{H:Hp}{Q:VK}{L:yc}{S:SS}{R:DK}(mo:yz t) (r1:yp K H L Y) (r2:zE K H S) (h:t L S R) (k:∀ d S' v H',R d S'->zi K H' d v->Ext H H'->zE K H' S'->Q v H'):zU K t Y H Q:=
 ⟨L,S,r1,r2,mo L S _ _ (λ d S' q v H' a b c=>k d S' v H' q a b c) h⟩
def x_.go {t:yL}{Y:St}{H:Hp}{Q:Bool->Hp->Prop}{L:yc}{S:SS}{R:Bool->SS->Prop}(mo:vc t) (r1:yp K H L Y) (r2:zE K H S) (h:t L S R) (k:∀ d S' H',R d S'->Ext H H'->zE K H' S'->Q d H'):x_ K t Y H Q:=
 ⟨L,S,r1,r2,mo L S _ _ (λ d S' q H' b c=>k d S' H' q b c) h⟩
def xJ.go {t:yb}{Y:St}{H:Hp}{Q:List V->Hp->Prop}{L:yc}{S:SS}{R:List D->SS->Prop}(mo:uM t) (r1:yp K H L Y) (r2:zE K H S) (h:t L S R) (k:∀ d S' v H',R d S'->zm K H' d v->Ext H H'->zE K H' S'->Q v H'):xJ K t Y H Q:=
 ⟨L,S,r1,r2,mo L S _ _ (λ d S' q v H' a b c=>k d S' v H' q a b c) h⟩
def xk (i:Nat):zx:=fun L S Q=>match L[i]? with
 | some (some d)=>Q d S
 | _=>False
def dC (d:D):zx:=λ _ S Q=>Q d S
def Wq (i:Nat) {x:Str}{pos:Pos}(h:PE X (.Name x pos) (pB i)):PD X (.Name x pos) (xk i):=by
 refine⟨fun L S Q Q' hq h=>?_,PE.imp h fun Y H Q hu=>?_⟩
 ·unfold xk at h ⊢
  split at h
  ·exact hq _ _ h
  ·exact h
 ·obtain⟨L,S,r1,r2,h⟩:=hu
  unfold xk at h
  split at h
  ·rename_i d e
   obtain⟨v,h1,h2⟩:=r1.2 i d e
   exact⟨v,h1,h v H h2 (Ext.refl H) r2⟩
  ·exact h.elim
def dC.mo (d:D):yz (dC d):=λ _ _ _ _ hq h=>hq _ _ h
def nY {e:Expr}{d:D}{v:V}(h:PE X e (tC v)) (r:∀ H,zi X.K H d v):PD X e (dC d):=
 ⟨dC.mo d,PE.imp h λ _ H _ ⟨_,_,_,r2,h⟩=>h v H (r H) (Ext.refl H) r2⟩
def zh {i j pos}:PD X (.Constant (.int i) j pos) (dC (.int i)):=nY XT λ _=>by simp only[zi]
def rj {i j pos}:PD X (.Constant (.bool i) j pos) (dC (.bl i)):=nY X_ λ _=>by simp only[zi]
def yE {j pos}:PD X (.Constant .none j pos) (dC .zg):=nY XN λ _=>by simp only[zi]
def qv {x j pos}:PD X (.Constant (.str x) j pos) (dC (.str x)):=nY XG λ _=>by simp only[zi]
abbrev yM:=D->D->SS->DK->Prop
def xC (f:yM):Prop:=∀ x y S (Q Q':DK),(∀ d S',Q d S'->Q' d S')->f x y S Q->f x y S Q'
def xu (K:Aa) (f:yM) (r:R2):Prop:=∀ x y d e H S Q,zi K H d x->zi K H e y->zE K H S->f d e S (xO K H Q)->r x y H Q
def yh (f:yM) (ta tb:zx):zx:=fun L S Q=>ta L S λ x S1=>tb L S1 λ y S2=>f x y S2 Q
def yh.mo {f:yM}{ta tb:zx}(hf:xC f) (ha:yz ta) (hb:yz tb):yz (yh f ta tb):=fun L S Q Q' hq h=>
 ha L S _ _ (λ x S1 h=>hb L S1 _ _ (λ y S2 h=>hf x y S2 _ _ hq h) h) h
def nc {f:yM}{r:R2}{ta tb:zx}(hr:xu K f r) (hf:xC f) (ha:yz ta) (hb:yz tb) {Y:St}{H:Hp}{Q:VK}(h:zU K (yh f ta tb) Y H Q):pC r (zU K ta) (zU K tb) Y H Q:=by
 obtain⟨L,S,r1,r2,h⟩:=h
 refine zU.go ha r1 r2 h λ x S1 v H1 h1 q1 e1 p1=>?_
 refine zU.go hb (r1.ext e1) p1 h1 λ y S2 w H2 h2 q2 e2 p2=>?_
 exact hr v w x y H2 S2 Q (zi.ext e2 x q1) q2 p2 (hf x y S2 _ _ (λ d S' z=>z.ext (e1.trans e2)) h2)
def tT {a b:Expr}{op:Operator}{pos:Pos}{f:yM}{r:R2}{ta tb:zx}(ho:z_ X (binaryOp op) r) (hr:xu X.K f r) (hf:xC f) (ha:PD X a ta) (hb:PD X b tb):PD X (.BinOp a op b pos) (yh f ta tb):=
 ⟨yh.mo hf ha.mo hb.mo,PE.imp (XI ho ha.pe hb.pe) λ _ _ _ h=>nc hr hf ha.mo hb.mo h⟩
def nZ {a b:Expr}{op:CmpOp}{pos:Pos}{f:yM}{r:R2}{ta tb:zx}(ho:z_ X (compareOp op) r) (hr:xu X.K f r) (hf:xC f) (ha:PD X a ta) (hb:PD X b tb) (hm:behindInMarks op b=false):PD X (.Compare a [op] [b] pos) (yh f ta tb):=
 ⟨yh.mo hf ha.mo hb.mo,PE.imp (XW ho ha.pe hb.pe hm) λ _ _ _ h=>nc hr hf ha.mo hb.mo h⟩
def vk (t:zx):yL:=fun L S Q=>t L S λ x S1=>match x with
 | .bl b=>Q b S1
 | _=>False
def vk.mo {t:zx}(h:yz t):vc (vk t):=fun L S Q Q' hq q=>h L S _ _ (λ d S' z=>by
 cases d <;> first
  | exact hq _ _ z
  | exact z) q
def tR {a b:Expr}{op:CmpOp}{pos:Pos}{f:yM}{r:R2}{ta tb:zx}(ho:z_ X (compareOp op) r) (hr:xu X.K f r) (hf:xC f) (ha:PD X a ta) (hb:PD X b tb) (hm:behindInMarks op b=false):x9 X (.Compare a [op] [b] pos) (vk (yh f ta tb)):=by
 refine⟨vk.mo (yh.mo hf ha.mo hb.mo),PT.imp (Xj ho ha.pe hb.pe hm) fun Y H Q h=>?_⟩
 obtain⟨L,S,r1,r2,h⟩:=h
 refine nc hr hf ha.mo hb.mo ⟨L,S,r1,r2,yh.mo hf ha.mo hb.mo L S _ _ (λ d S' z v H' a b c=>?_) h⟩
 cases d with
 | bl k=>simp only[zi] at a;exact⟨k,a,z H' b c⟩
 | _=>exact z.elim
def fI (C:Int->Int->Prop) (g:Int->Int->D):yM:=λ x y S Q=>match x,y with
 | .int i,.int j=>C i j/\Q (g i j) S
 | _,_=>False
def fI.mo {C:Int->Int->Prop}{g:Int->Int->D}:xC (fI C g):=λ x y S Q Q' hq h=>by
 unfold fI at h ⊢
 split at h
 ·exact⟨h.1,hq _ _ h.2⟩
 ·exact h.elim
def yR (g:Int->Int->D):yM:=λ x y S Q=>match x,y with
 | .int i,.int j=>Q (g i j) S
 | _,_=>False
def yR.mo {g:Int->Int->D}:xC (yR g):=λ x y S Q Q' hq h=>by
 unfold yR at h ⊢
 split at h
 ·exact hq _ _ h
 ·exact h.elim
def fI.fits {C:Int->Int->Prop}{g:Int->Int->D}{g':Int->Int->V}(hg:∀ i j H,zi K H (g i j) (g' i j)):xu K (fI C g) (rI C g'):=λ x y d e H S Q h1 h2 h3 h=>by
 unfold fI at h
 split at h
 ·simp only[zi] at h1 h2
  exact⟨_,_,h1,h2,h.1,h.2 _ H (hg _ _ H) (Ext.refl H) h3⟩
 ·exact h.elim
def yR.fits {g:Int->Int->D}{g':Int->Int->V}(hg:∀ i j H,zi K H (g i j) (g' i j)):xu K (yR g) (wq g'):=λ x y d e H S Q h1 h2 h3 h=>by
 unfold yR at h
 split at h
 ·simp only[zi] at h1 h2
  exact⟨_,_,h1,h2,h _ H (hg _ _ H) (Ext.refl H) h3⟩
 ·exact h.elim
variable {a b:Expr}{ta tb:zx}{pos:Pos}
def wQ (ha:PD X a ta) (hb:PD X b tb):PD X (.BinOp a .Sub b pos) (yh (yR λ i j=>.int (i-j)) ta tb):=tT WA (yR.fits λ _ _ _=>by simp only[zi]) yR.mo ha hb
def y7 (ha:PD X a ta) (hb:PD X b tb):PD X (.BinOp a .Mod b pos) (yh (fI (λ _ j=>0<j) λ i j=>.int (i%j)) ta tb):=tT WH (fI.fits λ _ _ _=>by simp only[zi]) fI.mo ha hb
def yO (ha:PD X a ta) (hb:PD X b tb):PD X (.BinOp a .FloorDiv b pos) (yh (fI y6 λ i j=>.int (i/j)) ta tb):=tT WN (fI.fits λ _ _ _=>by simp only[zi]) fI.mo ha hb
def je (ha:PD X a ta) (hb:PD X b tb):PD X (.BinOp a .Pow b pos) (yh (fI tG λ i j=>.int (i ^ j.toNat)) ta tb):=tT WC (fI.fits λ _ _ _=>by simp only[zi]) fI.mo ha hb
def Wt (ha:PD X a ta) (hb:PD X b tb):PD X (.BinOp a .RShift b pos) (yh (fI (λ _ j=>0<=j) λ i j=>.int (i/2 ^ j.toNat)) ta tb):=tT WB (fI.fits λ _ _ _=>by simp only[zi]) fI.mo ha hb
def W2 (ha:PD X a ta) (hb:PD X b tb):PD X (.BinOp a .BitAnd b pos) (yh (yR λ i j=>.int (Builtin.bitAnd i j)) ta tb):=tT WS (yR.fits λ _ _ _=>by simp only[zi]) yR.mo ha hb
abbrev cR:yM:=yR λ i j=>.bl (decide (i<=j))
abbrev ia:yM:=yR λ i j=>.bl (decide (j<i))
abbrev m8:yM:=yR λ i j=>.bl (decide (j<=i))
def fit_le:xu K cR (wq λ i j=>.bl (decide (i<=j))):=yR.fits λ _ _ _=>by simp only[zi]
def SM:xu K ia (wq λ i j=>.bl (decide (j<i))):=yR.fits λ _ _ _=>by simp only[zi]
def cN:xu K m8 (wq λ i j=>.bl (decide (j<=i))):=yR.fits λ _ _ _=>by simp only[zi]
def Wy (ha:PD X a ta) (hb:PD X b tb):PD X (.Compare a [.GtE] [b] pos) (yh m8 ta tb):=nZ e_ cN yR.mo ha hb (vT _)
def Wc (ha:PD X a ta) (hb:PD X b tb):x9 X (.Compare a [.Gt] [b] pos) (vk (yh ia ta tb)):=tR WM SM yR.mo ha hb (vT _)
def Wd (ha:PD X a ta) (hb:PD X b tb):x9 X (.Compare a [.GtE] [b] pos) (vk (yh m8 ta tb)):=tR e_ cN yR.mo ha hb (vT _)
end
section
variable {X:Cx}{K:Aa}{a b c:Expr}{ta tb:zx}{pos:Pos}
def o5 (ta tb:zx):zx:=fun L S Q=>ta L S λ x S1=>match x with
 | .bl k=>if k=true then tb L S1 Q else Q (.bl false) S1
 | _=>False
def o4 (ta:zx):zx:=fun L S Q=>ta L S λ x S1=>match x with
 | .bl k=>Q (.bl (!k)) S1
 | _=>False
def vh {c:Prop} [Decidable c] {A B A' B':Prop}(h1:A->A') (h2:B->B') (h:if c then A else B):if c then A' else B':=by
 by_cases q:c
 ·rw[if_pos q] at h ⊢;exact h1 h
 ·rw[if_neg q] at h ⊢;exact h2 h
def o5.mo (ha:yz ta) (hb:yz tb):yz (o5 ta tb):=fun L S Q Q' hq h=>ha L S _ _ (λ x S1 z=>by
 cases x <;> first
  | exact vh (hb L S1 _ _ hq) (hq _ _) z
  | exact z) h
def o4.mo (ha:yz ta):yz (o4 ta):=fun L S Q Q' hq h=>ha L S _ _ (λ x S1 z=>by
 cases x <;> first
  | exact hq _ _ z
  | exact z) h
def tU {op} {t:zx}(h:PD X a t):PD X (.BoolOp op [a] pos) t:=⟨h.mo,XJ h.pe⟩
variable {rest:List Expr}
def uu (ha:PD X a ta) (hb:PD X (.BoolOp .And (b::rest) pos) tb):PD X (.BoolOp .And (a::b::rest) pos) (o5 ta tb):=by
 refine⟨o5.mo ha.mo hb.mo,PE.imp (Wa ha.pe hb.pe) fun Y H Q hu=>?_⟩
 obtain⟨L,S,r1,r2,h⟩:=hu
 refine zU.go ha.mo r1 r2 h λ x S1 v H1 h1 q1 e1 p1=>?_
 cases x with
 | bl k=>
  simp only[zi] at q1
  refine⟨k,q1,vh (λ z=>?_) (λ z=>?_) h1⟩
  ·exact zU.go hb.mo (r1.ext e1) p1 z λ y S2 w H2 h2 q2 e2 p2=>h2 w H2 q2 (e1.trans e2) p2
  ·exact z _ H1 (by simp only[zi]) e1 p1
 | _=>exact h1.elim
def Wu (ha:PD X a ta):PD X (.UnaryOp .Not a pos) (o4 ta):=by
 refine⟨o4.mo ha.mo,PE.imp (XM ha.pe) fun Y H Q hu=>?_⟩
 obtain⟨L,S,r1,r2,h⟩:=hu
 refine zU.go ha.mo r1 r2 h λ x S1 v H1 h1 q1 e1 p1=>?_
 cases x with
 | bl k=>
  simp only[zi] at q1
  exact⟨k,q1,h1 _ H1 (by simp only[zi]) e1 p1⟩
 | _=>exact h1.elim
def oz (t u:yL):yL:=fun L S Q=>t L S λ k S1=>if k=true then u L S1 Q else Q false S1
def ox (t u:yL):yL:=fun L S Q=>t L S λ k S1=>if k=true then Q true S1 else u L S1 Q
def oy (t:yL):yL:=fun L S Q=>t L S λ k S1=>Q (!k) S1
variable {t u:yL}
def oz.mo (h:vc t) (h':vc u):vc (oz t u):=fun L S _ _ hq z=>h L S _ _ (λ k S1 z=>vh (h' L S1 _ _ hq) (hq _ _) z) z
def ox.mo (h:vc t) (h':vc u):vc (ox t u):=fun L S _ _ hq z=>h L S _ _ (λ k S1 z=>vh (hq _ _) (h' L S1 _ _ hq) z) z
def oy.mo (h:vc t):vc (oy t):=fun L S _ _ hq z=>h L S _ _ (λ k S1 z=>hq _ _ z) z
structure yS (X:Cx) (e:Expr) (t:yL):Prop where
 mo:vc t
 pw:PW X e (x_ X.K t)
def PW.imp {e:Expr}{t t':TT}(h:PW X e t) (hi:∀ Y H Q,t' Y H Q->t Y H Q):PW X e t':=λ whole pins s Y H Q I q=>h whole pins s Y H Q I (hi Y H Q q)
theorem yS.pt {e:Expr}{t:yL}(h:yS X e t):x9 X e t:=⟨h.mo,PW.pt h.pw⟩
def qr (h:x9 X a t):yS X (.BoolOp .And [a] pos) t:=⟨h.mo,Xf h.pt⟩
def v8 (h:x9 X a t):yS X (.BoolOp .Or [a] pos) t:=⟨h.mo,Xd h.pt⟩
def qt (ha:x9 X a t) (hb:yS X (.BoolOp .And (b::rest) pos) u):yS X (.BoolOp .And (a::b::rest) pos) (oz t u):=by
 refine⟨oz.mo ha.mo hb.mo,PW.imp (Xg ha.pt hb.pw) fun Y H Q hu=>?_⟩
 obtain⟨L,S,r1,r2,h⟩:=hu
 refine x_.go ha.mo r1 r2 h λ k S1 H1 h1 e1 p1=>vh (λ z=>?_) (λ z=>z H1 e1 p1) h1
 exact x_.go hb.mo (r1.ext e1) p1 z λ y S2 H2 h2 e2 p2=>h2 H2 (e1.trans e2) p2
def wC (ha:x9 X a t) (hb:yS X (.BoolOp .Or (b::rest) pos) u):yS X (.BoolOp .Or (a::b::rest) pos) (ox t u):=by
 refine⟨ox.mo ha.mo hb.mo,PW.imp (Xe ha.pt hb.pw) fun Y H Q hu=>?_⟩
 obtain⟨L,S,r1,r2,h⟩:=hu
 refine x_.go ha.mo r1 r2 h λ k S1 H1 h1 e1 p1=>vh (λ z=>z H1 e1 p1) (λ z=>?_) h1
 exact x_.go hb.mo (r1.ext e1) p1 z λ y S2 H2 h2 e2 p2=>h2 H2 (e1.trans e2) p2
def sX (ha:x9 X a t):x9 X (.UnaryOp .Not a pos) (oy t):=by
 refine⟨oy.mo ha.mo,PT.imp (Xi ha.pt) fun Y H Q hu=>?_⟩
 obtain⟨L,S,r1,r2,h⟩:=hu
 exact x_.go ha.mo r1 r2 h λ k S1 H1 h1 e1 p1=>h1 H1 e1 p1
def vd (d:D) (S:SS) (Q:Bool->SS->Prop):Prop:=match d with
 | .zg=>Q false S
 | .bl k=>Q k S
 | .int i=>Q (i != 0) S
 | .str x=>x.length<=sizeLine/\Q ((x.length:Int) != 0) S
 | .tup ds=>Q (!ds.isEmpty) S
 | .xx ds=>Q (!ds.isEmpty) S
 | .ref p=>match S p with
  | some (.lst ds)=>Q (!ds.isEmpty) S
  | some (.yo Ae)=>Q (!Ae.isEmpty) S
  | none=>False
 | .err _ _ _=>False
def cY (ta:zx):yL:=fun L S Q=>ta L S λ x S1=>vd x S1 Q
def vd.mo {d:D}{S:SS}{Q Q':Bool->SS->Prop}(hq:∀ k S',Q k S'->Q' k S') (h:vd d S Q):vd d S Q':=by
 cases d with
 | str x=>exact⟨h.1,hq _ _ h.2⟩
 | err _ _ _=>exact h.elim
 | ref p=>
  unfold vd at h ⊢
  dsimp only at h ⊢
  split at h
  ·exact hq _ _ h
  ·exact hq _ _ h
  ·exact h
 | _=>exact hq _ _ h
theorem zm.isEmpty {H:Hp}{ds:List D}{xs:List V}(h:zm K H ds xs):ds.isEmpty=xs.isEmpty:=by
 have:=h.length
 cases ds <;> cases xs <;> simp_all
def Ql {α β:Type}{F:α->β->Prop}{xs:List α}{ys:List β}(h:Paired F xs ys):xs.isEmpty=ys.isEmpty:=by cases h <;> rfl
def vd.fits {H:Hp}{d:D}{v:V}{S:SS}{Q:Bool->Hp->Prop}(r:zi K H d v) (p:zE K H S) (h:vd d S (o3 K H Q)):∃ k,iI K v H k/\Q k H:=by
 cases d with
 | zg=>simp only[zi] at r;subst r;exact⟨false,rfl,h H (.refl H) p⟩
 | bl k=>simp only[zi] at r;subst r;exact⟨k,rfl,h H (.refl H) p⟩
 | int i=>simp only[zi] at r;subst r;exact⟨_,rfl,h H (.refl H) p⟩
 | str x=>simp only[zi] at r;subst r;exact⟨_,⟨h.1,rfl⟩,h.2 H (.refl H) p⟩
 | err _ _ _=>exact h.elim
 | tup ds=>
  simp only[zi] at r
  obtain⟨a,xs,rfl,r1,r2⟩:=r
  exact⟨_,.inr (.inl ⟨xs,r1,by rw[r2.isEmpty]⟩),h H (.refl H) p⟩
 | xx ds=>
  simp only[zi] at r
  obtain⟨a,xs,rfl,r1,r2⟩:=r
  exact⟨_,.inl ⟨xs,r1.sq,by rw[r2.isEmpty]⟩,h H (.refl H) p⟩
 | ref a=>
  simp only[zi] at r
  subst r
  unfold vd at h
  dsimp only at h
  split at h
  ·rename_i ds e
   obtain⟨xs,e1,r2⟩:=p a _ e
   exact⟨_,.inl ⟨xs,zP.of e1,by rw[r2.isEmpty]⟩,h H (.refl H) p⟩
  ·rename_i Ae e
   obtain⟨xs,e1,r2⟩:=p a _ e
   exact⟨_,.inr (.inr ⟨xs,e1,by rw[Ql r2]⟩),h H (.refl H) p⟩
  ·exact h.elim
def xU (ha:PD X a ta) (he:∀ whole,isTrue a X.env whole=(do let v <- whole;standAt a.pos;holding [v] (truthy v)):=by intro _;rfl):x9 X a (cY ta):=by
 refine⟨fun L S Q Q' hq h=>ha.mo L S _ _ (λ x S1 z=>vd.mo hq z) h,PT.imp (Xh ha.pe he) fun Y H Q hu=>?_⟩
 obtain⟨L,S,r1,r2,h⟩:=hu
 refine zU.go ha.mo r1 r2 h λ x S1 v H1 h1 q1 e1 p1=>?_
 exact vd.fits q1 p1 (vd.mo (λ k S' z=>z.ext e1) h1)
def il:yb:=λ _ S Q=>Q [] S
def qN (te:zx) (tr:yb):yb:=fun L S Q=>te L S λ x S1=>tr L S1 λ xs S2=>Q (x::xs) S2
variable {e:Expr}{es:List Expr}{te:zx}{tA:yb}
def qN.mo (h:yz te) (h':uM tA):uM (qN te tA):=fun L S _ _ hq z=>h L S _ _ (λ x S1 z=>h' L S1 _ _ (λ xs S2 z=>hq _ _ z) z) z
def zq:xA X [] il:=⟨λ _ _ _ _ hq h=>hq _ _ h,PA.imp qx fun Y H Q ⟨_,_,_,r2,h⟩=>h [] H .nil (.refl H) r2⟩
def zf (ha:PD X e te) (hr:xA X es tA) (hs:starEach (e::es) X.env=(false,eval e X.env)::starEach es X.env:=by rfl):xA X (e::es) (qN te tA):=by
 refine⟨qN.mo ha.mo hr.mo,PA.imp (tW ha.pe hr.pa hs) fun Y H Q hu=>?_⟩
 obtain⟨L,S,r1,r2,h⟩:=hu
 refine zU.go ha.mo r1 r2 h λ x S1 v H1 h1 q1 e1 p1=>?_
 refine xJ.go hr.mo (r1.ext e1) p1 h1 λ xs S2 w H2 h2 q2 e2 p2=>?_
 exact h2 (v::w) H2 (.cons (zi.ext e2 x q1) q2) (e1.trans e2) p2
def bo (t:yb):zx:=fun L S Q=>t L S λ ds S1=>ds.length<=sizeLine/\Q (.tup ds) S1
def bw (t:yb):zx:=fun L S Q=>t L S λ ds S1=>ds.length<=sizeLine/\∀ p,S1 p=none->Q (.ref p) (ups S1 p (.lst ds))
def yX {k} (h:xA X es tA):PD X (.Tuple es k pos) (bo tA):=by
 refine⟨fun L S _ _ hq z=>h.mo L S _ _ (λ ds S1 z=>⟨z.1,hq _ _ z.2⟩) z,PE.imp (XF h.pa) fun Y H Q hu=>?_⟩
 obtain⟨L,S,r1,r2,h'⟩:=hu
 refine xJ.go h.mo r1 r2 h' λ ds S1 xs H1 h1 q1 e1 p1=>⟨by rw[<- q1.length];exact h1.1,λ p hp=>?_⟩
 refine h1.2 _ _ ?_ (e1.trans (.new hp _)) (p1.new hp)
 simp only[zi]
 exact⟨p,xs,rfl,zY.of yq,zm.ext (.new hp _) ds q1⟩
def xj (h:xA X es tA):PD X (.List es pos) (bw tA):=by
 refine⟨fun L S _ _ hq z=>h.mo L S _ _ (λ ds S1 z=>⟨z.1,λ p hp=>hq _ _ (z.2 p hp)⟩) z,PE.imp (XO h.pa) fun Y H Q hu=>?_⟩
 obtain⟨L,S,r1,r2,h'⟩:=hu
 refine xJ.go h.mo r1 r2 h' λ ds S1 xs H1 h1 q1 e1 p1=>⟨by rw[<- q1.length];exact h1.1,λ p hp=>?_⟩
 refine h1.2 p (p1.none hp) _ _ (by simp only[zi]) (e1.trans (.new hp _)) ?_
 exact p1.ups (.new hp _) ⟨xs,yq,zm.ext (.new hp _) ds q1⟩
def xW:yM:=λ x y S Q=>match x,y with
 | .tup ds,.int i=>match zD ds i with
  | some d=>Q d S
  | none=>False
 | .xx ds,.int i=>match zD ds i with
  | some d=>Q d S
  | none=>False
 | .ref p,.int i=>match S p with
  | some (.lst ds)=>match zD ds i with
   | some d=>Q d S
   | none=>False
  | _=>False
 | _,_=>False
def xW.mo:xC xW:=λ x y S Q Q' hq h=>by
 unfold xW at h ⊢
 split at h
 ·skip
  split at h
  ·exact hq _ _ h
  ·exact h
 ·skip
  split at h
  ·exact hq _ _ h
  ·exact h
 ·skip
  split at h
  ·skip
   split at h
   ·exact hq _ _ h
   ·exact h
  ·exact h.elim
 ·exact h.elim
theorem zm.zD {H:Hp}{ds:List D}{xs:List V}{i:Int}{d:D}(h:zm K H ds xs) (e:L2.zD ds i=some d):∃ x,L2.zD xs i=some x/\zi K H d x:=by
 unfold L2.zD at e ⊢
 rw[h.length] at e
 cases q:xV xs.length i with
 | none=>rw[q] at e;cases e
 | some j=>
  rw[q] at e
  exact h.get e
def xW.fits:xu K xW (fZ K):=λ x y d e H S Q h1 h2 h3 h=>by
 unfold xW at h
 split at h
 ·split at h
  ·rename_i q
   simp only[zi] at h1 h2
   obtain⟨a,xs,rfl,r1,r2⟩:=h1
   obtain⟨x',e1,e2⟩:=r2.zD q
   exact .inr (.inl ⟨a,xs,_,x',rfl,h2,r1,e1,h x' H e2 (.refl H) h3⟩)
  ·exact h.elim
 ·split at h
  ·rename_i q
   simp only[zi] at h1 h2
   obtain⟨a,xs,rfl,r1,r2⟩:=h1
   obtain⟨x',e1,e2⟩:=r2.zD q
   exact .inl ⟨a,xs,_,x',rfl,h2,r1.sq,e1,h x' H e2 (.refl H) h3⟩
  ·exact h.elim
 ·split at h
  ·rename_i q0
   split at h
   ·rename_i q
    simp only[zi] at h1 h2
    subst h1
    obtain⟨xs,r1,r2⟩:=h3 _ _ q0
    obtain⟨x',e1,e2⟩:=r2.zD q
    exact .inl ⟨_,xs,_,x',rfl,h2,zP.of r1,e1,h x' H e2 (.refl H) h3⟩
   ·exact h.elim
  ·exact h.elim
 ·exact h.elim
def zv (ha:PD X a ta) (hb:PD X b tb) (hs:bZ b:=by exact λ _ _=>rfl):PD X (.Subscript a b pos) (yh xW ta tb):=
 ⟨yh.mo xW.mo ha.mo hb.mo,PE.imp (XR T3 ha.pe hb.pe hs) λ _ _ _ h=>nc xW.fits xW.mo ha.mo hb.mo h⟩
abbrev xZ:=List D->SS->DK->Prop
def uj (f:xZ):Prop:=∀ ds S (Q Q':DK),(∀ d S',Q d S'->Q' d S')->f ds S Q->f ds S Q'
def tE (K:Aa) (f:xZ) (r:List V->Hp->VK->Prop):Prop:=∀ xs ds H S Q,zm K H ds xs->zE K H S->f ds S (xO K H Q)->r xs H Q
def wX (f:xZ) (t:yb):zx:=fun L S Q=>t L S λ ds S1=>f ds S1 Q
def wX.mo {f:xZ}(hf:uj f) (h:uM tA):yz (wX f tA):=fun L S _ _ hq z=>h L S _ _ (λ ds S1 z=>hf ds S1 _ _ hq z) z
def Z2 {f:xZ}{r:List V->Hp->VK->Prop}(hf:uj f) (hr:tE K f r) (h:uM tA) {Y:St}{H:Hp}{Q:VK}(hu:zU K (wX f tA) Y H Q):nk r (xJ K tA) Y H Q:=by
 obtain⟨L,S,r1,r2,h'⟩:=hu
 refine xJ.go h r1 r2 h' λ ds S1 xs H1 h1 q1 e1 p1=>?_
 exact hr xs ds H1 S1 Q q1 p1 (hf ds S1 _ _ (λ d S' z=>z.ext e1) h1)
def qw {f:xZ}{r:List V->Hp->VK->Prop}{e:Expr}(h:PE X e (nk r (xJ X.K tA))) (hf:uj f) (hr:tE X.K f r) (ha:uM tA):PD X e (wX f tA):=
 ⟨wX.mo hf ha,PE.imp h λ _ _ _ hu=>Z2 hf hr ha hu⟩
noncomputable def zZ (d:D) (S:SS):Option (List D):=match d with
 | .tup ds=>some ds
 | .xx ds=>some ds
 | .ref p=>match S p with
  | some (.lst ds)=>some ds
  | _=>none
 | _=>none
theorem zZ.sq {H:Hp}{S:SS}{d:D}{v:V}{ds:List D}(r:zi K H d v) (p:zE K H S) (e:zZ d S=some ds):∃ a xs,v=.ref a/\(zP K H a xs\/zY K H a xs)/\zm K H ds xs:=by
 unfold zZ at e
 split at e
 ·cases e
  simp only[zi] at r
  obtain⟨a,xs,h1,h2,h3⟩:=r
  exact⟨a,xs,h1,.inr h2,h3⟩
 ·cases e
  simp only[zi] at r
  obtain⟨a,xs,h1,h2,h3⟩:=r
  exact⟨a,xs,h1,.inl h2.sq,h3⟩
 ·split at e
  ·rename_i q
   cases e
   simp only[zi] at r
   subst r
   obtain⟨xs,h1,h2⟩:=p _ _ q
   exact⟨_,xs,rfl,.inl (zP.of h1),h2⟩
  ·cases e
 ·cases e
def zm.one {H:Hp}{d:D}{xs:List V}(h:zm K H [d] xs):∃ x,xs=[x]/\zi K H d x:=by
 simp only[zm] at h
 obtain⟨x,r,rfl,h2,rfl⟩:=h
 exact⟨x,rfl,h2⟩
def zm.two {H:Hp}{d d':D}{xs:List V}(h:zm K H [d,d'] xs):∃ x y,xs=[x,y]/\zi K H d x/\zi K H d' y:=by
 simp only[zm] at h
 obtain⟨x,r,rfl,h2,y,r',rfl,h3,rfl⟩:=h
 exact⟨x,y,rfl,h2,h3⟩
def vE:xZ:=λ ds S Q=>match ds with
 | [d]=>match zZ d S with
  | some ds=>Q (.int ds.length) S
  | none=>match d with
   | .str z=>z.length<=sizeLine/\Q (.int z.length) S
   | _=>False
 | _=>False
def vE.mo:uj vE:=λ ds S Q Q' hq h=>by
 unfold vE at h ⊢
 split at h
 ·skip
  split at h
  ·exact hq _ _ h
  ·split at h
   ·exact⟨h.1,hq _ _ h.2⟩
   ·exact h.elim
 ·exact h.elim
abbrev Xc (K:Aa):List V->Hp->VK->Prop:=λ xs H Q=>(∃ p ys,xs=[.ref p]/\(zP K H p ys\/zY K H p ys)/\Q (.int ys.length) H)\/(∃ z,xs=[.str z]/\z.length<=sizeLine/\Q (.int z.length) H)
def vE.fits:tE K vE (Xc K):=λ xs ds H S Q h0 h2 h=>by
 unfold vE at h
 split at h
 ·obtain⟨x,hx,h1⟩:=h0.one;subst hx
  split at h
  ·rename_i e
   obtain⟨a,ys,rfl,q,r⟩:=zZ.sq h1 h2 e
   refine .inl ⟨a,ys,rfl,q,?_⟩
   rw[<- r.length]
   exact h _ H (by simp only[zi]) (.refl H) h2
  ·split at h
   ·simp only[zi] at h1
    subst h1
    exact .inr ⟨_,rfl,h.1,h.2 _ H (by simp only[zi]) (.refl H) h2⟩
   ·exact h.elim
 ·exact h.elim
def vD:xZ:=λ ds S Q=>match ds with
 | [d]=>match zZ d S with
  | some ds=>∀ p,S p=none->Q (.ref p) (ups S p (.lst ds))
  | none=>False
 | _=>False
def vD.mo:uj vD:=λ ds S Q Q' hq h=>by
 unfold vD at h ⊢
 split at h
 ·skip
  split at h
  ·exact λ p hp=>hq _ _ (h p hp)
  ·exact h.elim
 ·exact h.elim
def vD.fits:tE K vD (λ xs H Q=>∃ p ys,xs=[.ref p]/\(zP K H p ys\/zY K H p ys)/\∀ l,H l=none->Q (.ref l) (upd H l (.lst ys))):=λ xs ds H S Q h0 h2 h=>by
 unfold vD at h
 split at h
 ·obtain⟨x,hx,h1⟩:=h0.one;subst hx
  split at h
  ·rename_i e
   obtain⟨a,ys,rfl,q,r⟩:=zZ.sq h1 h2 e
   refine⟨a,ys,rfl,q,λ l hl=>?_⟩
   exact h l (h2.none hl) _ _ (by simp only[zi]) (.new hl _) (h2.ups (.new hl _) ⟨ys,yq,zm.ext (.new hl _) _ r⟩)
  ·exact h.elim
 ·exact h.elim
def vC:xZ:=λ ds S Q=>match ds with
 | [.tup ds]=>Q (.tup ds) S
 | [.xx ds]=>Q (.tup ds) S
 | [.ref p]=>match S p with
  | some (.lst ds)=>Q (.tup ds) S
  | _=>False
 | _=>False
def vC.mo:uj vC:=λ ds S Q Q' hq h=>by
 unfold vC at h ⊢
 split at h
 ·exact hq _ _ h
 ·exact hq _ _ h
 ·skip
  split at h
  ·exact hq _ _ h
  ·exact h.elim
 ·exact h.elim
def vC.fits:tE K vC (λ xs H Q=>∃ p ys,xs=[.ref p]/\((zP K H p ys/\∀ l,H l=none->Q (.ref l) (upd H l (.tup ys)))\/(zY K H p ys/\Q (.ref p) H))):=λ xs ds H S Q h0 h2 h=>by
 unfold vC at h
 split at h
 ·obtain⟨x,hx,h1⟩:=h0.one;subst hx
  have h1':=h1
  simp only[zi] at h1
  obtain⟨a,xs,rfl,r1,r2⟩:=h1
  exact⟨a,xs,rfl,.inr ⟨r1,h _ H h1' (.refl H) h2⟩⟩
 ·obtain⟨x,hx,h1⟩:=h0.one;subst hx
  simp only[zi] at h1
  obtain⟨a,xs,rfl,r1,r2⟩:=h1
  refine⟨a,xs,rfl,.inl ⟨r1.sq,λ l hl=>h _ _ ?_ (.new hl _) (h2.new hl)⟩⟩
  simp only[zi]
  exact⟨l,xs,rfl,zY.of yq,zm.ext (.new hl _) _ r2⟩
 ·obtain⟨x,hx,h1⟩:=h0.one;subst hx
  split at h
  ·rename_i e
   simp only[zi] at h1
   subst h1
   obtain⟨xs,r1,r2⟩:=h2 _ _ e
   refine⟨_,xs,rfl,.inl ⟨zP.of r1,λ l hl=>h _ _ ?_ (.new hl _) (h2.new hl)⟩⟩
   simp only[zi]
   exact⟨l,xs,rfl,zY.of yq,zm.ext (.new hl _) _ r2⟩
  ·exact h.elim
 ·exact h.elim
def u7 (g:Int->Int->D):xZ:=λ ds S Q=>match ds with
 | [.int i,.int j]=>Q (g i j) S
 | _=>False
def u7.mo {g:Int->Int->D}:uj (u7 g):=λ ds S Q Q' hq h=>by
 unfold u7 at h ⊢
 split at h
 ·exact hq _ _ h
 ·exact h.elim
def u7.fits {g:Int->Int->D}{g':Int->Int->V}(hg:∀ i j H,zi K H (g i j) (g' i j)):tE K (u7 g) (λ xs H Q=>∃ i j,xs=[.int i,.int j]/\Q (g' i j) H):=λ xs ds H S Q h0 h2 h=>by
 unfold u7 at h
 split at h
 ·obtain⟨x,y,hx,h1,h3⟩:=h0.two;subst hx
  simp only[zi] at h1 h3
  subst h1 h3
  exact⟨_,_,rfl,h _ H (hg _ _ H) (.refl H) h2⟩
 ·exact h.elim
def zal:yM:=λ x y S Q=>match x,y with
 | .ref p,.ref q=>match S p,S q with
  | some (.lst ds),some (.lst es)=>ds.length+es.length<=sizeLine/\∀ r,S r=none->Q (.ref r) (ups S r (.lst (ds++es)))
  | _,_=>False
 | _,_=>False
def sr (to te:zx):zx:=fun L S Q=>to L S λ x S1=>match x with
 | .ref p=>(∃ ds,S1 p=some (.lst ds))/\te L S1 λ y S2=>match S2 p with
  | some (.lst ds)=>ds.length<sizeLine/\Q .zg (ups S2 p (.lst (ds++[y])))
  | _=>False
 | _=>False
def sr.mo {to te:zx}(h:yz to) (h':yz te):yz (sr to te):=fun L S Q Q' hq z=>h L S _ _ (λ x S1 z=>by
 cases x with
 | ref p=>
  refine⟨z.1,h' L S1 _ _ (λ y S2 w=>?_) z.2⟩
  split at w
  ·exact⟨w.1,hq _ _ w.2⟩
  ·exact w.elim
 | _=>exact z) z
def W3 {o e:Expr}{to te:zx}{e0:Expr}(hpe:PE X e0 (gW X.K "list" ej (zU X.K to) (lT (zU X.K te) lR))) (h:yz to) (h':yz te):PD X e0 (sr to te):=by
 refine⟨sr.mo h h',PE.imp hpe fun Y H Q hu=>?_⟩
 obtain⟨L,S,r1,r2,z⟩:=hu
 refine zU.go h r1 r2 z λ x S1 v H1 h1 q1 e1 p1=>?_
 cases x with
 | ref p=>
  obtain⟨⟨ds,hd⟩,h1⟩:=h1
  simp only[zi] at q1
  subst q1
  obtain⟨xs,g1,g2⟩:=p1 _ _ hd
  refine⟨.inl ⟨rfl,xs,zP.of g1⟩,?_⟩
  refine zU.go h' (r1.ext e1) p1 h1 λ y S2 w H2 h2 q2 e2 p2=>?_
  split at h2
  ·rename_i ds' e3
   obtain⟨xs',g3,g4⟩:=p2 _ _ e3
   refine⟨p,xs',w,rfl,rfl,g3,by rw[<- g4.length];exact h2.1,?_⟩
   have e4:Ext H2 (upd H2 p (.lst (xs'++[w]))):=.lst g3 _
   exact h2.2 _ _ (by simp only[zi]) ((e1.trans e2).trans e4) (p2.ups e4 ⟨_,yq,zm.ext e4 _ (g4.snoc q2)⟩)
  ·exact h2.elim
 | _=>exact h1.elim
end
structure sG where
 nx:yc->SS->Prop
 rt:DK
 bk:yc->SS->Prop:=λ _ _=>False
 ct:yc->SS->Prop:=λ _ _=>False
abbrev yk:=sG->yc->SS->Prop
structure sG.Le (E E':sG):Prop where
 nx:∀ L S,E.nx L S->E'.nx L S
 rt:∀ d S,E.rt d S->E'.rt d S
 bk:∀ L S,E.bk L S->E'.bk L S
 ct:∀ L S,E.ct L S->E'.ct L S
def uL (t:yk):Prop:=∀ E E' L S,sG.Le E E'->t E L S->t E' L S
def vH (K:Aa) (H:Hp) (D:Ends):sG:=⟨xn K H D.nx,xO K H D.rt,xn K H D.bk,xn K H D.ct⟩
theorem vH.ext {K:Aa}{H H':Hp}{D:Ends}(e:Ext H H'):(vH K H D).Le (vH K H' D):=⟨λ _ _ h=>xn.ext e h,λ _ _ h=>xO.ext e h,λ _ _ h=>xn.ext e h,λ _ _ h=>xn.ext e h⟩
def lM (K:Aa) (t:yk):TS:=λ D Y H=>∃ L S,yp K H L Y/\zE K H S/\t (vH K H D) L S
structure w_ (X:Cx) (st:Stmt) (t:yk):Prop where
 mo:uL t
 ps:PS X st (lM X.K t)
structure ui (X:Cx) (st:List Stmt) (t:yk):Prop where
 mo:uL t
 ps:xF X st (lM X.K t)
section
variable {X:Cx}{K:Aa}{st:Stmt}{rest:List Stmt}{t u:yk}{pos:Pos}{e:Expr}{te:zx}
def ip:yk:=λ E L S=>E.nx L S
def rC (t u:yk):yk:=λ E L S=>t { E with nx:=u E } L S
def rC.mo (h:uL t) (h':uL u):uL (rC t u):=λ E E' L S hE z=>h { E with nx:=u E } { E' with nx:=u E' } L S ⟨fun L S q=>h' E E' L S hE q,hE.rt,hE.bk,hE.ct⟩ z
def yu:ui X [] ip:=⟨λ _ _ _ _ hE h=>hE.nx _ _ h,xF.imp Xk λ D Y H ⟨L,S,r1,r2,h⟩=>h Y H r1 (.refl H) r2⟩
def zJ (h:w_ X st t):ui X [st] t:=⟨h.mo,kQ h.ps⟩
def zy (h:w_ X st t) (h':ui X rest u):ui X (st::rest) (rC t u):=by
 refine⟨rC.mo h.mo h'.mo,xF.imp (Xl h.ps h'.ps) λ D Y H hu=>?_⟩
 obtain⟨L,S,r1,r2,z⟩:=hu
 refine⟨L,S,r1,r2,h.mo { vH X.K H D with nx:=u (vH X.K H D) } _ L S ⟨fun L' S' q Y' H' q1 q2 q3=>?_,λ _ _ q=>q,λ _ _ q=>q,λ _ _ q=>q⟩ z⟩
 exact⟨L',S',q1,q3,h'.mo _ _ L' S' (vH.ext q2) q⟩
def b6:yk:=λ E L S=>E.bk L S
def Wg:w_ X (.Break pos) b6:=⟨λ _ _ _ _ hE h=>hE.bk _ _ h,PS.imp Xr λ D Y H ⟨L,S,r1,r2,h⟩=>h Y H r1 (.refl H) r2⟩
def ir (te:zx):yk:=λ E L S=>te L S λ _ S1=>E.nx L S1
def tS (he:PD X e te) (hs:swapsWith e none pos.line X.env=pure false:=by rfl):w_ X (.Expr e pos) (ir te):=by
 refine⟨λ E E' L S hE z=>he.mo L S _ _ (λ _ _ q=>hE.nx _ _ q) z,PS.imp (Xq he.pe hs) λ D Y H hu=>?_⟩
 obtain⟨L,S,r1,r2,z⟩:=hu
 exact zU.go he.mo r1 r2 z λ x S1 v H1 h1 q1 e1 p1=>h1 Y H1 (r1.ext e1) e1 p1
def ik (te:zx):yk:=λ E L S=>te L S E.rt
def zR (he:PD X e te):w_ X (.Return (some e) pos) (ik te):=by
 refine⟨λ E E' L S hE z=>he.mo L S _ _ (λ _ _ q=>hE.rt _ _ q) z,PS.imp (Xo he.pe) λ D Y H hu=>?_⟩
 obtain⟨L,S,r1,r2,z⟩:=hu
 exact zU.go he.mo r1 r2 z λ x S1 v H1 h1 q1 e1 p1=>h1 v H1 q1 e1 p1
def iq (c:yL) (t u:yk):yk:=λ E L S=>c L S λ k S1=>if k=true then t E L S1 else u E L S1
def yv {c:Expr}{p q:List Stmt}{tc:yL}(hc:x9 X c tc) (h:ui X p t) (h':ui X q u):w_ X (.If c p q pos) (iq tc t u):=by
 refine⟨λ E E' L S hE z=>hc.mo L S _ _ (λ k S1 z=>vh (h.mo _ _ L S1 hE) (h'.mo _ _ L S1 hE) z) z,PS.imp (Xp hc.pt h.ps h'.ps) λ D Y H hu=>?_⟩
 obtain⟨L,S,r1,r2,z⟩:=hu
 refine x_.go hc.mo r1 r2 z λ k S1 H1 h1 e1 p1=>vh (λ z=>?_) (λ z=>?_) h1
 ·exact⟨L,S1,r1.ext e1,p1,h.mo _ _ L S1 (vH.ext e1) z⟩
 ·exact⟨L,S1,r1.ext e1,p1,h'.mo _ _ L S1 (vH.ext e1) z⟩
abbrev yU:=D->yc->SS->(yc->SS->Prop)->Prop
abbrev wx:=List D->yc->SS->(yc->SS->Prop)->Prop
def oH (t:yU):Prop:=∀ d L S (Q Q':yc->SS->Prop),(∀ L S,Q L S->Q' L S)->t d L S Q->t d L S Q'
def ag (t:wx):Prop:=∀ d L S (Q Q':yc->SS->Prop),(∀ L S,Q L S->Q' L S)->t d L S Q->t d L S Q'
def p8 (K:Aa) (t:yU):TG:=λ v Y H Q=>∃ d L S,zi K H d v/\yp K H L Y/\zE K H S/\t d L S (xn K H Q)
def gM (K:Aa) (t:wx):t9:=λ v Y H Q=>∃ d L S,zm K H d v/\yp K H L Y/\zE K H S/\t d L S (xn K H Q)
structure uK (X:Cx) (e:Expr) (t:yU):Prop where
 mo:oH t
 pg:PG X e (p8 X.K t)
structure mR (X:Cx) (es:List Expr) (t:wx):Prop where
 mo:ag t
 pg:uH X es (gM X.K t)
def PG.imp {e:Expr}{t t':TG}(h:PG X e t) (hi:∀ v Y H Q,t' v Y H Q->t v Y H Q):PG X e t':=λ pins s Y H v w Q I r q=>h pins s Y H v w Q I r (hi v Y H Q q)
def uH.imp {e:List Expr}{t t':t9}(h:uH X e t) (hi:∀ v Y H Q,t' v Y H Q->t v Y H Q):uH X e t':=λ pins s Y H v w Q I r q=>h pins s Y H v w Q I r (hi v Y H Q q)
def hName (i:Nat):yU:=λ d L S Q=>Q (L.set i (some d)) S
def Wo {e:Expr}{i:Nat}(h:PG X e (qK i)):uK X e (hName i):=
 ⟨λ _ _ _ _ _ hq z=>hq _ _ z,PG.imp h λ v Y H Q ⟨d,L,S,r1,r2,r3,z⟩=>z _ H (r2.set i r1) (.refl H) r3⟩
def jI:wx:=λ ds L S Q=>ds=[]/\Q L S
def jJ (t:yU) (u:wx):wx:=λ ds L S Q=>match ds with
 | d::r=>t d L S fun L' S'=>u r L' S' Q
 | []=>False
def ja:mR X [] jI:=by
 refine⟨λ _ _ _ _ _ hq z=>⟨z.1,hq _ _ z.2⟩,uH.imp X5 λ v Y H Q hu=>?_⟩
 obtain⟨d,L,S,r1,r2,r3,z1,z2⟩:=hu
 subst z1
 simp only[zm] at r1
 exact⟨r1,z2 Y H r2 (.refl H) r3⟩
def s_ {e:Expr}{es:List Expr}{t:yU}{u:wx}(h:uK X e t) (h':mR X es u) (hs:(assignEach (e::es) X.env).map (·.2)=assign e X.env::(assignEach es X.env).map (·.2):=by rfl):mR X (e::es) (jJ t u):=by
 refine⟨λ ds L S Q Q' hq z=>?_,uH.imp (X6 h.pg h'.pg hs) λ v Y H Q hu=>?_⟩
 ·cases ds with
  | nil=>exact z
  | cons d r=>exact h.mo d L S _ _ (fun L' S' z=>h'.mo r L' S' _ _ hq z) z
 ·obtain⟨ds,L,S,r1,r2,r3,z⟩:=hu
  cases ds with
  | nil=>exact z.elim
  | cons d r=>
   simp only[zm] at r1
   obtain⟨x,xs,rfl,q1,q2⟩:=r1
   refine⟨x,xs,rfl,d,L,S,q1,r2,r3,h.mo d L S _ _ (fun L' S' z Y' H' g1 g2 g3=>?_) z⟩
   exact⟨r,L',S',zm.ext g2 r q2,g1,g3,h'.mo r L' S' _ _ (fun L2 S2 z2=>xn.ext g2 z2) z⟩
def m5 (n:Nat) (t:wx):yU:=λ d L S Q=>match d with
 | .tup ds=>ds.length=n/\t ds L S Q
 | _=>False
def Wn {e:Expr}{n:Nat}{t:wx}(h:PG X e (cC X.K n (gM X.K t))) (hm:ag t):uK X e (m5 n t):=by
 refine⟨λ d L S Q Q' hq z=>?_,PG.imp h λ v Y H Q hu=>?_⟩
 ·cases d with
  | tup ds=>exact⟨z.1,hm ds L S _ _ hq z.2⟩
  | _=>exact z
 ·obtain⟨d,L,S,r1,r2,r3,z⟩:=hu
  cases d with
  | tup ds=>
   simp only[zi] at r1
   obtain⟨a,xs,rfl,q1,q2⟩:=r1
   exact⟨a,xs,rfl,q1,by rw[<- q2.length];exact z.1,ds,L,S,q2,r2,r3,z.2⟩
  | _=>exact z.elim
def vm (te:zx) (g:yU):yk:=λ E L S=>te L S λ x S1=>g x L S1 E.nx
def vm.mo {g:yU}(h:yz te) (h':oH g):uL (vm te g):=λ E E' L S hE z=>h L S _ _ (λ x S1 q=>h' x L S1 _ _ (fun L S q=>hE.nx _ _ q) q) z
def Z4 {g:yU}(h:yz te) (h':oH g) {D:Ends}{Y:St}{H:Hp}(hu:lM K (vm te g) D Y H):pD (zU K te) (p8 K g) D Y H:=by
 obtain⟨L,S,r1,r2,z⟩:=hu
 refine zU.go h r1 r2 z λ x S1 v H1 h1 q1 e1 p1=>?_
 exact⟨x,L,S1,q1,r1.ext e1,p1,h' x L S1 _ _ (fun L S q=>xn.ext e1 q) h1⟩
def eK {tg e:Expr}{g:yU}(he:PD X e te) (hg:uK X tg g) (hs:swapsWithSole [tg] e pos.line X.env=pure false:=by rfl) (hw:swappedStores [tg] e X.env=pure none:=by rfl)
  (h1:(assignEach [tg] X.env).map (·.2)=[assign tg X.env]:=by rfl):w_ X (.Assign [tg] e pos) (vm te g):=
 ⟨vm.mo he.mo hg.mo,PS.imp (eA he.pe hg.pg hs hw h1) λ _ _ _ hu=>Z4 he.mo hg.mo hu⟩
def Wf {e0:Stmt}{i:Nat}(h:PS X e0 (pD (zU X.K te) (qK i))) (hm:yz te):w_ X e0 (vm te (hName i)):=by
 refine⟨vm.mo hm λ _ _ _ _ _ hq z=>hq _ _ z,PS.imp h λ D Y H hu=>?_⟩
 obtain⟨L,S,r1,r2,z⟩:=hu
 refine zU.go hm r1 r2 z λ x S1 v H1 h1 q1 e1 p1=>?_
 exact h1 _ H1 ((r1.ext e1).set i q1) e1 p1
end
structure oU where
 items:List D
 keep:SS->Prop
abbrev xY:=yc->SS->(oU->SS->Prop)->Prop
def mZ (t:xY):Prop:=∀ L S (Q Q':oU->SS->Prop),(∀ I S',Q I S'->Q' I S')->t L S Q->t L S Q'
def iP (K:Aa) (H1:Hp) (J:It) (I:oU):Prop:=∀ (i:Nat) (H:Hp) (S:SS),Ext H1 H->zE K H S->I.keep S->
 (∀ d,I.items[i]?=some d->J.go i H/\∀ x H',J.qf i H x H'->Ext H H'/\zE K H' S/\zi K H' d x)/\(I.items.length<=i->J.stop i H)
def Ro (K:Aa) (H:Hp) (R:It->Hp->Prop):oU->SS->Prop:=λ I S1=>∀ J H1,Ext H H1->zE K H1 S1->iP K H1 J I->R J H1
def vy (K:Aa) (t:xY):TI:=fun Y H R=>∃ L S,yp K H L Y/\zE K H S/\t L S (Ro K H R)
structure uJ (X:Cx) (tg iter:Expr) (t:xY):Prop where
 mo:mZ t
 pi:PI X tg iter (vy X.K t)
def PI.imp {X:Cx}{tg e:Expr}{t t':TI}(h:PI X tg e t) (hi:∀ Y H Q,t' Y H Q->t Y H Q):PI X tg e t':=λ pins s Y H Q I q=>h pins s Y H Q I (hi Y H Q q)
section
variable {X:Cx}{K:Aa}{tg e:Expr}{pos:Pos}
theorem zm.at {H:Hp}{ds:List D}{xs:List V}{i:Nat}{d:D}{x:V}(r:zm K H ds xs) (h1:ds[i]?=some d) (h2:xs[i]?=some x):zi K H d x:=by
 obtain⟨y,e1,e2⟩:=r.get h1
 rw[h2] at e1;cases e1;exact e2
noncomputable def vQ (lo:Int) (n:Nat):List D:=(List.range n).map λ(k:Nat)=>D.int (lo+(k:Int))
def YY {lo:Int}{n i:Nat}{d:D}(h:(vQ lo n)[i]?=some d):i<n/\d=.int (lo+(i:Int)):=by
 unfold vQ at h
 rw[AA] at h
 cases q:(List.range n)[i]? with
 | none=>rw[q] at h;cases h
 | some j=>
  rw[q] at h
  obtain⟨h1,h2⟩:=Az.mp q
  rw[CH] at h1
  rw[List.getElem_range] at h2
  subst h2
  cases h
  exact⟨h1,rfl⟩
def YX (lo:Int) (n:Nat):(vQ lo n).length=n:=by unfold vQ;rw[Aq,CH]
def iP.range {H1:Hp}{lo:Int}{n:Nat}:iP K H1 (oJ lo n) ⟨vQ lo n,λ _=>True⟩:=λ i H S _ x2 _=>by
 refine⟨λ d hd=>?_,λ hl=>by rw[show (oU.mk (vQ lo n) λ _=>True).items=vQ lo n from rfl,YX] at hl;exact hl⟩
 obtain⟨h1,rfl⟩:=YY hd
 refine⟨h1,λ x H' q=>?_⟩
 obtain⟨rfl,rfl⟩:=q
 exact⟨.refl _,x2,by simp only[zi]⟩
def j9 (t:yb):xY:=fun L S R=>t L S λ ds S1=>match ds with
 | [.int j]=>(-(2 ^ 62)<=j/\j<2 ^ 62)/\R ⟨vQ 0 j.toNat,λ _=>True⟩ S1
 | _=>False
def j8 (t:yb):xY:=fun L S R=>t L S λ ds S1=>match ds with
 | [.int i,.int j]=>(-(2 ^ 62)<=i/\i<2 ^ 62/\-(2 ^ 62)<=j/\j<2 ^ 62)/\R ⟨vQ i (j-i).toNat,λ _=>True⟩ S1
 | _=>False
variable {tA:yb}
def Wm (h:PI X tg e (c5 (xJ X.K tA))) (hm:uM tA):uJ X tg e (j9 tA):=by
 refine⟨fun L S Q Q' hq z=>hm L S _ _ (λ ds S1 z=>?_) z,PI.imp h fun Y H R hu=>?_⟩
 ·split at z
  ·exact⟨z.1,hq _ _ z.2⟩
  ·exact z.elim
 ·obtain⟨L,S,r1,r2,z⟩:=hu
  refine xJ.go hm r1 r2 z λ ds S1 xs H1 h1 q1 e1 p1=>?_
  split at h1
  ·obtain⟨x,rfl,q⟩:=q1.one
   simp only[zi] at q
   subst q
   exact⟨_,rfl,h1.1.1,h1.1.2,h1.2 _ H1 e1 p1 .range⟩
  ·exact h1.elim
def Wl (h:PI X tg e (c4 (xJ X.K tA))) (hm:uM tA):uJ X tg e (j8 tA):=by
 refine⟨fun L S Q Q' hq z=>hm L S _ _ (λ ds S1 z=>?_) z,PI.imp h fun Y H R hu=>?_⟩
 ·split at z
  ·exact⟨z.1,hq _ _ z.2⟩
  ·exact z.elim
 ·obtain⟨L,S,r1,r2,z⟩:=hu
  refine xJ.go hm r1 r2 z λ ds S1 xs H1 h1 q1 e1 p1=>?_
  split at h1
  ·obtain⟨x,y,rfl,q,q'⟩:=q1.two
   simp only[zi] at q q'
   subst q q'
   exact⟨_,_,rfl,h1.1,h1.2 _ H1 e1 p1 .range⟩
  ·exact h1.elim
def rE (ti:xY) (g:yU) (tb:yk):yk:=λ E L S=>ti L S λ I S1=>∃ W:Nat->yc->SS->Prop,W 0 L S1/\(∀ i L S,W i L S->I.keep S)/\
 (∀ i d L S,I.items[i]?=some d->W i L S->g d L S fun L2 S2=>tb { E with nx:=W (i+1),ct:=W (i+1),bk:=E.nx } L2 S2)/\∀ L S,W I.items.length L S->E.nx L S
def rE.mo {ti:xY}{g:yU}{tb:yk}(hi:mZ ti) (hg:oH g) (hb:uL tb):uL (rE ti g tb):=λ E E' L S hE z=>hi L S _ _ (λ I S1 ⟨W,w0,wk,ws,wd⟩=>by
 refine⟨W,w0,wk,λ i d L S hd hw=>hg d L S _ _ (fun L2 S2 z=>hb { E with nx:=W (i+1),ct:=W (i+1),bk:=E.nx } { E' with nx:=W (i+1),ct:=W (i+1),bk:=E'.nx } L2 S2 ⟨λ _ _ q=>q,hE.rt,hE.nx,λ _ _ q=>q⟩ z) (ws i d L S hd hw),fun L S q=>hE.nx _ _ (wd L S q)⟩) z
def qu {iter:Expr}{body:List Stmt}{ti:xY}{g:yU}{tb:yk}(hp:PassesOwn (model X.prog X.w) X.A X.env X.xe) (hc:X.calm=true) (hi:uJ X tg iter ti) (hg:uK X tg g) (hb:ui X body tb)
  (hs:∀ x,foldedSetIterable iter X.env x=pure x:=by intro _;rfl):w_ X (.For tg iter body [] pos) (rE ti g tb):=by
 refine⟨rE.mo hi.mo hg.mo hb.mo,PS.imp (e9 hp hc hi.pi hg.pg hb.ps hs) λ D Y H hu=>?_⟩
 obtain⟨L,S,r1,r2,z⟩:=hu
 refine⟨L,S,r1,r2,hi.mo L S _ _ (λ I S1 hW J H1 e1 p1 rep=>?_) z⟩
 obtain⟨W,w0,wk,ws,wd⟩:=hW
 refine⟨λ i m Y H2=>m=I.items.length-i/\i<=I.items.length/\Ext H1 H2/\∃ L S,yp X.K H2 L Y/\zE X.K H2 S/\W i L S,⟨_,rfl,AM _,.refl _,L,S1,r1.ext e1,p1,w0⟩,?_⟩
 rintro i m Y2 H2 ⟨rfl,hi',x2,L2,S2,q1,q2,w2⟩
 obtain⟨g1,g2⟩:=rep i H2 S2 x2 q2 (wk i L2 S2 w2)
 by_cases hl:i<I.items.length
 ·have hd:I.items[i]?=some I.items[i]:=by simp[hl]
  obtain⟨go,yl⟩:=g1 _ hd
  refine .inr ⟨go,fun Y' H'=>Ext H1 H'/\∃ L S,yp X.K H' L Y'/\zE X.K H' S/\W (i+1) L S,fun Y' H' q=>⟨_,by lia,rfl,hl,q⟩,λ x H3 hy=>?_⟩
  obtain⟨x3,p3,d3⟩:=yl x H3 hy
  refine⟨_,L2,S2,d3,q1.ext x3,p3,hg.mo _ L2 S2 _ _ (fun L4 S4 z4 Y4 H4 a1 a2 a3=>?_) (ws i _ L2 S2 hd w2)⟩
  refine⟨L4,S4,a1,a3,hb.mo _ _ L4 S4 ⟨fun L5 S5 w5 Y5 H5 b1 b2 b3=>⟨((x2.trans x3).trans a2).trans b2,L5,S5,b1,b3,w5⟩,λ _ _ q=>xO.ext (((e1.trans x2).trans x3).trans a2) q,λ _ _ q=>xn.ext (((e1.trans x2).trans x3).trans a2) q,fun L5 S5 w5 Y5 H5 b1 b2 b3=>⟨((x2.trans x3).trans a2).trans b2,L5,S5,b1,b3,w5⟩⟩ z4⟩
 ·have e:i=I.items.length:=by lia
  subst e
  exact .inl ⟨g2 (Ad _),wd L2 S2 w2 Y2 H2 q1 (e1.trans x2) q2⟩
abbrev xE:=List D->SS->DK->Prop
def qX (sp:xE):Prop:=∀ ds S (Q Q':DK),(∀ d S',Q d S'->Q' d S')->sp ds S Q->sp ds S Q'
def uS (K:Aa) (sp:xE):Sp:=λ vs H Q _=>∃ ds S,zm K H ds vs/\zE K H S/\sp ds S (xO K H Q)
def mF (sp:xE) (t:yb):zx:=fun L S Q=>t L S λ ds S1=>sp ds S1 Q
def W0 {sp:xE}{E:XK}{e:Expr}(h:PE X e (gU (uS X.K sp) [] E (xJ X.K tA))) (hs:qX sp) (hm:uM tA):PD X e (mF sp tA):=by
 refine⟨fun L S Q Q' hq z=>hm L S _ _ (λ ds S1 z=>hs ds S1 _ _ hq z) z,PE.imp h fun Y H Q hu=>?_⟩
 obtain⟨L,S,r1,r2,z⟩:=hu
 refine xJ.go hm r1 r2 z λ ds S1 xs H1 h1 q1 e1 p1=>?_
 rw[BC]
 exact⟨ds,S1,q1,p1,hs ds S1 _ _ (λ d S' q=>xO.ext e1 q) h1⟩
noncomputable def vO (N:List Str) (ds:List D):yc:=ds.map some++List.replicate (N.length-ds.length) none
def yp.init {H:Hp}{N:List Str}{ds:List D}{vs:List V}(r:zm K H ds vs):yp K H (vO N ds) (start N vs):=by
 have hl:=r.length
 refine⟨by unfold vO L2.start;simp[hl],λ i d h=>?_⟩
 unfold vO at h
 have hi:i<ds.length:=by
  rcases Bb i ds.length with q | q
  ·exact q
  ·rw[CC (by simpa using q),Dw] at h
   split at h <;> cases h
 rw[B1 (by simpa using hi),AA] at h
 cases q:ds[i]? with
 | none=>rw[q] at h;cases h
 | some d'=>
  rw[q] at h
  cases h
  obtain⟨x,e1,e2⟩:=r.get q
  refine⟨x,?_,e2⟩
  unfold L2.start
  rw[B1 (by simpa using by lia),AA,e1]
  rfl
def SE {P:Program}{w:World}{K:Aa}{mg:Str->Option Value}{base:Heap}{x qual:Str}{st:Stmt}{f:Addr}{fd:FuncData}{N ps:List Str}{k:Nat}{sp:xE}(F:wI K x qual st f fd) (Sc:yd N ps (zB st))
  (len:∀ ds S Q,sp ds S Q->ds.length=ps.length)
  (hbody:∀ (Ac:Value) (A:Around) (outer:List Env) (s:Shared) (H:Hp) (E:XK),ye k (A.deeper (envOfC qual (zB st) s.heap.objs.size f Ac))->
   ∃ t,ui (xX xv P w K mg base N qual (zB st) f Ac A outer s H E).ve (xo st) t/\∀ ds S Q,sp ds S Q->t { nx:=λ _ S'=>Q .zg S',rt:=Q } (vO N ds) S):xg P w K mg base xv (k+1) f fd ps (uS K sp):=by
 refine F.ok Sc (λ vs H Q E h=>?_) λ Ac A outer s H vs Q E hr h=>?_
 ·obtain⟨ds,S,r1,_,z⟩:=h
  rw[<- r1.length];exact len _ _ _ z
 ·obtain⟨ds,S,r1,r2,z⟩:=h
  obtain⟨t,ht,hq⟩:=hbody Ac A outer s H E hr
  refine⟨_,ht.ps,vO N ds,S,.init r1,r2,ht.mo { nx:=λ _ S'=>xO K H Q .zg S',rt:=xO K H Q } _ _ _ ⟨fun L S' q Y' H' _ b c=>q .zg H' (by simp only[zi]) b c,λ _ _ q=>q,λ _ _ q=>False.elim q,λ _ _ q=>False.elim q⟩ (hq ds S _ z)⟩
noncomputable def v7 (pick:List (Option Nat)) (L:yc):yc:=pick.map λ o=>o.bind λ i=>(L[i]?).join
theorem yp.pick {H:Hp}{L:yc}{Y:St}(r:yp K H L Y) (pick:List (Option Nat)):yp K H (v7 pick L) (v5 pick Y):=by
 refine⟨by unfold v7 v5;simp,λ i d h=>?_⟩
 unfold v7 at h
 rw[AA] at h
 cases q:pick[i]? with
 | none=>rw[q] at h;cases h
 | some o=>
  rw[q] at h
  cases o with
  | none=>simp at h
  | some j=>
   simp only[Option.map_some,B4,Option.some.injEq] at h
   have hj:L[j]?=some (some d):=by
    cases q2:L[j]? with
    | none=>rw[q2] at h;cases h
    | some o2=>rw[q2] at h;simp only[Option.join_some] at h;rw[h]
   obtain⟨v,e1,e2⟩:=r.2 j d hj
   refine⟨v,?_,e2⟩
   unfold v5
   rw[AA,q]
   simp[e1]
def rK (L L':yc):Prop:=L.length=L'.length/\∀ (i:Nat) d,L[i]?=some (some d)->L'[i]?=some (some d)
def rK.rep {H:Hp}{L L':yc}{Y:St}(h:rK L L') (r:yp K H L' Y):yp K H L Y:=⟨h.1.trans r.1,λ i d q=>r.2 i d (h.2 i d q)⟩
structure mS (X:Cx) (ifs:List Expr) (t:yL):Prop where
 mo:vc t
 pf:PF X ifs (x_ X.K t)
def PF.imp {ifs:List Expr}{t t':TT}(h:PF X ifs t) (hi:∀ Y H Q,t' Y H Q->t Y H Q):PF X ifs t':=λ pins s Y H Q I q=>h pins s Y H Q I (hi Y H Q q)
def cX:yL:=λ _ S Q=>Q true S
def eL:mS X [] cX:=⟨λ _ _ _ _ hq z=>hq _ _ z,PF.imp XB λ _ H _ ⟨_,_,_,r2,z⟩=>z H (.refl H) r2⟩
def jc {c:Expr}{t:yL}(h:x9 X c t):mS X [c] t:=⟨h.mo,XA h.pt⟩
end
end L3
namespace L2
open PySem PySem.Spec PyProof.Rows
def TX (K:Aa) (tl:TE):TI:=fun Y H R=>tl Y H λ x H1=>∃ a,x=.ref a/\(((∃ xs,zP K H1 a xs)/\R (aj K a) H1)\/((∃ xs,zY K H1 a xs)/\R (ai K a) H1))
def X2 {X:Cx}{tg l:Expr}{tl:TE}(hl:PE X l tl):PI X tg l (TX X.K tl):=by
 intro pins s Y H R I h
 refine zH (hl pins s Y H _ I h) λ v s1 ⟨x,H1,I1,r1,a,hx,q1⟩=>?_
 subst hx
 cases r1
 have new:∀ b∈[s1.heap.objs.size],vv X pins H1 b:=λ b hb=>by
  obtain rfl:b=s1.heap.objs.size:=AF.mp hb
  exact I1.jW (Ad _) (I1.zu.fresh (Ad _))
 rcases q1 with ⟨⟨xs,hq⟩,q⟩ | ⟨⟨xs,hq⟩,q⟩
 ·obtain⟨its,_,pl,_⟩:=I1.list hq
  exact zaO pl.isList ⟨_,_,_,_,H1,rfl,I1.kept (t':=s1.toks) λ b o eo=>za1 _ eo,ZH a _,⟨_,AH _ rfl,rfl,rfl⟩,new,q⟩
 ·obtain⟨its,_,pt,_⟩:=I1.tuple hq
  exact wpAny_pyIter_tuple (show s1.heap.IsTuple a its.toArray from pt) ⟨_,_,_,_,H1,rfl,I1.kept (t':=s1.toks) λ b o eo=>za1 _ eo,ZF a _,⟨_,AH _ rfl,rfl,rfl⟩,new,q⟩
def range_all (bs:List Bool):(List.range bs.length).all (λ i=>bs.getD i true)=bs.all id:=by
 rw[Ds,AW,AW]
 constructor
 ·intro h b hb
  obtain⟨i,hi,rfl⟩:=BU.mp hb
  have:=h i (A6.mpr hi)
  simpa [hi] using this
 ·intro h i hi
  have hi':=A6.mp hi
  have:=h bs[i] (BW hi')
  simpa [hi'] using this
def RN {bs:List Bool}{its:List Value}(r:Vals (bs.map V.bl) its) {i:Nat}{v:Value}(h:its.toArray[i]?=some v):v=.bool (bs.getD i true):=by
 have hl:=r.length
 rw[Aq] at hl
 have h':its[i]?=some v:=by simpa using h
 have hi:i<bs.length:=by
  rw[hl]
  rcases Bb i its.length with q | q
  ·exact q
  ·rw[List.getElem?_eq_none q] at h';cases h'
 obtain⟨u,e1,e2⟩:=r.get (i:=i) (x:=.bl bs[i]) (by simp[hi])
 rw[h'] at e1;cases e1
 have:v=.bool bs[i]:=e2
 rw[this]
 simp[hi]
section
variable {X:Cx}
def RL (hc:X.calm=true):yW X (.builtin "all") (λ xs H Q=>∃ p,∃ bs:List Bool,xs=[.ref p]/\zP X.K H p (bs.map V.bl)/\Q (.bl (bs.all id)) H):=by
 intro pins s Y H xs us Q I r h
 obtain⟨p,bs,rfl,hq,q⟩:=h
 obtain⟨u,rfl,ru⟩:=vals1 r
 cases ru
 obtain⟨its,rv,pl,hz⟩:=I.list hq
 have hl:=rv.length
 rw[Aq] at hl
 have Ak:p<s.heap.objs.size:=by obtain⟨o,n,e,_⟩:=pl;exact Ai e
 refine call_all_walk (zaO pl.isList ?_)
 refine⟨s.heap.objs.size,_,_,_,_,_,λ i=>bs.getD i true,rfl,Walks.list (A:=X.A.in1) (I.ok.hd hc) s.heap.objs.size p (Al Ak) its.toArray,⟨⟨_,AH _ rfl,rfl,rfl⟩,pl.isList.push _⟩,λ i v s' Q' E' hv hq'=>?_,λ h' tk hk=>?_⟩
 ·rw[RN rv hv]
  exact zaH hq'
 ·have e:(List.range its.toArray.size).all (λ i=>bs.getD i true)=bs.all id:=by rw[Ao,<- hl,range_all]
  rw[e]
  exact⟨.bl _,H,I.kept (t':=tk) λ b o eo=>hk b o (by simpa using Al (Ai eo)) (za1 _ eo),rfl,q⟩
end
end L2
namespace L3
open PySem PySem.Spec L2
open PyProof.Rows hiding St
structure Bt (mg:Str->Option Value):Prop where
 len:mg "len"=none
 range:mg "range"=none
 any:mg "any"=none
 all:mg "all"=none
 sorted:mg "sorted"=none
 isinstance:mg "isinstance"=none
 bool:mg "bool"=none
 int:mg "int"=none
 str:mg "str"=none
 list:mg "list"=none
 tuple:mg "tuple"=none
 max:mg "max"=none
 min:mg "min"=none
section
variable {X:Cx}{a e:Expr}{es:List Expr}{te:zx}{pos p:Pos}
def o6 {N':List Str}{pick:List (Option Nat)}{scope esc:Scope}{N:List Str}(hE:X.env.scope=esc:=by rfl) (hN:X.N=N:=by rfl) (h1:scope.kind=.function:=by rfl) (h2:scope.names.all (λ y=>decide (y.2≠.cell))=true:=by decide +kernel)
  (h3:scope.names.all (λ y=>!decide (y.2=.local)||decide (scope.names.lookup y.1=some .local))=true:=by decide +kernel)
  (h4:scope.names.all (λ y=>!decide (y.2=.free)||(decide (esc.names.lookup y.1=some .cell)||decide (esc.names.lookup y.1=some .free)))=true:=by decide +kernel)
  (h5:pick.length=N'.length:=by rfl) (h6:qp N N' pick scope=true:=by decide +kernel):r_ X N' pick scope:=by
 refine⟨h1,λ y hy=>?_,λ y hy hl=>?_,λ y hy hf=>?_,h5,by rw[hN];exact h6⟩
 ·exact of_decide_eq_true (AW.mp h2 y hy)
 ·have:=AW.mp h3 y hy
  rw[zaJ hl] at this
  simpa using this
 ·have:=AW.mp h4 y hy
  rw[zaJ hf] at this
  rw[hE]
  simpa using this
def xK (i:Nat) {x:Str}(hN:X.N.Nodup) (hi:X.N[i]?=some x:=by rfl) (hx:Loc X.env.scope x:=by first | exact Or.inl rfl | exact Or.inr rfl) (hf:X.fn x=true\/X.env.scope.names.lookup x=some .local:=by first | exact .inl rfl | exact .inr rfl):uK X (.Name x pos) (hName i):=
 Wo (X9 hN hi hx hf)
def jb {k:Nat}{t:wx}{n:Nat}(h:mR X es t) (hc:X.calm=true:=by rfl) (hn:(assignEach es X.env).length=n:=by rfl) (Aw:(assignEach es X.env).findIdx? (·.1)=none:=by rfl):uK X (.Tuple es k pos) (m5 n t):=
 Wn (X7 hc h.pg hn Aw) h.mo
def zM (i:Nat) {x:Str}{pos':Pos}(hN:X.N.Nodup) (he:PD X e te) (hi:X.N[i]?=some x:=by rfl) (hx:Loc X.env.scope x:=by first | exact Or.inl rfl | exact Or.inr rfl) (hs:swapsWith e (some (.Name x pos')) pos.line X.env=pure false:=by rfl)
  (hf:X.fn x=true\/X.env.scope.names.lookup x=some .local:=by first | exact .inl rfl | exact .inr rfl):w_ X (.Assign [.Name x pos'] e pos) (vm te (hName i)):=
 Wf (ez hN hi hx he.pe hs hf) he.mo
def j7 (te:zx):xY:=fun L S R=>te L S λ x S1=>match x with
 | .tup ds=>R ⟨ds,λ _=>True⟩ S1
 | .xx ds=>R ⟨ds,λ _=>True⟩ S1
 | .ref p=>match S1 p with
  | some (.lst ds)=>R ⟨ds,λ S=>S p=some (.lst ds)⟩ S1
  | _=>False
 | _=>False
def k_ {tg:Expr}(h:PD X e te):uJ X tg e (j7 te):=by
 refine⟨fun L S Q Q' hq z=>h.mo L S _ _ (λ x S1 z=>?_) z,?_⟩
 ·cases x with
  | ref p=>
   dsimp only at z ⊢
   split at z
   ·exact hq _ _ z
   ·exact z.elim
  | xx ds=>exact hq _ _ z
  | tup ds=>exact hq _ _ z
  | _=>exact z
 ·refine PI.imp (X2 h.pe) fun Y H R hu=>?_
  obtain⟨L,S,r1,r2,z⟩:=hu
  refine zU.go h.mo r1 r2 z λ x S1 v H1 h1 q1 e1 p1=>?_
  cases x with
  | tup ds=>
   simp only[zi] at q1
   obtain⟨a,xs,rfl,g1,g2⟩:=q1
   refine⟨a,rfl,.inr ⟨⟨xs,g1⟩,h1 _ H1 e1 p1 λ i H2 S2 x1 x2 _=>⟨λ d hd=>?_,λ hl=>⟨xs,x1.nr g1,by rw[<- g2.length];exact hl⟩⟩⟩⟩
   obtain⟨y,hy,_⟩:=g2.get hd
   refine⟨⟨xs,y,x1.nr g1,hy⟩,λ x H' q=>?_⟩
   obtain⟨rfl,q⟩:=q
   exact⟨.refl _,x2,(zm.ext x1 ds g2).at hd (q xs (x1.nr g1))⟩
  | ref p=>
   dsimp only at h1
   split at h1
   ·rename_i ds e2
    simp only[zi] at q1
    subst q1
    obtain⟨xs0,g1,_⟩:=p1 _ _ e2
    refine⟨p,rfl,.inl ⟨⟨xs0,zP.of g1⟩,h1 _ H1 e1 p1 λ i H2 S2 x1 x2 hk=>?_⟩⟩
    obtain⟨xs,g3,g4⟩:=x2 _ _ hk
    refine⟨λ d hd=>?_,λ hl=>⟨xs,zP.of g3,by rw[<- g4.length];exact hl⟩⟩
    obtain⟨y,hy,_⟩:=g4.get hd
    refine⟨⟨xs,y,zP.of g3,hy⟩,λ x H' q=>?_⟩
    obtain⟨rfl,q⟩:=q
    exact⟨.refl _,x2,g4.at hd (q xs (zP.of g3))⟩
   ·exact h1.elim
  | xx ds=>
   simp only[zi] at q1
   obtain⟨a,xs,rfl,g1,g2⟩:=q1
   refine⟨a,rfl,.inl ⟨⟨xs,g1.sq⟩,h1 _ H1 e1 p1 λ i H2 S2 x1 x2 _=>⟨λ d hd=>?_,λ hl=>⟨xs,(x1.nu g1).sq,by rw[<- g2.length];exact hl⟩⟩⟩⟩
   obtain⟨y,hy,_⟩:=g2.get hd
   refine⟨⟨xs,y,(x1.nu g1).sq,hy⟩,λ x H' q=>?_⟩
   obtain⟨rfl,q⟩:=q
   exact⟨.refl _,x2,(zm.ext x1 ds g2).at hd (q xs (x1.nu g1).sq)⟩
  | _=>exact h1.elim
end
end L3
namespace L4
open PySem PySem.W PyProof.Rows
noncomputable def yx {α:Type}(n:Nat) (lt:Nat->Nat->Bool):KasT α->(α->Prop)->Prop
 | .ret a,Q=>Q a
 | .ask i j k,Q=>i<n/\j<n/\yx n lt (k (lt i j)) Q
theorem yx.mono {α:Type}{n:Nat}{lt:Nat->Nat->Bool}{Q Q':α->Prop}(hq:∀ a,Q a->Q' a):∀ {t:KasT α},yx n lt t Q->yx n lt t Q'
 | .ret _,h=>hq _ h
 | .ask _ _ _,h=>⟨h.1,h.2.1,yx.mono hq h.2.2⟩
theorem yx.bind {α β:Type}{n:Nat}{lt:Nat->Nat->Bool}{f:α->KasT β}{Q:β->Prop}:∀ {t:KasT α},yx n lt t (λ a=>yx n lt (f a) Q)->yx n lt (t.bind f) Q
 | .ret _,h=>h
 | .ask _ _ _,h=>⟨h.1,h.2.1,yx.bind h.2.2⟩
section
variable {n:Nat}{lt:Nat->Nat->Bool}
def Le (lt:Nat->Nat->Bool) (a b:Nat):Prop:=lt b a=false
structure Ord (lt:Nat->Nat->Bool):Prop where
 tr:∀ a b c,Le lt a b->Le lt b c->Le lt a c
 as:∀ a b,lt a b=true->Le lt a b
def Ord.refl (o:Ord lt) (a:Nat):Le lt a a:=by
 cases h:lt a a with
 | false=>exact h
 | true=>exact o.as a a h
def xf (n:Nat) (p:Array Nat):Prop:=p.Perm (List.range n).toArray
theorem xf.size {p:Array Nat}(h:xf n p):p.size=n:=by rw[Array.Perm.size_eq h];simp
def xf.below {p:Array Nat}(h:xf n p) {i:Nat}(hi:i<n):p.getD i 0<n:=by
 have hs:=h.size
 have hm:p.getD i 0∈p:=by
  rw[C9,A7 (by lia)]
  exact Array.getElem_mem (by lia)
 have:p.getD i 0∈(List.range n).toArray:=(Array.Perm.mem_iff h).mp hm
 simpa using this
def oq {p q:Array Nat}{i j:Nat}(h:p[i]?=q[j]?):p.getD i 0=q.getD j 0:=by rw[C9,C9,h]
def wY (lt:Nat->Nat->Bool) (p:Array Nat) (k:Nat):Prop:=∀ i j,i<=j->j<k->Le lt (p.getD i 0) (p.getD j 0)
def uP (lt:Nat->Nat->Bool) (p:Array Nat) (k:Nat):Prop:=∀ i j,i<=j->j<k->Le lt (p.getD j 0) (p.getD i 0)
def wY.next (o:Ord lt) {p:Array Nat}{k:Nat}(h:wY lt p k) (hk:1<=k) (hl:Le lt (p.getD (k-1) 0) (p.getD k 0)):wY lt p (k+1):=λ i j AV hj=>by
 by_cases DV:j<k
 ·exact h i j AV DV
 ·have e:j=k:=by lia
  subst e
  by_cases hi:i=j
  ·subst hi;exact o.refl _
  ·exact o.tr _ _ _ (h i (j-1) (by lia) (by lia)) hl
def uP.next (o:Ord lt) {p:Array Nat}{k:Nat}(h:uP lt p k) (hk:1<=k) (hl:Le lt (p.getD k 0) (p.getD (k-1) 0)):uP lt p (k+1):=λ i j AV hj=>by
 by_cases DV:j<k
 ·exact h i j AV DV
 ·have e:j=k:=by lia
  subst e
  by_cases hi:i=j
  ·subst hi;exact o.refl _
  ·exact o.tr _ _ _ hl (h i (j-1) (by lia) (by lia))
theorem iB (o:Ord lt) {p:Array Nat}(hp:xf n p):∀ (f a:Nat),1<=a->a+f<=n->wY lt p a->
  yx n lt (kas_asc p f a) λ m=>a<=m/\m<=a+f/\wY lt p m/\(m=a+f\/lt (p.getD m 0) (p.getD (m-1) 0)=true)
 | 0,a,_,_,hs=>⟨Ad _,Ad _,hs,.inl rfl⟩
 | f+1,a,h1,h2,hs=>by
  refine⟨hp.below (by lia),hp.below (by lia),?_⟩
  cases c:lt (p.getD a 0) (p.getD (a-1) 0) with
  | true=>exact⟨Ad _,by lia,hs,.inr c⟩
  | false=>
   refine yx.mono ?_ (iB o hp f (a+1) (by lia) (by lia) (hs.next o h1 c))
   rintro m ⟨g1,g2,g3,g4⟩
   exact⟨by lia,by lia,g3,g4.imp (λ e=>by lia) id⟩
def pM {p:Array Nat}(hp:xf n p) (i j:Nat):xf n (kas_rev p i j):=Array.Perm.trans (mirror_perm _ _ _ _) hp
def pO {p:Array Nat}(hp:xf n p) {i j:Nat}(hj:j<=n) (k:Nat):(kas_rev p i j).getD k 0=if i<=k/\k<j then p.getD (i+j-1-k) 0 else p.getD k 0:=by
 have e:=getElem?_mirror_all (xs:=p) (i:=i) (j:=j) (by rw[hp.size];exact hj) k
 split
 ·rename_i h;rw[if_pos h] at e;exact oq e
 ·rename_i h;rw[if_neg h] at e;exact oq e
def rev_eq (o:Ord lt) {p:Array Nat}(hp:xf n p) {i j:Nat}(hj:j<=n) (he:∀ a b,i<=a->a<j->i<=b->b<j->Le lt (p.getD a 0) (p.getD b 0)) (k:Nat):
  Le lt ((kas_rev p i j).getD k 0) (p.getD k 0)/\Le lt (p.getD k 0) ((kas_rev p i j).getD k 0):=by
 rw[pO hp hj]
 split
 ·rename_i h;exact⟨he _ _ (by lia) (by lia) h.1 h.2,he _ _ h.1 h.2 (by lia) (by lia)⟩
 ·exact⟨o.refl _,o.refl _⟩
def uP.of_eq (o:Ord lt) {p q:Array Nat}{k:Nat}(h:uP lt p k) (e:∀ k,Le lt (q.getD k 0) (p.getD k 0)/\Le lt (p.getD k 0) (q.getD k 0)):uP lt q k:=λ i j AV hj=>
 o.tr _ _ _ (e j).1 (o.tr _ _ _ (h i j AV hj) (e i).2)
def hX (lt:Nat->Nat->Bool) (p:Array Nat) (m q:Nat):Prop:=∀ a b,m-(q+1)<=a->a<m->m-(q+1)<=b->b<m->Le lt (p.getD a 0) (p.getD b 0)
theorem mC (o:Ord lt):∀ (f:Nat) (p:Array Nat) (m q:Nat),xf n p->1<=m->m+f<=n->uP lt p m->q+1<=m->hX lt p m q->
  yx n lt (kas_desc f p m q) λ r=>xf n r.1/\m<=r.2.1/\r.2.1<=m+f/\uP lt r.1 r.2.1/\r.2.2+1<=r.2.1/\hX lt r.1 r.2.1 r.2.2
 | 0,p,m,q,hp,_,_,hd,hq,hb=>⟨hp,Ad _,Ad _,hd,hq,hb⟩
 | f+1,p,m,q,hp,h1,h2,hd,hq,hb=>by
  have one:∀ p':Array Nat,hX lt p' (m+1) 0:=λ p' a b a1 a2 b1 b2=>by
   have:a=b:=by lia
   subst this;exact o.refl _
  refine⟨hp.below (by lia),hp.below (by lia),?_⟩
  cases c:lt (p.getD m 0) (p.getD (m-1) 0) with
  | true=>
   dsimp only
   rw[if_pos rfl]
   have hl:=o.as _ _ c
   by_cases h0:q>0
   ·rw[if_pos h0]
    have e:=rev_eq o hp (i:=m-(q+1)) (j:=m) (by lia) hb
    have hp':=pM hp (m-(q+1)) m
    refine yx.mono ?_ (mC o f _ (m+1) 0 hp' (by lia) (by lia) ((hd.of_eq o e).next o h1 (o.tr _ _ _ (e m).1 (o.tr _ _ _ hl (e (m-1)).2))) (by lia) (one _))
    rintro r ⟨a1,a2,a3,a4⟩
    exact⟨a1,by lia,by lia,a4⟩
   ·rw[if_neg h0]
    refine yx.mono ?_ (mC o f _ (m+1) 0 hp (by lia) (by lia) (hd.next o h1 hl) (by lia) (one _))
    rintro r ⟨a1,a2,a3,a4⟩
    exact⟨a1,by lia,by lia,a4⟩
  | false=>
   dsimp only
   rw[if_neg BI]
   refine⟨hp.below (by lia),hp.below (by lia),?_⟩
   cases d:lt (p.getD (m-1) 0) (p.getD m 0) with
   | true=>exact⟨hp,Ad _,(by show m<=m+(f+1);lia),hd,hq,hb⟩
   | false=>
    dsimp only
    rw[if_neg BI]
    refine yx.mono ?_ (mC o f _ (m+1) (q+1) hp (by lia) (by lia) (hd.next o h1 d) (by lia) λ a b a1 a2 b1 b2=>?_)
    ·rintro r ⟨a1,a2,a3,a4⟩
     exact⟨a1,by lia,by lia,a4⟩
    ·by_cases ha:a=m
     ·by_cases hb':b=m
      ·subst ha;subst hb';exact o.refl _
      ·subst ha;exact o.tr _ _ _ d (hb (a-1) b (by lia) (by lia) (by lia) (by lia))
     ·by_cases hb':b=m
      ·subst hb';exact o.tr _ _ _ (hb a (b-1) (by lia) (by lia) (by lia) (by lia)) c
      ·exact hb a b (by lia) (by lia) (by lia) (by lia)
def gS (o:Ord lt) {p:Array Nat}{m:Nat}(hp:xf n p) (h1:1<=m) (h2:m<=n) (hd:uP lt p m):yx n lt (kas_tail3 m n p) λ r=>xf n r.2/\r.1<=n/\wY lt r.2 r.1:=by
 refine yx.bind (yx.mono ?_ (iB o (pM hp 0 m) (n-m) m h1 (by lia) λ i j AV hj=>?_))
 ·rintro k ⟨a1,a2,a3,_⟩
  exact⟨pM hp 0 m,by lia,a3⟩
 ·rw[pO hp h2,pO hp h2,if_pos ⟨AM _,by lia⟩,if_pos ⟨AM _,hj⟩]
  exact hd _ _ (by lia) (by lia)
def bc (o:Ord lt) {p:Array Nat}{m:Nat}(hp:xf n p) (h1:1<=m) (h2:m<n) (hd:uP lt p m) (hl:lt (p.getD m 0) (p.getD (m-1) 0)=true):yx n lt (kas_descPart m n p) λ r=>xf n r.2/\r.1<=n/\wY lt r.2 r.1:=by
 refine yx.bind (yx.mono ?_ (mC o (n-(m+1)) p (m+1) 0 hp (by lia) (by lia) (hd.next o h1 (o.as _ _ hl)) (by lia) λ a b a1 a2 b1 b2=>?_))
 ·rintro⟨p',m',q'⟩ ⟨a1,a2,a3,a4,a5,a6⟩
  dsimp only at a1 a2 a3 a4 a5 a6 ⊢
  by_cases h0:q'>0
  ·rw[if_pos h0]
   exact gS o (pM a1 _ _) (by lia) (by lia) (a4.of_eq o (rev_eq o a1 (i:=m'-(q' + 1)) (j:=m') (by lia) a6))
  ·rw[if_neg h0]
   exact gS o a1 (by lia) (by lia) a4
 ·have:a=b:=by lia
  subst this;exact o.refl _
def Rv (o:Ord lt) {p:Array Nat}(hp:xf n p) (h1:1<=n):yx n lt (kas_count n p) λ r=>xf n r.2/\r.1<=n/\wY lt r.2 r.1:=by
 refine yx.bind (yx.mono ?_ (iB o hp (n-1) 1 (Ad _) (by lia) λ i j AV hj=>?_))
 ·rintro m ⟨a1,a2,a3,a4⟩
  by_cases hm:m=n
  ·rw[if_pos (by simp[hm])]
   exact⟨hp,by lia,a3⟩
  ·rw[if_neg (by simp[hm])]
   have hl:lt (p.getD m 0) (p.getD (m-1) 0)=true:=a4.resolve_left (by lia)
   by_cases h2:m>1
   ·rw[if_pos h2]
    refine⟨hp.below (by lia),hp.below (by lia),?_⟩
    cases c:lt (p.getD 0 0) (p.getD (m-1) 0) with
    | true=>exact⟨hp,by lia,a3⟩
    | false=>
     dsimp only
     rw[if_neg BI]
     have all:∀ a b,0<=a->a<m->0<=b->b<m->Le lt (p.getD a 0) (p.getD b 0):=λ a b _ ha _ hb=>
      o.tr _ _ _ (a3 a (m-1) (by lia) (by lia)) (o.tr _ _ _ c (a3 0 b (by lia) hb))
     have e:=rev_eq o hp (i:=0) (j:=m) (by lia) all
     refine bc o (pM hp 0 m) (by lia) (by lia) (λ i j AV hj=>o.tr _ _ _ (e j).1 (o.tr _ _ _ (all _ _ (AM _) hj (AM _) (by lia)) (e i).2)) ?_
     rw[pO hp (by lia),pO hp (by lia),if_neg (by lia),if_pos (by lia)]
     cases q:lt (p.getD m 0) (p.getD (0+m-1-(m-1)) 0) with
     | true=>rfl
     | false=>
      have:=o.tr _ _ _ (all (m-1) (0+m-1-(m-1)) (AM _) (by lia) (AM _) (by lia)) q
      unfold Le at this
      rw[this] at hl;cases hl
   ·rw[if_neg h2]
    have e:m=1:=by lia
    subst e
    refine bc o hp (Ad _) (by lia) (λ i j AV hj=>?_) hl
    have:i=j:=by lia
    subst this;exact o.refl _
 ·have:i=j:=by lia
  subst this;exact o.refl _
theorem kR {p:Array Nat}{k:Nat}(hp:xf n p) (hk:k<n) (hs:wY lt p k) (o:Ord lt):∀ (f l r:Nat),r-l<=f->l<=r->r<=k->(∀ i,i<l->Le lt (p.getD i 0) (p.getD k 0))->(∀ i,r<=i->i<k->lt (p.getD k 0) (p.getD i 0)=true)->
  yx n lt (kas_place p k f l r) λ m=>m<=k/\(∀ i,i<m->Le lt (p.getD i 0) (p.getD k 0))/\(∀ i,m<=i->i<k->lt (p.getD k 0) (p.getD i 0)=true)
 | 0,l,r,h0,h1,h2,ha,hb=>by
  have:l=r:=by lia
  subst this
  exact⟨h2,ha,hb⟩
 | f+1,l,r,h0,h1,h2,ha,hb=>by
  unfold kas_place
  by_cases DT:l≥r
  ·rw[if_pos DT]
   have:l=r:=by lia
   subst this
   exact⟨h2,ha,hb⟩
  ·rw[if_neg DT]
   refine⟨hp.below hk,hp.below (by lia),?_⟩
   cases c:lt (p.getD k 0) (p.getD ((l+r)/2) 0) with
   | true=>
    dsimp only
    rw[if_pos rfl]
    refine kR hp hk hs o f l ((l+r)/2) (by lia) (by lia) (by lia) ha λ i hi Dh=>?_
    cases q:lt (p.getD k 0) (p.getD i 0) with
    | true=>rfl
    | false=>
     have:=o.tr _ _ _ (hs ((l+r)/2) i hi Dh) q
     unfold Le at this
     rw[this] at c;cases c
   | false=>
    dsimp only
    rw[if_neg BI]
    refine kR hp hk hs o f ((l+r)/2+1) r (by lia) (by lia) h2 (λ i hi=>?_) hb
    exact o.tr _ _ _ (hs i ((l+r)/2) (by lia) (by lia)) c
theorem bS (o:Ord lt):∀ (f:Nat) (p:Array Nat) (k:Nat),xf n p->k+f=n->wY lt p k->yx n lt (kas_bin f p k) λ r=>xf n r/\wY lt r n
 | 0,p,k,hp,h1,hs=>by
  have:k=n:=by lia
  subst this
  exact⟨hp,hs⟩
 | f+1,p,k,hp,h1,hs=>by
  refine yx.bind (yx.mono ?_ (kR hp (by lia) hs o k 0 k (by lia) (AM _) (Ad _) (λ i hi=>absurd hi (Nat.not_lt_zero _)) λ i hi Dh=>absurd Dh (by lia)))
  rintro l ⟨a1,a2,a3⟩
  refine bS o f _ (k+1) (Array.Perm.trans (bubble_perm _ _ _) hp) (by lia) λ i j AV hj=>?_
  have ev:∀ x,(bubble p k (k-l)).getD x 0=if x=l then p.getD k 0 else if l<x/\x<=k then p.getD (x-1) 0 else p.getD x 0:=λ x=>by
   have e:=getElem?_bubble (xs:=p) (src:=k) (by rw[hp.size];lia) (k-l) (by lia) x
   rw[show k-(k-l)=l by lia] at e
   split
   ·rename_i h;rw[if_pos h] at e;exact oq e
   ·rename_i h
    rw[if_neg h] at e
    split
    ·rename_i h';rw[if_pos h'] at e;exact oq e
    ·rename_i h';rw[if_neg h'] at e;exact oq e
  rw[ev i,ev j]
  by_cases hi:i=l
  ·rw[if_pos hi]
   by_cases hj':j=l
   ·rw[if_pos hj'];exact o.refl _
   ·rw[if_neg hj',if_pos ⟨by lia,by lia⟩]
    exact o.as _ _ (a3 (j-1) (by lia) (by lia))
  ·rw[if_neg hi]
   by_cases hj':j=l
   ·rw[if_pos hj',if_neg (by lia)]
    exact a2 i (by lia)
   ·rw[if_neg hj']
    by_cases hi2:l<i/\i<=k
    ·rw[if_pos hi2,if_pos ⟨by lia,by lia⟩]
     exact hs _ _ (by lia) (by lia)
    ·rw[if_neg hi2]
     by_cases hj2:l<j/\j<=k
     ·rw[if_pos hj2]
      exact hs _ _ (by lia) (by lia)
     ·rw[if_neg hj2]
      exact hs _ _ AV (by lia)
def Yo (o:Ord lt) (h1:1<=n):yx n lt (kas_sort n) λ r=>xf n r/\wY lt r n:=by
 have hp:xf n (List.range n).toArray:=Array.Perm.refl _
 refine yx.bind (yx.mono ?_ (Rv o hp h1))
 rintro⟨m,p⟩ ⟨a1,a2,a3⟩
 dsimp only at a1 a2 a3 ⊢
 by_cases hm:m<n
 ·rw[if_pos hm]
  refine bS o _ p (max m 1) a1 (by lia) ?_
  by_cases h0:m=0
  ·subst h0
   intro i j AV hj
   have:i=j:=by lia
   subst this;exact o.refl _
  ·rw[show max m 1=m by lia];exact a3
 ·rw[if_neg hm]
  have:m=n:=by lia
  subst this
  exact⟨a1,a3⟩
end
end L4
namespace L4
open PySem PySem.W PySem.Calls PyProof.Rows
section
variable {prog:Program}{w:World}{A:Around}{E:Value->Shared->Prop}{s:Shared}
def Core (prog:Program) (w:World) (A:Around) (E:Value->Shared->Prop) (vs:List Value) (Out:Array Value->Prop) (s6:Shared):Prop:=
 wpAny (model prog w) A (keyKind' vs.toArray) (fun κ s'=>s'=s6/\wpAny (model prog w) A ((sortRuns').run (SortSt.mk' κ (vs.toArray.zip vs.toArray) #[] 7 none))
  (λ r s''=>s''=s6/\failedOf r.2=none/\Out ((arrOf r.2).map (·.2))/\(arrOf r.2).size=vs.length) E s') E s6
def U_ {a:Addr}{vs:List Value}{n:Nat}{P:PySem.Fin->Shared->Prop}{Out:Array Value->Prop}(ho:s.heap.get? a=some (seqObj "list" vs.toArray n)) (hz:vs.length<=sizeLine)
  (core:2<=vs.length->∀ s6:Shared,(∀ b o,b≠a->s.heap.get? b=some o->s6.heap.get? b=some o)->Core prog w A E vs Out s6) (short:vs.length<2->Out vs.toArray)
  (fin:∀ out:Array Value,Out out->out.size=vs.length->P (.done (.ret .none)) { s with heap:=sortedHeap s.heap a vs out }):
  wpAny (model prog w) A (Builtin.«list.sort» ⟨[.ref a],[]⟩) P E s:=by
 have ha:a<s.heap.objs.size:=Ai ho
 obtain⟨e1,g1⟩:∃ e1,(s.heap.update a (Obj.mapSeq λ _=>#[])).get? a=some (seqObj "list" #[] e1):=⟨_,get?_update_seq ho (λ _=>#[])⟩
 have hz':vs.toArray.size<=sizeLine:=by rw[Ao];exact hz
 have g6:(((s.heap.update a (Obj.mapSeq λ _=>#[])).push (seqObj "tuple" vs.toArray 0)).push (seqObj "list" #[] 0)).get? a=some (seqObj "list" #[] e1):=za1 _ (za1 _ g1)
 have keep:∀ b o,b≠a->s.heap.get? b=some o->(((s.heap.update a (Obj.mapSeq λ _=>#[])).push (seqObj "tuple" vs.toArray 0)).push (seqObj "list" #[] 0)).get? b=some o:=
  λ b o hb e=>za1 _ (za1 _ (by rw[Heap.get?_update_ne _ _ _ _ hb];exact e))
 rw[list_sort_plain]
 refine za0 (listItems_at ho rfl (za0 (listUpdate_at ho rfl (za0 (seqEpoch_at g1 rfl (za0 (wpAny_newTuple (za0 (wpAny_newList (za5 ?_))) (by simpa using hz))))) hz' (AM _))))
 by_cases h2:vs.toArray.size<2
 ·rw[if_pos h2,if_pos h2]
  have e2:(arrOf (SortSt.mk' general' (vs.toArray.zip vs.toArray) #[] 7 none)).map (·.2)=vs.toArray:=by
   show (vs.toArray.zip vs.toArray).map (·.2)=vs.toArray
   apply Array.ext (by simp)
   intro i h1 h2
   simp
  refine za0 (Ab ?_)
  dsimp only
  rw[StateT.run_pure]
  refine za0 (Ab ?_)
  dsimp only
  refine za0 (seqEpoch_at g6 rfl (za0 (listUpdate_at g6 rfl ?_ (AM _) ?_)))
  ·simp only[bne_self_eq_false,A3,if_false]
   have q:=fin _ (e2▸short (by simpa using h2)) (by rw[e2];simp)
   exact Ab q
  ·show (((arrOf (SortSt.mk' general' (vs.toArray.zip vs.toArray) #[] 7 none)).map (·.2))).size<=sizeLine+1
   rw[e2];lia
 ·rw[if_neg h2,if_neg h2]
  have h2':2<=vs.length:=by simpa using h2
  refine za0 (za3 (core h2' _ keep) (fun κ s7 ⟨hs,h7⟩=>?_) λ _ _ z=>z)
  subst hs
  refine za0 (za3 h7 (λ r s8 ⟨hs,hf,DP,Ar⟩=>?_) λ _ _ z=>z)
  subst hs
  obtain⟨⟨⟩,st⟩:=r
  refine za0 (seqEpoch_at g6 rfl (za0 (listUpdate_at g6 rfl ?_ (AM _) ?_)))
  ·have hf':failedOf st=none:=hf
   rw[hf']
   simp only[bne_self_eq_false,A3,if_false]
   exact Ab (fin _ DP (by rw[CA];exact Ar))
  ·show ((arrOf st).map (·.2)).size<=sizeLine+1
   rw[CA]
   have:(arrOf st).size=vs.length:=Ar
   lia
end
end L4
namespace L4
open PySem PySem.W PySem.Calls PyProof.Rows L2
theorem j4:∀ a b:List Int,HT.lexLt a b=true->HT.lexLt b a=false
 | [],[],h=>by cases h
 | [],_::_,_=>rfl
 | _::_,[],h=>by cases h
 | x::a,y::b,h=>by
  rw[HT.og] at h ⊢
  by_cases e:x=y
  ·subst e;rw[if_pos rfl] at h ⊢;exact j4 a b h
  ·rw[if_neg e] at h;rw[if_neg (Ne.symm e)]
   have:=of_decide_eq_true h
   exact za7 (by lia)
theorem j5:∀ a b:List Int,HT.lexLt a b=false->HT.lexLt b a=false->a=b
 | [],[],_,_=>rfl
 | [],_::_,h,_=>by cases h
 | _::_,[],_,h=>by cases h
 | x::a,y::b,h,h'=>by
  rw[HT.og] at h h'
  by_cases e:x=y
  ·subst e;rw[if_pos rfl] at h h';rw[j5 a b h h']
  ·rw[if_neg e] at h;rw[if_neg (Ne.symm e)] at h'
   have h1:=of_decide_eq_false h
   have h2:=of_decide_eq_false h'
   lia
theorem j0:∀ a b c:List Int,HT.lexLt b a=false->HT.lexLt c b=false->HT.lexLt c a=false
 | [],[],[],_,_=>rfl
 | [],[],_::_,_,h=>h
 | [],_::_,[],_,h=>by cases h
 | [],_::_,_::_,_,_=>rfl
 | _::_,[],_,h,_=>by cases h
 | _::_,_::_,[],_,h=>by cases h
 | x::a,y::b,z::c,h,h'=>by
  rw[HT.og] at h h' ⊢
  by_cases e1:y=x
  ·subst e1
   rw[if_pos rfl] at h
   by_cases e2:z=y
   ·subst e2;rw[if_pos rfl] at h' ⊢;exact j0 a b c h h'
   ·rw[if_neg e2] at h' ⊢;exact h'
  ·rw[if_neg e1] at h
   have h1:=of_decide_eq_false h
   by_cases e2:z=y
   ·subst e2;rw[if_neg e1];exact h
   ·rw[if_neg e2] at h'
    have h2:=of_decide_eq_false h'
    rw[if_neg (by lia)]
    exact za7 (by lia)
theorem kU {α:Type}{r:α->α->Prop}(an:∀ a b,r a b->r b a->a=b):∀ {l₁ l₂:List α},l₁.Perm l₂->l₁.Pairwise r->l₂.Pairwise r->l₁=l₂
 | [],l₂,h,_,_=>(List.nil_perm.mp h).symm
 | a::l₁,[],h,_,_=>absurd (List.perm_nil.mp h) (by simp)
 | a::l₁,b::l₂,h,h1,h2=>by
  have Cs:a=b:=by
   have ha:a∈b::l₂:=h.mem_iff.mp Ap
   have hb:b∈a::l₁:=h.mem_iff.mpr Ap
   rcases Aj.mp ha with e | ha
   ·exact e
   ·rcases Aj.mp hb with e | hb
    ·exact e.symm
    ·exact an _ _ (List.rel_of_pairwise_cons h1 hb) (List.rel_of_pairwise_cons h2 ha)
  subst Cs
  rw[kU an (List.Perm.cons_inv h) (BZ.mp h1).2 (BZ.mp h2).2]
def vP (rows:List (List Int)):List (List Int):=rows.mergeSort λ a b=>!HT.lexLt b a
def nA (rows:List (List Int)):(vP rows).Perm rows:=List.mergeSort_perm _ _
def fh (rows:List (List Int)):(vP rows).Pairwise λ a b=>HT.lexLt b a=false:=by
 have:=List.pairwise_mergeSort (le:=λ a b:List Int=>!HT.lexLt b a) (λ a b c h1 h2=>by simp at h1 h2 ⊢;exact j0 a b c h1 h2)
  (λ a b=>by
   cases h:HT.lexLt b a with
   | false=>simp
   | true=>simp[j4 b a h]) rows
 exact this.imp λ h=>by simpa using h
def Yp {rows out:List (List Int)}(hp:out.Perm rows) (hs:out.Pairwise λ a b=>HT.lexLt b a=false):out=vP rows:=
 kU (λ a b h1 h2=>j5 a b h2 h1) (hp.trans (nA rows).symm) hs (fh rows)
def pL (rows:List (List Int)) (i j:Nat):Bool:=HT.lexLt (rows.getD i []) (rows.getD j [])
def YR (rows:List (List Int)):Ord (pL rows):=⟨λ _ _ _ h1 h2=>j0 _ _ _ h1 h2,λ _ _ h=>j4 _ _ h⟩
section
variable {prog:Program}{w:World}{A:Around}{E:Value->Shared->Prop}{s:Shared}{Q:Bool->Shared->Prop}
theorem dQ {b:Bool}:∀ (ns ms:List Int) (us ws:List Value) (i:Nat),IntsAre us ns->IntsAre ws ms->Q (HT.lexLt ns ms) s->KatLex prog w A b (decide (ns.length<ms.length)) Q (us.zip ws) i s
 | [],[],_,_,_,.nil,.nil,h=>kat_nil (by simpa [HT.lexLt] using h)
 | [],_::_,_,_,_,.nil,.cons _ _ _,h=>kat_nil (by simpa [HT.lexLt] using h)
 | _::_,[],_,_,_,.cons _ _ _,.nil,h=>kat_nil (by simpa [HT.lexLt] using h)
 | n::ns,m::ms,_,_,i,.cons _ t hu,.cons _ u hw,h=>by
  rw[HT.og] at h
  refine kat_cons (SeqAt.EqAt.int_int n t m u prog w _ _ (kat_go (λ e=>kat_yes ?_) λ e=>kat_no ?_))
  ·have e':n=m:=by simpa using e
   rw[if_pos e'] at h
   rw[show decide ((n::ns).length<(m::ms).length)=decide (ns.length<ms.length) by simp]
   exact dQ ns ms _ _ (i+1) hu hw h
  ·have e':¬ n=m:=by simpa using e
   rw[if_neg e'] at h
   cases b&&i == 0 with
   | true=>exact kat_lt_int h
   | false=>exact kat_one _ _ (lt_int h)
def rM (h:Heap):List Value->List (List Int)->Prop:=Paired λ v r=>r≠[]/\∃ b o its n,v=.ref b/\h.get? b=some o/\o.cls=.type "tuple"/\o.data=.seq its n/\IntsAre its.toList r
theorem rM.cO {h:Heap}:∀ {vs:List Value}{rows:List (List Int)},rM h vs rows->∃ fs,KatTups h vs fs/\fs.length=vs.length/\∀ v∈fs,∃ n t,v=Value.int n t
 | _,_,.nil=>⟨[],KatTups.nil,rfl,λ _ hv=>absurd hv (by simp)⟩
 | _,_,.cons ⟨An,b,o,its,n,hv,ho,hc,hd,hi⟩ r=>by
  obtain⟨fs,h1,h2,h3⟩:=rM.cO r
  subst hv
  obtain⟨its⟩:=its
  cases hi with
  | nil=>exact absurd rfl An
  | cons k t _=>exact⟨.int k t::fs,KatTups.cons ho hc hd rfl h1,by simp[h2],λ v hv=>(Aj.mp hv).elim (λ e=>⟨k,t,e⟩) (h3 v)⟩
theorem Paired.at' {α β:Type}{F:α->β->Prop}:∀ {l₁:List α}{l₂:List β}{i:Nat},Paired F l₁ l₂->i<l₁.length->∀ (d:α) (e:β),F (l₁.getD i d) (l₂.getD i e)
 | _,_,_,.nil,h,_,_=>absurd h (by simp)
 | _,_,0,.cons r _,_,_,_=>r
 | _,_,i+1,.cons _ t,h,d,e=>by simpa using Paired.at' (i:=i) t (by simpa using h) d e
def rM.ask {vs:List Value}{rows:List (List Int)}{b:Bool}(r:rM s.heap vs rows) {i j:Nat}(hi:i<vs.length) (hj:j<vs.length) {C:Bool->Shared->Prop}(h:C (pL rows i j) s):kas_ask prog w A (tuples' b) vs i j C s:=by
 obtain⟨_,b1,o1,its1,n1,e1,g1,_,d1,q1⟩:=Paired.at' r hi Value.none []
 obtain⟨_,b2,o2,its2,n2,e2,g2,_,d2,q2⟩:=Paired.at' r hj Value.none []
 unfold kas_ask
 rw[e1,e2]
 refine kat_lt g1 d1 g2 d2 ?_
 have l1:=q1.length
 have l2:=q2.length
 rw[Bd] at l1 l2
 rw[l1,l2]
 exact dQ _ _ _ _ 0 q1 q2 h
theorem gz {α:Type}{n:Nat}{lt:Nat->Nat->Bool}{cmp:Nat->Nat->(Bool->Shared->Prop)->Shared->Prop}{Q:α->Shared->Prop}(hc:∀ i j C,i<n->j<n->C (lt i j) s->cmp i j C s):∀ {t:KasT α},yx n lt t (λ a=>Q a s)->t.kasWp cmp Q s
 | .ret _,h=>h
 | .ask i j _,h=>hc i j _ h.1 h.2.1 (gz hc h.2.2)
def iM (vs:List Value) (rows:List (List Int)) (out:Array Value):Prop:=
 ∃ idx:List Nat,idx.Perm (List.range vs.length)/\out.toList=idx.map (λ i=>vs.getD i Value.none)/\(idx.map λ i=>rows.getD i []).Pairwise λ a b=>HT.lexLt b a=false
def Yl {rows:List (List Int)}{p:Array Nat}{n:Nat}(hn:p.size=n) (h:wY (pL rows) p n):(p.toList.map λ i=>rows.getD i []).Pairwise λ a b=>HT.lexLt b a=false:=by
 rw[Cz,Cy]
 intro i j hi hj AV
 have:=h i j (BD AV) (by rw[<- hn];simpa using hj)
 simp only[Bd] at hi hj
 unfold Le pL at this
 simpa [C9,hi,hj] using this
def Rw {vs:List Value}{rows:List (List Int)}(r:rM s.heap vs rows) (h2:2<=vs.length) (h64:vs.length<64):Core prog w A E vs (iM vs rows) s:=by
 obtain⟨fs,t,hl,hf⟩:=r.cO
 unfold Core
 refine kat_kind (T:=.type "int") t (by lia) (λ v hv=>?_) rfl ⟨rfl,?_⟩
 ·obtain⟨n,t,rfl⟩:=hf v hv
  exact Looks.of_pure rfl
 ·refine kat_run (ks:=vs) (Q:=λ st s''=>s''=s/\failedOf st=none/\iM vs rows ((arrOf st).map (·.2))/\(arrOf st).size=vs.length) (G:=λ p s''=>s''=s/\xf vs.length p/\wY (pL rows) p vs.length) rfl h2 h64 (λ p st s' hs ha DX hg=>?_) ?_
  ·obtain⟨h1,h3,h4⟩:=hg
   refine⟨h1,DX,⟨p.toList,?_,?_,Yl hs h4⟩,by rw[ha,CA];exact hs⟩
   ·have:=Array.Perm.toList h3
    simpa using this
   ·rw[kat_snds rfl ha]
  ·exact gz (λ i j C hi hj hC=>r.ask hi hj hC) (yx.mono (λ p hp=>⟨rfl,hp⟩) (Yo (YR rows) (by lia)))
end
end L4
namespace L2
open PySem PySem.Spec PyProof.Rows
noncomputable def yJ (ty T:String):Bool:=ty == T||(ty == "bool"&&T == "int")
def ni (ty T:String):Bool:=PySem.W.kitMeta T&&decide ((fastBuiltinMro ty).map (λ l=>l.contains (Value.type T))=some (yJ ty T))
def ZC:(["NoneType","bool","int","str","tuple","list","dict"].all λ ty=>["int","bool","tuple","list","str"].all λ T=>ni ty T)=true:=by decide +kernel
def Tq {K:Aa}{ty T:String}(h:ni ty T=true):PySem.W.kitOne K (.type ty) (.type T)=some (yJ ty T):=by
 unfold ni at h
 rw[AU] at h
 unfold PySem.W.kitOne
 split
 ·rename_i e
  have e':ty=T:=by have:=eq_of_beq e;injection this
  subst e'
  simp[yJ]
 ·show (if PySem.W.kitMeta T=true then PySem.W.subIn K (.type ty) (.type T) else none)=_
  rw[if_pos h.1]
  exact of_decide_eq_true h.2
noncomputable def bW (K:Aa) (H:Hp):V->String->Prop
 | .zg,t=>t="NoneType"
 | .bl _,t=>t="bool"
 | .int _,t=>t="int"
 | .str _,t=>t="str"
 | .ref a,t=>(t="tuple"/\∃ xs,zY K H a xs)\/(t="list"/\∃ xs,zP K H a xs)\/(t="dict"/\∃ Ae,H a=some (.dK Ae))
 | _,_=>False
def RK {X:Cx}:yW X (.builtin "isinstance") (λ xs H Q=>∃ x T ty,xs=[x,.ty T]/\bW X.K H x ty/\ni ty T=true/\Q (.bl (yJ ty T)) H):=by
 intro pins s Y H xs us Q I r h
 obtain⟨x,T,ty,rfl,hx,hT,q⟩:=h
 obtain⟨u,c,rfl,ru,rc⟩:=vals2 r
 cases (show c=Value.type T from rc)
 have e:PySem.W.kitOne X.K (.type ty) (.type T)=some (yJ ty T):=Tq hT
 have fin:∀ tk,EP X pins Y Q (.bool (yJ ty T)) { s with toks:=tk }:=λ tk=>⟨.bl _,H,I.tok tk,rfl,q⟩
 cases x with
 | zg=>cases (show u=Value.none from ru);cases (show ty=_ from hx);exact PySem.W.kia_one PySem.W.kitx_none I.y8 True.intro e (λ z=>nomatch z) fin
 | bl y=>cases (show u=Value.bool y from ru);cases (show ty=_ from hx);exact PySem.W.kia_one PySem.W.kitx_bool I.y8 True.intro e (λ z=>nomatch z) fin
 | int i=>obtain⟨t,rfl⟩:=(show ∃ t,u=Value.int i t from ru);cases (show ty=_ from hx);exact PySem.W.kia_one PySem.W.kitx_int I.y8 True.intro e (λ z=>nomatch z) fin
 | str y=>obtain⟨t,rfl⟩:=(show ∃ t,u=Value.str y t from ru);cases (show ty=_ from hx);exact PySem.W.kia_one PySem.W.kitx_str I.y8 True.intro e (λ z=>nomatch z) fin
 | ref a=>
  cases (show u=Value.ref a from ru)
  rcases hx with ⟨rfl,ys,hq⟩ | ⟨rfl,ys,hq⟩ | ⟨rfl,Ae,hq⟩
  ·obtain⟨its,_,⟨o,h1,h2,_⟩,_⟩:=I.tuple hq
   exact PySem.W.kia_one PySem.W.kitx_tuple I.y8 ⟨o,h1,h2⟩ e (λ z=>nomatch z) fin
  ·obtain⟨its,_,⟨o,n,h1,h2,_⟩,_⟩:=I.list hq
   exact PySem.W.kia_one PySem.W.kitx_list I.y8 ⟨o,h1,h2⟩ e (λ z=>nomatch z) fin
  ·obtain⟨_,_,vs,_,p⟩:=(show xG X.prog X.w H s.heap a (.dK Ae) from I.zu a _ hq)
   obtain⟨o,es,ep,h1,h2,_⟩:=p
   exact PySem.W.kia_one PySem.W.kitx_dict I.y8 ⟨o,h1,h2.1⟩ e (λ z=>nomatch z) fin
 | _=>exact hx.elim
end L2
namespace L3
open PySem PySem.Spec L2
open PyProof.Rows hiding St
section
variable {X:Cx}{K:Aa}{a b e:Expr}{es:List Expr}{te:zx}{tA:yb}{pos p q:Pos}
def wD (hm:X.mg "len"=none) (ha:xA X (e::es) tA) (hg:Gl X "len":=by rfl) (he:starEach (e::es) X.env=(false,eval e X.env)::starEach es X.env:=by rfl) (Ag:(backTo pos (starEach es X.env)).any (·.1)=false:=by rfl):PD X (.Call (.Name "len" p) (e::es) [] pos) (wX vE tA):=
 qw (qq (RH.or RG) hg hm PySem.boot_len ha.pa (by decide) (by decide) he Ag) vE.mo vE.fits ha.mo
def eN (hm:X.mg "list"=none) (ha:xA X (e::es) tA) (hg:Gl X "list":=by rfl) (he:starEach (e::es) X.env=(false,eval e X.env)::starEach es X.env:=by rfl) (Ag:(backTo pos (starEach es X.env)).any (·.1)=false:=by rfl):PD X (.Call (.Name "list" p) (e::es) [] pos) (wX vD tA):=
 qw (nU RF hg hm PyProof.Rows.boot_list ha.pa (by decide) (by decide) he Ag) vD.mo vD.fits ha.mo
def jd (hm:X.mg "tuple"=none) (ha:xA X (e::es) tA) (hg:Gl X "tuple":=by rfl) (he:starEach (e::es) X.env=(false,eval e X.env)::starEach es X.env:=by rfl) (Ag:(backTo pos (starEach es X.env)).any (·.1)=false:=by rfl):PD X (.Call (.Name "tuple" p) (e::es) [] pos) (wX vC tA):=
 qw (nU R7 hg hm PyProof.Rows.boot_tuple ha.pa (by decide) (by decide) he Ag) vC.mo vC.fits ha.mo
abbrev cQ:xZ:=u7 λ i j=>.int (if j<i then j else i)
def rf (hm:X.mg "min"=none) (ha:xA X (e::es) tA) (hc:X.calm=true:=by rfl) (hg:Gl X "min":=by rfl) (he:starEach (e::es) X.env=(false,eval e X.env)::starEach es X.env:=by rfl) (Ag:(backTo pos (starEach es X.env)).any (·.1)=false:=by rfl):PD X (.Call (.Name "min" p) (e::es) [] pos) (wX cQ tA):=
 qw (qq (RE hc) hg hm boot_min ha.pa (by decide) (by decide) he Ag) u7.mo (u7.fits λ _ _ _=>by simp only[zi]) ha.mo
noncomputable def wj (r:List Int):D:=.tup (r.map D.int)
theorem kK {H:Hp}:∀ {rows:List (List Int)}{ys:List V},zm K H (rows.map wj) ys->(∀ r∈rows,r≠[])->Paired (λ v r=>r≠[]/\∃ b,v=V.ref b/\zY K H b (r.map V.int)) ys rows
 | [],ys,h,_=>by simp only[Bc,zm] at h;subst h;exact .nil
 | r::rows,ys,h,hn=>by
  rw[Ax] at h
  simp only[zm,wj,zi] at h
  obtain⟨x,ys',rfl,⟨a,xs,rfl,g1,g2⟩,h3⟩:=h
  rw[g2.ints] at g1
  exact .cons ⟨hn r Ap,a,rfl,g1⟩ (kK h3 λ r' hr=>hn r' (Av _ hr))
def UN {α:Type}{rows:List α}{d:α}{idx:List Nat}(h:idx.Perm (List.range rows.length)):(idx.map λ i=>rows.getD i d).Perm rows:=by
 refine (h.map _).trans ?_
 have:(List.range rows.length).map (λ i=>rows.getD i d)=rows:=by
  refine Cc (by simp) λ i h1 h2=>?_
  simp[h2]
 rw[this]
theorem zm.perm {H:Hp}{rows:List (List Int)}{ys:List V}(h:zm K H (rows.map wj) ys):∀ {idx:List Nat},(∀ i∈idx,i<rows.length)->zm K H ((idx.map λ i=>rows.getD i []).map wj) (idx.map λ i=>ys.getD i .zg)
 | [],_=>.nil
 | i::idx,hi=>by
  have h1:=hi i Ap
  obtain⟨x,e1,e2⟩:=h.get (i:=i) (d:=wj rows[i]) (by simp[h1])
  refine .cons ?_ (zm.perm h λ j hj=>hi j (Av _ hj))
  have e3:ys.getD i .zg=x:=by simp[e1]
  have e4:rows.getD i []=rows[i]:=by simp[h1]
  show zi K H (wj (rows.getD i [])) (ys.getD i .zg)
  rw[e3,e4];exact e2
def sZ {tg:Expr}(hm:X.mg "range"=none) (ha:xA X [a] tA) (hg:Gl X "range":=by rfl) (hs:starEach [a] X.env=[(false,eval a X.env)]:=by rfl):uJ X tg (.Call (.Name "range" p) [a] [] pos) (j9 tA):=Wm (X4 hg hm ha.pa hs) ha.mo
def Wk {tg:Expr}(hm:X.mg "range"=none) (ha:xA X [a,b] tA) (hg:Gl X "range":=by rfl) (hs:starEach [a,b] X.env=[(false,eval a X.env),(false,eval b X.env)]:=by rfl) (hs2:starEach [b] X.env=[(false,eval b X.env)]:=by rfl):uJ X tg (.Call (.Name "range" p) [a,b] [] pos) (j8 tA):=Wl (X3 hg hm ha.pa hs hs2) ha.mo
noncomputable def tL (d:D) (S:SS):Option String:=match d with
 | .zg=>some "NoneType"
 | .bl _=>some "bool"
 | .int _=>some "int"
 | .str _=>some "str"
 | .tup _=>some "tuple"
 | .xx _=>some "list"
 | .ref p=>match S p with
  | some (.lst _)=>some "list"
  | some (.yo _)=>some "dict"
  | none=>none
 | .err _ _ _=>none
def rD (T:String) (te:zx):zx:=fun L S Q=>te L S λ x S1=>match tL x S1 with
 | some ty=>Q (.bl (yJ ty T)) S1
 | none=>False
def tL.ok {H:Hp}{d:D}{v:V}{S:SS}{ty:String}(r:zi K H d v) (p:zE K H S) (h:tL d S=some ty):bW K H v ty/\ty∈["NoneType","bool","int","str","tuple","list","dict"]:=by
 cases d with
 | err _ _ _=>cases h
 | tup ds=>
  simp only[zi] at r
  obtain⟨a,xs,rfl,g1,_⟩:=r
  cases h
  exact⟨.inl ⟨rfl,xs,g1⟩,by simp⟩
 | xx ds=>
  simp only[zi] at r
  obtain⟨a,xs,rfl,g1,_⟩:=r
  cases h
  exact⟨.inr (.inl ⟨rfl,xs,g1.sq⟩),by simp⟩
 | ref a=>
  simp only[zi] at r
  subst r
  unfold tL at h
  dsimp only at h
  split at h
  ·rename_i e
   cases h
   obtain⟨xs,g1,_⟩:=p _ _ e
   exact⟨.inr (.inl ⟨rfl,xs,zP.of g1⟩),by simp⟩
  ·rename_i e
   cases h
   obtain⟨xs,g1,_⟩:=p _ _ e
   exact⟨.inr (.inr ⟨rfl,xs,g1⟩),by simp⟩
  ·cases h
 | _=>simp only[zi] at r;subst r;cases h;exact⟨rfl,by simp⟩
def pU {T:String}{x:Str}(hT:T∈["int","bool","tuple","list","str"]) (hm:X.mg "isinstance"=none) (hm2:X.mg x=none) (hv:bootBuiltins x=some (.type T)) (hg2:Gl X x) (hn:x≠"__name__") (hd:(x == ("__debug__":Str))=false) (he:PD X e te) (hg:Gl X "isinstance":=by rfl)
  (h1:starEach (e::[.Name x q]) X.env=(false,eval e X.env)::starEach [.Name x q] X.env:=by rfl) (h2:(backTo pos (starEach [.Name x q] X.env)).any (·.1)=false:=by rfl) (h3:starEach [.Name x q] X.env=(false,eval (.Name x q) X.env)::starEach [] X.env:=by rfl):
  PD X (.Call (.Name "isinstance" p) [e,.Name x q] [] pos) (rD T te):=by
 refine⟨fun L S Q Q' hq z=>he.mo L S _ _ (λ y S1 z=>?_) z,PE.imp (qq RK hg hm boot_isinstance (tW he.pe (tW (eG (v:=.ty T) hg2 hm2 hv rfl hn hd) qx h3) h1) (by decide) (by decide) h1 h2) fun Y H Q hu=>?_⟩
 ·split at z
  ·exact hq _ _ z
  ·exact z
 ·obtain⟨L,S,r1,r2,z⟩:=hu
  refine zU.go he.mo r1 r2 z λ y S1 v H1 z1 q1 e1 p1=>?_
  split at z1
  ·rename_i ty ht
   obtain⟨g1,g2⟩:=tL.ok q1 p1 ht
   refine⟨v,T,ty,rfl,g1,?_,z1 _ H1 (by simp only[zi]) e1 p1⟩
   exact AW.mp (AW.mp ZC ty g2) T hT
  ·exact z1.elim
def tV (T:Bt X.mg) (he:PD X e te) (hg:Gl X "isinstance":=by rfl) (hg2:Gl X "bool":=by rfl) (h1:starEach (e::[.Name "bool" q]) X.env=(false,eval e X.env)::starEach [.Name "bool" q] X.env:=by rfl) (h2:(backTo pos (starEach [.Name "bool" q] X.env)).any (·.1)=false:=by rfl) (h3:starEach [.Name "bool" q] X.env=(false,eval (.Name "bool" q) X.env)::starEach [] X.env:=by rfl):
  PD X (.Call (.Name "isinstance" p) [e,.Name "bool" q] [] pos) (rD "bool" te):=pU (by simp) T.isinstance T.bool PyProof.Rows.boot_bool hg2 (by decide) (by decide) he hg h1 h2 h3
def rh (T:Bt X.mg) (he:PD X e te) (hg:Gl X "isinstance":=by rfl) (hg2:Gl X "int":=by rfl) (h1:starEach (e::[.Name "int" q]) X.env=(false,eval e X.env)::starEach [.Name "int" q] X.env:=by rfl) (h2:(backTo pos (starEach [.Name "int" q] X.env)).any (·.1)=false:=by rfl) (h3:starEach [.Name "int" q] X.env=(false,eval (.Name "int" q) X.env)::starEach [] X.env:=by rfl):
  PD X (.Call (.Name "isinstance" p) [e,.Name "int" q] [] pos) (rD "int" te):=pU (by simp) T.isinstance T.int PyProof.Rows.boot_int hg2 (by decide) (by decide) he hg h1 h2 h3
def nW (T:Bt X.mg) (he:PD X e te) (hg:Gl X "isinstance":=by rfl) (hg2:Gl X "tuple":=by rfl) (h1:starEach (e::[.Name "tuple" q]) X.env=(false,eval e X.env)::starEach [.Name "tuple" q] X.env:=by rfl) (h2:(backTo pos (starEach [.Name "tuple" q] X.env)).any (·.1)=false:=by rfl) (h3:starEach [.Name "tuple" q] X.env=(false,eval (.Name "tuple" q) X.env)::starEach [] X.env:=by rfl):
  PD X (.Call (.Name "isinstance" p) [e,.Name "tuple" q] [] pos) (rD "tuple" te):=pU (by simp) T.isinstance T.tuple PyProof.Rows.boot_tuple hg2 (by decide) (by decide) he hg h1 h2 h3
def rg {o:Expr}{to:zx}{apos Ah:Pos}(ho:PD X o to) (he:PD X e te)
  (hbase:attributeBase o "append" X.env (eval o X.env)=eval o X.env:=by rfl)
  (AL:((backTo Ah (starEach [e] X.env)).all (λ x=>!x.1)&&(backToKw Ah (keywordEach [] X.env)).all (λ x=>x.1.isSome)
   && decide ([e].length+([]:List Keyword).length+(if ([]:List Keyword).isEmpty then 0 else 1)<30))=true:=by rfl)
  (hline:(apos.endLine == Ah.line)=true:=by rfl) (hs:starEach [e] X.env=(false,eval e X.env)::starEach [] X.env:=by rfl) (hplain:(backTo Ah (starEach [] X.env)).any (·.1)=false:=by rfl):
  PD X (.Call (.Attribute o "append" apos) [e] [] Ah) (sr to te):=
 W3 (o:=o) (e:=e) (XZ PySem.F.plainAttrs_list PySem.F.slot_list_append PySem.F.type_list_append dw ho.pe (tW he.pe qx hs) hbase AL hline hs hplain) ho.mo he.mo
structure FD (P:Program) (w:World) (K:Aa) (mg:Str->Option Value) (base:Heap) (x:Str) (k:Nat) (ps:List Str) (sp:xE):Prop where
 ex:∃ (f:Addr) (fd:FuncData),xg P w K mg base xv k f fd ps (uS K sp)/\mg x=some (.ref f)/\PySem.W.keepIn K (.ref f)=true/\Binds K fd ps []
 mo:qX sp
def eQ {x:Str}{k:Nat}{ps:List Str}{sp:xE}(F:FD X.prog X.w X.K X.mg X.base x k ps sp) (hr:ye k X.A) (ha:xA X (e::es) tA) (hg:Gl X x:=by rfl) (AQ:(x == ("__debug__":Str))=false:=by decide)
  (he:starEach (e::es) X.env=(false,eval e X.env)::starEach es X.env:=by rfl) (Ag:(backTo pos (starEach es X.env)).any (·.1)=false:=by rfl):PD X (.Call (.Name x p) (e::es) [] pos) (mF sp tA):=by
 obtain⟨⟨f,fd,h1,h2,h3,h4⟩,hm⟩:=F
 exact W0 (E:=E0) (XY h1 hr hg h2 h3 h4 .nil W4 ha.pa AQ he Ag) hm ha.mo
end
def SV {S:SS}{p:Addr}{ds:List D}{Q:DK}(e:S p=some (.lst ds)) (h:Q (.tup ds) S):vC [.ref p] S Q:=by
 unfold vC;dsimp only;rw[e];exact h
def SW {S:SS}{d:D}{ds:List D}{Q:DK}(e:zZ d S=some ds) (h:∀ p,S p=none->Q (.ref p) (ups S p (.lst ds))):vD [d] S Q:=by
 unfold vD;dsimp only;rw[e];exact h
def SX {S:SS}{d:D}{ds:List D}{Q:DK}(e:zZ d S=some ds) (h:Q (.int ds.length) S):vE [d] S Q:=by
 unfold vE;dsimp only;rw[e];exact h
def ZJ {S:SS}{p:Addr}{ds:List D}{Q:Bool->SS->Prop}(e:S p=some (.lst ds)) (h:Q (!ds.isEmpty) S):vd (.ref p) S Q:=by
 unfold vd;dsimp only;rw[e];exact h
def Ra {S:SS}{p:Addr}{ds:List D}{i:Int}{d:D}{Q:DK}(e:S p=some (.lst ds)) (e2:L2.zD ds i=some d) (h:Q d S):xW (.ref p) (.int i) S Q:=by
 unfold xW;dsimp only;rw[e];dsimp only;rw[e2];exact h
def SY {S:SS}{ds:List D}{i:Int}{d:D}{Q:DK}(e2:L2.zD ds i=some d) (h:Q d S):xW (.tup ds) (.int i) S Q:=by
 unfold xW;dsimp only;rw[e2];exact h
def S_ {S:SS}{ds:List D}{i:Int}{d:D}{Q:DK}(e2:L2.zD ds i=some d) (h:Q d S):xW (.xx ds) (.int i) S Q:=by
 unfold xW;dsimp only;rw[e2];exact h
inductive T where
 | zg | bl (b:Bool) | int (i:Int) | str (x:Str) | tup (ts:List T) | lst (ts:List T) | yP | err (c f:Str) (t:T)
mutual
noncomputable def eqT:T->T->Bool
 | .zg,.zg=>true
 | .bl a,.bl b=>a == b
 | .bl a,.int b=>(if a then 1 else 0) == b
 | .int a,.bl b=>a == (if b then 1 else 0)
 | .int a,.int b=>a == b
 | .str a,.str b=>a == b
 | .tup a,.tup b=>wW a b
 | .lst a,.lst b=>wW a b
 | .yP,.yP=>true
 | .err a b t,.err c d u=>a == c&&(b == d&&eqT t u)
 | _,_=>false
noncomputable def wW:List T->List T->Bool
 | [],[]=>true
 | a::as,b::bs=>eqT a b&&wW as bs
 | _,_=>false
end
mutual
noncomputable def dep:T->Nat
 | .tup ts=>1+xb ts
 | .lst ts=>1+xb ts
 | .yP=>cLine
 | .err _ _ _=>cLine
 | _=>0
noncomputable def xb:List T->Nat
 | []=>0
 | t::ts=>max (dep t) (xb ts)
end
noncomputable def jj:List T->Bool
 | []=>true
 | .int _::ts=>jj ts
 | _=>false
def WV (ns:List Int):jj (ns.map T.int)=true:=by
 induction ns with
 | nil=>rfl
 | cons n ns ih=>exact ih
mutual
noncomputable def Sn (S:SS):T->D->Prop
 | .zg,d=>d=.zg
 | .bl b,d=>d=.bl b
 | .int i,d=>d=.int i
 | .str x,d=>d=.str x
 | .tup ts,d=>∃ ds,d=.tup ds/\zk S ts ds
 | .lst ts,d=>∃ ds,((d=.xx ds/\jj ts=true)\/∃ a,d=.ref a/\S a=some (.lst ds))/\zk S ts ds
 | .yP,d=>∃ a Ae,(d=.ref a/\Ae=[])/\S a=some (.yo Ae)
 | .err c f t,d=>∃ x,d=.err c f x/\Sn S t x
noncomputable def zk (S:SS):List T->List D->Prop
 | [],ds=>ds=[]
 | t::ts,ds=>∃ c cs,ds=c::cs/\Sn S t c/\zk S ts cs
end
mutual
theorem rB:∀ t:T,eqT t t=true
 | .zg=>by simp[eqT]
 | .bl b=>by simp[eqT]
 | .int i=>by simp[eqT]
 | .str x=>by simp[eqT]
 | .tup ts=>by simp only[eqT];exact mB ts
 | .lst ts=>by simp only[eqT];exact mB ts
 | .yP=>by simp[eqT]
 | .err _ _ t=>by simp[eqT,rB t]
theorem mB:∀ ts:List T,wW ts ts=true
 | []=>by simp[wW]
 | t::ts=>by simp only[wW,rB t,mB ts,C8]
end
theorem ib:∀ ts us:List T,wW ts us=((List.range (min ts.length us.length)).all (λ j=>eqT (ts.getD j .zg) (us.getD j .zg))&&ts.length == us.length)
 | [],[]=>by simp[wW]
 | [],_::_=>by simp[wW]
 | _::_,[]=>by simp[wW]
 | t::ts,u::us=>by
  simp only[wW,ib ts us,A0]
  rw[show min (ts.length+1) (us.length+1)=min ts.length us.length+1 by lia,Cw,List.all_cons,List.all_map]
  have:(ts.length+1 == us.length+1)=(ts.length == us.length):=by rw[Ds];simp
  rw[this,Bool.and_assoc]
  rfl
theorem zk.length {S:SS}:∀ {ts:List T}{ds:List D},zk S ts ds->ts.length=ds.length
 | [],ds,h=>by simp only[zk] at h;subst h;rfl
 | t::ts,ds,h=>by
  simp only[zk] at h
  obtain⟨c,cs,rfl,_,h2⟩:=h
  simp[zk.length h2]
section
variable {X:Cx}{pins:List (Addr×Obj)}{Y:St}{H:Hp}{s:Shared}{S:SS}
def d_ (I:Inv X pins Y H s) {a:Addr}{xs ys:List V}(h1:zY X.K H a xs) (h2:zP X.K H a ys):False:=by
 obtain⟨_,_,⟨o,e,c,_⟩,_⟩:=I.tuple h1
 obtain⟨_,_,⟨o',n,e',c',_⟩,_⟩:=I.list h2
 rw[e] at e';cases e'
 rw[c] at c'
 injection c' with q
 exact absurd q (by decide)
def Sn.uw (p:zE X.K H S) {ts:List T}{d:D}{x:V}(h:Sn S (.lst ts) d) (r:zi X.K H d x):∃ a xs ds,x=.ref a/\zP X.K H a xs/\zm X.K H ds xs/\zk S ts ds:=by
 simp only[Sn] at h
 obtain⟨ds,⟨h,_⟩ | ⟨a,h,e⟩,h2⟩:=h
 ·subst h
  simp only[zi] at r
  obtain⟨a,xs,rfl,g1,g2⟩:=r
  exact⟨a,xs,ds,rfl,g1.sq,g2,h2⟩
 ·subst h
  simp only[zi] at r
  obtain⟨xs,g1,g2⟩:=p _ _ e
  exact⟨a,xs,ds,r,zP.of g1,g2,h2⟩
def Sn.uq {ts:List T}{d:D}{x:V}(h:Sn S (.tup ts) d) (r:zi X.K H d x):∃ a xs ds,x=.ref a/\zY X.K H a xs/\zm X.K H ds xs/\zk S ts ds:=by
 simp only[Sn] at h
 obtain⟨ds,rfl,h2⟩:=h
 simp only[zi] at r
 obtain⟨a,xs,rfl,g1,g2⟩:=r
 exact⟨a,xs,ds,rfl,g1,g2,h2⟩
def Sn.sj (p:zE X.K H S) {d:D}{x:V}(h:Sn S .yP d) (r:zi X.K H d x):∃ a vs,x=.ref a/\H a=some (.dK vs):=by
 simp only[Sn] at h
 obtain⟨a,Ae,⟨rfl,_⟩,e⟩:=h
 simp only[zi] at r
 obtain⟨xs,g1,g2⟩:=p _ _ e
 exact⟨a,xs,r,g1⟩
def cq (I:Inv X pins Y H s) {a:Addr}{vs:List (Key×V)}(h:H a=some (.dK vs)):∃ o,s.heap.get? a=some o/\o.cls=.type "dict":=by
 obtain⟨_,_,_,_,o,_,_,e,c⟩:=(show xG X.prog X.w H s.heap a (.dK vs) from I.zu a _ h)
 exact⟨o,e,c.1.1⟩
def cf (I:Inv X pins Y H s) {a:Addr}{xs:List V}{vs:List (Key×V)}(h1:zY X.K H a xs) (h2:H a=some (.dK vs)):False:=by
 obtain⟨_,_,⟨o,e,c,_⟩,_⟩:=I.tuple h1
 obtain⟨o',e',c'⟩:=cq I h2
 rw[e] at e';cases e'
 rw[c] at c'
 injection c' with q
 exact absurd q (by decide)
def cp (I:Inv X pins Y H s) {a:Addr}{xs:List V}{vs:List (Key×V)}(h1:zP X.K H a xs) (h2:H a=some (.dK vs)):False:=by
 obtain⟨_,_,⟨o,n,e,c,_⟩,_⟩:=I.list h1
 obtain⟨o',e',c'⟩:=cq I h2
 rw[e] at e';cases e'
 rw[c] at c'
 injection c' with q
 exact absurd q (by decide)
theorem Sn.flat {t:T}{d:D}{x:V}(h:Sn S t d) (r:zi X.K H d x):match t with
  | .zg=>x=.zg
  | .bl b=>x=.bl b
  | .int i=>x=.int i
  | .str y=>x=.str y
  | _=>True:=by
 cases t <;> first
  | trivial
  | (simp only[Sn] at h;subst h;simpa only [zi] using r)
def Sn.tq {c f:Str}{t:T}{d:D}{x:V}(h:Sn S (.err c f t) d) (r:zi X.K H d x):∃ e C dx w y,x=.ref e/\(uk X.K c C/\H e=some (wz e C dx)/\H dx=some (.xd [(f,w)]))/\Sn S t y/\zi X.K H y w:=by
 simp only[Sn] at h
 obtain⟨y,rfl,h⟩:=h
 simp only[zi] at r
 obtain⟨e,C,dx,w,r1,r2,r3⟩:=r
 exact⟨e,C,dx,w,y,r1,r2,h,r3⟩
def mj (I:Inv X pins Y H s) {e C dx:Addr}(h:H e=some (wz e C dx)):∃ oe vs,s.heap.get? e=some oe/\oe.cls=.ref C/\oe.dict=some dx/\oe.data=.fields vs:=(show xG X.prog X.w H s.heap e (wz e C dx) from I.zu e _ h).1
def cb (I:Inv X pins Y H s) {a C dx:Addr}{xs:List V}(h1:zY X.K H a xs) (h2:H a=some (wz a C dx)):False:=by
 obtain⟨_,_,⟨o,e,c,_⟩,_⟩:=I.tuple h1
 obtain⟨o',_,e',c',_⟩:=mj I h2
 rw[e] at e';cases e'
 rw[c] at c';cases c'
def ck (I:Inv X pins Y H s) {a C dx:Addr}{xs:List V}(h1:zP X.K H a xs) (h2:H a=some (wz a C dx)):False:=by
 obtain⟨_,_,⟨o,n,e,c,_⟩,_⟩:=I.list h1
 obtain⟨o',_,e',c',_⟩:=mj I h2
 rw[e] at e';cases e'
 rw[c] at c';cases c'
def cu (I:Inv X pins Y H s) {a C dx:Addr}{vs:List (Key×V)}(h1:H a=some (.dK vs)) (h2:H a=some (wz a C dx)):False:=by
 rw[h1] at h2;cases h2
def TK (I:Inv X pins Y H s) {e C dx C' dx':Addr}(h1:H e=some (wz e C dx)) (h2:H e=some (wz e C' dx')):C=C'/\dx=dx':=by
 obtain⟨o,_,e1,c1,d1,_⟩:=mj I h1
 obtain⟨o',_,e2,c2,d2,_⟩:=mj I h2
 rw[e1] at e2;cases e2
 rw[c1] at c2;rw[d1] at d2
 cases c2;cases d2
 exact⟨rfl,rfl⟩
def uk.inj {K:Aa}{c c':Str}{C:Addr}(h1:uk K c C) (h2:uk K c' C):c=c':=by
 obtain⟨_,_,_,⟨⟨⟨_,_,_,_,_,_,_,_,_,_,_,_,a⟩,_⟩,_,_,_,_⟩⟩:=h1
 obtain⟨_,_,_,⟨⟨⟨_,_,_,_,_,_,_,_,_,_,_,_,b⟩,_⟩,_,_,_,_⟩⟩:=h2
 rw[a] at b
 cases b;rfl
mutual
theorem ng (I:Inv X pins Y H s) (p:zE X.K H S):∀ (t u:T) {d e:D}{x:V},Sn S t d->Sn S u e->zi X.K H d x->zi X.K H e x->t=u
 | .tup ts,u,d,e,x,h1,h2,r1,r2=>by
  obtain⟨a,xs,ds,rfl,g1,g2,g3⟩:=h1.uq r1
  cases u with
  | yP=>obtain⟨_,_,q,g⟩:=h2.sj p r2;cases q;exact (cf I g1 g).elim
  | err _ _ _=>obtain⟨_,_,_,_,_,q,g,_⟩:=h2.tq r2;cases q;exact (cb I g1 g.2.1).elim
  | tup us=>
   obtain⟨a',xs',ds',q,k1,k2,k3⟩:=h2.uq r2
   cases q
   have:=I.lO g1 k1
   subst this
   rw[lN I p ts us g3 k3 g2 k2]
  | lst us=>
   obtain⟨a',xs',ds',q,k1,k2,k3⟩:=h2.uw p r2
   cases q
   exact (d_ I g1 k1).elim
  | _=>exact nomatch h2.flat r2
 | .lst ts,u,d,e,x,h1,h2,r1,r2=>by
  obtain⟨a,xs,ds,rfl,g1,g2,g3⟩:=h1.uw p r1
  cases u with
  | yP=>obtain⟨_,_,q,g⟩:=h2.sj p r2;cases q;exact (cp I g1 g).elim
  | err _ _ _=>obtain⟨_,_,_,_,_,q,g,_⟩:=h2.tq r2;cases q;exact (ck I g1 g.2.1).elim
  | lst us=>
   obtain⟨a',xs',ds',q,k1,k2,k3⟩:=h2.uw p r2
   cases q
   have:=I.jz g1 k1
   subst this
   rw[lN I p ts us g3 k3 g2 k2]
  | tup us=>
   obtain⟨a',xs',ds',q,k1,k2,k3⟩:=h2.uq r2
   cases q
   exact (d_ I k1 g1).elim
  | _=>exact nomatch h2.flat r2
 | .zg,u,d,e,x,h1,h2,r1,r2=>by
  have q:=h1.flat r1
  subst q
  cases u with
  | yP=>obtain⟨_,_,q,g⟩:=h2.sj p r2;cases q
  | err _ _ _=>obtain⟨_,_,_,_,_,q,_⟩:=h2.tq r2;cases q
  | zg=>rfl
  | tup us=>obtain⟨_,_,_,q,_⟩:=h2.uq r2;cases q
  | lst us=>obtain⟨_,_,_,q,_⟩:=h2.uw p r2;cases q
  | _=>exact nomatch h2.flat r2
 | .bl b,u,d,e,x,h1,h2,r1,r2=>by
  have q:=h1.flat r1
  subst q
  cases u with
  | yP=>obtain⟨_,_,q,g⟩:=h2.sj p r2;cases q
  | err _ _ _=>obtain⟨_,_,_,_,_,q,_⟩:=h2.tq r2;cases q
  | bl _=>have q:=h2.flat r2;cases q;rfl
  | tup us=>obtain⟨_,_,_,q,_⟩:=h2.uq r2;cases q
  | lst us=>obtain⟨_,_,_,q,_⟩:=h2.uw p r2;cases q
  | _=>exact nomatch h2.flat r2
 | .int b,u,d,e,x,h1,h2,r1,r2=>by
  have q:=h1.flat r1
  subst q
  cases u with
  | yP=>obtain⟨_,_,q,g⟩:=h2.sj p r2;cases q
  | err _ _ _=>obtain⟨_,_,_,_,_,q,_⟩:=h2.tq r2;cases q
  | int _=>have q:=h2.flat r2;cases q;rfl
  | tup us=>obtain⟨_,_,_,q,_⟩:=h2.uq r2;cases q
  | lst us=>obtain⟨_,_,_,q,_⟩:=h2.uw p r2;cases q
  | _=>exact nomatch h2.flat r2
 | .str b,u,d,e,x,h1,h2,r1,r2=>by
  have q:=h1.flat r1
  subst q
  cases u with
  | yP=>obtain⟨_,_,q,g⟩:=h2.sj p r2;cases q
  | err _ _ _=>obtain⟨_,_,_,_,_,q,_⟩:=h2.tq r2;cases q
  | str _=>have q:=h2.flat r2;cases q;rfl
  | tup us=>obtain⟨_,_,_,q,_⟩:=h2.uq r2;cases q
  | lst us=>obtain⟨_,_,_,q,_⟩:=h2.uw p r2;cases q
  | _=>exact nomatch h2.flat r2
 | .err c f t,u,d,e,x,h1,h2,r1,r2=>by
  obtain⟨a,C,dx,w,y,rfl,⟨g1,g2,g3⟩,g4,g5⟩:=h1.tq r1
  cases u with
  | err c' f' t'=>
   obtain⟨a',C',dx',w',y',q,⟨k1,k2,k3⟩,k4,k5⟩:=h2.tq r2
   cases q
   obtain⟨rfl,rfl⟩:=TK I g2 k2
   rw[g3] at k3;cases k3
   cases g1.inj k1
   rw[ng I p t t' g4 k4 g5 k5]
  | yP=>obtain⟨_,_,q,g⟩:=h2.sj p r2;cases q;exact (cu I g g2).elim
  | tup us=>obtain⟨_,_,_,q,k1,_⟩:=h2.uq r2;cases q;exact (cb I k1 g2).elim
  | lst us=>obtain⟨_,_,_,q,k1,_⟩:=h2.uw p r2;cases q;exact (ck I k1 g2).elim
  | _=>exact nomatch h2.flat r2
 | .yP,u,d,e,x,h1,h2,r1,r2=>by
  obtain⟨a,vs,rfl,g⟩:=h1.sj p r1
  cases u with
  | yP=>rfl
  | err _ _ _=>obtain⟨_,_,_,_,_,q,g',_⟩:=h2.tq r2;cases q;exact (cu I g g'.2.1).elim
  | tup us=>obtain⟨_,_,_,q,g1,_⟩:=h2.uq r2;cases q;exact (cf I g1 g).elim
  | lst us=>obtain⟨_,_,_,q,g1,_⟩:=h2.uw p r2;cases q;exact (cp I g1 g).elim
  | _=>exact nomatch h2.flat r2
theorem lN (I:Inv X pins Y H s) (p:zE X.K H S):∀ (ts us:List T) {ds es:List D}{xs:List V},zk S ts ds->zk S us es->zm X.K H ds xs->zm X.K H es xs->ts=us
 | [],us,ds,es,xs,h1,h2,r1,r2=>by
  have e:=h1.length.trans (r1.length.trans (r2.length.symm.trans h2.length.symm))
  cases us with
  | nil=>rfl
  | cons _ _=>simp at e
 | t::ts,[],ds,es,xs,h1,h2,r1,r2=>by
  have e:=h1.length.trans (r1.length.trans (r2.length.symm.trans h2.length.symm))
  simp at e
 | t::ts,u::us,ds,es,xs,h1,h2,r1,r2=>by
  simp only[zk] at h1 h2
  obtain⟨c,cs,rfl,a1,a2⟩:=h1
  obtain⟨c',cs',rfl,b1,b2⟩:=h2
  simp only[zm] at r1 r2
  obtain⟨y,ys,rfl,g1,g2⟩:=r1
  obtain⟨y',ys',q,k1,k2⟩:=r2
  cases q
  rw[ng I p t u a1 b1 g1 k1,lN I p ts us a2 b2 g2 k2]
end
def zk.get {ts:List T}{ds:List D}(h:zk S ts ds):∀ {j:Nat},j<ts.length->∃ c,ds[j]?=some c/\Sn S (ts.getD j .zg) c:=by
 induction ts generalizing ds with
 | nil=>intro j hj;simp at hj
 | cons t ts ih=>
  intro j hj
  simp only[zk] at h
  obtain⟨c,cs,rfl,h1,h2⟩:=h
  cases j with
  | zero=>exact⟨c,rfl,h1⟩
  | succ j=>
   obtain⟨c',e,h3⟩:=ih h2 (j:=j) (by simpa using hj)
   exact⟨c',by simpa using e,by simpa using h3⟩
theorem mD:∀ {ts:List T}{j:Nat},j<ts.length->dep (ts.getD j .zg)<=xb ts
 | [],j,h=>by simp at h
 | t::ts,0,_=>by simp only[xb,List.getD_cons_zero];lia
 | t::ts,j+1,h=>by
  have:=mD (ts:=ts) (j:=j) (by simpa using h)
  simp only[xb,List.getD_cons_succ];lia
inductive rL (K:Aa) (H:Hp) (S:SS) (s:Shared):T->Value->Prop
 | zg:rL K H S s .zg .none
 | bl {b:Bool}:rL K H S s (.bl b) (.bool b)
 | int {i:Int}{k:Tok}:rL K H S s (.int i) (.int i k)
 | str {i:Str}{k:Tok}:rL K H S s (.str i) (.str i k)
 | tup {ts:List T}{ds:List D}{xs:List V}{us:List Value}{l:Addr}(g:zk S ts ds) (r:zm K H ds xs) (v:Vals xs us) (h:s.heap.IsTuple l us.toArray):rL K H S s (.tup ts) (.ref l)
 | lst {ts:List T}{ds:List D}{xs:List V}{us:List Value}{l:Addr}(g:zk S ts ds) (r:zm K H ds xs) (v:Vals xs us) (h:s.heap.IsList l us.toArray):rL K H S s (.lst ts) (.ref l)
def fB (I:Inv X pins Y H s) (p:zE X.K H S) {t:T}{d:D}{x:V}{a:Value}(h:Sn S t d) (r:zi X.K H d x) (v:RelV x a) (z:dep t<cLine):rL X.K H S s t a:=by
 cases t with
 | zg=>have q:=h.flat r;subst q;cases v;exact .zg
 | bl _=>have q:=h.flat r;subst q;cases v;exact .bl
 | int _=>have q:=h.flat r;subst q;obtain⟨_,rfl⟩:=v;exact .int
 | str _=>have q:=h.flat r;subst q;obtain⟨_,rfl⟩:=v;exact .str
 | tup _=>obtain⟨l,xs,ds,rfl,g,r,q⟩:=h.uq r;cases v;obtain⟨_,w,i,_⟩:=I.tuple g;exact .tup q r w i
 | lst _=>obtain⟨l,xs,ds,rfl,g,r,q⟩:=h.uw p r;cases v;obtain⟨_,w,i,_⟩:=I.list g;exact .lst q r w i.isList
 | _=>simp only[dep] at z;lia
abbrev J3 (A:Around) (s:Shared) (a b:Value) (k:Bool):Prop:=SeqAt.EqAt A s a b k/\SeqAt.RcAt A s a b k/\SeqAt.RcNeAt A s a b (!k)
def Qd (I:Inv X pins Y H s) (p:zE X.K H S):∀ (n:Nat) (t u:T) {A:Around}{d e:D}{x y:V}{a b:Value},dep t<n->A.units+dep t<cLine->A.units+dep u<cLine->Sn S t d->Sn S u e->zi X.K H d x->zi X.K H e y->RelV x a->RelV y b->J3 A s a b (eqT t u):=by
 intro n
 induction n with
 | zero=>intros;lia
 | succ n ih=>
  intro t u A d e x y a b hn hu hu' h1 h2 r1 r2 v1 v2
  have hq:a=b->t=u:=λ z=>by subst z;have:=v1.inj v2;subst this;exact ng I p t u h1 h2 r1 r2
  have c1:=fB I p h1 r1 v1 (by lia)
  have c2:=fB I p h2 r2 v2 (by lia)
  clear h1 h2 r1 r2 v1 v2
  have hA:A.units<cLine:=by lia
  have el:∀ {ts us:List T}{ds ds':List D}{xs xs':List V}{is is':List Value},1+xb ts<n+1->A.units+(1+xb ts)<cLine->A.units+(1+xb us)<cLine->zk S ts ds->zk S us ds'->zm X.K H ds xs->zm X.K H ds' xs'->Vals xs is->Vals xs' is'->is.toArray.size=ts.length/\is'.toArray.size=us.length/\
    ∀ (j:Nat) (h1:j<is.toArray.size) (h2:j<is'.toArray.size),SeqAt.EqAt A.in1 s is.toArray[j] is'.toArray[j] (eqT (ts.getD j .zg) (us.getD j .zg)):=by
   intro ts us ds ds' xs xs' is is' a1 a2 a3 g1 g2 r1 r2 v1 v2
   have e1:is.toArray.size=ts.length:=by rw[Ao,<- v1.length,<- r1.length,<- g1.length]
   have e2:is'.toArray.size=us.length:=by rw[Ao,<- v2.length,<- r2.length,<- g2.length]
   refine⟨e1,e2,λ j h1 h2=>?_⟩
   obtain⟨_,k1,s1⟩:=g1.get (e1▸h1)
   obtain⟨_,k2,s2⟩:=g2.get (e2▸h2)
   obtain⟨_,f1,q1⟩:=r1.get k1
   obtain⟨_,f2,q2⟩:=r2.get k2
   obtain⟨w1,o1,m1⟩:=v1.get f1
   obtain⟨w2,o2,m2⟩:=v2.get f2
   have y1:=mD (e1▸h1)
   have y2:=mD (e2▸h2)
   obtain⟨_,z1⟩:=Az.mp o1
   obtain⟨_,z2⟩:=Az.mp o2
   rw[List.getElem_toArray,List.getElem_toArray,z1,z2]
   exact (ih _ _ (A:=A.in1) (by lia) (by show A.units+1+_<_;lia) (by show A.units+1+_<_;lia) s1 s2 q1 q2 m1 m2).1
  have en:∀ {l l':Addr}{ts us:List T},(Value.ref l=.ref l'->ts=us)->SeqAt.RcAt A s (.ref l) (.ref l') (wW ts us)/\SeqAt.RcNeAt A s (.ref l) (.ref l') (!wW ts us)->J3 A s (.ref l) (.ref l') (wW ts us):=λ{l l' ts us} h q=>by
   refine⟨?_,q⟩
   by_cases z:l=l'
   ·subst z
    rw[h rfl,mB]
    exact .same _
   ·exact .of_refs z q.1
  cases c1 <;> cases c2 <;> simp only[eqT,Ck,Cm]
  ·exact⟨.same _,.none_none,.none_none⟩
  ·exact⟨.none_bool _,.none_bool _,.none_bool _⟩
  ·exact⟨.none_int _ _,.none_int _ _,.none_int _ _⟩
  ·exact⟨.none_str _ _,.none_str _ _,.none_str _ _⟩
  ·exact⟨.none_tuple ‹_› hA,.none_tuple ‹_› hA,.none_tuple ‹_› hA⟩
  ·exact⟨.none_list ‹_› hA,.none_list ‹_› hA,.none_list ‹_› hA⟩
  ·exact⟨.bool_none _,.bool_none _,.bool_none _⟩
  ·exact⟨.bool_bool _ _,.bool_bool _ _,.bool_bool _ _⟩
  ·exact⟨.bool_int _ _ _,.bool_int _ _ _,.bool_int _ _ _⟩
  ·exact⟨.bool_str _ _ _,.bool_str _ _ _,.bool_str _ _ _⟩
  ·exact⟨.bool_tuple _ ‹_› hA,.bool_tuple _ ‹_› hA,.bool_tuple _ ‹_› hA⟩
  ·exact⟨.bool_list _ ‹_› hA,.bool_list _ ‹_› hA,.bool_list _ ‹_› hA⟩
  ·exact⟨.int_none _ _,.int_none _ _,.int_none _ _⟩
  ·exact⟨.int_bool _ _ _,.int_bool _ _ _,.int_bool _ _ _⟩
  ·exact⟨.int_int _ _ _ _,.int_int _ _ _ _,.int_int _ _ _ _⟩
  ·exact⟨.int_str _ _ _ _,.int_str _ _ _ _,.int_str _ _ _ _⟩
  ·exact⟨.int_tuple _ _ ‹_› hA,.int_tuple _ _ ‹_› hA,.int_tuple _ _ ‹_› hA⟩
  ·exact⟨.int_list _ _ ‹_› hA,.int_list _ _ ‹_› hA,.int_list _ _ ‹_› hA⟩
  ·exact⟨.str_none _ _,.str_none _ _,.str_none _ _⟩
  ·exact⟨.str_bool _ _ _,.str_bool _ _ _,.str_bool _ _ _⟩
  ·exact⟨.str_int _ _ _ _,.str_int _ _ _ _,.str_int _ _ _ _⟩
  ·exact⟨.str_str _ _ _ _,.str_str _ _ _ _,.str_str _ _ _ _⟩
  ·exact⟨.str_tuple _ _ ‹_› hA,.str_tuple _ _ ‹_› hA,.str_tuple _ _ ‹_› hA⟩
  ·exact⟨.str_list _ _ ‹_› hA,.str_list _ _ ‹_› hA,.str_list _ _ ‹_› hA⟩
  ·exact⟨.tuple_none ‹_› hA,.tuple_none ‹_› hA,.tuple_none ‹_› hA⟩
  ·exact⟨.tuple_bool _ ‹_› hA,.tuple_bool _ ‹_› hA,.tuple_bool _ ‹_› hA⟩
  ·exact⟨.tuple_int _ _ ‹_› hA,.tuple_int _ _ ‹_› hA,.tuple_int _ _ ‹_› hA⟩
  ·exact⟨.tuple_str _ _ ‹_› hA,.tuple_str _ _ ‹_› hA,.tuple_str _ _ ‹_› hA⟩
  ·rename_i g1 r1 v1 k1 _ _ _ _ _ g2 r2 v2 k2
   simp only[dep] at hn hu hu'
   obtain⟨e1,e2,q⟩:=el hn hu hu' g1 g2 r1 r2 v1 v2
   refine en (λ z=>by cases hq z;rfl) ?_
   rw[ib,<- e1,<- e2]
   exact⟨.tuples k1 k2 hA q,.tuples k1 k2 hA q⟩
  ·exact⟨.tuple_list ‹_› ‹_› hA,.tuple_list ‹_› ‹_› hA,.tuple_list ‹_› ‹_› hA⟩
  ·exact⟨.list_none ‹_› hA,.list_none ‹_› hA,.list_none ‹_› hA⟩
  ·exact⟨.list_bool _ ‹_› hA,.list_bool _ ‹_› hA,.list_bool _ ‹_› hA⟩
  ·exact⟨.list_int _ _ ‹_› hA,.list_int _ _ ‹_› hA,.list_int _ _ ‹_› hA⟩
  ·exact⟨.list_str _ _ ‹_› hA,.list_str _ _ ‹_› hA,.list_str _ _ ‹_› hA⟩
  ·exact⟨.list_tuple ‹_› ‹_› hA,.list_tuple ‹_› ‹_› hA,.list_tuple ‹_› ‹_› hA⟩
  ·rename_i i1 _ g1 r1 v1 k1 _ _ _ i2 _ g2 r2 v2 k2
   simp only[dep] at hn hu hu'
   obtain⟨e1,e2,q⟩:=el hn hu hu' g1 g2 r1 r2 v1 v2
   refine en (λ z=>by cases hq z;rfl) ?_
   rw[ib,<- e1,<- e2]
   by_cases z:i1.toArray.size=i2.toArray.size
   ·rw[<- z,Nat.min_self,beq_self_eq_true,Bool.and_true]
    exact⟨.lists k1 k2 z hA q,.lists k1 k2 z hA q⟩
   ·rw[beq_eq_false_iff_ne.mpr z,C7]
    have z':=bne_iff_ne.mpr z
    exact⟨.lists_lengths k1 k2 z' hA,.lists_lengths k1 k2 z' hA⟩
def iD (I:Inv X pins Y H s) (p:zE X.K H S) (t u:T) {A:Around}{d e:D}{x y:V}{a b:Value}(hu:A.units+dep t<cLine) (hu':A.units+dep u<cLine) (h1:Sn S t d) (h2:Sn S u e) (r1:zi X.K H d x) (r2:zi X.K H e y) (v1:RelV x a) (v2:RelV y b):J3 A s a b (eqT t u):=Qd I p _ t u (Cj _) hu hu' h1 h2 r1 r2 v1 v2
end
def kP (K:Aa) (neg:Bool):R2:=λ x y H Q=>∃ S d e t u,zi K H d x/\zi K H e y/\zE K H S/\Sn S t d/\Sn S u e/\dep t<=60/\dep u<=60/\Q (.bl (cond neg (!eqT t u) (eqT t u))) H
def wV (neg:Bool):yM:=λ x y S Q=>∃ t u,Sn S t x/\Sn S u y/\dep t<=60/\dep u<=60/\Q (.bl (cond neg (!eqT t u) (eqT t u))) S
def wV.mo {neg:Bool}:xC (wV neg):=λ _ _ _ _ _ hq ⟨t,u,a,b,c,d,h⟩=>⟨t,u,a,b,c,d,hq _ _ h⟩
def wV.fits {K:Aa}{neg:Bool}:xu K (wV neg) (kP K neg):=λ x y d e H S Q h1 h2 h3 ⟨t,u,a,b,c,c',h⟩=>⟨S,d,e,t,u,h1,h2,h3,a,b,c,c',h _ H (by simp only[zi]) (.refl H) h3⟩
section
variable {X:Cx}{a b:Expr}{ta tb:zx}{pos:Pos}
def da (hu:X.A.units+64<cLine):z_ X (compareOp .Eq) (kP X.K false):=by
 intro pins s Y H x y v u Q I rx ry h
 obtain⟨S,d,e,t,u',a1,a2,a3,a4,a5,a6,a7,q⟩:=h
 exact (iD I a3 t u' (A:=X.A) (by lia) (by lia) a4 a5 a1 a2 rx ry).2.1 X.prog X.w X.xe _ ⟨.bl _,H,I,rfl,q⟩
def WD (hu:X.A.units+64<cLine):z_ X (compareOp .NotEq) (kP X.K true):=by
 intro pins s Y H x y v u Q I rx ry h
 obtain⟨S,d,e,t,u',a1,a2,a3,a4,a5,a6,a7,q⟩:=h
 exact (iD I a3 t u' (A:=X.A) (by lia) (by lia) a4 a5 a1 a2 rx ry).2.2 X.prog X.w X.xe _ ⟨.bl _,H,I,rfl,q⟩
def uW {k:Nat}(hr:ye k X.A) (ha:PD X a ta) (hb:PD X b tb):PD X (.Compare a [.Eq] [b] pos) (yh (wV false) ta tb):=nZ (da hr.units) wV.fits wV.mo ha hb (vT _)
def wO {k:Nat}(hr:ye k X.A) (ha:PD X a ta) (hb:PD X b tb):x9 X (.Compare a [.Eq] [b] pos) (vk (yh (wV false) ta tb)):=tR (da hr.units) wV.fits wV.mo ha hb (vT _)
def uV {k:Nat}(hr:ye k X.A) (ha:PD X a ta) (hb:PD X b tb):x9 X (.Compare a [.NotEq] [b] pos) (vk (yh (wV true) ta tb)):=tR (WD hr.units) wV.fits wV.mo ha hb (vT _)
def f_ (K:Aa) (neg:Bool):R2:=λ x y H Q=>∃ S d e u ts ds,zi K H d x/\zi K H e y/\zE K H S/\Sn S u d/\zZ e S=some ds/\zk S ts ds/\dep u<=60/\xb ts<=60/\Q (.bl (cond neg (!(ts.any λ t=>eqT t u)) (ts.any λ t=>eqT t u))) H
def sg (neg:Bool):yM:=λ x y S Q=>∃ u ts ds,Sn S u x/\zZ y S=some ds/\zk S ts ds/\dep u<=60/\xb ts<=60/\Q (.bl (cond neg (!(ts.any λ t=>eqT t u)) (ts.any λ t=>eqT t u))) S
def sg.mo {neg:Bool}:xC (sg neg):=λ _ _ _ _ _ hq ⟨u,ts,ds,a,b,c,d,e,h⟩=>⟨u,ts,ds,a,b,c,d,e,hq _ _ h⟩
def sg.fits {K:Aa}{neg:Bool}:xu K (sg neg) (f_ K neg):=λ x y d e H S Q h1 h2 h3 ⟨u,ts,ds,a,b,c,c',c2,h⟩=>⟨S,d,e,u,ts,ds,h1,h2,h3,a,b,c,c',c2,h _ H (by simp only[zi]) (.refl H) h3⟩
open Classical in
def uF (its:List Value) (ts:List T) (u:T) (v:Value):Bool:=if h:∃ j,its[j]?=some v then eqT (ts.getD (Classical.choose h) .zg) u else false
def iC {pins:List (Addr×Obj)}{Y:St}{H:Hp}{s:Shared}{S:SS}(I:Inv X pins Y H s) (p:zE X.K H S) {ts:List T}{ds:List D}{xs:List V}{its:List Value}(h1:zk S ts ds) (h2:zm X.K H ds xs) (h3:Vals xs its) (u:T) {j:Nat}{v:Value}(hj:its[j]?=some v):
  uF its ts u v=eqT (ts.getD j .zg) u:=by
 have h:∃ j,its[j]?=some v:=⟨j,hj⟩
 unfold uF
 rw[dif_pos h]
 have hc:=Classical.choose_spec h
 have lt:∀ i,its[i]?=some v->i<ts.length:=λ i hi=>by
  rw[h1.length,h2.length,h3.length]
  exact (Az.mp hi).1
 obtain⟨c1,e1,s1⟩:=h1.get (lt _ hc)
 obtain⟨c2,e2,s2⟩:=h1.get (lt _ hj)
 obtain⟨x1,f1,r1⟩:=h2.get e1
 obtain⟨x2,f2,r2⟩:=h2.get e2
 obtain⟨v1,g1,q1⟩:=h3.get f1
 obtain⟨v2,g2,q2⟩:=h3.get f2
 rw[hc] at g1;cases g1
 rw[hj] at g2;cases g2
 have hx:=q1.inj q2
 subst hx
 rw[ng I p _ _ s1 s2 r1 r2]
def bU {pins:List (Addr×Obj)}{Y:St}{H:Hp}{s:Shared}{S:SS}(I:Inv X pins Y H s) (p:zE X.K H S) {ts:List T}{ds:List D}{xs:List V}{its:List Value}(h1:zk S ts ds) (h2:zm X.K H ds xs) (h3:Vals xs its) (u:T):its.any (uF its ts u)=ts.any λ t=>eqT t u:=by
 have hl:ts.length=its.length:=by rw[h1.length,h2.length,h3.length]
 rw[Ds,CG,CG]
 constructor
 ·rintro⟨v,hv,h⟩
  obtain⟨j,hj,rfl⟩:=BU.mp hv
  rw[iC I p h1 h2 h3 u (j:=j) (by simp[hj])] at h
  have hj':j<ts.length:=by lia
  exact⟨ts[j],BW hj',by simpa [hj'] using h⟩
 ·rintro⟨t,ht,h⟩
  obtain⟨j,hj,rfl⟩:=BU.mp ht
  have hj':j<its.length:=by lia
  exact⟨its[j],BW hj',by rw[iC I p h1 h2 h3 u (j:=j) (by simp[hj'])];simpa [hj] using h⟩
def bV {pins:List (Addr×Obj)}{Y:St}{H:Hp}{s:Shared}{S:SS}(I:Inv X pins Y H s) (p:zE X.K H S) {ts:List T}{ds:List D}{xs:List V}{its:List Value}(h1:zk S ts ds) (h2:zm X.K H ds xs) (h3:Vals xs its) {u:T}{d:D}{x:V}{v:Value}(hu:Sn S u d) (hd:zi X.K H d x) (hx:RelV x v) {A:Around}(b1:A.units+xb ts<cLine) (b2:A.units+dep u<cLine) {y:Value}(hy:y∈its):
  SeqAt.EqAt A s y v (uF its ts u y):=by
 obtain⟨j,hj,rfl⟩:=BU.mp hy
 have hjt:j<ts.length:=by rw[h1.length,h2.length,h3.length];exact hj
 rw[iC I p h1 h2 h3 u (j:=j) (by simp[hj])]
 obtain⟨c1,e1,s1⟩:=h1.get hjt
 obtain⟨x1,f1,r1⟩:=h2.get e1
 obtain⟨v1,g1,q1⟩:=h3.get f1
 have:its[j]=v1:=by
  have:=Az.mp g1
  exact this.2
 rw[this]
 have:=mD hjt
 exact (iD I p _ u (A:=A) (by lia) b2 s1 hu r1 hd q1 hx).1
def WL (hu:X.A.units+64<cLine):z_ X (compareOp .In) (f_ X.K false):=by
 intro pins s Y H x y v w Q I rx ry h
 obtain⟨S,d,e,u,ts,ds,a1,a2,a3,a4,a5,a6,a7,a8,q⟩:=h
 obtain⟨l,xs,rfl,g1,g2⟩:=zZ.sq a2 a3 a5
 cases ry
 rcases g1 with g1 | g1
 ·obtain⟨its,w1,pl,_⟩:=I.list g1
  refine SeqAt.in_listAt (uF its ts u) pl.isList (λ y hy=>bV I a3 a6 g2 w1 a4 a1 rx (A:=X.A.in1) (by show X.A.units+1+_<_;lia) (by show X.A.units+1+_<_;lia) (by simpa using hy)) ⟨.bl _,H,I,rfl,?_⟩
  rw[show its.toArray.any (uF its ts u)=its.any (uF its ts u) by simp,bU I a3 a6 g2 w1]
  exact q
 ·obtain⟨its,w1,pt,_⟩:=I.tuple g1
  refine SeqAt.in_tupleAt (uF its ts u) pt (λ y hy=>bV I a3 a6 g2 w1 a4 a1 rx (A:=X.A.in1) (by show X.A.units+1+_<_;lia) (by show X.A.units+1+_<_;lia) (by simpa using hy)) ⟨.bl _,H,I,rfl,?_⟩
  rw[show its.toArray.any (uF its ts u)=its.any (uF its ts u) by simp,bU I a3 a6 g2 w1]
  exact q
def eI {k:Nat}(hr:ye k X.A) (ha:PD X a ta) (hb:PD X b tb) (hm:behindInMarks .In b=false:=by rfl):x9 X (.Compare a [.In] [b] pos) (vk (yh (sg false) ta tb)):=tR (WL hr.units) sg.fits sg.mo ha hb hm
end
end L3
namespace L3
open PySem L2
section
variable {S S':SS}
mutual
theorem Sn.sx (h:Sx S S'):∀ (t:T) {d:D},Sn S t d->Sn S' t d
 | .zg,d,q=>by simpa only [Sn] using q
 | .bl b,d,q=>by simpa only [Sn] using q
 | .int i,d,q=>by simpa only [Sn] using q
 | .str x,d,q=>by simpa only [Sn] using q
 | .tup ts,d,q=>by
  simp only[Sn] at q ⊢
  obtain⟨ds,q1,q2⟩:=q
  exact⟨ds,q1,zk.sx h ts q2⟩
 | .lst ts,d,q=>by
  simp only[Sn] at q ⊢
  obtain⟨ds,q1,q2⟩:=q
  refine⟨ds,?_,zk.sx h ts q2⟩
  rcases q1 with q1 | ⟨a,q1,q3⟩
  ·exact .inl q1
  ·exact .inr ⟨a,q1,h _ _ q3⟩
 | .err _ _ t,d,q=>by
  simp only[Sn] at q ⊢
  obtain⟨x,q1,q2⟩:=q
  exact⟨x,q1,Sn.sx h t q2⟩
 | .yP,d,q=>by
  simp only[Sn] at q ⊢
  obtain⟨a,Ae,q1,q2⟩:=q
  exact⟨a,Ae,q1,h _ _ q2⟩
theorem zk.sx (h:Sx S S'):∀ (ts:List T) {ds:List D},zk S ts ds->zk S' ts ds
 | [],ds,q=>by simpa only [zk] using q
 | t::ts,ds,q=>by
  simp only[zk] at q ⊢
  obtain⟨c,cs,q1,q2,q3⟩:=q
  exact⟨c,cs,q1,Sn.sx h t q2,zk.sx h ts q3⟩
end
def zk.nil:zk S [] []:=by simp only[zk]
def zk.cons {t:T}{ts:List T}{d:D}{ds:List D}(h:Sn S t d) (h':zk S ts ds):zk S (t::ts) (d::ds):=by
 simp only[zk];exact⟨d,ds,rfl,h,h'⟩
theorem zk.append:∀ {ts us:List T}{ds es:List D},zk S ts ds->zk S us es->zk S (ts++us) (ds++es)
 | [],us,ds,es,h,h'=>by simp only[zk] at h;subst h;simpa using h'
 | t::ts,us,ds,es,h,h'=>by
  simp only[zk] at h
  obtain⟨c,cs,rfl,h1,h2⟩:=h
  exact zk.cons h1 (zk.append h2 h')
theorem zk.jP:∀ {ts:List T}{ds:List D}{i:Nat}{t:T},zk S ts ds->ts[i]?=some t->∃ d,ds[i]?=some d/\Sn S t d
 | [],_,i,t,_,e=>by simp at e
 | u::ts,ds,i,t,h,e=>by
  simp only[zk] at h
  obtain⟨c,cs,rfl,h1,h2⟩:=h
  cases i with
  | zero=>simp at e;subst e;exact⟨c,rfl,h1⟩
  | succ i=>
   obtain⟨y,e1,e2⟩:=zk.jP (i:=i) h2 (by simpa using e)
   exact⟨y,by simpa using e1,e2⟩
theorem zk.jR:∀ {ts:List T}{ds:List D}{i:Nat}{d:D},zk S ts ds->ds[i]?=some d->∃ t,ts[i]?=some t/\Sn S t d
 | [],ds,i,t,h,e=>by simp only[zk] at h;subst h;simp at e
 | u::ts,ds,i,t,h,e=>by
  simp only[zk] at h
  obtain⟨c,cs,rfl,h1,h2⟩:=h
  cases i with
  | zero=>simp at e;subst e;exact⟨u,rfl,h1⟩
  | succ i=>
   obtain⟨y,e1,e2⟩:=zk.jR (i:=i) h2 (by simpa using e)
   exact⟨y,by simpa using e1,e2⟩
def zk.len {ts:List T}{ds:List D}(h:zk S ts ds):ds.length=ts.length:=(L3.zk.length h).symm
theorem zk.at {ts:List T}{ds:List D}{i:Int}{t:T}(h:zk S ts ds) (e:L2.zD ts i=some t):∃ d,L2.zD ds i=some d/\Sn S t d:=by
 unfold L2.zD at e ⊢
 rw[h.len]
 cases q:L2.xV ts.length i with
 | none=>rw[q] at e;cases e
 | some j=>
  rw[q] at e
  exact h.jP e
theorem zk.fC:∀ {ts:List T}{ds:List D}{t:T}{d:D}(i:Nat),zk S ts ds->Sn S t d->zk S (ts.set i t) (ds.set i d)
 | [],ds,t,d,i,h,_=>by simp only[zk] at h;subst h;simpa using zk.nil
 | u::ts,ds,t,d,0,h,hd=>by
  simp only[zk] at h
  obtain⟨c,cs,rfl,h1,h2⟩:=h
  exact zk.cons hd h2
 | u::ts,ds,t,d,i+1,h,hd=>by
  simp only[zk] at h
  obtain⟨c,cs,rfl,h1,h2⟩:=h
  exact zk.cons h1 (zk.fC i h2 hd)
theorem zk.take':∀ {ts:List T}{ds:List D}(n:Nat),zk S ts ds->zk S (ts.take n) (ds.take n)
 | ts,ds,0,h=>by simpa using zk.nil
 | [],ds,n+1,h=>by simp only[zk] at h;subst h;simpa using zk.nil
 | t::ts,ds,n+1,h=>by
  simp only[zk] at h
  obtain⟨c,cs,rfl,h1,h2⟩:=h
  exact zk.cons h1 (zk.take' n h2)
theorem zk.drop':∀ {ts:List T}{ds:List D}(n:Nat),zk S ts ds->zk S (ts.drop n) (ds.drop n)
 | ts,ds,0,h=>h
 | [],ds,n+1,h=>by simp only[zk] at h;subst h;simpa using zk.nil
 | t::ts,ds,n+1,h=>by
  simp only[zk] at h
  obtain⟨c,cs,rfl,h1,h2⟩:=h
  exact zk.drop' n h2
def zk.empty {ts:List T}{ds:List D}(h:zk S ts ds):ds.isEmpty=ts.isEmpty:=by
 have:=h.len
 cases ds <;> cases ts <;> simp_all
theorem zk.bN:∀ {bs:List Bool}{ds:List D},zk S (bs.map T.bl) ds->ds=bs.map D.bl
 | [],ds,h=>by simpa only [Bc,zk] using h
 | b::bs,ds,h=>by
  rw[Ax] at h
  simp only[zk,Sn] at h
  obtain⟨c,cs,rfl,rfl,h3⟩:=h
  rw[zk.bN h3];rfl
end
end L3
namespace L5
open PySem L2 L3
noncomputable def zQ (S:SS) (Z:Addr->Prop):SS:=open Classical in λ a=>if Z a then none else S a
section
variable {S S':SS}{Z Z':Addr->Prop}{a p:Addr}
def vB (h:¬ Z a):zQ S Z a=S a:=if_neg h
def jH (h:Z a):zQ S Z a=none:=if_pos h
def u0 {o:O}(h:zQ S Z a=some o):¬ Z a/\S a=some o:=by
 by_cases z:Z a
 ·rw[jH z] at h;cases h
 ·rw[vB z] at h;exact⟨z,h⟩
def mx (S:SS) (Z:Addr->Prop):Sx (zQ S Z) S:=λ _ _ h=>(u0 h).2
def vU (h:Sx S S'):Sx (zQ S Z) (zQ S' Z):=λ b o q=>by
 obtain⟨q1,q2⟩:=u0 q
 rw[vB q1];exact h _ _ q2
def vV (h:∀ a,Z' a->Z a):Sx (zQ S Z) (zQ S Z'):=λ b o q=>by
 obtain⟨q1,q2⟩:=u0 q
 rw[vB (λ z=>q1 (h _ z))];exact q2
def qI (h:Sx S S') (hp:S p=none):Sx (zQ S Z) (zQ S' λ a=>Z a\/a=p):=λ b o q=>by
 obtain⟨q1,q2⟩:=u0 q
 rw[vB]
 ·exact h _ _ q2
 ·rintro (z | z)
  ·exact q1 z
  ·subst z;rw[hp] at q2;cases q2
def TY {o:O}(h:Z p):zQ (ups S p o) Z=zQ S Z:=by
 funext b
 by_cases z:Z b
 ·rw[jH z,jH z]
 ·rw[vB z,vB z,uR (λ e=>z (by rw[e];exact h))]
end
inductive C where
 | lst (ts:List T) | yo (Ae:List (Key×T))
noncomputable def rR (S:SS):List (Key×T)->List (Key×D)->Prop
 | [],l=>l=[]
 | (k,t)::r,l=>∃ d m,l=(k,d)::m/\Sn S t d/\rR S r m
theorem rR.sx {S S':SS}(h:Sx S S'):∀ {a:List (Key×T)}{b:List (Key×D)},rR S a b->rR S' a b
 | [],_,q=>q
 | (k,t)::r,_,q=>by
  obtain⟨d,m,q1,q2,q3⟩:=q
  exact⟨d,m,q1,Sn.sx h t q2,rR.sx h q3⟩
noncomputable def uG (S:SS):C->O->Prop
 | .lst ts,.lst ds=>zk S ts ds
 | .yo a,.yo b=>rR S a b
 | _,_=>False
theorem uG.sx {S S':SS}(h:Sx S S'):∀ {c:C}{o:O},uG S c o->uG S' c o
 | .lst ts,.lst ds,q=>zk.sx h ts q
 | .yo a,.yo b,q=>rR.sx h q
inductive W where
 | im (t:T) | own (c:C)
abbrev Ev:=List (Option W)
structure ER (S:SS) (Z:Addr->Prop) (L:yc) (J:Ev):Prop where
 zd:∀ a,Z a->S a≠none
 im:∀ (i:Nat) t,J[i]?=some (some (.im t))->∃ d,L[i]?=some (some d)/\Sn (zQ S Z) t d
 ow:∀ (i:Nat) c,J[i]?=some (some (.own c))->∃ p o,L[i]?=some (some (.ref p))/\S p=some o/\uG (zQ S Z) c o/\Z p
def Vw (S:SS) (Z:Addr->Prop) (y:T) (d:D):Prop:=Sn (zQ S Z) y d\/∃ ts p ds,y=.lst ts/\d=.ref p/\S p=some (.lst ds)/\zk (zQ S Z) ts ds/\Z p
abbrev Rk:=SS->SS->(Addr->Prop)->T->D->Prop
def bX:Rk:=λ _ S' Z y d=>Vw S' Z y d
def vq:Rk:=λ _ S' Z y d=>Sn (zQ S' Z) y d
def zK:Rk:=λ S S' Z y d=>Sn (zQ S' Z) y d/\∀ ts,y=.lst ts->∃ p ds,d=.ref p/\S p=none/\S' p=some (.lst ds)/\zk (zQ S' λ a=>Z a\/a=p) ts ds
class Cl (R:Rk):Prop where
 cl:∀ {S S1 S':SS}{Z:Addr->Prop}{y:T}{d:D},Sx S S1->R S1 S' Z y d->R S S' Z y d
 of:∀ {S S':SS}{Z:Addr->Prop}{y:T}{d:D},(∀ ts,y≠.lst ts)->Sn (zQ S' Z) y d->R S S' Z y d
instance:Cl bX:=⟨λ _ h=>h,λ _ h=>.inl h⟩
instance:Cl vq:=⟨λ _ h=>h,λ _ h=>h⟩
instance:Cl zK:=⟨λ s h=>⟨h.1,λ ts e=>by
 obtain⟨p,ds,h1,h2,h3⟩:=h.2 ts e
 exact⟨p,ds,h1,s.none h2,h3⟩⟩,λ n h=>⟨h,λ ts e=>absurd e (n ts)⟩⟩
section
variable {S S':SS}{Z:Addr->Prop}{L:yc}{J:Ev}{y:T}{d:D}
def ER.grow (h:ER S Z L J) (s:Sx S S'):ER S' Z L J:=
 ⟨λ a z q=>h.zd a z (s.none q),λ i t e=>by
  obtain⟨d,h1,h2⟩:=h.im i t e
  exact⟨d,h1,Sn.sx (vU s) t h2⟩,λ i ts e=>by
  obtain⟨p,ds,h1,h2,h3,h4⟩:=h.ow i ts e
  exact⟨p,ds,h1,s _ _ h2,uG.sx (vU s) h3,h4⟩⟩
def Vw.grow (h:Vw S Z y d) (s:Sx S S'):Vw S' Z y d:=by
 rcases h with h | ⟨ts,p,ds,h1,h2,h3,h4,h5⟩
 ·exact .inl (Sn.sx (vU s) y h)
 ·exact .inr ⟨ts,p,ds,h1,h2,s _ _ h3,zk.sx (vU s) ts h4,h5⟩
def Vw.sn (h:Vw S Z y d):Sn S y d:=by
 rcases h with h | ⟨ts,p,ds,rfl,rfl,h3,h4,_⟩
 ·exact Sn.sx (mx S Z) y h
 ·simp only[Sn]
  exact⟨ds,.inr ⟨p,rfl,h3⟩,zk.sx (mx S Z) ts h4⟩
theorem Vw.zg (h:Vw S Z .zg d):d=.zg:=by
 rcases h with h | ⟨_,_,_,h,_⟩
 ·simpa only [Sn] using h
 ·cases h
theorem Vw.bl {b:Bool}(h:Vw S Z (.bl b) d):d=.bl b:=by
 rcases h with h | ⟨_,_,_,h,_⟩
 ·simpa only [Sn] using h
 ·cases h
theorem Vw.int {b:Int}(h:Vw S Z (.int b) d):d=.int b:=by
 rcases h with h | ⟨_,_,_,h,_⟩
 ·simpa only [Sn] using h
 ·cases h
theorem Vw.str {b:Str}(h:Vw S Z (.str b) d):d=.str b:=by
 rcases h with h | ⟨_,_,_,h,_⟩
 ·simpa only [Sn] using h
 ·cases h
theorem Vw.tup {ts:List T}(h:Vw S Z (.tup ts) d):∃ ds,d=.tup ds/\zk (zQ S Z) ts ds:=by
 rcases h with h | ⟨_,_,_,h,_⟩
 ·simpa only [Sn] using h
 ·cases h
theorem Vw.lst {ts:List T}(h:Vw S Z (.lst ts) d):∃ ds,(d=.xx ds\/∃ a,d=.ref a/\S a=some (.lst ds))/\zk (zQ S Z) ts ds:=by
 rcases h with h | ⟨us,p,ds,h1,h2,h3,h4,_⟩
 ·simp only[Sn] at h
  obtain⟨ds,h1,h2⟩:=h
  refine⟨ds,?_,h2⟩
  rcases h1 with h1 | ⟨a,h1,h3⟩
  ·exact .inl h1.1
  ·exact .inr ⟨a,h1,(u0 h3).2⟩
 ·cases h1
  exact⟨ds,.inr ⟨p,h2,h3⟩,h4⟩
noncomputable def wA:T->Option (List T)
 | .tup ts=>some ts
 | .lst ts=>some ts
 | _=>none
@[simp] theorem zab (ts:List T):wA (.tup ts)=some ts:=rfl
@[simp] theorem zac (ts:List T):wA (.lst ts)=some ts:=rfl
def Vw.seq {ts:List T}(h:Vw S Z y d) (e:wA y=some ts):∃ ds,zZ d S=some ds/\zk (zQ S Z) ts ds:=by
 cases y with
 | tup us=>cases e;obtain⟨ds,rfl,h2⟩:=h.tup;exact⟨ds,rfl,h2⟩
 | lst us=>
  cases e
  obtain⟨ds,h1 | ⟨a,rfl,h1⟩,h2⟩:=h.lst
  ·subst h1;exact⟨ds,rfl,h2⟩
  ·exact⟨ds,by unfold zZ;dsimp only;rw[h1],h2⟩
 | _=>cases e
theorem Vw.yP (h:Vw S Z .yP d):∃ a Ae,(d=.ref a/\Ae=[])/\S a=some (.yo Ae):=by
 rcases h with h | ⟨_,_,_,h,_⟩
 ·simp only[Sn] at h
  obtain⟨a,Ae,h1,h2⟩:=h
  exact⟨a,Ae,h1,(u0 h2).2⟩
 ·cases h
def fq:Sn S .zg .zg:=by simp only[Sn]
def wc {b:Bool}:Sn S (.bl b) (.bl b):=by simp only[Sn]
def wa {i:Int}:Sn S (.int i) (.int i):=by simp only[Sn]
def fo {x:Str}:Sn S (.str x) (.str x):=by simp only[Sn]
def qi {ts:List T}{ds:List D}(h:zk S ts ds):Sn S (.tup ts) (.tup ds):=by simp only[Sn];exact⟨ds,rfl,h⟩
def qo {ts:List T}{ds:List D}{p:Addr}(hz:∀ a,Z a->S a≠none) (hp:S p=none) (h:zk (zQ S Z) ts ds):zK S (ups S p (.lst ds)) Z (.lst ts) (.ref p):=by
 have nz:¬ Z p:=λ z=>hz p z hp
 have s:Sx S (ups S p (.lst ds)):=.new hp _
 refine⟨?_,λ us e=>?_⟩
 ·simp only[Sn]
  exact⟨ds,.inr ⟨p,rfl,by rw[vB nz,sI]⟩,zk.sx (vU s) ts h⟩
 ·cases e
  exact⟨p,ds,rfl,hp,sI,zk.sx (qI s hp) ts h⟩
end
def xB (R:Rk) (f:Ev->Option T) (t:zx):Prop:=∀ S Z L J y Q,ER S Z L J->f J=some y->(∀ d S',Sx S S'->R S S' Z y d->Q d S')->t L S Q
abbrev vL:=xB vq
abbrev yy:=xB bX
abbrev xt:=xB zK
def xB.imp {R R':Rk}{f:Ev->Option T}{t:zx}(h:xB R f t) (i:∀ S S' Z y d,R S S' Z y d->R' S S' Z y d):xB R' f t:=λ S Z L J y Q hE e hq=>h S Z L J y Q hE e λ d S' s r=>hq d S' s (i _ _ _ _ _ r)
def xB.er {f:Ev->Option T}{t:zx}(h:vL f t):yy f t:=h.imp λ _ _ _ _ _ r=>.inl r
def xB.fe {f:Ev->Option T}{t:zx}(h:xt f t):vL f t:=h.imp λ _ _ _ _ _ r=>r.1
def xB.fr {f:Ev->Option T}{t:zx}(h:xt f t):yy f t:=h.fe.er
@[simp] noncomputable def zo (i:Nat):Ev->Option T:=fun J=>match J[i]? with
 | some (some (.im t))=>some t
 | _=>none
@[simp] noncomputable def ze (i:Nat):Ev->Option T:=fun J=>match J[i]? with
 | some (some (.im t))=>some t
 | some (some (.own (.lst ts)))=>some (.lst ts)
 | _=>none
@[simp] noncomputable def cS (t:T):Ev->Option T:=λ _=>some t
def dh (i:Nat):vL (zo i) (xk i):=λ S Z L J y Q hE e hq=>by
 unfold zo at e
 split at e
 ·rename_i t h
  cases e
  obtain⟨d,h1,h2⟩:=hE.im i _ h
  unfold xk;rw[h1]
  exact hq d S (.refl S) h2
 ·cases e
def V6 (i:Nat):yy (ze i) (xk i):=λ S Z L J y Q hE e hq=>by
 unfold ze at e
 split at e
 ·rename_i t h
  cases e
  obtain⟨d,h1,h2⟩:=hE.im i _ h
  unfold xk;rw[h1]
  exact hq d S (.refl S) (.inl h2)
 ·rename_i ts h
  cases e
  obtain⟨p,o,h1,h2,h3,h4⟩:=hE.ow i _ h
  unfold xk;rw[h1]
  cases o with
  | yo _=>exact h3.elim
  | lst ds=>exact hq _ S (.refl S) (.inr ⟨ts,p,ds,rfl,rfl,h2,h3,h4⟩)
 ·cases e
def Uo (i:Int):xt (cS (.int i)) (dC (.int i)):=λ S Z L J y Q hE e hq=>by cases e;exact hq _ S (.refl S) (Cl.of (λ _=>nofun) wa)
def U3 (i:Bool):xt (cS (.bl i)) (dC (.bl i)):=λ S Z L J y Q hE e hq=>by cases e;exact hq _ S (.refl S) (Cl.of (λ _=>nofun) wc)
def VD (i:Str):xt (cS (.str i)) (dC (.str i)):=λ S Z L J y Q hE e hq=>by cases e;exact hq _ S (.refl S) (Cl.of (λ _=>nofun) fo)
def VN:xt (cS .zg) (dC .zg):=λ S Z L J y Q hE e hq=>by cases e;exact hq _ S (.refl S) (Cl.of (λ _=>nofun) fq)
@[simp] noncomputable def zb (f:T->T->Option T) (fa fb:Ev->Option T):Ev->Option T:=fun J=>(fa J).bind λ x=>(fb J).bind λ y=>f x y
def Good2 (R:Rk) (f:T->T->Option T) (g:yM):Prop:=∀ S Z x y z d e Q,(∀ a,Z a->S a≠none)->Vw S Z x d->Vw S Z y e->f x y=some z->(∀ c S',Sx S S'->R S S' Z z c->Q c S')->g d e S Q
def uZ {R:Rk} [Cl R] {f:T->T->Option T}{g:yM}{fa fb:Ev->Option T}{ta tb:zx}(hg:Good2 R f g) (ha:yy fa ta) (hb:yy fb tb):xB R (zb f fa fb) (yh g ta tb):=λ S Z L J y Q hE e hq=>by
 unfold zb at e
 obtain⟨x,e1,e⟩:=Af.mp e
 obtain⟨z,e2,e⟩:=Af.mp e
 refine ha S Z L J x _ hE e1 λ d S1 s1 r1=>?_
 refine hb S1 Z L J z _ (hE.grow s1) e2 λ d2 S2 s2 r2=>?_
 exact hg S2 Z x z y d d2 Q ((hE.grow (s1.trans s2)).zd) (Vw.grow r1 s2) r2 e λ c S' s r=>hq c S' ((s1.trans s2).trans s) (Cl.cl (s1.trans s2) r)
@[simp] noncomputable def i2 (g:Int->Int->T):T->T->Option T
 | .int i,.int j=>some (g i j)
 | _,_=>none
instance {i j:Int}:Decidable (xh i j):=by unfold xh;infer_instance
instance {i j:Int}:Decidable (y6 i j):=by unfold y6;infer_instance
instance {i j:Int}:Decidable (tG i j):=by unfold tG;infer_instance
@[simp] noncomputable def qG (C:Int->Int->Prop) [∀ i j,Decidable (C i j)] (g:Int->Int->T):T->T->Option T
 | .int i,.int j=>if C i j then some (g i j) else none
 | _,_=>none
def oo {g:Int->Int->T}{g':Int->Int->D}(h:∀ i j S,Sn S (g i j) (g' i j)) (n:∀ i j ts,g i j≠.lst ts):Good2 zK (i2 g) (yR g'):=λ S Z x y z d e Q hz hx hy ef hq=>by
 unfold i2 at ef
 split at ef
 ·cases ef
  cases hx.int;cases hy.int
  exact hq _ S (.refl S) (Cl.of (n _ _) (h _ _ _))
 ·cases ef
def m6 {C:Int->Int->Prop} [∀ i j,Decidable (C i j)] {g:Int->Int->T}{g':Int->Int->D}(h:∀ i j S,Sn S (g i j) (g' i j)) (n:∀ i j ts,g i j≠.lst ts):Good2 zK (qG C g) (fI C g'):=λ S Z x y z d e Q hz hx hy ef hq=>by
 unfold qG at ef
 split at ef
 ·split at ef
  ·rename_i hh
   cases ef
   cases hx.int;cases hy.int
   exact⟨hh,hq _ S (.refl S) (Cl.of (n _ _) (h _ _ _))⟩
  ·cases ef
 ·cases ef
@[simp] def xS:T->T->Option T:=i2 λ i j=>.int (i-j)
@[simp] def zS:T->T->Option T:=qG (λ _ j=>0<j) λ i j=>.int (i%j)
@[simp] def yg:T->T->Option T:=qG y6 λ i j=>.int (i/j)
@[simp] def sU:T->T->Option T:=qG tG λ i j=>.int (i ^ j.toNat)
@[simp] def lY:T->T->Option T:=qG (λ _ j=>0<=j) λ i j=>.int (i/2 ^ j.toNat)
@[simp] def i7:T->T->Option T:=i2 λ i j=>.int (Builtin.bitAnd i j)
@[simp] def j6:T->T->Option T:=i2 λ i j=>.bl (decide (i<=j))
@[simp] def c6:T->T->Option T:=i2 λ i j=>.bl (decide (j<i))
@[simp] def jS:T->T->Option T:=i2 λ i j=>.bl (decide (j<=i))
section
variable {fa fb:Ev->Option T}{ta tb:zx}
def VC (ha:yy fa ta) (hb:yy fb tb):xt (zb xS fa fb) (yh (yR λ i j=>.int (i-j)) ta tb):=uZ (oo (λ _ _ _=>wa) λ _ _ _=>nofun) ha hb
def VP (ha:yy fa ta) (hb:yy fb tb):xt (zb zS fa fb) (yh (fI (λ _ j=>0<j) λ i j=>.int (i%j)) ta tb):=uZ (m6 (λ _ _ _=>wa) λ _ _ _=>nofun) ha hb
def Ur (ha:yy fa ta) (hb:yy fb tb):xt (zb yg fa fb) (yh (fI y6 λ i j=>.int (i/j)) ta tb):=uZ (m6 (λ _ _ _=>wa) λ _ _ _=>nofun) ha hb
def VJ (ha:yy fa ta) (hb:yy fb tb):xt (zb sU fa fb) (yh (fI tG λ i j=>.int (i ^ j.toNat)) ta tb):=uZ (m6 (λ _ _ _=>wa) λ _ _ _=>nofun) ha hb
def VH (ha:yy fa ta) (hb:yy fb tb):xt (zb lY fa fb) (yh (fI (λ _ j=>0<=j) λ i j=>.int (i/2 ^ j.toNat)) ta tb):=uZ (m6 (λ _ _ _=>wa) λ _ _ _=>nofun) ha hb
def U5 (ha:yy fa ta) (hb:yy fb tb):xt (zb i7 fa fb) (yh (yR λ i j=>.int (Builtin.bitAnd i j)) ta tb):=uZ (oo (λ _ _ _=>wa) λ _ _ _=>nofun) ha hb
end
def zC (neg:Bool):T->T->Option T:=λ x y=>if dep x<=60/\dep y<=60 then some (.bl (cond neg (!eqT x y) (eqT x y))) else none
def sd (neg:Bool):T->T->Option T:=λ x y=>match wA y with
 | some ts=>if dep x<=60/\xb ts<=60 then some (.bl (cond neg (!(ts.any λ t=>eqT t x)) (ts.any λ t=>eqT t x))) else none
 | none=>none
def Su {neg:Bool}:Good2 zK (zC neg) (wV neg):=λ S Z x y z d e Q hz hx hy ef hq=>by
 unfold zC at ef
 split at ef
 ·rename_i h
  cases ef
  exact⟨x,y,hx.sn,hy.sn,h.1,h.2,hq _ S (.refl S) (Cl.of (λ _=>nofun) wc)⟩
 ·cases ef
def Sq {neg:Bool}:Good2 zK (sd neg) (sg neg):=λ S Z x y z d e Q hz hx hy ef hq=>by
 unfold sd at ef
 split at ef
 ·rename_i ts ht
  split at ef
  ·rename_i h
   cases ef
   obtain⟨ds,h1,h2⟩:=hy.seq ht
   exact⟨x,ts,ds,hx.sn,h1,zk.sx (mx S Z) ts h2,h.1,h.2,hq _ S (.refl S) (Cl.of (λ _=>nofun) wc)⟩
  ·cases ef
 ·cases ef
@[simp] def zj:T->T->Option T:=λ x y=>match wA x,y with
 | some ts,.int i=>L2.zD ts i
 | _,_=>none
def c7:Good2 vq zj xW:=λ S Z x y z d e Q hz hx hy ef hq=>by
 unfold zj at ef
 split at ef
 ·rename_i ts i ht
  cases hy.int
  obtain⟨ds,h1,h2⟩:=hx.seq ht
  obtain⟨c,h3,h4⟩:=h2.at ef
  unfold zZ at h1
  split at h1
  ·cases h1;exact SY h3 (hq c S (.refl S) h4)
  ·cases h1;exact S_ h3 (hq c S (.refl S) h4)
  ·split at h1
   ·rename_i q
    cases h1
    exact Ra q h3 (hq c S (.refl S) h4)
   ·cases h1
  ·cases h1
 ·cases ef
@[simp] noncomputable def yB:T->T->Option T
 | .int i,.int j=>some (.int (i+j))
 | .str i,.str j=>if i.length+j.length<=sizeLine then some (.str (i++j)) else none
 | .lst ts,.lst us=>if ts.length+us.length<=sizeLine then some (.lst (ts++us)) else none
 | .tup ts,.tup us=>if ts.length+us.length<=sizeLine then some (.tup (ts++us)) else none
 | _,_=>none
def vF:yM:=λ x y S Q=>match x,y with
 | .int i,.int j=>Q (.int (i+j)) S
 | .str i,.str j=>i.length+j.length<=sizeLine/\Q (.str (i++j)) S
 | .tup ds,.tup es=>ds.length+es.length<=sizeLine/\Q (.tup (ds++es)) S
 | .zg,_=>False
 | .bl _,_=>False
 | .int _,_=>False
 | .str _,_=>False
 | .tup _,_=>False
 | x,y=>match zZ x S,zZ y S with
  | some ds,some es=>(∀ ts,y≠.tup ts)/\ds.length+es.length<=sizeLine/\∀ r,S r=none->Q (.ref r) (ups S r (.lst (ds++es)))
  | _,_=>False
def good_add:Good2 zK yB vF:=λ S Z x y z d e Q hz hx hy ef hq=>by
 unfold yB at ef
 split at ef
 ·cases ef;cases hx.int;cases hy.int
  exact hq _ S (.refl S) (Cl.of (λ _=>nofun) wa)
 ·split at ef
  ·rename_i h
   cases ef;cases hx.str;cases hy.str
   exact⟨h,hq _ S (.refl S) (Cl.of (λ _=>nofun) fo)⟩
  ·cases ef
 ·split at ef
  ·rename_i h
   cases ef
   obtain⟨ds,h1,h2⟩:=hx.seq rfl
   obtain⟨es,h3,h4⟩:=hy.seq rfl
   have nt:∀ ts,e≠.tup ts:=by
    obtain⟨_,q | ⟨_,q,_⟩,_⟩:=hy.lst <;> subst q <;> exact λ _=>nofun
   have key:(∀ ts,e≠.tup ts)/\ds.length+es.length<=sizeLine/\∀ r,S r=none->Q (.ref r) (ups S r (.lst (ds++es))):=
    ⟨nt,by rw[h2.len,h4.len];exact h,λ r hr=>hq _ _ (.new hr _) (qo hz hr (h2.append h4))⟩
   obtain⟨_,q | ⟨a,q,_⟩,_⟩:=hx.lst
   ·subst q;unfold vF;dsimp only;rw[h1,h3];exact key
   ·subst q;unfold vF;dsimp only;rw[h1,h3];exact key
  ·cases ef
 ·split at ef
  ·rename_i h
   cases ef
   obtain⟨ds,rfl,h2⟩:=hx.tup
   obtain⟨es,rfl,h4⟩:=hy.tup
   exact⟨by rw[h2.len,h4.len];exact h,hq _ S (.refl S) (Cl.of (λ _=>nofun) (qi (h2.append h4)))⟩
  ·cases ef
 ·cases ef
def vt (f:Ev->Option Bool) (t:yL):Prop:=∀ S Z L J y Q,ER S Z L J->f J=some y->(∀ S',Sx S S'->Q y S')->t L S Q
@[simp] noncomputable def zL (f:Ev->Option T):Ev->Option Bool:=fun J=>(f J).bind λ x=>match x with
 | .bl b=>some b
 | _=>none
@[simp] noncomputable def gQ:T->Option Bool
 | .zg=>some false
 | .bl b=>some b
 | .int i=>some (i != 0)
 | .str x=>if x.length<=sizeLine then some ((x.length:Int) != 0) else none
 | .tup ts=>some (!ts.isEmpty)
 | .lst ts=>some (!ts.isEmpty)
 | .yP=>none
 | .err _ _ _=>none
@[simp] def xl (f:Ev->Option T):Ev->Option Bool:=fun J=>(f J).bind gQ
@[simp] noncomputable def vG (f g:Ev->Option Bool):Ev->Option Bool:=fun J=>(f J).bind λ b=>if b=true then g J else some false
@[simp] noncomputable def wu (f g:Ev->Option Bool):Ev->Option Bool:=fun J=>(f J).bind λ b=>if b=true then some true else g J
@[simp] noncomputable def tu (f:Ev->Option Bool):Ev->Option Bool:=fun J=>(f J).map (!·)
section
variable {f g:Ev->Option T}{t u:zx}{fb gb:Ev->Option Bool}{tb ub:yL}{R:Rk}
def V8 (h:yy f t):vt (zL f) (vk t):=λ S Z L J y Q hE e hq=>by
 obtain⟨x,e1,e2⟩:=Af.mp e
 refine h S Z L J x _ hE e1 λ d S1 s1 r1=>?_
 split at e2
 ·cases e2
  cases Vw.bl r1
  exact hq S1 s1
 ·cases e2
def VA (h:yy f t):vt (xl f) (cY t):=λ S Z L J y Q hE e hq=>by
 obtain⟨x,e1,e2⟩:=Af.mp e
 refine h S Z L J x _ hE e1 λ d S1 s1 r1=>?_
 cases x with
 | zg=>cases Vw.zg r1;cases e2;exact hq S1 s1
 | bl b=>cases Vw.bl r1;cases e2;exact hq S1 s1
 | int b=>cases Vw.int r1;cases e2;exact hq S1 s1
 | str b=>
  cases Vw.str r1
  simp only[gQ] at e2
  split at e2
  ·rename_i hh
   cases e2;exact⟨hh,hq S1 s1⟩
  ·cases e2
 | tup ts=>
  obtain⟨ds,rfl,h2⟩:=Vw.tup r1
  cases e2
  show Q (!ds.isEmpty) S1
  rw[h2.empty];exact hq S1 s1
 | lst ts=>
  obtain⟨ds,rfl | ⟨a,rfl,h1⟩,h2⟩:=Vw.lst r1
  ·cases e2
   show Q (!ds.isEmpty) S1
   rw[h2.empty];exact hq S1 s1
  ·cases e2
   refine ZJ h1 ?_
   rw[h2.empty];exact hq S1 s1
 | _=>cases e2
def Uu (h:vt fb tb) (h':vt gb ub):vt (vG fb gb) (oz tb ub):=λ S Z L J y Q hE e hq=>by
 obtain⟨b,e1,e2⟩:=Af.mp e
 refine h S Z L J b _ hE e1 λ S1 s1=>?_
 split at e2
 ·rename_i hb;rw[if_pos hb]
  exact h' S1 Z L J y _ (hE.grow s1) e2 λ S2 s2=>hq S2 (s1.trans s2)
 ·rename_i hb;rw[if_neg hb];cases e2;exact hq S1 s1
def Us (h:vt fb tb) (h':vt gb ub):vt (wu fb gb) (ox tb ub):=λ S Z L J y Q hE e hq=>by
 obtain⟨b,e1,e2⟩:=Af.mp e
 refine h S Z L J b _ hE e1 λ S1 s1=>?_
 split at e2
 ·rename_i hb;rw[if_pos hb];cases e2;exact hq S1 s1
 ·rename_i hb;rw[if_neg hb]
  exact h' S1 Z L J y _ (hE.grow s1) e2 λ S2 s2=>hq S2 (s1.trans s2)
def Ut (h:vt fb tb):vt (tu fb) (oy tb):=λ S Z L J y Q hE e hq=>by
 unfold tu at e
 obtain⟨b,e1,rfl⟩:=Au.mp e
 exact h S Z L J b _ hE e1 λ S1 s1=>hq S1 s1
@[simp] noncomputable def vJ (f g:Ev->Option T):Ev->Option T:=fun J=>(f J).bind λ x=>match x with
 | .bl k=>if k=true then g J else some (.bl false)
 | _=>none
@[simp] noncomputable def dk (f:Ev->Option T):Ev->Option T:=fun J=>(f J).bind λ x=>match x with
 | .bl k=>some (.bl (!k))
 | _=>none
def U6 [Cl R] (h:yy f t) (h':xB R g u):xB R (vJ f g) (o5 t u):=λ S Z L J y Q hE e hq=>by
 obtain⟨x,e1,e2⟩:=Af.mp e
 refine h S Z L J x _ hE e1 λ d S1 s1 r1=>?_
 split at e2
 ·cases Vw.bl r1
  split at e2
  ·rename_i hb
   dsimp only;rw[if_pos hb]
   exact h' S1 Z L J y _ (hE.grow s1) e2 λ d S2 s2 r2=>hq d S2 (s1.trans s2) (Cl.cl s1 r2)
  ·rename_i hb
   dsimp only;rw[if_neg hb]
   cases e2
   exact hq _ S1 s1 (Cl.of (λ _=>nofun) wc)
 ·cases e2
def VM [Cl R] (h:yy f t):xB R (dk f) (o4 t):=λ S Z L J y Q hE e hq=>by
 obtain⟨x,e1,e2⟩:=Af.mp e
 refine h S Z L J x _ hE e1 λ d S1 s1 r1=>?_
 split at e2
 ·cases Vw.bl r1
  cases e2
  exact hq _ S1 s1 (Cl.of (λ _=>nofun) wc)
 ·cases e2
end
noncomputable def oA (S:SS) (Z:Addr->Prop):List T->List D->Prop
 | [],ds=>ds=[]
 | t::ts,ds=>∃ c cs,ds=c::cs/\Vw S Z t c/\oA S Z ts cs
def rQ (f:Ev->Option (List T)) (t:yb):Prop:=∀ S Z L J ys Q,ER S Z L J->f J=some ys->(∀ ds S',Sx S S'->oA S' Z ys ds->Q ds S')->t L S Q
def sA (f:Ev->Option (List T)) (t:yb):Prop:=∀ S Z L J ys Q,ER S Z L J->f J=some ys->(∀ ds S',Sx S S'->zk (zQ S' Z) ys ds->Q ds S')->t L S Q
@[simp] noncomputable def zl:Ev->Option (List T):=λ _=>some []
@[simp] noncomputable def zc (f:Ev->Option T) (g:Ev->Option (List T)):Ev->Option (List T):=fun J=>(f J).bind λ x=>(g J).bind λ xs=>some (x::xs)
section
variable {f:Ev->Option T}{g:Ev->Option (List T)}{t:zx}{u:yb}
def V4:rQ zl il:=λ S Z L J y Q hE e hq=>by cases e;exact hq [] S (.refl S) rfl
def V2:sA zl il:=λ S Z L J y Q hE e hq=>by cases e;exact hq [] S (.refl S) .nil
def V5 (h:yy f t) (h':rQ g u):rQ (zc f g) (qN t u):=λ S Z L J y Q hE e hq=>by
 obtain⟨x,e1,e0⟩:=Af.mp e
 obtain⟨xs,e2,e3⟩:=Af.mp e0
 cases e3
 refine h S Z L J x _ hE e1 λ d S1 s1 r1=>?_
 refine h' S1 Z L J xs _ (hE.grow s1) e2 λ ds S2 s2 r2=>?_
 exact hq _ S2 (s1.trans s2) ⟨d,ds,rfl,Vw.grow r1 s2,r2⟩
def V3 (h:vL f t) (h':sA g u):sA (zc f g) (qN t u):=λ S Z L J y Q hE e hq=>by
 obtain⟨x,e1,e0⟩:=Af.mp e
 obtain⟨xs,e2,e3⟩:=Af.mp e0
 cases e3
 refine h S Z L J x _ hE e1 λ d S1 s1 r1=>?_
 refine h' S1 Z L J xs _ (hE.grow s1) e2 λ ds S2 s2 r2=>?_
 exact hq _ S2 (s1.trans s2) (.cons (Sn.sx (vU s2) x r1) r2)
@[simp] noncomputable def tupS (g:Ev->Option (List T)):Ev->Option T:=fun J=>(g J).bind λ xs=>if xs.length<=sizeLine then some (.tup xs) else none
@[simp] noncomputable def yI (g:Ev->Option (List T)):Ev->Option T:=fun J=>(g J).bind λ xs=>if xs.length<=sizeLine then some (.lst xs) else none
def V7 (h:sA g u):xt (tupS g) (bo u):=λ S Z L J y Q hE e hq=>by
 obtain⟨xs,e1,e2⟩:=Af.mp e
 split at e2
 ·rename_i hl
  cases e2
  refine h S Z L J xs _ hE e1 λ ds S1 s1 r1=>⟨by rw[r1.len];exact hl,hq _ S1 s1 (Cl.of (λ _=>nofun) (qi r1))⟩
 ·cases e2
def VR (h:sA g u):xt (yI g) (bw u):=λ S Z L J y Q hE e hq=>by
 obtain⟨xs,e1,e2⟩:=Af.mp e
 split at e2
 ·rename_i hl
  cases e2
  refine h S Z L J xs _ hE e1 λ ds S1 s1 r1=>⟨by rw[r1.len];exact hl,λ p hp=>hq _ _ (s1.trans (.new hp _)) (Cl.cl s1 (qo (hE.grow s1).zd hp r1))⟩
 ·cases e2
end
@[simp] noncomputable def zA (F:List T->Option T) (g:Ev->Option (List T)):Ev->Option T:=fun J=>(g J).bind F
def uN (R:Rk) (F:List T->Option T) (f:xZ):Prop:=∀ S Z ys z ds Q,(∀ a,Z a->S a≠none)->oA S Z ys ds->F ys=some z->(∀ c S',Sx S S'->R S S' Z z c->Q c S')->f ds S Q
def U1 {R:Rk} [Cl R] {F:List T->Option T}{f:xZ}{g:Ev->Option (List T)}{u:yb}(hf:uN R F f) (h:rQ g u):xB R (zA F g) (wX f u):=λ S Z L J y Q hE e hq=>by
 obtain⟨xs,e1,e2⟩:=Af.mp e
 refine h S Z L J xs _ hE e1 λ ds S1 s1 r1=>?_
 exact hf S1 Z xs y ds Q (hE.grow s1).zd r1 e2 λ c S' s r=>hq c S' (s1.trans s) (Cl.cl s1 r)
@[simp] noncomputable def yT:List T->Option T
 | [.str z]=>if z.length<=sizeLine then some (.int z.length) else none
 | [y]=>(wA y).map λ ts=>.int ts.length
 | _=>none
def um {S:SS}{Z:Addr->Prop}{y:T}{ds:List D}(h:oA S Z [y] ds):∃ d,ds=[d]/\Vw S Z y d:=by
 obtain⟨c,cs,rfl,h1,h2⟩:=h
 cases h2
 exact⟨c,rfl,h1⟩
def lL {S:SS}{Z:Addr->Prop}{y z:T}{ds:List D}(h:oA S Z [y,z] ds):∃ d e,ds=[d,e]/\Vw S Z y d/\Vw S Z z e:=by
 obtain⟨c,cs,rfl,h1,c2,cs2,rfl,h2,h3⟩:=h
 cases h3
 exact⟨c,c2,rfl,h1,h2⟩
def Sl:uN zK yT vE:=λ S Z ys z ds Q hz hv e hq=>by
 unfold yT at e
 split at e
 ·obtain⟨d,rfl,h1⟩:=um hv
  split at e
  ·rename_i hl
   cases e
   cases h1.str
   exact⟨hl,hq _ S (.refl S) (Cl.of (λ _=>nofun) wa)⟩
  ·cases e
 ·obtain⟨d,rfl,h1⟩:=um hv
  obtain⟨ts,e1,rfl⟩:=Au.mp e
  obtain⟨es,h2,h3⟩:=h1.seq e1
  refine SX h2 ?_
  rw[h3.len]
  exact hq _ S (.refl S) (Cl.of (λ _=>nofun) wa)
 ·cases e
@[simp] noncomputable def listS:List T->Option T
 | [y]=>(wA y).map .lst
 | _=>none
def Sk:uN zK listS vD:=λ S Z ys z ds Q hz hv e hq=>by
 unfold listS at e
 split at e
 ·obtain⟨d,rfl,h1⟩:=um hv
  obtain⟨ts,e1,rfl⟩:=Au.mp e
  obtain⟨es,h2,h3⟩:=h1.seq e1
  exact SW h2 λ p hp=>hq _ _ (.new hp _) (qo hz hp h3)
 ·cases e
@[simp] noncomputable def pA:List T->Option T
 | [y]=>(wA y).map .tup
 | _=>none
def Se:uN zK pA vC:=λ S Z ys z ds Q hz hv e hq=>by
 unfold pA at e
 split at e
 ·rename_i y
  obtain⟨d,rfl,h1⟩:=um hv
  obtain⟨ts,e1,rfl⟩:=Au.mp e
  obtain⟨es,h2,h3⟩:=h1.seq e1
  have k:Q (.tup es) S:=hq _ S (.refl S) (Cl.of (λ _=>nofun) (qi h3))
  unfold zZ at h2
  split at h2
  ·cases h2;exact k
  ·cases h2;exact k
  ·split at h2
   ·rename_i q
    cases h2;exact SV q k
   ·cases h2
  ·cases h2
 ·cases e
@[simp] noncomputable def jG (g:Int->Int->Int):List T->Option T
 | [.int i,.int j]=>some (.int (g i j))
 | _=>none
def Ss {g:Int->Int->Int}:uN zK (jG g) (u7 λ i j=>.int (g i j)):=λ S Z ys z ds Q hz hv e hq=>by
 unfold jG at e
 split at e
 ·obtain⟨d,d',rfl,h1,h2⟩:=lL hv
  cases e;cases h1.int;cases h2.int
  exact hq _ S (.refl S) (Cl.of (λ _=>nofun) wa)
 ·cases e
@[simp] def tY:List T->Option T:=jG λ i j=>if j<i then j else i
noncomputable def t5:List T->Option (List Bool)
 | []=>some []
 | .bl b::ts=>(t5 ts).map (b::·)
 | _::_=>none
theorem bL:∀ {ts:List T}{bs:List Bool},t5 ts=some bs->ts=bs.map T.bl
 | [],bs,h=>by cases h;rfl
 | .bl b::ts,bs,h=>by
  unfold t5 at h
  obtain⟨cs,h1,rfl⟩:=Au.mp h
  rw[Ax,<- bL h1]
 | .zg::ts,bs,h=>by cases h
 | .int _::ts,bs,h=>by cases h
 | .str _::ts,bs,h=>by cases h
 | .tup _::ts,bs,h=>by cases h
 | .lst _::ts,bs,h=>by cases h
def bM (bs:List Bool):t5 (bs.map T.bl)=some bs:=by
 induction bs with
 | nil=>rfl
 | cons b bs ih=>rw[Ax];unfold t5;rw[ih];rfl
@[simp] noncomputable def mI (g:List Bool->Bool):List T->Option T
 | [.lst ts]=>(t5 ts).map λ bs=>.bl (g bs)
 | _=>none
def u9 (g:List Bool->Bool):xZ:=λ ds S Q=>match ds with
 | [.tup _]=>False
 | [d]=>∃ bs:List Bool,zZ d S=some (bs.map D.bl)/\Q (.bl (g bs)) S
 | _=>False
def Sw {g:List Bool->Bool}:uN zK (mI g) (u9 g):=λ S Z ys z ds Q hz hv e hq=>by
 unfold mI at e
 split at e
 ·obtain⟨d,rfl,h1⟩:=um hv
  obtain⟨bs,e1,rfl⟩:=Au.mp e
  cases bL e1
  obtain⟨es,h2,h3⟩:=h1.seq rfl
  cases h3.bN
  have key:∃ bs:List Bool,zZ d S=some (bs.map D.bl)/\Q (.bl (g bs)) S:=⟨bs,h2,hq _ S (.refl S) (Cl.of (λ _=>nofun) wc)⟩
  obtain⟨_,q | ⟨a,q,_⟩,_⟩:=h1.lst
  ·subst q;exact key
  ·subst q;exact key
 ·cases e
structure FR (S0:SS) (Z0:Addr->Prop) (S:SS) (Z:Addr->Prop) (L:yc) (J:Ev):Prop where
 er:ER S Z L J
 len:L.length=J.length
 sx:Sx S0 S
 z0:∀ a,Z0 a->S0 a≠none
 zz:∀ a,Z0 a->Z a
 zn:∀ a,Z a->Z0 a\/S0 a=none
 fr:∀ (i:Nat) ts p,J[i]?=some (some (.own ts))->L[i]?=some (some (.ref p))->S0 p=none
 dj:∀ (i j:Nat) ts us p,i≠j->J[i]?=some (some (.own ts))->J[j]?=some (some (.own us))->L[i]?=some (some (.ref p))->L[j]?=some (some (.ref p))->False
def yt {α:Type}{l:List α}{i j:Nat}{a b:α}(h:(l.set i a)[j]?=some b):(i=j/\i<l.length/\b=a)\/(i≠j/\l[j]?=some b):=by
 rw[Cd] at h
 by_cases e:i=j
 ·subst e
  rw[if_pos rfl] at h
  by_cases hl:i<l.length
  ·rw[if_pos hl] at h;cases h;exact .inl ⟨rfl,hl,rfl⟩
  ·rw[if_neg hl] at h;cases h
 ·rw[if_neg e] at h;exact .inr ⟨e,h⟩
def xy {α:Type}{l:List α}{i j:Nat}{a:α}(h:i≠j):(l.set i a)[j]?=l[j]?:=by rw[Cd,if_neg h]
def qJ {α:Type}{l:List α}{i:Nat}{a:α}(h:i<l.length):(l.set i a)[i]?=some a:=by rw[Cd,if_pos rfl,if_pos h]
section
variable {S0 S S':SS}{Z0 Z:Addr->Prop}{L:yc}{J:Ev}{y:T}{d:D}
theorem FR.grow (h:FR S0 Z0 S Z L J) (s:Sx S S'):FR S0 Z0 S' Z L J:=⟨h.er.grow s,h.len,h.sx.trans s,h.z0,h.zz,h.zn,h.fr,h.dj⟩
def FR.sN (h:FR S0 Z0 S Z L J) (i:Nat) (r:Sn (zQ S Z) y d):FR S0 Z0 S Z (L.set i (some d)) (J.set i (some (.im y))):=by
 refine⟨⟨h.er.zd,λ j t e=>?_,λ j ts e=>?_⟩,by simp[h.len],h.sx,h.z0,h.zz,h.zn,λ j ts p e e'=>?_,λ j k ts us p n e1 e2 e3 e4=>?_⟩
 ·rcases yt e with ⟨rfl,hl,e⟩ | ⟨n,e⟩
  ·cases e;exact⟨d,qJ (by rw[h.len];exact hl),r⟩
  ·rw[xy n];exact h.er.im j t e
 ·rcases yt e with ⟨rfl,hl,e⟩ | ⟨n,e⟩
  ·cases e
  ·rw[xy n];exact h.er.ow j ts e
 ·rcases yt e with ⟨rfl,hl,e⟩ | ⟨n,e⟩
  ·cases e
  ·rw[xy n] at e';exact h.fr j ts p e e'
 ·rcases yt e1 with ⟨rfl,hl,e⟩ | ⟨n1,e1⟩
  ·cases e
  rcases yt e2 with ⟨rfl,hl,e⟩ | ⟨n2,e2⟩
  ·cases e
  rw[xy n1] at e3;rw[xy n2] at e4
  exact h.dj j k ts us p n e1 e2 e3 e4
def FR.Yz {ts:C}{ds:O}{p:Addr}(h:FR S0 Z0 S Z L J) (s:Sx S S') (i:Nat) (hp:S p=none) (hd:S' p=some ds) (r:uG (zQ S' λ a=>Z a\/a=p) ts ds):
  FR S0 Z0 S' (λ a=>Z a\/a=p) (L.set i (some (.ref p))) (J.set i (some (.own ts))):=by
 have np:∀ (j:Nat) us q,J[j]?=some (some (.own us))->L[j]?=some (some (.ref q))->q≠p:=λ j us q e e' z=>by
  subst z
  obtain⟨p',ds',h1,h2,_⟩:=h.er.ow j us e
  rw[e'] at h1;cases h1;rw[hp] at h2;cases h2
 refine⟨⟨λ a z=>?_,λ j t e=>?_,λ j us e=>?_⟩,by simp[h.len],h.sx.trans s,h.z0,λ a z=>.inl (h.zz a z),λ a z=>z.elim (h.zn a) (λ q=>.inr (by subst q;exact h.sx.none hp)),λ j us q e e'=>?_,λ j k us vs q n e1 e2 e3 e4=>?_⟩
 ·rcases z with z | rfl
  ·exact λ q=>h.er.zd a z (s.none q)
  ·rw[hd];nofun
 ·rcases yt e with ⟨rfl,hl,e⟩ | ⟨n,e⟩
  ·cases e
  ·rw[xy n]
   obtain⟨d,h1,h2⟩:=h.er.im j t e
   exact⟨d,h1,Sn.sx (qI s hp) t h2⟩
 ·rcases yt e with ⟨rfl,hl,e⟩ | ⟨n,e⟩
  ·cases e;exact⟨p,ds,qJ (by rw[h.len];exact hl),hd,r,.inr rfl⟩
  ·rw[xy n]
   obtain⟨q,es,h1,h2,h3,h4⟩:=h.er.ow j us e
   exact⟨q,es,h1,s _ _ h2,uG.sx (qI s hp) h3,.inl h4⟩
 ·rcases yt e with ⟨rfl,hl,e⟩ | ⟨n,e⟩
  ·rw[qJ (by rw[h.len];exact hl)] at e';cases e';exact h.sx.none hp
  ·rw[xy n] at e';exact h.fr j us q e e'
 ·rcases yt e1 with ⟨rfl,hl,e⟩ | ⟨n1,e1⟩
  ·rcases yt e2 with ⟨rfl,_,_⟩ | ⟨n2,e2⟩
   ·exact n rfl
   ·rw[qJ (by rw[h.len];exact hl)] at e3;cases e3
    rw[xy n2] at e4
    exact np k vs p e2 e4 rfl
  ·rcases yt e2 with ⟨rfl,hl,_⟩ | ⟨n2,e2⟩
   ·rw[qJ (by rw[h.len];exact hl)] at e4;cases e4
    rw[xy n1] at e3
    exact np j us p e1 e3 rfl
   ·rw[xy n1] at e3;rw[xy n2] at e4
    exact h.dj j k us vs q n e1 e2 e3 e4
def FR.forget (h:FR S0 Z0 S Z L J) (i:Nat):FR S0 Z0 S Z L (J.set i none):=by
 refine⟨⟨h.er.zd,λ j t e=>?_,λ j ts e=>?_⟩,by simp[h.len],h.sx,h.z0,h.zz,h.zn,λ j ts p e e'=>?_,λ j k ts us p n e1 e2 e3 e4=>?_⟩
 ·rcases yt e with ⟨rfl,hl,e⟩ | ⟨n,e⟩
  ·cases e
  ·exact h.er.im j t e
 ·rcases yt e with ⟨rfl,hl,e⟩ | ⟨n,e⟩
  ·cases e
  ·exact h.er.ow j ts e
 ·rcases yt e with ⟨rfl,hl,e⟩ | ⟨n,e⟩
  ·cases e
  ·exact h.fr j ts p e e'
 ·rcases yt e1 with ⟨rfl,hl,e⟩ | ⟨n1,e1⟩
  ·cases e
  rcases yt e2 with ⟨rfl,hl,e⟩ | ⟨n2,e2⟩
  ·cases e
  exact h.dj j k ts us p n e1 e2 e3 e4
@[simp] noncomputable def xD (is:List Nat) (J:Ev):Ev:=is.foldl (fun J i=>J.set i none) J
theorem FR.xD:∀ (is:List Nat) {J:Ev},FR S0 Z0 S Z L J->FR S0 Z0 S Z L (xD is J)
 | [],_,h=>h
 | i::is,_,h=>FR.xD is (h.forget i)
def FR.freeze {ts:List T}{p:Addr}(h:FR S0 Z0 S Z L J) (i:Nat) (e:J[i]?=some (some (.own (.lst ts)))) (ed:L[i]?=some (some (.ref p))):
  FR S0 Z0 S (λ a=>Z a/\a≠p) L (J.set i (some (.im (.lst ts))))/\Sn (zQ S λ a=>Z a/\a≠p) (.lst ts) (.ref p):=by
 obtain⟨p',o,h1,h2,h3,h4⟩:=h.er.ow i _ e
 rw[ed] at h1;cases h1
 obtain⟨ds,rfl⟩:∃ ds,o=.lst ds:=by
  cases o with
  | lst ds=>exact⟨ds,rfl⟩
  | yo _=>exact h3.elim
 replace h3:zk (zQ S Z) ts ds:=h3
 have hS:Sn (zQ S λ a=>Z a/\a≠p) (.lst ts) (.ref p):=by
  simp only[Sn]
  exact⟨ds,.inr ⟨p,rfl,by rw[vB (λ z=>z.2 rfl)];exact h2⟩,zk.sx (vV λ a z=>z.1) ts h3⟩
 refine⟨?_,hS⟩
 refine⟨⟨λ a z=>h.er.zd a z.1,λ j t e'=>?_,λ j us e'=>?_⟩,by simp[h.len],h.sx,h.z0,λ a z=>⟨h.zz a z,λ q=>?_⟩,λ a z=>h.zn a z.1,λ j us q e' ed'=>?_,λ j k us vs q n e1 e2 e3 e4=>?_⟩
 ·rcases yt e' with ⟨rfl,hl,e'⟩ | ⟨n,e'⟩
  ·cases e';exact⟨_,ed,hS⟩
  ·obtain⟨d,g1,g2⟩:=h.er.im j t e'
   exact⟨d,g1,Sn.sx (vV λ a z=>z.1) t g2⟩
 ·rcases yt e' with ⟨rfl,hl,e'⟩ | ⟨n,e'⟩
  ·cases e'
  ·obtain⟨q,es,g1,g2,g3,g4⟩:=h.er.ow j us e'
   exact⟨q,es,g1,g2,uG.sx (vV λ a z=>z.1) g3,g4,λ z=>by subst z;exact h.dj i j _ us q n e e' ed g1⟩
 ·subst q;exact h.z0 a z (h.fr i _ a e ed)
 ·rcases yt e' with ⟨rfl,hl,e'⟩ | ⟨n,e'⟩
  ·cases e'
  ·exact h.fr j us q e' ed'
 ·rcases yt e1 with ⟨rfl,hl,e⟩ | ⟨n1,e1⟩
  ·cases e
  rcases yt e2 with ⟨rfl,hl,e⟩ | ⟨n2,e2⟩
  ·cases e
  exact h.dj j k us vs q n e1 e2 e3 e4
def FR.mut {ts us:C}{es:O}{p:Addr}(h:FR S0 Z0 S Z L J) (i:Nat) (e:J[i]?=some (some (.own ts))) (ed:L[i]?=some (some (.ref p))) (r:uG (zQ S Z) us es):
  FR S0 Z0 (ups S p es) Z L (J.set i (some (.own us))):=by
 obtain⟨p',ds,h1,h2,h3,h4⟩:=h.er.ow i ts e
 rw[ed] at h1;cases h1
 have hh:zQ (ups S p es) Z=zQ S Z:=TY h4
 have hpn:=h.fr i ts p e ed
 refine⟨⟨λ a z=>?_,λ j t e'=>?_,λ j vs e'=>?_⟩,by simp[h.len],λ b o q=>?_,h.z0,h.zz,h.zn,λ j vs q e' ed'=>?_,λ j k vs ws q n e1 e2 e3 e4=>?_⟩
 ·by_cases hp:a=p
  ·subst hp;rw[sI];nofun
  ·rw[uR hp];exact h.er.zd a z
 ·rw[hh]
  rcases yt e' with ⟨rfl,hl,e'⟩ | ⟨n,e'⟩
  ·cases e'
  ·exact h.er.im j t e'
 ·rw[hh]
  rcases yt e' with ⟨rfl,hl,e'⟩ | ⟨n,e'⟩
  ·cases e';exact⟨p,es,ed,sI,r,h4⟩
  ·obtain⟨q,es',g1,g2,g3,g4⟩:=h.er.ow j vs e'
   refine⟨q,es',g1,?_,g3,g4⟩
   rw[uR (λ z=>by subst z;exact h.dj i j ts vs q n e e' ed g1)];exact g2
 ·rw[uR (λ z=>by subst z;rw[hpn] at q;cases q)];exact h.sx b o q
 ·rcases yt e' with ⟨rfl,hl,_⟩ | ⟨n,e'⟩
  ·rw[ed] at ed';cases ed';exact hpn
  ·exact h.fr j vs q e' ed'
 ·rcases yt e1 with ⟨rfl,hl,_⟩ | ⟨n1,e1⟩
  ·rcases yt e2 with ⟨rfl,hl,_⟩ | ⟨n2,e2⟩
   ·exact n rfl
   ·exact h.dj _ k ts ws q n e e2 e3 e4
  ·rcases yt e2 with ⟨rfl,hl,_⟩ | ⟨n2,e2⟩
   ·exact h.dj j _ vs ts q n e1 e e3 e4
   ·exact h.dj j k vs ws q n e1 e2 e3 e4
noncomputable def kN (S0 S:SS) (Z:Addr->Prop):SS:=open Classical in λ a=>if S0 a=none/\Z a then none else S a
def nQ {a:Addr}(h:¬ (S0 a=none/\Z a)):kN S0 S Z a=S a:=if_neg h
def kM {a:Addr}(h:S0 a=none/\Z a):kN S0 S Z a=none:=if_pos h
def FR.rebase (h:FR S0 Z0 S Z L J):∃ S1,Sx S0 S1/\FR S1 Z0 S Z L J/\Sx (zQ S Z) S1:=by
 refine⟨kN S0 S Z,λ b o q=>?_,⟨h.er,h.len,λ b o q=>?_,λ a z=>?_,h.zz,λ a z=>?_,λ i ts p e ed=>?_,h.dj⟩,λ b o q=>?_⟩
 ·rw[nQ (λ z=>by rw[z.1] at q;cases q)];exact h.sx _ _ q
 ·by_cases w:S0 b=none/\Z b
  ·rw[kM w] at q;cases q
  ·rw[nQ w] at q;exact q
 ·rw[nQ (λ q=>h.z0 a z q.1)]
  exact h.er.zd a (h.zz a z)
 ·rcases h.zn a z with w | w
  ·exact .inl w
  ·exact .inr (kM ⟨w,z⟩)
 ·obtain⟨p',ds,h1,h2,h3,h4⟩:=h.er.ow i ts e
  rw[ed] at h1;cases h1
  exact kM ⟨h.fr i ts p e ed,h4⟩
 ·obtain⟨q1,q2⟩:=u0 q
  rw[nQ (λ z=>q1 z.2)];exact q2
def FR.back {S1:SS}(h:FR S1 Z0 S Z L J) (s:Sx S0 S1) (z0:∀ a,Z0 a->S0 a≠none):FR S0 Z0 S Z L J:=⟨h.er,h.len,s.trans h.sx,z0,h.zz,λ a z=>(h.zn a z).imp id s.none,λ i ts p e ed=>s.none (h.fr i ts p e ed),h.dj⟩
def FR.Y2 {S1:SS}{Z1:Addr->Prop}(h:FR S0 Z0 S Z L J) (b:Sx (zQ S1 Z1) S0) (zz:∀ a,Z0 a->Z1 a):Sx (zQ S1 Z1) (zQ S Z):=λ a o q=>by
 have q0:=b _ _ q
 obtain⟨q1,q2⟩:=u0 q
 rw[vB]
 ·exact h.sx _ _ q0
 ·intro z
  rcases h.zn a z with w | w
  ·exact q1 (zz a w)
  ·rw[w] at q0;cases q0
end
inductive Out where
 | nx (J:Ev) | rt (t:T) | bk (J:Ev) | ct (J:Ev)
abbrev Sm:=Ev->Option Out
def Qk (R:Rk) (S0:SS) (Z0:Addr->Prop) (o:Out) (E:sG):Prop:=match o with
 | .nx J=>∀ S Z L,FR S0 Z0 S Z L J->E.nx L S
 | .bk J=>∀ S Z L,FR S0 Z0 S Z L J->E.bk L S
 | .ct J=>∀ S Z L,FR S0 Z0 S Z L J->E.ct L S
 | .rt y=>∀ d S,Sx S0 S->R S0 S Z0 y d->E.rt d S
def ym (R:Rk) (g:Sm) (t:yk):Prop:=∀ S0 Z0 S Z L J o E,FR S0 Z0 S Z L J->g J=some o->Qk R S0 Z0 o E->t E L S
class Lo (R:Rk):Prop extends Cl R where
 lo:∀ {S0 S S':SS}{Z0 Z:Addr->Prop}{y:T}{d:D},Sx S0 S->(∀ a,Z0 a->Z a)->R S S' Z y d->R S0 S' Z0 y d
instance:Lo vq:=⟨λ _ z h=>Sn.sx (vV z) _ h⟩
instance:Lo zK:=⟨λ s z h=>⟨Sn.sx (vV z) _ h.1,λ ts e=>by
 obtain⟨p,ds,h1,h2,h3,h4⟩:=h.2 ts e
 exact⟨p,ds,h1,s.none h2,h3,zk.sx (vV λ a q=>q.imp (z a) id) ts h4⟩⟩⟩
@[simp] noncomputable def zt (g h:Sm):Sm:=fun J=>(g J).bind λ o=>match o with
 | .nx J'=>h J'
 | o=>some o
@[simp] noncomputable def zV:Sm:=fun J=>some (.nx J)
@[simp] noncomputable def bI:Sm:=fun J=>some (.bk J)
@[simp] noncomputable def zG (i:Nat) (f:Ev->Option T):Sm:=fun J=>(f J).map λ y=>.nx (J.set i (some (.im y)))
@[simp] noncomputable def t6 (i:Nat) (f:Ev->Option T):Sm:=fun J=>(f J).bind λ y=>match y with
 | .lst ts=>some (.nx (J.set i (some (.own (.lst ts)))))
 | y=>some (.nx (J.set i (some (.im y))))
@[simp] noncomputable def cZ (f:Ev->Option T):Sm:=fun J=>(f J).map λ _=>.nx J
@[simp] noncomputable def retS (f:Ev->Option T):Sm:=fun J=>(f J).map .rt
@[simp] noncomputable def pP (i:Nat):Sm:=fun J=>match J[i]? with
 | some (some (.own (.lst ts)))=>some (.rt (.lst ts))
 | _=>none
@[simp] noncomputable def zW (c:Ev->Option Bool) (g h:Sm):Sm:=fun J=>(c J).bind λ b=>if b=true then g J else h J
@[simp] noncomputable def jT (i:Nat) (J:Ev):Ev:=match J[i]? with
 | some (some (.own (.lst ts)))=>J.set i (some (.im (.lst ts)))
 | _=>J
@[simp] def qL (i:Nat) (g:Sm):Sm:=fun J=>g (jT i J)
section
variable {R:Rk}{g h:Sm}{t u:yk}{f:Ev->Option T}{te:zx}
def WZ (hg:ym R g t) (hh:ym R h u):ym R (zt g h) (rC t u):=λ S0 Z0 S Z L J o E F e P=>by
 obtain⟨o1,e1,e2⟩:=Af.mp e
 refine hg S0 Z0 S Z L J o1 { E with nx:=u E } F e1 ?_
 cases o1 with
 | nx J1=>exact λ S1 Z1 L1 F1=>hh S0 Z0 S1 Z1 L1 J1 o E F1 e2 P
 | rt y=>cases e2;exact P
 | bk y=>cases e2;exact P
 | ct y=>cases e2;exact P
def WY:ym R zV ip:=λ S0 Z0 S Z L J o E F e P=>by cases e;exact P S Z L F
def Vh:ym R bI b6:=λ S0 Z0 S Z L J o E F e P=>by cases e;exact P S Z L F
def Vj (i:Nat) (hf:vL f te):ym R (zG i f) (vm te (hName i)):=λ S0 Z0 S Z L J o E F e P=>by
 obtain⟨y,e1,rfl⟩:=Au.mp e
 exact hf S Z L J y _ F.er e1 λ d S1 s1 r1=>P S1 Z _ ((F.grow s1).sN i r1)
def Vi (i:Nat) (hf:xt f te):ym R (t6 i f) (vm te (hName i)):=λ S0 Z0 S Z L J o E F e P=>by
 obtain⟨y,e1,e2⟩:=Af.mp e
 refine hf S Z L J y _ F.er e1 λ d S1 s1 r1=>?_
 cases y with
 | lst ts=>
  cases e2
  obtain⟨p,ds,rfl,h1,h2,h3⟩:=r1.2 ts rfl
  exact P S1 _ _ (F.Yz (ts:=.lst ts) (ds:=.lst ds) s1 i h1 h2 h3)
 | _=>cases e2;exact P S1 Z _ ((F.grow s1).sN i r1.1)
def Vg (hf:yy f te):ym R (cZ f) (ir te):=λ S0 Z0 S Z L J o E F e P=>by
 obtain⟨y,e1,rfl⟩:=Au.mp e
 exact hf S Z L J y _ F.er e1 λ d S1 s1 r1=>P S1 Z _ (F.grow s1)
def Vb [Lo R] (hf:xB R f te):ym R (retS f) (ik te):=λ S0 Z0 S Z L J o E F e P=>by
 obtain⟨y,e1,rfl⟩:=Au.mp e
 exact hf S Z L J y _ F.er e1 λ d S1 s1 r1=>P d S1 (F.sx.trans s1) (Lo.lo F.sx F.zz r1)
def jk (i:Nat):ym zK (pP i) (ik (xk i)):=λ S0 Z0 S Z L J o E F e P=>by
 unfold pP at e
 split at e
 ·rename_i ts h
  cases e
  obtain⟨p,ob,h1,h2,h3,h4⟩:=F.er.ow i _ h
  obtain⟨ds,rfl⟩:∃ ds,ob=.lst ds:=by
   cases ob with
   | lst ds=>exact⟨ds,rfl⟩
   | yo _=>exact h3.elim
  replace h3:zk (zQ S Z) ts ds:=h3
  have hn:=F.fr i _ p h h1
  have nz:¬ Z0 p:=λ z=>F.z0 p z hn
  show xk i L S E.rt
  unfold xk;rw[h1]
  refine P _ S F.sx ⟨?_,λ us e=>?_⟩
  ·simp only[Sn]
   exact⟨ds,.inr ⟨p,rfl,by rw[vB nz];exact h2⟩,zk.sx (vV F.zz) ts h3⟩
  ·cases e
   exact⟨p,ds,rfl,hn,h2,zk.sx (vV λ a q=>q.elim (F.zz a) λ q=>q▸h4) ts h3⟩
 ·cases e
def ym.fv (h:ym zK g t):ym vq g t:=λ S0 Z0 S Z L J o E F e P=>by
 refine h S0 Z0 S Z L J o E F e ?_
 cases o with
 | rt y=>exact λ d S s r=>P d S s r.1
 | _=>exact P
def Vd {c:Ev->Option Bool}{tc:yL}(hc:vt c tc) (hg:ym R g t) (hh:ym R h u):ym R (zW c g h) (iq tc t u):=λ S0 Z0 S Z L J o E F e P=>by
 obtain⟨b,e1,e2⟩:=Af.mp e
 refine hc S Z L J b _ F.er e1 λ S1 s1=>?_
 split at e2
 ·rename_i hb;rw[if_pos hb];exact hg S0 Z0 S1 Z L J o E (F.grow s1) e2 P
 ·rename_i hb;rw[if_neg hb];exact hh S0 Z0 S1 Z L J o E (F.grow s1) e2 P
def FR.fz {S0 S:SS}{Z0 Z:Addr->Prop}{L:yc}{J:Ev}(F:FR S0 Z0 S Z L J) (i:Nat):∃ Z',FR S0 Z0 S Z' L (jT i J):=by
 unfold jT
 split
 ·rename_i ts h
  obtain⟨p,ds,h1,_⟩:=F.er.ow i _ h
  exact⟨_,(F.freeze i h h1).1⟩
 ·exact⟨Z,F⟩
def Ve (i:Nat) (hg:ym R g t):ym R (qL i g) t:=λ S0 Z0 S Z L J o E F e P=>by
 obtain⟨Z',F'⟩:=F.fz i
 exact hg S0 Z0 S Z' L _ o E F' e P
def oG (g:T->Ev->Option Ev) (t:yU):Prop:=∀ S0 Z0 S Z L J J' y d Q,FR S0 Z0 S Z L J->Sn (zQ S Z) y d->g y J=some J'->(∀ L',FR S0 Z0 S Z L' J'->Q L' S)->t d L S Q
def mU (g:List T->Ev->Option Ev) (t:wx):Prop:=∀ S0 Z0 S Z L J J' ys ds Q,FR S0 Z0 S Z L J->zk (zQ S Z) ys ds->g ys J=some J'->(∀ L',FR S0 Z0 S Z L' J'->Q L' S)->t ds L S Q
@[simp] noncomputable def zI (i:Nat):T->Ev->Option Ev:=λ y J=>some (J.set i (some (.im y)))
@[simp] noncomputable def pZ:List T->Ev->Option Ev
 | [],J=>some J
 | _::_,_=>none
@[simp] noncomputable def t4 (g:T->Ev->Option Ev) (h:List T->Ev->Option Ev):List T->Ev->Option Ev
 | y::ys,J=>(g y J).bind fun J'=>h ys J'
 | [],_=>none
@[simp] noncomputable def sJ (n:Nat) (g:List T->Ev->Option Ev):T->Ev->Option Ev
 | .tup ys,J=>if ys.length=n then g ys J else none
 | _,_=>none
def Vt (i:Nat):oG (zI i) (hName i):=λ S0 Z0 S Z L J J' y d Q F r e hq=>by cases e;exact hq _ (F.sN i r)
def Vq:mU pZ jI:=λ S0 Z0 S Z L J J' ys ds Q F r e hq=>by
 cases ys with
 | nil=>simp only[zk] at r;subst r;cases e;exact⟨rfl,hq _ F⟩
 | cons _ _=>cases e
def Vr {g:T->Ev->Option Ev}{h:List T->Ev->Option Ev}{t:yU}{u:wx}(hg:oG g t) (hh:mU h u):mU (t4 g h) (jJ t u):=λ S0 Z0 S Z L J J' ys ds Q F r e hq=>by
 cases ys with
 | nil=>cases e
 | cons y ys=>
  simp only[zk] at r
  obtain⟨c,cs,rfl,r1,r2⟩:=r
  obtain⟨J1,e1,e2⟩:=Af.mp e
  exact hg S0 Z0 S Z L J J1 y c _ F r1 e1 fun L1 F1=>hh S0 Z0 S Z L1 J1 J' ys cs Q F1 r2 e2 hq
def Vs {n:Nat}{g:List T->Ev->Option Ev}{t:wx}(hg:mU g t):oG (sJ n g) (m5 n t):=λ S0 Z0 S Z L J J' y d Q F r e hq=>by
 cases y with
 | tup ys=>
  simp only[Sn] at r
  obtain⟨ds,rfl,r⟩:=r
  simp only[sJ] at e
  split at e
  ·rename_i hl
   exact⟨by rw[r.len];exact hl,hg S0 Z0 S Z L J J' ys ds Q F r e hq⟩
  ·cases e
 | _=>cases e
@[simp] noncomputable def lQ (f:Ev->Option T) (g:T->Ev->Option Ev):Sm:=fun J=>(f J).bind λ y=>(g y J).map .nx
def WX {g:T->Ev->Option Ev}{tg:yU}(hf:vL f te) (hg:oG g tg):ym R (lQ f g) (vm te tg):=λ S0 Z0 S Z L J o E F e P=>by
 obtain⟨y,e1,e2⟩:=Af.mp e
 obtain⟨J',e3,rfl⟩:=Au.mp e2
 exact hf S Z L J y _ F.er e1 λ d S1 s1 r1=>hg S0 Z0 S1 Z L J J' y d _ (F.grow s1) r1 e3 fun L' F'=>P S1 Z L' F'
def rP (free:Bool) (f:Ev->Option (List T)) (ti:xY):Prop:=∀ S Z L J ts Q,ER S Z L J->f J=some ts->(∀ I S',Sx S S'->zk (zQ S' Z) ts I.items->(∀ S'',Sx (if free=true then zQ S' Z else S') S''->I.keep S'')->Q I S')->ti L S Q
@[simp] def qD (f:Ev->Option T):Ev->Option (List T):=fun J=>(f J).bind wA
def Vm {f:Ev->Option T}{te:zx}(hf:yy f te):rP false (qD f) (j7 te):=λ S Z L J ts Q hE e hq=>by
 obtain⟨y,e1,e2⟩:=Af.mp e
 refine hf S Z L J y _ hE e1 λ d S1 s1 r1=>?_
 cases y with
 | tup us=>
  cases e2
  obtain⟨ds,rfl,h2⟩:=Vw.tup r1
  exact hq _ S1 s1 h2 λ _ _=>trivial
 | lst us=>
  cases e2
  obtain⟨ds,rfl | ⟨a,rfl,h1⟩,h2⟩:=Vw.lst r1
  ·exact hq _ S1 s1 h2 λ _ _=>trivial
  ·dsimp only;rw[h1]
   exact hq ⟨ds,_⟩ S1 s1 h2 λ S'' s=>s _ _ h1
 | _=>cases e2
def Vn {f:Ev->Option T}{te:zx}(hf:vL f te):rP true (qD f) (j7 te):=λ S Z L J ts Q hE e hq=>by
 obtain⟨y,e1,e2⟩:=Af.mp e
 refine hf S Z L J y _ hE e1 λ d S1 s1 r1=>?_
 cases y with
 | tup us=>
  cases e2
  obtain⟨ds,rfl,h2⟩:=Vw.tup (.inl r1)
  exact hq _ S1 s1 h2 λ _ _=>trivial
 | lst us=>
  cases e2
  have r2:=r1
  unfold vq at r2
  simp only[Sn] at r2
  obtain⟨ds,⟨rfl,_⟩ | ⟨a,rfl,h1⟩,h2⟩:=r2
  ·exact hq _ S1 s1 h2 λ _ _=>trivial
  ·dsimp only;rw[(u0 h1).2]
   exact hq ⟨ds,_⟩ S1 s1 h2 λ S'' s=>s _ _ h1
 | _=>cases e2
noncomputable def rangeT (lo:Int) (n:Nat):List T:=(List.range n).map λ(k:Nat)=>T.int (lo+(k:Int))
def fk {S:SS}(lo:Int) (n:Nat):zk S (rangeT lo n) (vQ lo n):=by
 unfold rangeT vQ
 induction List.range n with
 | nil=>exact .nil
 | cons k l ih=>exact .cons wa ih
noncomputable def inR (j:Int):Bool:=decide (-100000000<=j)&&decide (j<=100000000)
def mn {j:Int}:inR j=true↔-100000000<=j/\j<=100000000:=by simp[inR]
def mq {j:Int}(h:inR j=true):-(2 ^ 62)<=j/\j<2 ^ 62:=by have:=mn.mp h;lia
noncomputable def wN:List T->Option (List T)
 | [.int j]=>if inR j=true then some (rangeT 0 j.toNat) else none
 | _=>none
noncomputable def nN:List T->Option (List T)
 | [.int i,.int j]=>if inR i=true/\inR j=true then some (rangeT i (j-i).toNat) else none
 | _=>none
@[simp] noncomputable def wR (F:List T->Option (List T)) (g:Ev->Option (List T)):Ev->Option (List T):=fun J=>(g J).bind F
def Vp {b:Bool}{g:Ev->Option (List T)}{tA:yb}(h:rQ g tA):rP b (wR wN g) (j9 tA):=λ S Z L J ts Q hE e hq=>by
 obtain⟨ys,e1,e2⟩:=Af.mp e
 refine h S Z L J ys _ hE e1 λ ds S1 s1 r1=>?_
 unfold wN at e2
 split at e2
 ·split at e2
  ·rename_i hc
   cases e2
   obtain⟨d,rfl,h1⟩:=um r1
   cases h1.int
   exact⟨mq hc,hq _ S1 s1 (fk _ _) λ _ _=>trivial⟩
  ·cases e2
 ·cases e2
def Vo {b:Bool}{g:Ev->Option (List T)}{tA:yb}(h:rQ g tA):rP b (wR nN g) (j8 tA):=λ S Z L J ts Q hE e hq=>by
 obtain⟨ys,e1,e2⟩:=Af.mp e
 refine h S Z L J ys _ hE e1 λ ds S1 s1 r1=>?_
 unfold nN at e2
 split at e2
 ·split at e2
  ·rename_i hc
   cases e2
   obtain⟨d,d',rfl,h1,h2⟩:=lL r1
   cases h1.int;cases h2.int
   exact⟨⟨(mq hc.1).1,(mq hc.1).2,mq hc.2⟩,hq _ S1 s1 (fk _ _) λ _ _=>trivial⟩
  ·cases e2
 ·cases e2
noncomputable def yj (is:List Nat) (g:T->Ev->Option Ev) (b:Sm):List T->Ev->Option Out
 | [],J=>some (.nx (xD is J))
 | y::ys,J=>(g y (xD is J)).bind fun J1=>(b J1).bind λ o=>match o with
  | .nx J2=>yj is g b ys J2
  | .ct J2=>yj is g b ys J2
  | .bk J2=>some (.nx (xD is J2))
  | .rt t=>some (.rt t)
@[simp] def vW (is:List Nat) (f:Ev->Option (List T)) (g:T->Ev->Option Ev) (b:Sm):Sm:=fun J=>(f J).bind λ ts=>yj is g b ts J
def Vf {is:List Nat}{fi:Ev->Option (List T)}{ti:xY}{g:T->Ev->Option Ev}{tg:yU}{b:Sm}{tb:yk} [Lo R] (hi:rP true fi ti) (hg:oG g tg) (hb:ym R b tb):ym R (vW is fi g b) (rE ti tg tb):=λ S0 Z0 S Z L J o E F e P=>by
 obtain⟨ts,e1,e2⟩:=Af.mp e
 refine hi S Z L J ts _ F.er e1 λ I S1 s1 r1 hk=>?_
 rw[if_pos rfl] at hk
 obtain⟨SB,b1,FB,b2⟩:=(F.grow s1).rebase
 have lo:∀ S' d y,R SB S' Z0 y d->R S0 S' Z0 y d:=λ S' d y r=>Lo.lo b1 (λ _ z=>z) r
 have zz:=F.zz
 refine⟨λ i L' S'=>∃ Z' J',FR SB Z0 S' Z' L' J'/\yj is g b (ts.drop i) J'=some o,⟨Z,J,FB,e2⟩,λ i L' S' ⟨Z',J',F',_⟩=>hk S' (b2.trans F'.sx),λ i d L' S' hd ⟨Z',J',F',e'⟩=>?_,fun L' S' ⟨Z',J',F',e'⟩=>?_⟩
 ·obtain⟨y,hy,r2⟩:=r1.jR hd
  have Ak:=(Az.mp hy).1
  have Cq:ts.drop i=y::ts.drop (i+1):=by
   rw[List.drop_eq_getElem_cons Ak,(Az.mp hy).2]
  rw[Cq] at e'
  unfold yj at e'
  obtain⟨J1,g1,e'⟩:=Af.mp e'
  obtain⟨o1,g2,e'⟩:=Af.mp e'
  refine hg SB Z0 S' Z' L' _ J1 y d _ (F'.xD is) (Sn.sx (F'.Y2 b2 zz) y r2) g1 fun L2 F2=>?_
  refine hb SB Z0 S' Z' L2 J1 o1 _ F2 g2 ?_
  cases o1 with
  | nx J2=>exact λ S3 Z3 L3 F3=>⟨Z3,J2,F3,e'⟩
  | ct J2=>exact λ S3 Z3 L3 F3=>⟨Z3,J2,F3,e'⟩
  | bk J2=>cases e';exact λ S3 Z3 L3 F3=>P S3 Z3 L3 ((F3.xD is).back b1 F.z0)
  | rt y=>cases e';exact λ d S3 s3 r3=>P d S3 (b1.trans s3) (lo _ _ _ r3)
 ·rw[show I.items.length=ts.length from r1.len,List.drop_length] at e'
  unfold yj at e'
  cases e'
  exact P S' Z' L' ((F'.xD is).back b1 F.z0)
end
@[simp] noncomputable def ug (i:Nat) (f:Ev->Option T):Sm:=fun J=>match J[i]? with
 | some (some (.own (.lst ts)))=>(f J).bind λ y=>if ts.length<sizeLine then some (.nx (J.set i (some (.own (.lst (ts++[y])))))) else none
 | _=>none
section
variable {R:Rk}{f:Ev->Option T}{te:zx}
def Vk (i:Nat) (hf:vL f te):ym R (ug i f) (ir (sr (xk i) te)):=λ S0 Z0 S Z L J o E F e P=>by
 unfold ug at e
 split at e
 ·rename_i ts h
  obtain⟨y,e1,e2⟩:=Af.mp e
  split at e2
  ·rename_i hl
   cases e2
   obtain⟨p,ob,h1,h2,h3,h4⟩:=F.er.ow i _ h
   obtain⟨ds,rfl⟩:∃ ds,ob=.lst ds:=by
    cases ob with
    | lst ds=>exact⟨ds,rfl⟩
    | yo _=>exact h3.elim
   replace h3:zk (zQ S Z) ts ds:=h3
   show sr (xk i) te L S _
   unfold sr xk
   rw[h1]
   refine⟨⟨ds,h2⟩,hf S Z L J y _ F.er e1 λ d S1 s1 r1=>?_⟩
   dsimp only
   rw[s1 _ _ h2]
   have F1:=F.grow s1
   refine⟨by rw[h3.len];exact hl,P _ Z L (F1.mut (us:=.lst (ts++[y])) (es:=.lst (ds++[d])) i h h1 ((zk.sx (vU s1) ts h3).append (.cons r1 .nil)))⟩
  ·cases e2
 ·cases e
end
def tw (pick:List (Option Nat)) (ti:xY) (g:yU) (tc:yL) (te:zx):zx:=fun L S Q=>ti L S λ I S1=>I.items.length<=sizeLine/\(∀ S,Sx S1 S->I.keep S)/\∀ p,S1 p=none->∃ W:Nat->SS->List D->Prop,W 0 S1 []/\
 (∀ i S S' acc,(∀ b o,b≠p->S b=some o->S' b=some o)->W i S acc->W i S' acc)/\
 (∀ i d S acc,I.items[i]?=some d->Sx S1 S->S p=some (.lst acc)->W i S acc->g d (v7 pick L) S fun L2 S2=>rK (v7 pick L) L2/\tc L2 S2 λ b S3=>if b=true then te L2 S3 λ y S4=>Sx S S4/\W (i+1) S4 (acc++[y]) else Sx S S3/\W (i+1) S3 acc)/\
 ∀ S2 acc,Sx S1 S2->S2 p=some (.lst acc)->W I.items.length S2 acc->Q (.ref p) S2
@[simp] noncomputable def pS (pick:List (Option Nat)) (J:Ev):Ev:=pick.map λ o=>o.bind λ i=>(J[i]?).join
noncomputable def uC (h:T->Option (Option T)):List T->Option (List T)
 | []=>some []
 | y::ys=>(h y).bind λ o=>(uC h ys).map λ zs=>match o with
  | some z=>z::zs
  | none=>zs
@[simp] def qB (pick:List (Option Nat)) (g:T->Ev->Option Ev) (c:Ev->Option Bool) (f:Ev->Option T) (J:Ev) (y:T):Option (Option T):=
 (g y (pS pick J)).bind fun J2=>(c J2).bind λ b=>if b=true then (f J2).map some else some none
def vg (pick:List (Option Nat)) (it:Ev->Option (List T)) (g:T->Ev->Option Ev) (c:Ev->Option Bool) (f:Ev->Option T):Ev->Option T:=fun J=>(it J).bind λ ts=>if ts.length<=sizeLine then (uC (qB pick g c f J) ts).map .lst else none
@[simp] noncomputable def i3:Ev->Option Bool:=λ _=>some true
def V9:vt i3 cX:=λ S Z L J y Q hE e hq=>by cases e;exact hq S (.refl S)
def mW (pick:List (Option Nat)) (g:T->Ev->Option Ev) (t:yU):Prop:=∀ B S Z L J J' y d Q,(∀ i:Nat,pick[i]?=some none->B[i]?=some none)->rK B L->L.length=J.length->ER S Z L J->Sn (zQ S Z) y d->g y J=some J'->
 (∀ L',ER S Z L' J'->rK B L'->L'.length=J'.length->Q L' S)->t d L S Q
def mV (pick:List (Option Nat)) (g:List T->Ev->Option Ev) (t:wx):Prop:=∀ B S Z L J J' y d Q,(∀ i:Nat,pick[i]?=some none->B[i]?=some none)->rK B L->L.length=J.length->ER S Z L J->zk (zQ S Z) y d->g y J=some J'->
 (∀ L',ER S Z L' J'->rK B L'->L'.length=J'.length->Q L' S)->t d L S Q
def ER.sN {S:SS}{Z:Addr->Prop}{L:yc}{J:Ev}{y:T}{d:D}(h:ER S Z L J) (hl:L.length=J.length) (i:Nat) (r:Sn (zQ S Z) y d):ER S Z (L.set i (some d)) (J.set i (some (.im y))):=by
 refine⟨h.zd,λ j t e=>?_,λ j ts e=>?_⟩
 ·rcases yt e with ⟨rfl,hl',e⟩ | ⟨n,e⟩
  ·cases e;exact⟨d,qJ (by rw[hl];exact hl'),r⟩
  ·rw[xy n];exact h.im j t e
 ·rcases yt e with ⟨rfl,hl',e⟩ | ⟨n,e⟩
  ·cases e
  ·rw[xy n];exact h.ow j ts e
variable {pick:List (Option Nat)}
def Vy (i:Nat) (hi:pick[i]?=some none:=by rfl):mW pick (zI i) (hName i):=λ B S Z L J J' y d Q hB hs hl hE r e hq=>by
 cases e
 refine hq _ (hE.sN hl i r) ⟨by rw[Ce];exact hs.1,λ j c q=>?_⟩ (by simp[hl])
 by_cases hj:i=j
 ·subst hj;rw[hB i hi] at q;cases q
 ·rw[xy hj];exact hs.2 j c q
def Vu:mV pick pZ jI:=λ B S Z L J J' y d Q hB hs hl hE r e hq=>by
 cases y with
 | nil=>simp only[zk] at r;subst r;cases e;exact⟨rfl,hq _ hE hs hl⟩
 | cons _ _=>cases e
def Vv {g:T->Ev->Option Ev}{h:List T->Ev->Option Ev}{t:yU}{u:wx}(hg:mW pick g t) (hh:mV pick h u):mV pick (t4 g h) (jJ t u):=λ B S Z L J J' y d Q hB hs hl hE r e hq=>by
 cases y with
 | nil=>cases e
 | cons y ys=>
  simp only[zk] at r
  obtain⟨c,cs,rfl,r1,r2⟩:=r
  obtain⟨J1,e1,e2⟩:=Af.mp e
  exact hg B S Z L J J1 y c _ hB hs hl hE r1 e1 fun L1 E1 s1 l1=>hh B S Z L1 J1 J' ys cs Q hB s1 l1 E1 r2 e2 hq
def Vx {n:Nat}{g:List T->Ev->Option Ev}{t:wx}(hg:mV pick g t):mW pick (sJ n g) (m5 n t):=λ B S Z L J J' y d Q hB hs hl hE r e hq=>by
 cases y with
 | tup ys=>
  simp only[Sn] at r
  obtain⟨ds,rfl,r⟩:=r
  simp only[sJ] at e
  split at e
  ·rename_i hn
   exact⟨by rw[r.len];exact hn,hg B S Z L J J' ys ds Q hB hs hl hE r e hq⟩
  ·cases e
 | _=>cases e
def eC {J:Ev}{i:Nat}{w:W}(h:(pS pick J)[i]?=some (some w)):∃ j:Nat,pick[i]?=some (some j)/\J[j]?=some (some w):=by
 unfold pS at h
 rw[AA] at h
 cases q:pick[i]? with
 | none=>rw[q] at h;cases h
 | some o=>
  rw[q] at h
  cases o with
  | none=>simp at h
  | some j=>
   simp only[Option.map_some,B4,Option.some.injEq] at h
   refine⟨j,rfl,?_⟩
   cases q2:J[j]? with
   | none=>rw[q2] at h;cases h
   | some o2=>rw[q2] at h;simp only[Option.join_some] at h;rw[h]
def eE {L:yc}{i j:Nat}{d:D}(h:pick[i]?=some (some j)) (h':L[j]?=some (some d)):(v7 pick L)[i]?=some (some d):=by
 unfold v7
 rw[AA,h]
 simp[h']
def ER.Xz {S:SS}{Z:Addr->Prop}{L:yc}{J:Ev}(h:ER S Z L J):ER S Z (v7 pick L) (pS pick J):=by
 refine⟨h.zd,λ i t e=>?_,λ i ts e=>?_⟩
 ·obtain⟨j,h1,h2⟩:=eC e
  obtain⟨d,h3,h4⟩:=h.im j t h2
  exact⟨d,eE h1 h3,h4⟩
 ·obtain⟨j,h1,h2⟩:=eC e
  obtain⟨p,ds,h3,h4⟩:=h.ow j ts h2
  exact⟨p,ds,eE h1 h3,h4⟩
def ER.hide {S S':SS}{Z:Addr->Prop}{L:yc}{J:Ev}{p:Addr}(h:ER S Z L J) (s:Sx S S') (hp:S p=none) (hp':S' p≠none):ER S' (λ a=>Z a\/a=p) L J:=by
 refine⟨λ a z q=>?_,λ i t e=>?_,λ i ts e=>?_⟩
 ·rcases z with z | rfl
  ·exact h.zd a z (s.none q)
  ·exact hp' q
 ·obtain⟨d,h1,h2⟩:=h.im i t e
  exact⟨d,h1,Sn.sx (qI s hp) t h2⟩
 ·obtain⟨q,ds,h1,h2,h3,h4⟩:=h.ow i ts e
  exact⟨q,ds,h1,s _ _ h2,uG.sx (qI s hp) h3,.inl h4⟩
def VS {it:Ev->Option (List T)}{ti:xY}{g:T->Ev->Option Ev}{tg:yU}{c:Ev->Option Bool}{tc:yL}{f:Ev->Option T}{te:zx}{b:Bool}(hi:rP b it ti) (hg:mW pick g tg) (hc:vt c tc) (hf:vL f te):
  xt (vg pick it g c f) (tw pick ti tg tc te):=λ S Z L J y Q hE e hq=>by
 obtain⟨ts,e1,e2⟩:=Af.mp e
 split at e2
 case isFalse=>cases e2
 rename_i hlen
 obtain⟨zs,e3,rfl⟩:=Au.mp e2
 refine hi S Z L J ts _ hE e1 λ I S1 s1 r1 hk=>⟨by rw[r1.len];exact hlen,λ S' s'=>hk S' ?_,λ p hp=>?_⟩
 ·cases b
  ·exact s'
  ·exact (mx _ _).trans s'
 have E1:=hE.grow s1
 have nz:¬ Z p:=λ z=>E1.zd p z hp
 refine⟨λ i S' acc=>∃ us ws,zk (zQ S' λ a=>Z a\/a=p) us acc/\uC (qB pick g c f J) (ts.drop i)=some ws/\zs=us++ws,⟨[],zs,.nil,e3,rfl⟩,λ i S' S'' acc hh ⟨us,ws,h1,h2⟩=>⟨us,ws,zk.sx (λ a o q=>?_) us h1,h2⟩,λ i d S2 acc hd s2 AG ⟨us,ws,h1,h2,h3⟩=>?_,λ S2 acc s2 AG ⟨us,ws,h1,h2,h3⟩=>?_⟩
 ·obtain⟨q1,q2⟩:=u0 q
  rw[vB q1]
  exact hh a o (λ z=>q1 (.inr z)) q2
 ·obtain⟨x,hx,rx⟩:=r1.jR hd
  have Ak:=(Az.mp hx).1
  have Cq:ts.drop i=x::ts.drop (i+1):=by rw[List.drop_eq_getElem_cons Ak,(Az.mp hx).2]
  rw[Cq] at h2
  unfold uC at h2
  obtain⟨o,o1,h2⟩:=Af.mp h2
  obtain⟨ws',o2,rfl⟩:=Au.mp h2
  have E2:=(E1.hide s2 hp (by rw[AG];nofun)).Xz (pick:=pick)
  unfold qB at o1
  obtain⟨J2,g1,o1⟩:=Af.mp o1
  obtain⟨bb,g2,o1⟩:=Af.mp o1
  refine hg (v7 pick L) S2 _ _ _ J2 x d _ (λ j hj=>?_) ⟨rfl,λ _ _ q=>q⟩ (by unfold v7 pS;simp) E2 (Sn.sx (qI s2 hp) x rx) g1 fun L2 E3 l3 _=>⟨l3,?_⟩
  ·unfold v7;rw[AA,hj];rfl
  refine hc S2 _ L2 J2 bb _ E3 g2 λ S3 s3=>?_
  split at o1
  ·rename_i hb
   rw[if_pos hb]
   obtain⟨z,g3,rfl⟩:=Au.mp o1
   refine hf S3 _ L2 J2 z _ (E3.grow s3) g3 λ dz S4 s4 r4=>⟨s3.trans s4,us++[z],ws',?_,o2,by rw[h3];simp⟩
   exact (zk.sx (vU (s3.trans s4)) us h1).append (.cons r4 .nil)
  ·rename_i hb
   rw[if_neg hb]
   cases o1
   exact⟨s3,us,ws',zk.sx (vU s3) us h1,o2,h3⟩
 ·rw[show I.items.length=ts.length from r1.len,List.drop_length] at h2
  cases h2
  rw[BC] at h3
  subst h3
  refine hq _ S2 (s1.trans s2) ⟨?_,λ vs e=>?_⟩
  ·simp only[Sn]
   exact⟨acc,.inr ⟨p,rfl,by rw[vB nz];exact AG⟩,zk.sx (vV λ a z=>.inl z) zs h1⟩
  ·cases e
   exact⟨p,acc,rfl,s1.none hp,AG,h1⟩
class Sr (R:Rk):Prop extends Lo R where
 sn:∀ {S S':SS}{Z:Addr->Prop}{y:T}{d:D},R S S' Z y d->Sn (zQ S' Z) y d
instance:Sr vq:=⟨λ h=>h⟩
instance:Sr zK:=⟨λ h=>h.1⟩
def zO (R:Rk) (F:List T->Option T):xE:=λ ds S Q=>∃ Z ys y,(∀ a,Z a->S a≠none)/\zk (zQ S Z) ys ds/\F ys=some y/\∀ d S',Sx S S'->R S S' Z y d->Q d S'
def zO.mo {R:Rk}{F:List T->Option T}:qX (zO R F):=λ _ _ _ _ hq ⟨Z,ys,y,h1,h2,h3,h4⟩=>⟨Z,ys,y,h1,h2,h3,λ d S' s r=>hq _ _ (h4 d S' s r)⟩
def jl {R:Rk} [Lo R] {F:List T->Option T}{g:Ev->Option (List T)}{u:yb}(h:sA g u):xB R (zA F g) (mF (zO R F) u):=λ S Z L J y Q hE e hq=>by
 obtain⟨xs,e1,e2⟩:=Af.mp e
 refine h S Z L J xs _ hE e1 λ ds S1 s1 r1=>?_
 exact⟨Z,xs,y,(hE.grow s1).zd,r1,e2,λ d S' s r=>hq d S' (s1.trans s) (Cl.cl s1 r)⟩
@[simp] noncomputable def uT (N:List Str) (ys:List T):Ev:=ys.map (λ y=>some (.im y))++List.replicate (N.length-ys.length) none
@[simp] noncomputable def uX:Option Out->Option T
 | some (.rt y)=>some y
 | some (.nx _)=>some .zg
 | _=>none
@[simp] def ya (N:List Str) (n:Nat) (g:Sm):List T->Option T:=λ ys=>if ys.length=n then uX (g (uT N ys)) else none
theorem zO.len {R:Rk}{N:List Str}{n:Nat}{g:Sm}{ds:List D}{S:SS}{Q:DK}(hs:zO R (ya N n g) ds S Q):ds.length=n:=by
 obtain⟨Z,ys,y,hz,r,e,hq⟩:=hs
 unfold ya at e
 split at e
 ·rename_i h;rw[r.len];exact h
 ·cases e
def Yh {N:List Str}{ds:List D}{i:Nat}{d:D}(h:ds[i]?=some d):(vO N ds)[i]?=some (some d):=by
 have hi:=(Az.mp h).1
 unfold vO
 rw[B1 (by simpa using hi),AA,h];rfl
def nq {N:List Str}{ys:List T}{i:Nat}{w:W}(h:(uT N ys)[i]?=some (some w)):∃ y,ys[i]?=some y/\w=.im y:=by
 unfold uT at h
 have hi:i<ys.length:=by
  rcases Bb i ys.length with q | q
  ·exact q
  ·rw[CC (by simpa using q),Dw] at h
   split at h <;> cases h
 rw[B1 (by simpa using hi),AA] at h
 cases q:ys[i]? with
 | none=>rw[q] at h;cases h
 | some y=>rw[q] at h;cases h;exact⟨y,rfl,rfl⟩
def bJ {R:Rk} [Lo R] {N:List Str}{n:Nat}{g:Sm}{t:yk}(h:ym R g t) {ds:List D}{S:SS}{Q:DK}(hs:zO R (ya N n g) ds S Q):t { nx:=λ _ S'=>Q .zg S',rt:=Q } (vO N ds) S:=by
 obtain⟨Z,ys,y,hz,r,e,hq⟩:=hs
 unfold ya at e
 split at e
 case isFalse=>cases e
 obtain⟨o,e1,e2⟩:∃ o,g (uT N ys)=some o/\uX (some o)=some y:=by
  cases q:g (uT N ys) with
  | none=>rw[q] at e;cases e
  | some o=>exact⟨o,rfl,by rw[<- q];exact e⟩
 refine h S Z S Z _ _ o _ ⟨⟨hz,λ i t e=>?_,λ i ts e=>?_⟩,?_,.refl S,hz,λ _ z=>z,λ _ z=>.inl z,λ i ts p e _=>?_,λ i j ts us p _ e _ _ _=>?_⟩ e1 ?_
 ·obtain⟨y',h1,h2⟩:=nq e
  cases h2
  obtain⟨d,h3,h4⟩:=r.jP h1
  exact⟨d,Yh h3,h4⟩
 ·obtain⟨y',h1,h2⟩:=nq e
  cases h2
 ·unfold vO uT
  have:=r.len
  simp[this]
 ·obtain⟨y',h1,h2⟩:=nq e
  cases h2
 ·obtain⟨y',h1,h2⟩:=nq e
  cases h2
 ·cases o with
  | rt y'=>cases e2;exact λ d S' s r=>hq d S' s r
  | nx J'=>
   cases e2
   exact λ S' Z' L' F=>hq .zg S' F.sx (Cl.of (λ _=>nofun) fq)
  | _=>cases e2
noncomputable def Zw (Ae:List (Key×T)) (k:Key):Option T:=(Ae.find? λ kv=>decide (kv.1=k)).map (·.2)
@[simp] def zam (i:Nat) (f:Ev->Option T):Ev->Option T:=fun J=>(f J).bind λ y=>match J[i]?,y with
 | some (some (.own (.yo Ae))),.int k=>Zw Ae (.inl k)
 | _,_=>none
@[simp] noncomputable def jt (f:Ev->Option T):Ev->Option T:=fun J=>(f J).bind λ x=>match x with
 | .int i=>some (.int (-i))
 | _=>none
def bu (ta:zx):zx:=fun L S Q=>ta L S λ x S1=>match x with
 | .int i=>Q (.int (-i)) S1
 | _=>False
def VO {f:Ev->Option T}{te:zx}(h:yy f te):xt (jt f) (bu te):=λ S Z L J y Q hE e hq=>by
 obtain⟨x,e1,e2⟩:=Af.mp e
 refine h S Z L J x _ hE e1 λ d S1 s1 r1=>?_
 split at e2
 ·cases Vw.int r1
  cases e2
  exact hq _ S1 s1 (Cl.of (λ _=>nofun) wa)
 ·cases e2
def Sj:uN zK tY cQ:=Ss
noncomputable def vA:List T->Option (List Int)
 | []=>some []
 | .int i::ts=>(vA ts).map (i::·)
 | _::_=>none
noncomputable def tP:List T->Option (List (List Int))
 | []=>some []
 | .tup r::ts=>(vA r).bind λ x=>(tP ts).map (x::·)
 | _::_=>none
noncomputable def zw (r:List Int):T:=.tup (r.map T.int)
theorem om:∀ {ts:List T}{is:List Int},vA ts=some is->ts=is.map T.int
 | [],is,h=>by cases h;rfl
 | .int b::ts,is,h=>by
  unfold vA at h
  obtain⟨cs,h1,rfl⟩:=Au.mp h
  rw[Ax,<- om h1]
 | .zg::ts,bs,h=>by cases h
 | .bl _::ts,bs,h=>by cases h
 | .str _::ts,bs,h=>by cases h
 | .tup _::ts,bs,h=>by cases h
 | .lst _::ts,bs,h=>by cases h
theorem fN:∀ {ts:List T}{rs:List (List Int)},tP ts=some rs->ts=rs.map zw
 | [],is,h=>by cases h;rfl
 | .tup r::ts,is,h=>by
  unfold tP at h
  obtain⟨x,h1,h⟩:=Af.mp h
  obtain⟨cs,h2,rfl⟩:=Au.mp h
  rw[Ax,<- fN h2,om h1];rfl
 | .zg::ts,bs,h=>by cases h
 | .bl _::ts,bs,h=>by cases h
 | .str _::ts,bs,h=>by cases h
 | .int _::ts,bs,h=>by cases h
 | .lst _::ts,bs,h=>by cases h
def cx (is:List Int):vA (is.map T.int)=some is:=by
 induction is with
 | nil=>rfl
 | cons b bs ih=>rw[Ax];unfold vA;rw[ih];rfl
def YO (rs:List (List Int)):tP (rs.map zw)=some rs:=by
 induction rs with
 | nil=>rfl
 | cons b bs ih=>
  show tP (.tup (b.map T.int)::bs.map zw)=_
  unfold tP;rw[cx,ih];rfl
theorem uU {S:SS}:∀ {is:List Int}{ds:List D},zk S (is.map T.int) ds↔ds=is.map D.int
 | [],ds=>by simp only[Bc,zk]
 | i::is,ds=>by
  rw[Ax]
  simp only[zk,Sn]
  constructor
  ·rintro⟨c,cs,rfl,rfl,h⟩
   rw[uU.mp h];rfl
  ·rintro rfl
   exact⟨.int i,_,rfl,rfl,uU.mpr rfl⟩
theorem nC {S:SS}:∀ {rs:List (List Int)}{ds:List D},zk S (rs.map zw) ds↔ds=rs.map wj
 | [],ds=>by simp only[Bc,zk]
 | r::rs,ds=>by
  rw[Ax]
  simp only[zk,zw,Sn]
  constructor
  ·rintro⟨c,cs,rfl,⟨es,rfl,h1⟩,h⟩
   rw[nC.mp h,uU.mp h1];rfl
  ·rintro rfl
   exact⟨wj r,_,rfl,⟨_,rfl,uU.mpr rfl⟩,nC.mpr rfl⟩
@[simp] noncomputable def nh:T->Option String
 | .zg=>some "NoneType"
 | .bl _=>some "bool"
 | .int _=>some "int"
 | .str _=>some "str"
 | .tup _=>some "tuple"
 | .lst _=>some "list"
 | .yP=>some "dict"
 | .err _ _ _=>none
@[simp] def instS (ty:String) (f:Ev->Option T):Ev->Option T:=fun J=>(f J).bind λ x=>(nh x).map λ t=>.bl (yJ t ty)
theorem Vw.err {S:SS}{Z:Addr->Prop}{c f:Str}{t:T}{d:D}(h:Vw S Z (.err c f t) d):∃ x,d=.err c f x/\Sn (zQ S Z) t x:=by
 rcases h with h | ⟨_,_,_,h,_⟩
 ·simpa only [Sn] using h
 ·cases h
def Uq {ty:String}{f:Ev->Option T}{te:zx}(hf:yy f te):xt (instS ty f) (rD ty te):=λ S Z L J y Q hE e hq=>by
 obtain⟨x,e1,e2⟩:=Af.mp e
 obtain⟨n,e3,rfl⟩:=Au.mp e2
 refine hf S Z L J x _ hE e1 λ d S1 s1 r1=>?_
 have key:tL d S1=some n:=by
  rw[<- e3]
  cases x with
  | zg=>cases Vw.zg r1;rfl
  | bl _=>cases Vw.bl r1;rfl
  | int _=>cases Vw.int r1;rfl
  | str _=>cases Vw.str r1;rfl
  | tup _=>obtain⟨ds,rfl,_⟩:=Vw.tup r1;rfl
  | lst _=>
   obtain⟨ds,rfl | ⟨a,rfl,h1⟩,h2⟩:=Vw.lst r1
   ·rfl
   ·unfold tL;dsimp only;rw[h1];rfl
  | yP=>
   obtain⟨a,Ae,⟨rfl,_⟩,h1⟩:=Vw.yP r1
   unfold tL;dsimp only;rw[h1];rfl
  | err _ _ _=>cases e3
 rw[key]
 exact hq _ S1 s1 (Cl.of (λ _=>nofun) wc)
@[simp] noncomputable def isNone:T->Bool
 | .zg=>true
 | _=>false
noncomputable def qE:D->Bool
 | .zg=>true
 | _=>false
noncomputable def zp (p:Int×Int):T:=.tup [.int p.1,.int p.2]
noncomputable def yH (ns:List Int):T:=.lst (ns.map .int)
@[simp] theorem zaa:sizeLine=16777216:=rfl
def x8 {α:Type}{xs:List α}{k:Nat}{x:α}(h:xs[k]?=some x):L2.zD xs (k:Int)=some x:=by
 unfold L2.zD L2.xV
 have hk:=(Az.mp h).1
 rw[if_pos (by lia),if_pos (by lia)]
 simpa using h
@[simp] theorem R_ {α:Type}{xs:List α}{x:α}:L2.zD (xs++[x]) (-1)=some x:=by
 unfold L2.zD L2.xV
 rw[if_neg (by lia),if_pos (by simp;lia)]
 have:(-1+((xs++[x]).length:Int)).toNat=xs.length:=by simp;lia
 rw[B4,this]
 simp
@[simp] theorem zaq {α:Type}{x:α}{xs:List α}:L2.zD (x::xs) 0=some x:=x8 (k:=0) rfl
@[simp] theorem zap {α:Type}{x y:α}{xs:List α}:L2.zD (x::y::xs) 1=some y:=x8 (k:=1) rfl
@[simp] theorem zao {α:Type}{x y z:α}{xs:List α}:L2.zD (x::y::z::xs) 2=some z:=x8 (k:=2) rfl
@[simp] theorem zan {α:Type}{x y z w:α}{xs:List α}:L2.zD (x::y::z::w::xs) 3=some w:=x8 (k:=3) rfl
theorem iw {α:Type}(enc:α->T) (g:α->Option T) (h:T->Option (Option T)):∀ (xs:List α),(∀ x∈xs,h (enc x)=some (g x))->uC h (xs.map enc)=some (xs.filterMap g)
 | [],_=>rfl
 | x::xs,hh=>by
  rw[Ax]
  unfold uC
  rw[hh x Ap,iw enc g h xs λ y hy=>hh y (Av _ hy)]
  cases q:g x <;> simp[q]
def Ry {α:Type}(enc:α->T) (g:α->T) (h:T->Option (Option T)) (xs:List α) (hh:∀ x∈xs,h (enc x)=some (some (g x))):uC h (xs.map enc)=some (xs.map g):=by
 rw[iw enc (λ x=>some (g x)) h xs hh]
 simp
def dG {α:Type}(enc:α->T) (h:α->T) {pick:List (Option Nat)}{it:Ev->Option (List T)}{g:T->Ev->Option Ev}{c:Ev->Option Bool}{f:Ev->Option T}{J:Ev}(xs:List α) (hi:it J=some (xs.map enc)) (hl:xs.length<=16777216)
  (hh:∀ x∈xs,qB pick g c f J (enc x)=some (some (h x))):vg pick it g c f J=some (.lst (xs.map h)):=by
 unfold vg
 rw[hi,B4,if_pos (by rw[Aq];exact hl),Ry enc h _ xs hh];rfl
def dH {α:Type}(enc:α->T) (h:α->Option T) {pick:List (Option Nat)}{it:Ev->Option (List T)}{g:T->Ev->Option Ev}{c:Ev->Option Bool}{f:Ev->Option T}{J:Ev}(xs:List α) (hi:it J=some (xs.map enc)) (hl:xs.length<=16777216)
  (hh:∀ x∈xs,qB pick g c f J (enc x)=some (h x)):vg pick it g c f J=some (.lst (xs.filterMap h)):=by
 unfold vg
 rw[hi,B4,if_pos (by rw[Aq];exact hl),iw enc h _ xs hh];rfl
section
variable {α:Type}{is:List Nat}{g:T->Ev->Option Ev}{b:Sm}
noncomputable def turn (g:T->Ev->Option Ev) (b:Sm) (y:T) (J:Ev):Option Out:=(g y J).bind b
theorem uz (y:T) (ys:List T) (J:Ev):yj is g b (y::ys) J=(turn g b y (xD is J)).bind λ o=>match o with
  | .nx J2=>yj is g b ys J2
  | .ct J2=>yj is g b ys J2
  | .bk J2=>some (.nx (xD is J2))
  | .rt t=>some (.rt t):=by
 unfold turn
 rw[yj]
 cases g y (xD is J) <;> rfl
theorem d9 (enc:α->T) (I:List α->Ev->Prop):∀ (xs:List α) (pre:List α) (J:Ev),I pre (xD is J)->
  (∀ p x q,pre++xs=p++x::q->∀ J,I p J->∃ J',turn g b (enc x) J=some (.nx J')/\I (p++[x]) (xD is J'))->∃ J',yj is g b (xs.map enc) J=some (.nx J')/\I (pre++xs) J'
 | [],pre,J,h,_=>⟨xD is J,by rw[Bc,yj],by simpa using h⟩
 | x::xs,pre,J,h,hs=>by
  obtain⟨J',h1,h2⟩:=hs pre x xs rfl _ h
  rw[Ax,uz,h1]
  have ih:=d9 enc I xs (pre++[x]) J' h2 λ p y q e=>hs p y q (by rw[<- e];simp)
  simpa using ih
def jy (enc:α->T) (I:List α->Ev->Prop) (xs:List α) (J:Ev) (h:I [] (xD is J))
  (hs:∀ p x q,xs=p++x::q->∀ J,I p J->∃ J',turn g b (enc x) J=some (.nx J')/\I (p++[x]) (xD is J')):∃ J',yj is g b (xs.map enc) J=some (.nx J')/\I xs J':=d9 enc I xs [] J h hs
end
def wM (n:Nat) (h:n<=100000):wN [.int (n:Int)]=some ((List.range n).map λ(k:Nat)=>T.int (0+(k:Int))):=by
 show (if inR (n:Int)=true then some (rangeT 0 (n:Int).toNat) else none)=_
 rw[if_pos (mn.mpr ⟨by lia,by lia⟩)]
 rfl
def YS (a n:Nat) (h:a<=100000) (h':n<=100000):nN [.int (a:Int),.int (n:Int)]=some ((List.range (n-a)).map λ(k:Nat)=>T.int ((a:Int)+(k:Int))):=by
 show (if inR (a:Int)=true/\inR (n:Int)=true then some (rangeT a ((n:Int)-a).toNat) else none)=_
 rw[if_pos ⟨mn.mpr ⟨by lia,by lia⟩,mn.mpr ⟨by lia,by lia⟩⟩,show ((n:Int)-a).toNat=n-a by lia]
 rfl
end L5
namespace L2
open PySem PySem.Spec PyProof.Rows
section
variable {X:Cx}
def ei (K:Aa):R2:=λ x y H Q=>∃ l b xs zs,x=.ref l/\y=.ref b/\zP K H l xs/\zP K H b zs/\xs.length+zs.length<=sizeLine/\∀ p,H p=none->Q (.ref p) (upd H p (.lst (xs++zs)))
def WR:z_ X (binaryOp .Add) (ei X.K):=by
 intro pins s Y H x y v u Q I rx ry h
 obtain⟨l,b,xs,zs,rfl,rfl,hH,hB,hz,q⟩:=h
 cases rx
 cases ry
 obtain⟨its,r,p1,_⟩:=I.list hH
 obtain⟨its2,r2,p2,_⟩:=I.list hB
 obtain⟨⟨cls,dd,data,sl⟩,ho,hc,n,hd⟩:=p1.isList
 obtain⟨⟨cls2,dd2,data2,sl2⟩,ho2,hc2,n2,hd2⟩:=p2.isList
 simp only at hc hd hc2 hd2
 subst hc hd hc2 hd2
 have e:its.toArray++its2.toArray=(its++its2).toArray:=by simp
 refine concat_meets ⟨_,ho,rfl⟩ ⟨_,ho2,rfl⟩ noFill_list_add seq_list_add PySem.F.slot_list_add PySem.F.entry_list_add (PySem.F.args_list_add_2 _ _) (list_addW l b its.toArray its2.toArray n n2 dd dd2 sl sl2 (by rw[Ao,Ao,<- r.length,<- r2.length];exact hz)) ⟨ho,ho2,?_⟩
 rw[e]
 exact⟨.ref _,_,I.UY (t':=s.toks) (r.append r2) (by rw[CF];lia),rfl,q _ I.fresh⟩
def ec (K:Aa):R2:=λ x y H Q=>∃ a b ys,x=.ref a/\y=.ref b/\zY K H a []/\zY K H b ys/\Q (.ref b) H
def WO:z_ X (binaryOp .Add) (ec X.K):=by
 intro pins s Y H x y v u Q I rx ry h
 obtain⟨l,b,ys,rfl,rfl,hH,hB,q⟩:=h
 cases rx
 cases ry
 obtain⟨its,r,p1,_⟩:=I.tuple hH
 obtain⟨its2,r2,p2,_⟩:=I.tuple hB
 obtain⟨⟨cls,dd,data,sl⟩,ho,hc,n,hd⟩:=id p1
 obtain⟨⟨cls2,dd2,data2,sl2⟩,ho2,hc2,n2,hd2⟩:=id p2
 simp only at hc hd hc2 hd2
 subst hc hd hc2 hd2
 exact concat_meets ⟨_,ho,rfl⟩ ⟨_,ho2,rfl⟩ noFill_tuple_add seq_tuple_add PySem.F.slot_tuple_add PySem.F.entry_tuple_add (PySem.F.args_tuple_add_2 _ _)
   (tuple_addW0 l b its.toArray its2.toArray n n2 dd dd2 sl sl2 (by cases r;rfl)) ⟨ho,ho2,⟨.ref b,H,I,rfl,q⟩⟩
end
end L2
namespace L5
open PySem PySem.Spec L2 L3
open PyProof.Rows hiding St
section
variable {X:Cx}{K:Aa}{a b c e:Expr}{es:List Expr}{ta tb tc te:zx}{tA:yb}{pos p:Pos}
def vF.mo:xC vF:=λ x y S Q Q' hq h=>by
 cases x with
 | int i=>cases y <;> first | exact hq _ _ h | exact h
 | str i=>cases y <;> first | exact⟨h.1,hq _ _ h.2⟩ | exact h
 | tup i=>cases y <;> first | exact⟨h.1,hq _ _ h.2⟩ | exact h
 | xx ds=>
  unfold vF at h ⊢
  dsimp only at h ⊢
  split at h
  ·exact⟨h.1,h.2.1,λ r hr=>hq _ _ (h.2.2 r hr)⟩
  ·exact h.elim
 | ref q=>
  unfold vF at h ⊢
  dsimp only at h ⊢
  split at h
  ·exact⟨h.1,h.2.1,λ r hr=>hq _ _ (h.2.2 r hr)⟩
  ·exact h.elim
 | _=>exact h
def sO {H:Hp}{S:SS}{d:D}{v:V}{ds:List D}(r:zi K H d v) (p:zE K H S) (e:zZ d S=some ds) (n:∀ ts,d≠.tup ts):∃ a xs,v=.ref a/\zP K H a xs/\zm K H ds xs:=by
 unfold zZ at e
 split at e
 ·exact absurd rfl (n _)
 ·cases e
  simp only[zi] at r
  obtain⟨a,xs,h1,h2,h3⟩:=r
  exact⟨a,xs,h1,h2.sq,h3⟩
 ·split at e
  ·rename_i q
   cases e
   simp only[zi] at r
   subst r
   obtain⟨xs,h1,h2⟩:=p _ _ q
   exact⟨_,xs,rfl,zP.of h1,h2⟩
  ·cases e
 ·cases e
abbrev et (K:Aa):R2:=λ x y H Q=>wq (λ i j=>.int (i+j)) x y H Q\/((∃ i j,x=.str i/\y=.str j/\i.length+j.length<=sizeLine/\Q (.str (i++j)) H)\/(ei K x y H Q\/(ec K x y H Q\/eh K x y H Q)))
def vF.fits:xu K vF (et K):=λ x y d e H S Q h1 h2 h3 h=>by
 have lst:(∀ ts,d≠.tup ts)->(match zZ d S,zZ e S with
  | some ds,some es=>(∀ ts,e≠.tup ts)/\ds.length+es.length<=sizeLine/\∀ r,S r=none->xO K H Q (.ref r) (ups S r (.lst (ds++es)))
  | _,_=>False)->et K x y H Q:=λ n h=>by
  split at h
  ·rename_i ds es q1 q2
   obtain⟨a,xs,rfl,g1,g2⟩:=sO h1 h3 q1 n
   obtain⟨b,ys,rfl,g3,g4⟩:=sO h2 h3 q2 h.1
   refine .inr (.inr (.inl ⟨a,b,xs,ys,rfl,rfl,g1,g3,by rw[<- g2.length,<- g4.length];exact h.2.1,λ p hp=>?_⟩))
   exact h.2.2 p (h3.none hp) _ _ (by simp only[zi]) (.new hp _) (h3.ups (.new hp _) ⟨_,yq,zm.ext (.new hp _) _ (g2.append g4)⟩)
  ·exact h.elim
 cases d with
 | int i=>
  cases e with
  | int j=>
   simp only[zi] at h1 h2
   exact .inl ⟨_,_,h1,h2,h _ H (by simp only[zi]) (.refl H) h3⟩
  | _=>exact h.elim
 | str i=>
  cases e with
  | str j=>
   simp only[zi] at h1 h2
   exact .inr (.inl ⟨_,_,h1,h2,h.1,h.2 _ H (by simp only[zi]) (.refl H) h3⟩)
  | _=>exact h.elim
 | tup ds=>
  cases e with
  | tup es=>
   have h1':=h1
   have h2':=h2
   simp only[zi] at h1 h2
   obtain⟨a,xs,rfl,g1,g2⟩:=h1
   obtain⟨b,ys,rfl,g3,g4⟩:=h2
   have hl:=g2.length
   have hl':=g4.length
   by_cases hx:xs=[]
   ·subst hx
    have:ds=[]:=by cases ds <;> simp_all
    subst this
    exact .inr (.inr (.inr (.inl ⟨a,b,ys,rfl,rfl,g1,g3,h.2 _ H h2' (.refl H) h3⟩)))
   ·refine .inr (.inr (.inr (.inr ⟨a,b,xs,ys,rfl,rfl,g1,g3,hx,by rw[<- hl,<- hl'];exact h.1,λ hy=>?_,λ hy p hp=>?_⟩)))
    ·subst hy
     have:es=[]:=by cases es <;> simp_all
     subst this
     refine h.2 _ H ?_ (.refl H) h3
     rw[BC];exact h1'
    ·refine h.2 _ _ ?_ (.new hp _) (h3.new hp)
     simp only[zi]
     exact⟨p,_,rfl,zY.of yq,zm.ext (.new hp _) _ (g2.append g4)⟩
  | _=>exact h.elim
 | xx ds=>exact lst (λ _=>nofun) h
 | ref q=>exact lst (λ _=>nofun) h
 | _=>exact h.elim
def yY (ha:PD X a ta) (hb:PD X b tb):PD X (.BinOp a .Add b pos) (yh vF ta tb):=tT (WU.or (WT.or (WR.or (WO.or WQ)))) vF.fits vF.mo ha hb
def u9.mo {g:List Bool->Bool}:uj (u9 g):=λ ds S Q Q' hq h=>by
 unfold u9 at h ⊢
 split at h
 ·exact h.elim
 ·obtain⟨bs,h1,h2⟩:=h
  exact⟨bs,h1,hq _ _ h2⟩
 ·exact h.elim
def u9.fits {g:List Bool->Bool}:tE K (u9 g) (λ xs H Q=>∃ p,∃ bs:List Bool,xs=[.ref p]/\zP K H p (bs.map V.bl)/\Q (.bl (g bs)) H):=λ xs ds H S Q h0 h2 h=>by
 unfold u9 at h
 split at h
 ·exact h.elim
 ·rename_i d hn
  obtain⟨x,hx,h1⟩:=h0.one;subst hx
  obtain⟨bs,e,h⟩:=h
  obtain⟨a,ys,rfl,g1,g2⟩:=sO h1 h2 e (λ ts z=>hn ts z)
  rw[g2.bools] at g1
  exact⟨a,bs,rfl,g1,h _ H (by simp only[zi]) (.refl H) h2⟩
 ·exact h.elim
def eR (hm:X.mg "all"=none) (ha:xA X (e::es) tA) (hc:X.calm=true:=by rfl) (hg:Gl X "all":=by rfl) (he:starEach (e::es) X.env=(false,eval e X.env)::starEach es X.env:=by rfl) (Ag:(backTo pos (starEach es X.env)).any (·.1)=false:=by rfl):PD X (.Call (.Name "all" p) (e::es) [] pos) (wX (u9 λ bs=>bs.all id) tA):=
 qw (qq (RL hc) hg hm boot_all ha.pa (by decide) (by decide) he Ag) u9.mo u9.fits ha.mo
def dY {H:Hp}{d:D}{v:V}(r:zi K H d v):decide (v=.zg)=qE d:=by
 cases d with
 | tup _=>simp only[zi] at r;obtain⟨a,xs,rfl,_⟩:=r;rfl
 | xx _=>simp only[zi] at r;obtain⟨a,xs,rfl,_⟩:=r;rfl
 | err _ _ _=>simp only[zi] at r;obtain⟨a,_,_,_,rfl,_⟩:=r;rfl
 | _=>simp only[zi] at r;subst r;rfl
def eM (ha:PD X a ta):PD X (.UnaryOp .USub a pos) (bu ta):=by
 refine⟨fun L S Q Q' hq h=>ha.mo L S _ _ (λ x S1 z=>by
  cases x <;> first
   | exact hq _ _ z
   | exact z) h,PE.imp (XE Z7 ha.pe) fun Y H Q hu=>?_⟩
 obtain⟨L,S,r1,r2,h⟩:=hu
 refine zU.go ha.mo r1 r2 h λ x S1 v H1 h1 q1 e1 p1=>?_
 cases x with
 | int i=>simp only[zi] at q1;exact⟨i,q1,h1 _ H1 (by simp only[zi]) e1 p1⟩
 | _=>exact h1.elim
section
variable {N':List Str}{pick:List (Option Nat)}{scope:Scope}{tg elt iter:Expr}{ifs:List Expr}{ti:xY}{g:yU}{tcc:yL}
def tw.mo (hi:mZ ti):yz (tw pick ti g tcc te):=fun L S Q Q' hq z=>hi L S _ _ (λ I S1 ⟨h1,h2,h3⟩=>⟨h1,h2,λ p hp=>by
 obtain⟨W,w0,w1,w2,w3⟩:=h3 p hp
 exact⟨W,w0,w1,w2,λ S2 acc a b c=>hq _ _ (w3 S2 acc a b c)⟩⟩) z
def gK (hi:mZ ti) (hg:oH g) (hc:vc tcc) (he:yz te) {Y:St}{H:Hp}{Q:VK}(hu:zU K (tw pick ti g tcc te) Y H Q):lS pick (vy K ti) (p8 K g) (x_ K tcc) (zU K te) Y H Q:=by
 obtain⟨L,S,r1,r2,z⟩:=hu
 refine⟨L,S,r1,r2,hi L S _ _ (λ I S1 hF J H1 e1 p1 rep D hD=>?_) z⟩
 obtain⟨hlen,hk,hF⟩:=hF
 have hS1:S1 D=none:=p1.none hD
 obtain⟨W,w0,wm,wstep,wfin⟩:=hF D hS1
 refine⟨λ i m Y H2=>m=I.items.length-i/\i<=I.items.length/\Ext H1 H2/\yp K H2 (v7 pick L) Y/\∃ S2 acc,zE K H2 S2/\Sx S1 S2/\S2 D=some (.lst acc)/\acc.length<=i/\W i S2 acc,⟨_,rfl,AM _,.new hD _,((r1.ext e1).pick pick).ext (.new hD _),ups S1 D (.lst []),[],?_,.new hS1 _,sI,Ad _,?_⟩,?_⟩
 ·exact p1.ups (.new hD _) ⟨[],yq,.nil⟩
 ·exact wm 0 S1 _ [] (λ b o hb q=>by rw[uR hb];exact q) w0
 rintro i m Y2 H2 ⟨rfl,hi',x2,q1,S2,acc,q2,sx,hS2,AG,hW⟩
 obtain⟨g1,g2⟩:=rep i H2 S2 x2 q2 (hk S2 sx)
 by_cases hl:i<I.items.length
 ·have hd:I.items[i]?=some I.items[i]:=by simp[hl]
  obtain⟨go,yl⟩:=g1 _ hd
  refine .inr ⟨go,λ x H3 hy=>?_⟩
  obtain⟨x3,p3,d3⟩:=yl x H3 hy
  refine⟨_,_,S2,d3,q1.ext x3,p3,hg _ _ S2 _ _ (fun L4 S4 z4 Y4 H4 a1 a2 a3=>?_) (wstep i _ S2 acc hd sx hS2 hW)⟩
  obtain⟨hle,z4⟩:=z4
  refine x_.go hc a1 a3 z4 λ b S5 H5 z5 x5 p5=>vh (λ z5=>?_) (λ z5=>?_) z5
  ·refine zU.go he (a1.ext x5) p5 z5 λ y S6 v H6 z6 q6 x6 p6=>?_
   obtain⟨s6,hW6⟩:=z6
   obtain⟨ys,h6,r6⟩:=p6 _ _ (s6 _ _ hS2)
   have e6:Ext H6 (upd H6 D (.lst (ys++[v]))):=.lst h6 _
   have hlen2:ys.length<=i:=by rw[<- r6.length];exact AG
   refine⟨ys,I.items.length-(i+1),h6,by lia,by lia,rfl,hl,((((x2.trans x3).trans a2).trans x5).trans x6).trans e6,hle.rep ((a1.ext (x5.trans x6)).ext e6),ups S6 D (.lst (acc++[y])),acc++[y],?_,λ b o hb=>?_,sI,by simp;lia,?_⟩
   ·exact p6.ups e6 ⟨_,yq,zm.ext e6 _ (r6.snoc q6)⟩
   ·rw[uR (by intro q;subst q;rw[hS1] at hb;cases hb)]
    exact s6 _ _ (sx _ _ hb)
   ·exact wm _ S6 _ _ (λ b o hb q=>by rw[uR hb];exact q) hW6
  ·obtain⟨s5,hW5⟩:=z5
   exact⟨I.items.length-(i+1),by lia,rfl,hl,((x2.trans x3).trans a2).trans x5,hle.rep (a1.ext x5),S5,acc,p5,sx.trans s5,s5 _ _ hS2,by lia,hW5⟩
 ·have e:i=I.items.length:=by lia
  subst e
  exact .inl ⟨g2 (Ad _),wfin S2 acc sx hS2 hW _ H2 (by simp only[zi]) (e1.trans x2) q2⟩
def jf (Sc:r_ X N' pick scope) (hc:X.calm=true) (hi:uJ X tg iter ti) (hg:∀ cl C s H fp,uK (yF X N' scope cl C s H fp) tg g) (hf:∀ cl C s H fp,mS (yF X N' scope cl C s H fp) ifs tcc) (he:∀ cl C s H fp,PD (yF X N' scope cl C s H fp) elt te)
  (hs:∀ x,foldedSetIterable iter X.env x=pure x:=by intro _;rfl):
  PD X (.ListComp elt [⟨tg,iter,ifs,0⟩] scope pos) (tw pick ti g tcc te):=
 ⟨tw.mo hi.mo,λ pins s Y H Q I hu=>XQ (g:=p8 X.K g) (tc:=x_ X.K tcc) (te:=zU X.K te) Sc hc hi.pi (λ cl C s H fp=>(hg cl C s H fp).pg) (λ cl C s H fp=>(hf cl C s H fp).pf) (λ cl C s H fp=>(he cl C s H fp).pe) hs pins s Y H Q I (gK hi.mo (hg [] 0 s H []).mo (hf [] 0 s H []).mo (he [] 0 s H []).mo hu)⟩
def eJ {i:Nat}{y:Str}{py Bv:Pos}(Sc:r_ X N' pick scope) (hc:X.calm=true) (hi:uJ X tg iter ti) (hg:∀ cl C s H fp,uK (yF X N' scope cl C s H fp) tg g) (hf:∀ cl C s H fp,mS (yF X N' scope cl C s H fp) ifs tcc) (he:∀ cl C s H fp,PD (yF X N' scope cl C s H fp) elt te)
  (hN:X.N.Nodup) (hy:X.N[i]?=some y) (hx:Loc X.env.scope y)
  (B5:swapsWith (.ListComp elt [⟨tg,iter,ifs,0⟩] scope pos) (some (.Name y py)) Bv.line X.env=pure true:=by rfl)
  (BP:X.fn y=true\/X.env.scope.names.lookup y=some .local:=by first | exact .inl rfl | exact .inr rfl | assumption)
  (hs:∀ x,foldedSetIterable iter X.env x=pure x:=by intro _;rfl):
  w_ X (.Assign [.Name y py] (.ListComp elt [⟨tg,iter,ifs,0⟩] scope pos) Bv) (vm (tw pick ti g tcc te) (hName i)):=by
 refine⟨vm.mo (tw.mo hi.mo) λ _ _ _ _ _ hq z=>hq _ _ z,λ pins s Y H D I hu=>Xm (g:=p8 X.K g) (tc:=x_ X.K tcc) (te:=zU X.K te) Sc hc hi.pi (λ cl C s H fp=>(hg cl C s H fp).pg) (λ cl C s H fp=>(hf cl C s H fp).pf) (λ cl C s H fp=>(he cl C s H fp).pe) hN hy hx B5 BP hs pins s Y H D I ?_⟩
 obtain⟨L,S,r1,r2,z⟩:=hu
 refine gK hi.mo (hg [] 0 s H []).mo (hf [] 0 s H []).mo (he [] 0 s H []).mo ⟨L,S,r1,r2,tw.mo hi.mo L S _ _ (λ x S1 z v H1 q1 e1 p1=>?_) z⟩
 exact z _ H1 ((r1.ext e1).set i q1) e1 p1
end
end
section
variable {P:Program}{w:World}{K:Aa}{mg:Str->Option Value}{base:Heap}{f:Addr}{fd:FuncData}
def cH {R:Rk} [Lo R] {x:Str}{st:Stmt}{N ps:List Str}{k n:Nat}{g:Sm}(F:wI K x x st f fd) (Sc:yd N ps (zB st)) (hn:n=ps.length)
  (hbody:∀ (Ac:Value) (A:Around) (outer:List Env) (s:Shared) (H:Hp) (E:XK),ye k (A.deeper (envOfC x (zB st) s.heap.objs.size f Ac))->
   ∃ t,ui (xX xv P w K mg base N x (zB st) f Ac A outer s H E).ve (xo st) t/\ym R g t):xg P w K mg base xv (k+1) f fd ps (uS K (zO R (ya N n g))):=
 SE F Sc (λ ds S Q h=>by rw[h.len,hn]) λ Ac A outer s H E hr=>by
  obtain⟨t,h1,h2⟩:=hbody Ac A outer s H E hr
  exact⟨t,h1,λ ds S Q h=>bJ h2 h⟩
def SO {R:Rk} [Lo R] {x:Str}{st:Stmt}{N ps:List Str}{k n:Nat}{g:Sm}(F:wI K x x st f fd) (hm:mg x=some (.ref f)) (Sc:yd N ps (zB st)) (hn:n=ps.length)
  (hb:∀ (kV doc pm:Value) (an:Option Addr) (Ac ct:Value) (us:List Value),us.length=ps.length->bindArgs (PySem.W.fnOf x x (vj st) (xo st) (zB st) .none kV doc pm an Ac ct) ⟨us,[]⟩=pure (ps.zip us))
  (hbody:∀ (Ac:Value) (A:Around) (outer:List Env) (s:Shared) (H:Hp) (E:XK),ye k (A.deeper (envOfC x (zB st) s.heap.objs.size f Ac))->
   ∃ t,ui (xX xv P w K mg base N x (zB st) f Ac A outer s H E).ve (xo st) t/\ym R g t):FD P w K mg base x (k+1) ps (zO R (ya N n g)):=
 ⟨⟨f,fd,cH F Sc hn hbody,hm,F.kp,F.binds hb⟩,zO.mo⟩
def Tn {R:Rk} [Sr R] {F:List T->Option T}(hF:∀ ns:List Int,ns.length<=63->F [.lst (ns.map T.int)]=some (.bl true)) {H:Hp}{a:Addr}{ns:List Int}{E:XK}(hO:mT H) (hS:zP K H a (ns.map V.int)) (hl:ns.length<=63):uS K (zO R F) [.ref a] H (λ v _=>v=.bl true) E:=by
 have hFz:qV K H a (ns.map V.int):=by
  rcases hS with (h | h) | h
  ·rcases hO a with z | ⟨o,xs,z⟩
   ·rw[h] at z;cases z
   ·rw[h] at z;cases z
  ·exact .inl h
  ·exact .inr h
 refine⟨[.xx (ns.map D.int)],λ _=>none,.cons ?_ .nil,(λ a o z=>nomatch z),λ _=>False,[.lst (ns.map T.int)],.bl true,nofun,.cons ?_ .nil,hF ns hl,λ d S' s r v H' rv _ _=>?_⟩
 ·simp only[zi]
  exact⟨a,_,rfl,hFz,zm.jn ns⟩
 ·simp only[Sn]
  exact⟨_,.inl ⟨rfl,WV ns⟩,uU.mpr rfl⟩
 ·have:=Sr.sn r
  simp only[Sn] at this
  subst this
  simpa only [zi] using rv
end
end L5
namespace ST
open PySem PySem.SetTable
def uh (xs:List Nat):Prop:=xs.Pairwise (· < ·)
def jQ {xs:Array Nat}{m d:Nat}(h:m<xs.size):xs.getD m d=xs[m]:=by simp[Array.getD,h]
theorem i6 (xs:Array Nat) (j:Nat) (hr:uh xs.toList):∀ (f lo hi:Nat),hi-lo<=f->lo<=hi->hi<=xs.size->(∀ i (h:i<xs.size),i<lo->xs[i]<j)->(∀ i (h:i<xs.size),hi<=i->j<=xs[i])->
  below.go xs j f lo hi<=xs.size/\(∀ i (h:i<xs.size),i<below.go xs j f lo hi->xs[i]<j)/\∀ i (h:i<xs.size),below.go xs j f lo hi<=i->j<=xs[i]
 | 0,lo,hi,h1,h2,h3,h4,h5=>by
  unfold below.go
  have:lo=hi:=by lia
  subst this
  exact⟨h3,h4,h5⟩
 | f+1,lo,hi,h1,h2,h3,h4,h5=>by
  unfold below.go
  have wo:∀ i k (hi:i<xs.size) (hk:k<xs.size),i<=k->xs[i]<=xs[k]:=λ i k hi hk Dh=>by
   rcases Bb i k with q | q
   ·have r:=Cy.mp hr i k (by simpa using hi) (by simpa using hk) q
    rw[BX,BX] at r
    exact BD r
   ·have:i=k:=by lia
    subst this;exact Ad _
  by_cases hl:lo<hi
  ·rw[if_pos hl]
   dsimp only
   have hm:(lo+hi)/2<xs.size:=by lia
   rw[jQ hm]
   by_cases c:xs[(lo+hi)/2]<j
   ·rw[if_pos c]
    refine i6 xs j hr f _ hi (by lia) (by lia) h3 (λ i hi' Ak=>?_) h5
    have:=wo i ((lo+hi)/2) hi' hm (by lia)
    lia
   ·rw[if_neg c]
    refine i6 xs j hr f lo _ (by lia) (by lia) (by lia) h4 (λ i hi' hge=>?_)
    have:=wo ((lo+hi)/2) i hm hi' hge
    lia
  ·rw[if_neg hl]
   have:lo=hi:=by lia
   subst this
   exact⟨h3,h4,h5⟩
def mJ {xs:Array Nat}{j:Nat}(hr:uh xs.toList):below xs j<=xs.size/\(∀ i (h:i<xs.size),i<below xs j->xs[i]<j)/\∀ i (h:i<xs.size),below xs j<=i->j<=xs[i]:=
 i6 xs j hr xs.size 0 xs.size (by lia) (by lia) (Ad _) (λ i h q=>by lia) (λ i h q=>by lia)
def below_at {xs:Array Nat}{j i:Nat}(hr:uh xs.toList) (h:xs[i]?=some j):below xs j=i:=by
 obtain⟨h1,h2,h3⟩:=mJ (j:=j) hr
 obtain⟨hi,e⟩:=Array.getElem?_eq_some_iff.mp h
 have a:¬ i<below xs j:=λ q=>by have:=h2 i hi q;lia
 have b:¬ below xs j<i:=λ q=>by
  have:=h3 (below xs j) (by lia) (Ad _)
  have r:=Cy.mp hr (below xs j) i (by simp;lia) (by simpa using hi) q
  simp at r
  lia
 lia
def RT {xs:Array Nat}{j:Nat}(hr:uh xs.toList):(xs[below xs j]?=some j)↔j∈xs.toList:=by
 constructor
 ·intro h
  obtain⟨hi,e⟩:=Array.getElem?_eq_some_iff.mp h
  rw[<- e];simp
 ·intro h
  obtain⟨i,hi,e⟩:=BU.mp h
  have hx:xs[i]?=some j:=by
   simp at hi
   simp[hi] at e ⊢;exact e
  rw[below_at hr hx];exact hx
noncomputable def vK (M:Nat) (p:Probe):Probe:=
 if p.more>0 then { p with j:=p.j+1,more:=p.more-1 } else
 let (i,perturb):=leap M p.i p.perturb
 { p with j:=i,more:=runEnd M i-i,i,perturb }
def iE (t:SetTable) (p:Probe):t.advance p=vK t.mask p:=rfl
noncomputable def qm (M i perturb:Nat):Probe:={ j:=i,more:=runEnd M i-i,i:=i,perturb:=perturb,dummy:=none }
noncomputable def way (M:Nat) (h:Int):Nat->Probe
 | 0=>qm M (bits h%(M+1)) (bits h)
 | k+1=>vK M (way M h k)
def Qe (M:Nat) (p:Probe) (h:p.dummy=none):(vK M p).dummy=none:=by
 unfold vK
 split
 ·exact h
 ·exact h
theorem lK (M:Nat) (h:Int):∀ k,(way M h k).dummy=none
 | 0=>rfl
 | k+1=>Qe M _ (lK M h k)
noncomputable def zT (M:Nat) (h:Int):Nat->Nat×Nat
 | 0=>(bits h%(M+1),bits h)
 | n+1=>leap M (zT M h n).1 (zT M h n).2
theorem kI (M i pt:Nat) (h:Int) (k:Nat) (hk:way M h k=qm M i pt):∀ m,m<=runEnd M i-i->way M h (k+m)={ j:=i+m,more:=runEnd M i-i-m,i:=i,perturb:=pt,dummy:=none }
 | 0,_=>by rw[Nat.add_zero,hk];rfl
 | m+1,hm=>by
  have ih:=kI M i pt h k hk m (by lia)
  show vK M (way M h (k+m))=_
  rw[ih]
  unfold vK
  rw[if_pos (by show runEnd M i-i-m>0;lia)]
  simp only[Probe.mk.injEq]
  exact⟨by lia,by lia,trivial,trivial,trivial⟩
def YN (M i:Nat):runEnd M i-i<=9:=by unfold runEnd;split <;> lia
def fL (M:Nat) (h:Int) (n k:Nat) (hk:way M h k=qm M (zT M h n).1 (zT M h n).2):way M h (k+(runEnd M (zT M h n).1-(zT M h n).1)+1)=qm M (zT M h (n+1)).1 (zT M h (n+1)).2:=by
 have:=kI M _ _ h k hk _ (Ad _)
 show vK M (way M h (k+_))=_
 rw[this]
 unfold vK
 rw[if_neg (by show ¬ _-_-(_-_)>0;lia)]
 rfl
theorem fM (M:Nat) (h:Int):∀ n,∃ k,k<=10*n/\way M h k=qm M (zT M h n).1 (zT M h n).2
 | 0=>⟨0,by lia,rfl⟩
 | n+1=>by
  obtain⟨k,h1,h2⟩:=fM M h n
  have:=YN M (zT M h n).1
  exact⟨_,by lia,fL M h n k h2⟩
def RP (h:Int):bits h<2 ^ 64:=by
 unfold bits
 have h1:=BK h (show (2 ^ 64:Int)≠0 by decide)
 have h2:=BJ h (show (0:Int)<2 ^ 64 by decide)
 lia
theorem eF (M:Nat) (h:Int):∀ n,(zT M h n).2*32 ^ n<=bits h
 | 0=>by simp[zT]
 | n+1=>by
  have ih:=eF M h n
  show ((zT M h n).2/32)*32 ^ (n+1)<=_
  have:(zT M h n).2/32*32<=(zT M h n).2:=Nat.div_mul_le_self _ _
  calc (zT M h n).2/32*32 ^ (n+1)=((zT M h n).2/32*32)*32 ^ n:=by rw[Nat.pow_succ,Nat.mul_comm (32 ^ n) 32,Nat.mul_assoc]
   _<=(zT M h n).2*32 ^ n:=Nat.mul_le_mul_right _ this
   _<=_:=ih
def XC (M:Nat) (h:Int) (n:Nat) (hn:13<=n):(zT M h n).2=0:=by
 rcases Nat.eq_zero_or_pos (zT M h n).2 with q | q
 ·exact q
 ·have h1:=eF M h n
  have h2:=RP h
  have h3:32 ^ 13<=32 ^ n:=Nat.pow_le_pow_right (by decide) hn
  have h4:1*32 ^ n<=(zT M h n).2*32 ^ n:=Nat.mul_le_mul_right _ q
  have h5:(2:Nat) ^ 64<32 ^ 13:=by decide
  lia
noncomputable def uY (M:Nat) (i:Nat):Nat->Nat
 | 0=>i
 | n+1=>(uY M i n*5+1)%(M+1)
theorem dE (M:Nat) (h:Int):∀ n,(zT M h (13+n)).1=uY M (zT M h 13).1 n
 | 0=>rfl
 | n+1=>by
  have ih:=dE M h n
  have hz:=XC M h (13+n) (by lia)
  show ((zT M h (13+n)).1*5+1+(zT M h (13+n)).2/32)%(M+1)=_
  rw[hz,ih]
  rfl
theorem pW (M i:Nat):∀ a b,uY M i (a+b)=uY M (uY M i a) b
 | a,0=>rfl
 | a,b+1=>by
  show (uY M i (a+b)*5+1)%(M+1)=_
  rw[pW M i a b];rfl
noncomputable def pV (M:Nat):Nat->Nat->List Nat
 | 0,_=>[]
 | n+1,i=>i::pV M n ((i*5+1)%(M+1))
theorem jh (M:Nat):∀ n i x,x∈pV M n i->∃ k,k<n/\uY M i k=x
 | 0,i,x,h=>by cases h
 | n+1,i,x,h=>by
  rcases Aj.mp h with e | e
  ·exact⟨0,by lia,e.symm⟩
  ·obtain⟨k,h1,h2⟩:=jh M n _ x e
   exact⟨k+1,by lia,by rw[Nat.add_comm,pW];exact h2⟩
def vb (M:Nat):Prop:=M=7\/M=31\/M=127
def W9 (M:Nat) (hM:vb M):(∀ e,e<=M->e∈pV M (M+1) 0)/\uY M 0 (M+1)=0:=by
 have key:∀ M,((List.range (M+1)).all λ e=>(pV M (M+1) 0).contains e)=true->∀ e,e<=M->e∈pV M (M+1) 0:=λ M h e he=>by
  have:=AW.mp h e (A6.mpr (by lia))
  simpa using this
 rcases hM with rfl | rfl | rfl
 ·exact⟨key 7 (by decide +kernel),by decide +kernel⟩
 ·exact⟨key 31 (by decide +kernel),by decide +kernel⟩
 ·exact⟨key 127 (by decide +kernel),by decide +kernel⟩
def W7 (M:Nat) (hM:vb M) (i e:Nat) (hi:i<=M) (he:e<=M):∃ n,n<=M/\uY M i n=e:=by
 obtain⟨h1,h2⟩:=W9 M hM
 obtain⟨a,a1,a2⟩:=jh M _ _ _ (h1 i hi)
 obtain⟨b,b1,b2⟩:=jh M _ _ _ (h1 e he)
 rcases Bb b a with q | q
 ·refine⟨M+1+b-a,by lia,?_⟩
  rw[<- a2,<- pW,show a+(M+1+b-a)=(M+1)+b by lia,pW,h2,b2]
 ·refine⟨b-a,by lia,?_⟩
  rw[<- a2,<- pW,show a+(b-a)=b by lia,b2]
theorem Te (M:Nat) (h:Int):∀ n,(zT M h n).1<=M
 | 0=>by have:=Cv (bits h) (show 0<M+1 by lia);show bits h%(M+1)<=M;lia
 | n+1=>by
  have:=Cv ((zT M h n).1*5+1+(zT M h n).2/32) (show 0<M+1 by lia)
  show (_%(M+1):Nat)<=M
  lia
def dF (M:Nat) (hM:vb M) (h:Int) (e:Nat) (he:e<=M):∃ n,n<M+14/\(zT M h n).1=e:=by
 obtain⟨n,h1,h2⟩:=W7 M hM (zT M h 13).1 e (Te M h 13) he
 exact⟨13+n,by lia,by rw[dE,h2]⟩
def Zs (M:Nat) (hM:vb M) (h:Int) (e:Nat) (he:e<=M):∃ k,k<10*(M+15)/\(way M h k).j=e:=by
 obtain⟨n,h1,h2⟩:=dF M hM h e he
 obtain⟨k,k1,k2⟩:=fM M h n
 exact⟨k,by lia,by rw[k2];exact h2⟩
theorem gD (M:Nat) (h:Int):∀ k,(way M h k).j+(way M h k).more<=M/\(way M h k).i<=M
 | 0=>by
  have h1:bits h%(M+1)<=M:=by have:=Cv (bits h) (show 0<M+1 by lia);lia
  refine⟨?_,h1⟩
  show bits h%(M+1)+(runEnd M (bits h%(M+1))-bits h%(M+1))<=M
  unfold runEnd;split <;> lia
 | k+1=>by
  obtain⟨h1,h2⟩:=gD M h k
  show (vK M (way M h k)).j+(vK M (way M h k)).more<=M/\(vK M (way M h k)).i<=M
  unfold vK
  split
  ·rename_i c
   exact⟨by show (way M h k).j+1+((way M h k).more-1)<=M;lia,h2⟩
  ·have h3:((way M h k).i*5+1+(way M h k).perturb/32)%(M+1)<=M:=by have:=Cv ((way M h k).i*5+1+(way M h k).perturb/32) (show 0<M+1 by lia);lia
   refine⟨?_,h3⟩
   show _%(M+1)+(runEnd M (_%(M+1))-_%(M+1))<=M
   unfold runEnd;split <;> lia
def lJ (M:Nat) (h:Int) (k:Nat):(way M h k).j<=M:=by have:=(gD M h k).1;lia
structure Tab (t:SetTable) (hs:List Int):Prop where
 mask:vb t.mask
 sh:t.dummies=#[]
 len:t.place.size=hs.length
 wo:uh t.place.toList
 top:∀ j∈t.place.toList,j<=t.mask
 pQ:∀ (i:Nat) h j,hs[i]?=some h->t.place[i]?=some j->∃ k,(way t.mask h k).j=j/\∀ k'<k,(way t.mask h k').j∈t.place.toList
theorem Tab.live {t:SetTable}{hs:List Int}(T:Tab t hs) {i j:Nat}(h:t.place[i]?=some j):t.slot j=.live i:=by
 unfold SetTable.slot
 dsimp only
 rw[below_at T.wo h,if_pos (by rw[h];simp)]
theorem Tab.empty {t:SetTable}{hs:List Int}(T:Tab t hs) {j:Nat}(h:j∉t.place.toList):t.slot j=.empty:=by
 unfold SetTable.slot
 dsimp only
 have n1:¬ (t.place[below t.place j]? == some j)=true:=λ q=>h ((RT T.wo).mp (by simpa using q))
 rw[if_neg n1,if_neg (by rw[T.sh];simp[has])]
theorem Tab.at {t:SetTable}{hs:List Int}(T:Tab t hs) {j:Nat}(h:j∈t.place.toList):∃ (i:Nat) (g:Int),t.place[i]?=some j/\hs[i]?=some g:=by
 obtain⟨i,hi,e⟩:=BU.mp h
 have hi':i<t.place.size:=by simpa using hi
 refine⟨i,hs[i]'(by rw[<- T.len];exact hi'),?_,by simp⟩
 rw[A7 hi']
 rw[BX] at e
 rw[e]
theorem c8 {t:SetTable}{hs:List Int}(T:Tab t hs) {hashAt:Nat->Int}(hA:∀ (i:Nat) g,hs[i]?=some g->hashAt i=g) (h:Int):∀ (f k:Nat),(∃ e,k<=e/\e<k+f/\(way t.mask h e).j∉t.place.toList)->
  ∃ k1,k<=k1/\(∀ m,k<=m->m<k1->∃ (i:Nat) (g:Int),t.place[i]?=some (way t.mask h m).j/\hs[i]?=some g/\g≠h)/\
   ((way t.mask h k1).j∉t.place.toList/\probe.go t hashAt h f (way t.mask h k)=some (.empty (way t.mask h k1).j none)\/
    ∃ i,t.place[i]?=some (way t.mask h k1).j/\hs[i]?=some h/\probe.go t hashAt h f (way t.mask h k)=some (.candidate (way t.mask h k1).j i (way t.mask h (k1+1))))
 | 0,k,⟨e,h1,h2,_⟩=>by lia
 | f+1,k,⟨e,h1,h2,h3⟩=>by
  by_cases hm:(way t.mask h k).j∈t.place.toList
  ·obtain⟨i,g,p1,p2⟩:=T.at hm
   by_cases hg:g=h
   ·refine⟨k,Ad _,λ m a b=>by lia,.inr ⟨i,p1,by rw[<- hg];exact p2,?_⟩⟩
    unfold probe.go
    rw[T.live p1]
    dsimp only
    rw[hA i g p2,if_pos (by simp[hg]),iE]
    rfl
   ·have An:e≠k:=λ q=>by subst q;exact h3 hm
    obtain⟨k1,q1,q2,q3⟩:=c8 T hA h f (k+1) ⟨e,by lia,by lia,h3⟩
    have eq:probe.go t hashAt h (f+1) (way t.mask h k)=probe.go t hashAt h f (way t.mask h (k+1)):=by
     conv=>lhs;unfold probe.go
     rw[T.live p1]
     dsimp only
     rw[hA i g p2,if_neg (by simp[hg]),iE]
     rfl
    rw[eq]
    refine⟨k1,by lia,λ m a b=>?_,q3⟩
    rcases Nat.eq_or_lt_of_le a with w | w
    ·subst w;exact⟨i,g,p1,p2,hg⟩
    ·exact q2 m w b
  ·refine⟨k,Ad _,λ m a b=>by lia,.inl ⟨hm,?_⟩⟩
   unfold probe.go
   rw[T.empty hm,lK]
def dq {xs ys:List Nat}(hx:xs.Nodup) (h:∀ x∈xs,x∈ys):xs.length<=ys.length:=by
 induction xs generalizing ys with
 | nil=>simp
 | cons x xs ih=>
  have h1:=A2.mp hx
  have hxy:=h x Ap
  have:=ih h1.2 (ys:=ys.erase x) λ z hz=>by
   have An:z≠x:=λ e=>h1.1 (e▸hz)
   exact (Dr An).mpr (h z (Av _ hz))
  rw[Dq hxy] at this
  have hp:=C6 hxy
  simp only[A0]
  lia
def least {P:Nat->Prop}(k:Nat) (h:P k):∃ m,m<=k/\P m/\∀ m'<m,¬ P m':=by
 induction k using Nat.strongRecOn with
 | ind k ih=>
  rcases Classical.em (∃ m',m'<k/\P m') with ⟨m',h1,h2⟩ | q
  ·obtain⟨m,g1,g2⟩:=ih m' h1 h2
   exact⟨m,by lia,g2⟩
  ·exact⟨k,Ad _,h,λ m' hm hp=>q ⟨m',hm,hp⟩⟩
def SG {xs:List Nat}{M:Nat}(h:xs.length<=M):∃ e,e<=M/\e∉xs:=by
 rcases Classical.em (∃ e,e<=M/\e∉xs) with q | q
 ·exact q
 ·have:=dq (xs:=List.range (M+1)) (ys:=xs) Dp λ e he=>by
   have:=A6.mp he
   rcases Classical.em (e∈xs) with w | w
   ·exact w
   ·exact absurd ⟨e,by lia,w⟩ q
  simp at this
  lia
def iQ (t:SetTable) (h:Int) (j:Nat):Prop:=j∉t.place.toList/\∃ k,(way t.mask h k).j=j/\∀ k'<k,(way t.mask h k').j∈t.place.toList
def Tab.first {t:SetTable}{hs:List Int}(T:Tab t hs) (hl:hs.length<=t.mask) (h:Int):∃ K,K<10*(t.mask+15)/\(way t.mask h K).j∉t.place.toList/\∀ k'<K,(way t.mask h k').j∈t.place.toList:=by
 obtain⟨e,e1,e2⟩:=SG (xs:=t.place.toList) (M:=t.mask) (by rw[Bd,T.len];exact hl)
 obtain⟨k,k1,k2⟩:=Zs t.mask T.mask h e e1
 obtain⟨K,q1,q2,q3⟩:=least (P:=λ n=>(way t.mask h n).j∉t.place.toList) k (by rw[k2];exact e2)
 exact⟨K,by lia,q2,λ k' hk=>Classical.not_not.mp (q3 k' hk)⟩
def YT {xs:List Nat}{j p:Nat}(h:uh xs) (h1:∀ x∈xs.take p,x<j) (h2:∀ x∈xs.drop p,j<x):uh (xs.take p++j::xs.drop p):=by
 refine List.pairwise_append.mpr ⟨h.sublist (List.take_sublist _ _),BZ.mpr ⟨h2,h.sublist (List.drop_sublist _ _)⟩,λ a ha b hb=>?_⟩
 rcases Aj.mp hb with e | e
 ·subst e;exact h1 a ha
 ·have:=h1 a ha;have:=h2 b e;lia
def cy {α:Type}{xs:List α}{p i:Nat}{x y:α}(hp:p<=xs.length) (h:(xs.take p++x::xs.drop p)[i]?=some y):(i=p/\y=x)\/(i<p/\xs[i]?=some y)\/(p<i/\xs[i-1]?=some y):=by
 have hl:(xs.take p).length=p:=by rw[CD];lia
 rcases C5 i p with q | q | q
 ·rw[B1 (by lia),List.getElem?_take,if_pos q] at h
  exact .inr (.inl ⟨q,h⟩)
 ·subst q
  rw[CC (by lia),hl] at h
  simp at h
  exact .inl ⟨rfl,h.symm⟩
 ·rw[CC (by lia),hl] at h
  obtain⟨d,hd⟩:∃ d,i-p=d+1:=⟨i-p-1,by lia⟩
  rw[hd] at h
  simp only[List.getElem?_cons_succ,List.getElem?_drop] at h
  refine .inr (.inr ⟨q,?_⟩)
  rw[show i-1=p+d by lia];exact h
theorem Tab.put {t:SetTable}{hs:List Int}(T:Tab t hs) {h:Int}{j:Nat}(F:iQ t h j):
  (t.put j).2<=hs.length/\(t.put j).1={ t with place:=insertAt t.place (t.put j).2 j }/\Tab (t.put j).1 (hs.take (t.put j).2++h::hs.drop (t.put j).2):=by
 obtain⟨b1,b2,b3⟩:=mJ (xs:=t.place) (j:=j) T.wo
 obtain⟨fn,K,k1,k2⟩:=F
 have e2:(t.put j).2=below t.place j:=rfl
 have e1:(t.put j).1={ t with place:=insertAt t.place (t.put j).2 j }:=by
  show ({ t with place:=insertAt t.place (below t.place j) j,dummies:=_ }:SetTable)=_
  rw[if_neg (by rw[T.sh];simp[has]),e2]
 have pl:(insertAt t.place (below t.place j) j).toList=t.place.toList.take (below t.place j)++j::t.place.toList.drop (below t.place j):=toList_insertAt _ _ _
 have old:∀ x∈t.place.toList,x∈(insertAt t.place (below t.place j) j).toList:=λ x hx=>by
  rw[pl]
  have:=Dn (below t.place j) t.place.toList
  rw[<- this] at hx
  rcases A1.mp hx with q | q
  ·exact Cg _ q
  ·exact AN _ (Av _ q)
 rw[e2] at e1 ⊢
 refine⟨by rw[<- T.len];exact b1,e1,?_⟩
 rw[e1]
 refine⟨T.mask,T.sh,?_,?_,?_,?_⟩
 ·show (insertAt t.place (below t.place j) j).size=_
  rw[<- Bd,pl]
  simp[T.len]
 ·show uh (insertAt t.place (below t.place j) j).toList
  rw[pl]
  refine YT T.wo (λ x hx=>?_) (λ x hx=>?_)
  ·obtain⟨i,hi,e⟩:=BU.mp hx
   rw[CD] at hi
   rw[List.getElem_take,BX] at e
   rw[<- e];exact b2 i (by simp at hi;lia) (by lia)
  ·obtain⟨i,hi,e⟩:=BU.mp hx
   rw[Du] at hi
   rw[List.getElem_drop,BX] at e
   have h3:=b3 (below t.place j+i) (by simp at hi;lia) (by lia)
   have hm:x∈t.place.toList:=List.mem_of_mem_drop hx
   have An:x≠j:=λ q=>fn (q▸hm)
   lia
 ·intro x hx
  show x<=t.mask
  have hx:x∈(insertAt t.place (below t.place j) j).toList:=hx
  rw[pl] at hx
  rcases A1.mp hx with q | q
  ·exact T.top x (List.mem_of_mem_take q)
  ·rcases Aj.mp q with e | e
   ·subst e;rw[<- k1];exact lJ _ _ _
   ·exact T.top x (List.mem_of_mem_drop e)
 ·intro i g x hg hx
  show ∃ k,(way t.mask g k).j=x/\∀ k'<k,(way t.mask g k').j∈(insertAt t.place (below t.place j) j).toList
  have hx:(insertAt t.place (below t.place j) j)[i]?=some x:=hx
  rw[<- Br,pl] at hx
  have Ag:below t.place j<=t.place.toList.length:=by simpa using b1
  have DN:below t.place j<=hs.length:=by rw[<- T.len];exact b1
  rcases cy Ag hx with ⟨c1,c2⟩ | ⟨c1,c2⟩ | ⟨c1,c2⟩ <;> rcases cy DN hg with ⟨d1,d2⟩ | ⟨d1,d2⟩ | ⟨d1,d2⟩ <;> first
   | lia
   | (subst c2 d2;exact⟨K,k1,λ k' hk=>old _ (k2 k' hk)⟩)
   | (obtain⟨k,g1,g2⟩:=T.pQ _ g x d2 (by rw[<- Br];exact c2)
      exact⟨k,g1,λ k' hk=>old _ (g2 k' hk)⟩)
def sC (owner:Array (Option Nat)) (j:Nat):Prop:=∃ k,owner[j]?=some (some k)
def SN {P:Nat->Bool}{n k:Nat}(h:(List.range n).find? P=some k):k<n/\P k=true/\∀ k'<k,P k'=false:=by
 obtain⟨h1,as,bs,h2,h3⟩:=List.find?_eq_some_iff_append.mp h
 have hlen:as.length=k:=by
  have e:(List.range n)[as.length]?=some k:=by rw[h2];simp
  have:=(Az.mp e)
  obtain⟨q1,q2⟩:=this
  rw[List.getElem_range] at q2
  exact q2
 have hk:k<n:=by
  have:k∈List.range n:=by rw[h2];simp
  exact A6.mp this
 refine⟨hk,h1,λ k' hk'=>?_⟩
 have:k'∈as:=by
  have e:(List.range n)[k']?=some k':=List.getElem?_range (by lia)
  rw[h2,B1 (by lia)] at e
  exact Be e
 have:=h3 k' this
 simpa using this
def getD_none {owner:Array (Option Nat)}{j:Nat}(h:((owner.getD j (some 0)).isNone)=true):owner[j]?=some none:=by
 unfold Array.getD at h
 split at h
 ·rename_i hj
  have e:owner[j]=none:=by simpa using h
  rw[A7 hj,e]
 ·simp at h
def cA {owner:Array (Option Nat)}{j:Nat}(hj:j<owner.size) (h:((owner.getD j (some 0)).isNone)=false):sC owner j:=by
 unfold Array.getD at h
 rw[dif_pos hj] at h
 cases q:owner[j] with
 | none=>simp[q] at h
 | some k=>exact⟨k,by rw[A7 hj,q]⟩
theorem cE (M:Nat) (owner:Array (Option Nat)) (Ar:owner.size=M+1) (h:Int):∀ (fuel n kn:Nat),way M h kn=qm M (zT M h n).1 (zT M h n).2->(∀ q<kn,sC owner (way M h q).j)->
  (∃ n',n<=n'/\n'<n+fuel/\owner[(zT M h n').1]?=some none)->
  ∃ j q,layClean.free M owner fuel (zT M h n).1 (zT M h n).2=some j/\(way M h q).j=j/\owner[j]?=some none/\∀ q'<q,sC owner (way M h q').j
 | 0,n,kn,_,_,⟨n',h1,h2,_⟩=>by lia
 | fuel+1,n,kn,hk,ho,⟨n',h1,h2,h3⟩=>by
  have hre:runEnd M (zT M h n).1+1-(zT M h n).1=runEnd M (zT M h n).1-(zT M h n).1+1:=by unfold runEnd;split <;> lia
  have hwalk:∀ m,m<=runEnd M (zT M h n).1-(zT M h n).1->(way M h (kn+m)).j=(zT M h n).1+m:=λ m hm=>by rw[kI M _ _ h kn hk m hm]
  unfold layClean.free
  cases hf:(List.range (runEnd M (zT M h n).1+1-(zT M h n).1)).find? (λ k=>(owner.getD ((zT M h n).1+k) (some 0)).isNone) with
  | some k=>
   obtain⟨f1,f2,f3⟩:=SN hf
   refine⟨_,kn+k,rfl,hwalk k (by lia),getD_none f2,λ q' hq=>?_⟩
   rcases Bb q' kn with w | w
   ·exact ho q' w
   ·have e:(way M h q').j=(zT M h n).1+(q'-kn):=by
     have:=hwalk (q'-kn) (by lia)
     rwa [show kn+(q'-kn)=q' by lia] at this
    have hle:=lJ M h q'
    rw[e] at hle ⊢
    exact cA (by lia) (f3 (q'-kn) (by lia))
  | none=>
   have f3:=List.find?_eq_none.mp hf
   have occ:∀ m,m<=runEnd M (zT M h n).1-(zT M h n).1->sC owner ((zT M h n).1+m):=λ m hm=>by
    have hle:=lJ M h (kn+m)
    rw[hwalk m hm] at hle
    exact cA (by lia) (Bool.eq_false_iff.mpr (f3 m (A6.mpr (by lia))))
   have An:n'≠n:=λ e=>by
    subst e
    obtain⟨k,hk'⟩:=occ 0 (AM _)
    rw[Nat.add_zero] at hk'
    rw[hk'] at h3;cases h3
   dsimp only
   obtain⟨j,q,r1,r2⟩:=cE M owner Ar h fuel (n+1) _ (fL M h n kn hk) (λ q hq=>by
    rcases Bb q kn with w | w
    ·exact ho q w
    ·have e:=hwalk (q-kn) (by lia)
     rw[show kn+(q-kn)=q by lia] at e
     rw[e];exact occ _ (by lia)) ⟨n',by lia,by lia,h3⟩
   exact⟨j,q,r1,r2⟩
structure Lay (M:Nat) (hs:List Int) (owner:Array (Option Nat)) (m:Nat):Prop where
 size:owner.size=M+1
 below:∀ (j k:Nat),owner[j]?=some (some k)->k<m
 each:∀ (k:Nat),k<m->∃ (j:Nat),owner[j]?=some (some k)
 once:∀ (i j k:Nat),owner[i]?=some (some k)->owner[j]?=some (some k)->i=j
 pQ:∀ (j k:Nat) h,owner[j]?=some (some k)->hs[k]?=some h->∃ q,(way M h q).j=j/\∀ q'<q,sC owner (way M h q').j
theorem Lay.none {M:Nat}(hM:vb M) {hs:List Int}{owner:Array (Option Nat)}{m:Nat}(L:Lay M hs owner m) (hm:m<=M):∃ (e:Nat),e<=M/\owner[e]?=some Option.none:=by
 rcases Classical.em (∃ (e:Nat),e<=M/\owner[e]?=some Option.none) with q | q
 ·exact q
 ·exfalso
  have Ay:∀ (e:Nat),e<=M->∃ (k:Nat),owner[e]?=some (some k):=λ e he=>by
   have Ak:e<owner.size:=by rw[L.size];lia
   cases w:owner[e] with
   | none=>exact absurd ⟨e,he,by rw[A7 Ak,w]⟩ q
   | some k=>exact⟨k,by rw[A7 Ak,w]⟩
  have:=dq (xs:=(List.range (M+1)).map λ e=>((owner[e]?).getD Option.none).getD 0) (ys:=List.range m) (by
   refine Cz.mpr (List.Pairwise.imp_of_mem ?_ Dp)
   intro a b ha hb An e
   refine An ?_
   obtain⟨k,hk⟩:=Ay a (by have:=A6.mp ha;lia)
   obtain⟨k',hk'⟩:=Ay b (by have:=A6.mp hb;lia)
   rw[hk,hk'] at e
   simp at e
   subst e
   exact L.once a b k hk hk') (λ x hx=>by
   obtain⟨e,he,rfl⟩:=AE.mp hx
   obtain⟨k,hk⟩:=Ay e (by have:=A6.mp he;lia)
   rw[hk]
   exact A6.mpr (L.below e k hk))
  simp at this
  lia
def nD {α:Type}{xs:Array α}{j i:Nat}{a b:α}(h:(xs.setIfInBounds j a)[i]?=some b):(i=j/\b=a)\/(i≠j/\xs[i]?=some b):=by
 rw[C4] at h
 by_cases e:j=i
 ·subst e
  rw[if_pos rfl] at h
  split at h
  ·cases h;exact .inl ⟨rfl,rfl⟩
  ·cases h
 ·rw[if_neg e] at h;exact .inr ⟨λ q=>e q.symm,h⟩
def Lay.step {M:Nat}(hM:vb M) {hs:List Int}{owner:Array (Option Nat)}{m:Nat}{h:Int}(L:Lay M hs owner m) (hm:m<=M) (hh:hs[m]?=some h):
  ∃ j,layClean.free M owner (turns M) (bits h%(M+1)) (bits h)=some j/\Lay M hs (owner.setIfInBounds j (some m)) (m+1):=by
 obtain⟨e,e1,e2⟩:=L.none hM hm
 obtain⟨n',n1,n2⟩:=dF M hM h e e1
 obtain⟨j,q,r1,r2,r3,r4⟩:=cE M owner L.size h (turns M) 0 0 rfl (λ q hq=>by lia) ⟨n',by lia,by unfold turns;lia,by rw[n2];exact e2⟩
 have hj:j<owner.size:=(Array.getElem?_eq_some_iff.mp r3).1
 have keep:∀ x,sC owner x->sC (owner.setIfInBounds j (some m)) x:=λ x ⟨k,hk⟩=>by
  have An:j≠x:=λ w=>by subst w;rw[r3] at hk;cases hk
  exact⟨k,by rw[C4,if_neg An];exact hk⟩
 have self:(owner.setIfInBounds j (some m))[j]?=some (some m):=by rw[C4,if_pos rfl,if_pos hj]
 refine⟨j,r1,⟨by simp[L.size],λ x k hx=>?_,λ k hk=>?_,λ x y k hx hy=>?_,λ x k g hx hg=>?_⟩⟩
 ·rcases nD hx with ⟨_,w⟩ | ⟨_,w⟩
  ·cases w;lia
  ·have:=L.below x k w;lia
 ·rcases Bb k m with w | w
  ·obtain⟨x,hx⟩:=L.each k w
   have An:j≠x:=λ w=>by subst w;rw[r3] at hx;cases hx
   exact⟨x,by rw[C4,if_neg An];exact hx⟩
  ·have:k=m:=by lia
   subst this;exact⟨j,self⟩
 ·rcases nD hx with ⟨w1,w⟩ | ⟨w1,w⟩ <;> rcases nD hy with ⟨v1,v⟩ | ⟨v1,v⟩
  ·lia
  ·cases w;have:=L.below y _ v;lia
  ·cases v;have:=L.below x _ w;lia
  ·exact L.once x y k w v
 ·rcases nD hx with ⟨w1,w⟩ | ⟨w1,w⟩
  ·cases w
   rw[hh] at hg;cases hg
   subst w1
   exact⟨q,r2,λ q' hq=>keep _ (r4 q' hq)⟩
  ·obtain⟨q,g1,g2⟩:=L.pQ x k g w hg
   exact⟨q,g1,λ q' hq=>keep _ (g2 q' hq)⟩
theorem dJ {M:Nat}(hM:vb M) {hs:List Int}(hl:hs.length<=M+1):∀ (rest:List Int) (owner:Array (Option Nat)) (m:Nat),m<=hs.length->hs.drop m=rest->Lay M hs owner m->
  ∃ owner',rest.foldl (λ acc h=>do
   let (owner,k) <- acc
   let j <- layClean.free M owner (turns M) (bits h%(M+1)) (bits h)
   pure (owner.setIfInBounds j (some k),k+1)) (some (owner,m))=some (owner',hs.length)/\Lay M hs owner' hs.length
 | [],owner,m,hl2,hd,L=>by
  have hm:hs.length<=m:=List.drop_eq_nil_iff.mp hd
  have e:m=hs.length:=by lia
  subst e;exact⟨owner,rfl,L⟩
 | h::rest,owner,m,hl2,hd,L=>by
  have hm:hs[m]?=some h:=by
   have:=congrArg (λ l=>l[0]?) hd
   simpa using this
  have Ak:m<hs.length:=(Az.mp hm).1
  obtain⟨j,j1,j2⟩:=L.step hM (by lia) hm
  have hd':hs.drop (m+1)=rest:=by
   have:=congrArg List.tail hd
   simpa using this
  obtain⟨o',h1,h2⟩:=dJ hM hl rest _ (m+1) (by lia) hd' j2
  refine⟨o',?_,h2⟩
  rw[List.foldl_cons,<- h1]
  show _=_
  congr 1
  show ((layClean.free M owner (turns M) (bits h%(M+1)) (bits h)).bind λ j=>some (owner.setIfInBounds j (some m),m+1))=_
  rw[j1];rfl
def Tg (M:Nat) (hs:List Int):Lay M hs (Array.replicate (M+1) Option.none) 0:=by
 have no:∀ (j k:Nat),(Array.replicate (M+1) (Option.none:Option Nat))[j]?≠some (some k):=λ j k h=>by
  rw[Array.getElem?_replicate] at h
  split at h <;> cases h
 exact⟨by simp,λ j k h=>absurd h (no j k),λ k hk=>by lia,λ i j k h=>absurd h (no i k),λ j k h e=>absurd e (no j k)⟩
def Th {M:Nat}(hM:vb M) (hashes:Array Int) (hl:hashes.size<=M+1):∃ owner,layClean M hashes=some owner/\Lay M hashes.toList owner hashes.size:=by
 obtain⟨o,h1,h2⟩:=dJ hM (hs:=hashes.toList) (by simpa using hl) hashes.toList _ 0 (AM _) (by simp) (Tg M _)
 refine⟨o,?_,by simpa using h2⟩
 unfold layClean
 rw[<- Array.foldl_toList,h1]
 rfl
noncomputable def lives (M:Nat) (owner:Array (Option Nat)):List (Nat×Nat):=(List.range (M+1)).filterMap λ j=>(owner.getD j Option.none).map (j,·)
def getD_some {owner:Array (Option Nat)}{j k:Nat}:owner.getD j Option.none=some k↔owner[j]?=some (some k):=by
 unfold Array.getD
 split
 ·rename_i h
  rw[A7 h]
  simp
 ·rename_i h
  rw[Cb (by lia)]
  simp
def rq {M:Nat}{owner:Array (Option Nat)}(hs:owner.size=M+1) {j k:Nat}:(j,k)∈lives M owner↔owner[j]?=some (some k):=by
 unfold lives
 rw[Cf]
 constructor
 ·rintro⟨x,hx,e⟩
  obtain⟨y,e1,e2⟩:=Au.mp e
  cases e2
  exact getD_some.mp e1
 ·intro h
  have hj:=(Array.getElem?_eq_some_iff.mp h).1
  exact⟨j,A6.mpr (by lia),by rw[getD_some.mpr h];rfl⟩
def dB (M:Nat) (owner:Array (Option Nat)):(lives M owner).Pairwise λ a b=>a.1<b.1:=by
 unfold lives
 rw[List.pairwise_filterMap]
 refine List.Pairwise.imp ?_ List.pairwise_lt_range
 intro a b Cs x hx y hy
 obtain⟨_,_,e1⟩:=Au.mp hx
 obtain⟨_,_,e2⟩:=Au.mp hy
 subst e1 e2
 exact Cs
def dM {M:Nat}(hM:vb M) (finger moves:Nat) (led plain:Bool) (hashes:Array Int) (hl:hashes.size<=M+1):
  ∃ t order,laid M finger moves led plain hashes=some (t,order)/\t.mask=M/\t.finger=finger/\t.led=led/\t.plain=plain/\order.toList.Perm (List.range hashes.size)/\Tab t (order.toList.map λ k=>hashes.toList.getD k 0):=by
 obtain⟨owner,h1,L⟩:=Th hM hashes hl
 refine⟨_,_,by unfold laid;rw[h1];rfl,rfl,rfl,rfl,rfl,?_,?_⟩
 ·show ((lives M owner).map (·.2)).toArray.toList.Perm _
  rw[Cu]
  refine (Dm ?_ Dp).mpr λ k=>?_
  ·refine Cz.mpr (List.Pairwise.imp_of_mem ?_ (dB M owner))
   intro a b ha hb Cs e
   have h2:=(rq L.size (j:=a.1) (k:=a.2)).mp ha
   have h3:=(rq L.size (j:=b.1) (k:=b.2)).mp hb
   have e:a.2=b.2:=e
   rw[e] at h2
   have:=L.once _ _ _ h2 h3
   lia
  ·rw[A6]
   constructor
   ·intro h
    obtain⟨⟨j,k'⟩,h2,rfl⟩:=AE.mp h
    exact L.below j _ ((rq L.size).mp h2)
   ·intro h
    obtain⟨j,hj⟩:=L.each k h
    exact AE.mpr ⟨(j,k),(rq L.size).mpr hj,rfl⟩
 ·have pl:∀ x,x∈(lives M owner).map (·.1)↔sC owner x:=λ x=>by
   constructor
   ·intro h
    obtain⟨⟨j,k⟩,h2,rfl⟩:=AE.mp h
    exact⟨k,(rq L.size).mp h2⟩
   ·rintro⟨k,hk⟩
    exact AE.mpr ⟨(x,k),(rq L.size).mpr hk,rfl⟩
  refine⟨hM,rfl,?_,?_,?_,?_⟩
  ·show ((lives M owner).map (·.1)).toArray.size=(((lives M owner).map (·.2)).toArray.toList.map _).length
   simp
  ·show uh ((lives M owner).map (·.1)).toArray.toList
   rw[Cu]
   exact Cz.mpr (dB M owner)
  ·intro x hx
   show x<=M
   have hx:x∈((lives M owner).map (·.1)).toArray.toList:=hx
   rw[Cu] at hx
   obtain⟨k,hk⟩:=(pl x).mp hx
   have:=(Array.getElem?_eq_some_iff.mp hk).1
   rw[L.size] at this
   lia
  ·intro i g x hg hx
   have hx:((lives M owner).map (·.1)).toArray[i]?=some x:=hx
   have hg:(((lives M owner).map (·.2)).toArray.toList.map λ k=>hashes.toList.getD k 0)[i]?=some g:=hg
   rw[List.getElem?_toArray,AA] at hx
   rw[Cu,AA,AA] at hg
   obtain⟨p,p1,p2⟩:=Au.mp hx
   rw[p1] at hg
   simp only[Option.map_some,Option.some.injEq] at hg
   obtain⟨j,k⟩:=p
   cases p2
   have hm:=(rq L.size).mp (Be p1)
   have hk:=L.below _ _ hm
   obtain⟨q,q1,q2⟩:=L.pQ _ k g hm (by rw[<- hg];simp[hk])
   refine⟨q,q1,λ q' hq=>?_⟩
   show _∈((lives M owner).map (·.1)).toArray.toList
   rw[Cu]
   exact (pl _).mpr (q2 q' hq)
section
variable {prog:Program}{w:World}{A:Around}{E:Value->Shared->Prop}{s:Shared}
abbrev rk (prog:Program) (w:World):HeapKind prog w (List Int):=tupleKind (intKind prog w)
def items_int {ks:List Int}{vs:List Value}(h:ItemsAre (intKind prog w) ks vs):∀ v∈vs,∃ n t,v=.int n t:=by
 induction h with
 | nil=>intro v hv;cases hv
 | cons h1 _ ih=>
  intro v hv
  rcases Aj.mp hv with rfl | hv
  ·obtain⟨t,e⟩:=Value.isInt_shape h1
   exact⟨_,t,e⟩
  ·exact ih v hv
def du {ks:List Int}{a:Addr}{Q:Bool->Shared->Prop}(hk:IsTupleKey (intKind prog w) s.heap ks a) (h:Q false s):wpAny (model prog w) A (ofAClassStatement 8 (.ref a)) Q E s:=by
 have hT:=hk.typeIs
 obtain⟨o,items,n,ho,_,hd,hi⟩:=hk
 unfold ofAClassStatement
 refine za0 (zaG hT ?_)
 show wpAny _ _ (pure true >>= _) _ _ s
 refine za0 (Ab ?_)
 simp only[Ck,A3,if_false]
 refine za0 (zaE ho hd ?_)
 dsimp only
 refine za0 ?_
 show wpAny _ _ (forIn items _ _) _ _ s
 rw[<- Array.forIn_toList]
 refine wpAny_forIn_list _ (λ rest r s'=>r.1=none/\s'=s/\∀ v∈rest,∃ n t,v=.int n t) _ ?_ ?_ _ _ ⟨rfl,rfl,items_int hi⟩
 ·rintro v rest r s' ⟨hr,rfl,Ay⟩
  obtain⟨m,t,rfl⟩:=Ay v Ap
  show wpAny _ _ (pure false >>= _) _ _ _
  refine za0 (Ab ?_)
  simp only[A3,if_false]
  exact Ab ⟨rfl,rfl,λ u hu=>Ay u (Av _ hu)⟩
 ·rintro⟨r1,r2⟩ s' ⟨hr,rfl,_⟩
  simp only at hr
  subst hr
  exact Ab h
def Sb {ks:List Int}{a:Addr}{Q:Bool->Shared->Prop}(hk:IsTupleKey (intKind prog w) s.heap ks a) (h:Q true s):wpAny (model prog w) A (hashByValue 8 (.ref a)) Q E s:=by
 have hT:=hk.typeIs
 obtain⟨o,items,n,ho,_,hd,hi⟩:=hk
 unfold hashByValue
 refine za0 (wpAny_specialOf hT F.slot_tuple_hash.lookup ?_)
 dsimp only
 refine za0 (zaE ho hd ?_)
 refine za0 ?_
 show wpAny _ _ (forIn items _ _) _ _ s
 rw[<- Array.forIn_toList]
 refine wpAny_forIn_list _ (λ rest r s'=>r.1=none/\s'=s/\∀ v∈rest,∃ n t,v=.int n t) _ ?_ ?_ _ _ ⟨rfl,rfl,items_int hi⟩
 ·rintro v rest r s' ⟨hr,rfl,Ay⟩
  obtain⟨m,t,rfl⟩:=Ay v Ap
  show wpAny _ _ (pure true >>= _) _ _ _
  refine za0 (Ab ?_)
  simp only[Ck,A3,if_false]
  exact Ab ⟨rfl,rfl,λ u hu=>Ay u (Av _ hu)⟩
 ·rintro⟨r1,r2⟩ s' ⟨hr,rfl,_⟩
  simp only at hr
  subst hr
  exact Ab h
def Z5 {ks:List Int}{b:Addr}{Q:Bool->Shared->Prop}(hk:IsTupleKey (intKind prog w) s.heap ks b) (l:List Value) (hl:∀ v∈l,∃ k c,v=.ref c/\IsTupleKey (intKind prog w) s.heap k c) (h:Q false s):
  wpAny (model prog w) A (searchCouldBeSeen (.ref b) l) Q E s:=by
 unfold searchCouldBeSeen
 refine za0 ?_
 refine wpAny_forIn_list _ (λ rest r s'=>r.1=none/\s'=s/\∀ v∈rest,∃ k c,v=.ref c/\IsTupleKey (intKind prog w) s.heap k c) _ ?_ ?_ _ _ ⟨rfl,rfl,hl⟩
 ·rintro v rest r s' ⟨hr,rfl,Ay⟩
  obtain⟨k,c,rfl,hc⟩:=Ay v Ap
  have rest':∀ u∈rest,∃ k c,u=Value.ref c/\IsTupleKey (intKind prog w) s'.heap k c:=λ u hu=>Ay u (Av _ hu)
  dsimp only
  by_cases e:(b == c||(carriedByValue (.ref b)&&carriedByValue (.ref c)))=true
  ·rw[if_pos e]
   exact Ab ⟨rfl,rfl,rest'⟩
  ·rw[if_neg e]
   refine za0 ((rk prog w).quiet hk ?_)
   simp only[Ck,A3,if_false]
   refine za0 ((rk prog w).quiet hc ?_)
   simp only[Ck,A3,if_false]
   refine za0 (du hk ?_)
   simp only[A3,if_false]
   refine za0 (du hc ?_)
   simp only[A3,if_false]
   exact Ab ⟨rfl,rfl,rest'⟩
 ·rintro⟨r1,r2⟩ s' ⟨hr,rfl,_⟩
  simp only at hr
  subst hr
  exact Ab h
structure sH (h:Heap) (es:Array (Int×Value)) (t:SetTable) (xs:List (List Int×Addr)):Prop where
 es:es.toList=xs.map λ e=>((rk prog w).hash e.1,Value.ref e.2)
 is:∀ e∈xs,IsTupleKey (intKind prog w) h e.1 e.2
 tab:Tab t (xs.map λ e=>(rk prog w).hash e.1)
 j_:xs.length<=t.mask
theorem sH.fits {h:Heap}{es:Array (Int×Value)}{t:SetTable}{xs:List (List Int×Addr)}(X:sH (prog:=prog) (w:=w) h es t xs):t.fits es.size=true:=by
 have hl:es.size=xs.length:=by have:=congrArg List.length X.es;simpa using this
 have h1:=X.tab.len
 rw[Aq] at h1
 have h2:=X.j_
 unfold SetTable.fits SetTable.fill
 rw[X.tab.sh,hl,h1]
 simp
 lia
def sH.at {h:Heap}{es:Array (Int×Value)}{t:SetTable}{xs:List (List Int×Addr)}(X:sH (prog:=prog) (w:=w) h es t xs) {i:Nat}{e:List Int×Addr}(he:xs[i]?=some e):es[i]?=some ((rk prog w).hash e.1,Value.ref e.2):=by
 rw[<- Br,X.es,AA,he];rfl
theorem fD {a:Addr}{o:Obj}{es:Array (Int×Value)}{ep:Nat}{t:SetTable}{xs:List (List Int×Addr)}{key:List Int}{b:Addr}{Q:SetFound->Shared->Prop}
  (hu:A.units<cLine) (ho:s.heap.get? a=some o) (hd:o.data=.set es ep t) (X:sH (prog:=prog) (w:=w) s.heap es t xs) (hb:IsTupleKey (intKind prog w) s.heap key b)
  (h1:key∈xs.map (·.1)->Q (.there none) s) (h2:key∉xs.map (·.1)->∀ j,iQ t ((rk prog w).hash key) j->Q (.free j false) s):
  ∀ (fuel k:Nat) (stand:Option Probe),stand.getD (t.probeStart ((rk prog w).hash key))=way t.mask ((rk prog w).hash key) k->(∀ m<k,∃ (i:Nat) (e:List Int×Addr),t.place[i]?=some (way t.mask ((rk prog w).hash key) m).j/\xs[i]?=some e/\e.1≠key)->(∃ K,k<=K/\K<k+fuel/\K<10*(t.mask+15)/\(way t.mask ((rk prog w).hash key) K).j∉t.place.toList/\∀ m<K,(way t.mask ((rk prog w).hash key) m).j∈t.place.toList)->
   wpAny (model prog w) A (setSearchFrom a (.ref b) ((rk prog w).hash key) true fuel stand) Q E s
 | 0,k,stand,_,_,⟨K,q1,q2,_⟩=>by lia
 | fuel+1,k,stand,Aw,hpast,⟨K,q1,q2,q3,q4,q5⟩=>by
  have T:=X.tab
  have DQ:t.gaveWay=false:=by
   unfold SetTable.gaveWay
   rcases T.mask with e | e | e <;> rw[e] <;> rfl
  unfold setSearchFrom
  refine za0 (zaA ho hd X.fits ?_)
  dsimp only
  rw[DQ]
  simp only[A3,if_false]
  have hA:∀ (i:Nat) g,(xs.map λ e=>(rk prog w).hash e.1)[i]?=some g->((es[i]?).map (·.1)).getD 0=g:=λ i g hg=>by
   rw[AA] at hg
   obtain⟨e,e1,e2⟩:=Au.mp hg
   rw[X.at e1];exact e2
  obtain⟨k1,g1,g2,g3⟩:=c8 T (hashAt:=λ i=>((es[i]?).map (·.1)).getD 0) hA ((rk prog w).hash key) (10*turns t.mask) k ⟨K,q1,by unfold turns;lia,q4⟩
  rw[Aw]
  have look:∀ (i:Nat) g,(xs.map λ e=>(rk prog w).hash e.1)[i]?=some g->∃ e,xs[i]?=some e/\(rk prog w).hash e.1=g:=λ i g hg=>by
   rw[AA] at hg
   obtain⟨e,e1,e2⟩:=Au.mp hg
   exact⟨e,e1,e2⟩
  have hpast':∀ m<k1,∃ (i:Nat) (e:List Int×Addr),t.place[i]?=some (way t.mask ((rk prog w).hash key) m).j/\xs[i]?=some e/\e.1≠key:=λ m hm=>by
   rcases Bb m k with c | c
   ·exact hpast m c
   ·obtain⟨i,g,p1,p2,p3⟩:=g2 m c hm
    obtain⟨e,e1,e2⟩:=look i g p2
    exact⟨i,e,p1,e1,λ q=>p3 (by rw[<- e2,q])⟩
  rcases g3 with ⟨n1,n2⟩ | ⟨i,n1,n2,n3⟩
  ·have n2':t.probe _ ((rk prog w).hash key) (way t.mask ((rk prog w).hash key) k)=_:=n2
   simp only[SetTable.probe] at n2' ⊢
   erw [n2]
   dsimp only
   refine Ab (h2 (λ hm=>?_) _ ⟨n1,k1,rfl,λ m hm=>?_⟩)
   ·obtain⟨e,he,ek⟩:=AE.mp hm
    obtain⟨i,hi⟩:=C3.mp he
    have hh:(xs.map λ e=>(rk prog w).hash e.1)[i]?=some ((rk prog w).hash key):=by rw[AA,hi,<- ek];rfl
    have B9:i<t.place.size:=by rw[T.len];exact (Az.mp hh).1
    obtain⟨kk,w1,w2⟩:=T.pQ i _ _ hh (A7 B9)
    rcases C5 kk k1 with c | c | c
    ·obtain⟨i',e',p1,p2,p3⟩:=hpast' kk c
     rw[w1] at p1
     have:i=i':=by
      rw[<- below_at T.wo (A7 B9),<- below_at T.wo p1]
     subst this
     rw[hi] at p2;cases p2
     exact p3 ek
    ·subst c;rw[w1] at n1;exact n1 (by simp)
    ·exact n1 (w2 k1 c)
   ·obtain⟨i',e',p1,_⟩:=hpast' m hm
    exact Be (by rw[Br];exact p1)
  ·simp only[SetTable.probe]
   erw [n3]
   dsimp only
   obtain⟨e,e1,e2⟩:=look i _ n2
   have hes:=X.at e1
   have hey:=X.is e (Be e1)
   have main:wpAny (model prog w) A (holding [Value.ref e.2] (eqBool (.ref e.2) (.ref b)) >>= λ equal=>setState a >>= λ x=>match x with
     | (es',_,t')=>if (true&&equal)=true then pure (SetFound.there none) else
      match t'.sameMemory t.moves t.mask with
      | some same=>
       have jp:=λ still=>match still with
        | none=>do
         rule "set.search.anew"
         setSearchFrom a (.ref b) ((rk prog w).hash key) true fuel none
        | some i'=>if equal=true then pure (SetFound.there (some i')) else setSearchFrom a (.ref b) ((rk prog w).hash key) true fuel (some (way t.mask ((rk prog w).hash key) (k1+1)))
       match if same=true then t'.slot (way t.mask ((rk prog w).hash key) k1).j else Slot.empty with
       | .live i'=>match es'[i']? with
        | some (_,y')=>do
         let r <- isSame y' (.ref e.2)
         let still <- pure (if r=true then some i' else none)
         jp still
        | none=>do
         let still <- pure none
         jp still
       | _=>do
        let still <- pure none
        jp still
      | _=>unsupported "set.changed-during-lookup:is-the-new-block-at-the-old-address") Q E s:=by
    refine za0 (za5 ((rk prog w).eqBool hu hey hb ?_))
    refine za0 (zaA ho hd X.fits ?_)
    dsimp only
    by_cases hk:e.1=key
    ·rw[zaJ hk]
     simp only[C8,if_true]
     exact Ab (h1 (AE.mpr ⟨e,Be e1,hk⟩))
    ·rw[za7 hk]
     simp only[C7,A3,if_false]
     have sm:t.sameMemory t.moves t.mask=some true:=by unfold SetTable.sameMemory;simp
     rw[sm]
     dsimp only
     rw[if_pos rfl,T.live n1]
     dsimp only
     rw[hes]
     dsimp only
     refine za0 (wpAny_isSame_ref_self ?_)
     refine za0 (Ab ?_)
     rw[if_pos rfl]
     dsimp only
     have hKk:k1<K:=by
      rcases C5 K k1 with c | c | c
      ·obtain⟨i',e',p1,_⟩:=hpast' K c
       exact absurd (Be (by rw[Br];exact p1)) q4
      ·subst c
       exact absurd (Be (by rw[Br];exact n1)) q4
      ·exact c
     refine fD hu ho hd X hb h1 h2 fuel (k1+1) _ rfl (λ m hm=>?_) ⟨K,by lia,by lia,q3,q4,q5⟩
     rcases Bb m k1 with c | c
     ·exact hpast' m c
     ·have:m=k1:=by lia
      subst this
      exact⟨i,e,n1,e1,hk⟩
   rw[hes]
   by_cases hl:t.led=true
   ·rw[hl]
    simp only[Ck,A3,if_false]
    exact main
   ·have hl':t.led=false:=by simpa using hl
    rw[hl']
    simp only[Cm,if_true]
    refine za0 (Z5 hb _ (λ v hv=>?_) ?_)
    ·obtain⟨p,hp,rfl⟩:=AE.mp hv
     rw[Array.toList_filter,DA,X.es] at hp
     obtain⟨⟨e',he',rfl⟩,_⟩:=(And.intro (AE.mp hp.1) hp.2)
     exact⟨e'.1,e'.2,rfl,X.is e' he'⟩
    ·simp only[A3,if_false]
     exact main
structure vo (prog:Program) (w:World) (h:Heap) (a:Addr) (xs:List (List Int×Addr)) (led:Bool):Prop where
 ex:∃ es ep t,h.get? a=some { cls:=.type "set",dict:=none,data:=.set es ep t }/\sH (prog:=prog) (w:=w) h es t xs/\t.led=led/\t.plain=true/\xs.length*5<t.mask*3
 nd:(xs.map (·.1)).Nodup
def lP {h h':Heap}{ks:List Int}{b a:Addr}{es:Array (Int×Value)}{ep:Nat}{t:SetTable}{c:Value}{d:Option Addr}{sl:Array (Option Value)}(x:IsTupleKey (intKind prog w) h ks b) (ho:h.get? a=some { cls:=c,dict:=d,data:=.set es ep t,slots:=sl }) (hs:Heap.SameBut a h h'):IsTupleKey (intKind prog w) h' ks b:=by
 obtain⟨o',items,n,ho',hc,hd',hi⟩:=x
 have An:b≠a:=by
  rintro rfl
  obtain rfl:o'=_:=AY (ho'.symm.trans ho)
  cases hd'
 exact⟨o',items,n,(hs.2 b An).trans ho',hc,hd',hi⟩
def nR {h:Heap}{a:Addr}{es es':Array (Int×Value)}{ep:Nat}{t t':SetTable}(ho:h.get? a=some { cls:=.type "set",dict:=none,data:=.set es ep t }):(h.update a (Obj.putSet es' t')).get? a=some { cls:=.type "set",dict:=none,data:=.set es' (ep+1) t' }:=by
 have e:Obj.putSet es' t' { cls:=.type "set",dict:=none,data:=.set es ep t }={ cls:=.type "set",dict:=none,data:=.set es' (ep+1) t' }:=putSet_of es' t' rfl
 have:=za6 (Obj.putSet es' t') ho (by rw[e];rfl)
 rw[e] at this;exact this
theorem kT {α β:Type}(l:List α) (f:α->β) (d:β):∀ (order:List Nat),(∀ k∈order,k<l.length)->order.map (λ k=>(l.map f).getD k d)=(order.filterMap λ k=>l[k]?).map f
 | [],_=>rfl
 | k::order,h=>by
  have hk:=h k Ap
  have ih:=kT l f d order λ j hj=>h j (Av _ hj)
  rw[Ax,Ci,BL hk]
  dsimp only
  rw[Ax,ih]
  congr 1
  simp[hk]
def YU {a:Addr}{es:Array (Int×Value)}{ep:Nat}{t:SetTable}{xs:List (List Int×Addr)}{led:Bool}{wanted M:Nat}{Q:Unit->Shared->Prop}
  (ho:s.heap.get? a=some { cls:=.type "set",dict:=none,data:=.set es ep t }) (X:sH (prog:=prog) (w:=w) s.heap es t xs) (Bl:t.led=led) (Ag:t.plain=true) (hM:vb M) (hw:sizeAbove wanted=M+1) (AL:xs.length*5<M*3) (Bs:(xs.map (·.1)).Nodup)
  (h:∀ h' xs',Heap.SameBut a s.heap h'->vo prog w h' a xs' led->xs'.Perm xs->Q () { s with heap:=h' }):wpAny (model prog w) A (setRelay a wanted) Q E s:=by
 have hlen:es.size=xs.length:=by have:=congrArg List.length X.es;simpa using this
 have DW:(es.map (·.1)).toList=xs.map λ e=>(rk prog w).hash e.1:=by rw[Array.toList_map,X.es,Bp];rfl
 have Ar:(es.map (·.1)).size=xs.length:=by rw[CA,hlen]
 obtain⟨t',order,h1,h2,h3,h4,h5,h6,h7⟩:=dM hM t.finger (t.movedTo M) t.led t.plain (es.map (·.1)) (by rw[Ar];lia)
 rw[Ar] at h6
 have Ak:∀ k∈order.toList,k<xs.length:=λ k hk=>by simpa using h6.mem_iff.mp hk
 unfold setRelay
 refine za0 (zaA ho rfl X.fits ?_)
 dsimp only
 rw[if_neg (by rw[hw];rcases hM with e | e | e <;> rw[e] <;> decide)]
 have hr:t.relaid (es.map (·.1)) wanted=some (t',order):=by
  unfold SetTable.relaid
  rw[hw,Nat.add_sub_cancel];exact h1
 rw[hr]
 have BA:(order.filterMap (es[·]?)).toList=(order.toList.filterMap λ k=>xs[k]?).map λ e=>((rk prog w).hash e.1,Value.ref e.2):=by
  rw[Array.toList_filterMap,List.map_filterMap]
  congr 1
  funext k
  rw[<- Br,X.es,AA]
 have hperm:(order.toList.filterMap λ k=>xs[k]?).Perm xs:=(h6.filterMap _).trans (by rw[List.filterMap_getElem?_range_length])
 have Bw:(order.filterMap (es[·]?)).size=es.size:=by
  rw[<- Bd,BA,Aq,hperm.length_eq,hlen]
 refine za0 (m:=_) ?_
 show wpAny _ _ (do
  let some (t,order):=some (t',order) | unsupported "internal:set-table-without-room"
  let es':=order.filterMap (es[·]?)
  if es'.size != es.size then unsupported "internal:set-table-lost-an-element"
  pure (es',t)) _ _ _
 dsimp only
 rw[if_neg (by rw[Bw];simp)]
 refine Ab ?_
 have BF:(order.filterMap (es[·]?)).size<=sizeLine:=by
  rw[Bw,hlen]
  have:sizeLine=16777216:=rfl
  rcases hM with e | e | e <;> subst e <;> lia
 refine wpAny_storeSet_of ho rfl ?_ BF
 have sb:=Heap.SameBut.update s.heap a (Obj.putSet (order.filterMap (es[·]?)) t')
 refine h _ _ sb ⟨⟨_,ep+1,t',nR ho,⟨BA,λ e he=>lP (X.is e (hperm.mem_iff.mp he)) ho sb,?_,?_⟩,by rw[h4];exact Bl,by rw[h5];exact Ag,?_⟩,(hperm.map _).nodup_iff.mpr Bs⟩ hperm
 ·rw[<- kT xs (λ e=>(rk prog w).hash e.1) 0 order.toList Ak,<- DW]
  exact h7
 ·rw[hperm.length_eq,h2];lia
 ·rw[hperm.length_eq,h2];exact AL
def fA (n:Nat) (M:Nat) (hM:vb M) (h1:n*5<M*3) (h2:M*3<=(n+1)*5) (hn:n<70):∃ M',vb M'/\sizeAbove (grown (n+1))=M' + 1/\(n+1)*5<M'*3:=by
 rcases hM with e | e | e <;> subst e
 ·have:n=4:=by lia
  subst this;exact⟨31,.inr (.inl rfl),by decide +kernel,by lia⟩
 ·have:n=18:=by lia
  subst this;exact⟨127,.inr (.inr rfl),by decide +kernel,by lia⟩
 ·lia
def Qg {a:Addr}{xs:List (List Int×Addr)}{key:List Int}{b:Addr}{led:Bool}{Q:Bool->Shared->Prop}(hu:A.units<cLine) (S:vo prog w s.heap a xs led) (hb:IsTupleKey (intKind prog w) s.heap key b) (hn:xs.length<70)
  (h:∀ h' xs' r,Heap.SameBut a s.heap h'->vo prog w h' a xs' led->(key∈xs.map (·.1)/\xs'=xs\/key∉xs.map (·.1)/\xs'.Perm (xs++[(key,b)]))->Q r { s with heap:=h' }):
  wpAny (model prog w) A (setAddHashed a (.ref b) ((rk prog w).hash key)) Q E s:=by
 obtain⟨⟨es,ep,t,ho,X,Bl,Ag,AL⟩,Bs⟩:=S
 have hlen:es.size=xs.length:=by have:=congrArg List.length X.es;simpa using this
 unfold setAddHashed setAddHashedIn
 refine za5 (za0 (zaA ho rfl X.fits ?_))
 dsimp only
 rw[if_neg (by simp[byScan,Value.scannable])]
 obtain⟨K,k1,k2,k3⟩:=X.tab.first (by rw[Aq];exact X.j_) ((rk prog w).hash key)
 have hmk:t.mask<=127:=by rcases X.tab.mask with e | e | e <;> lia
 refine za0 ?_
 unfold setSearch
 refine fD (key:=key) (b:=b) hu ho rfl X hb (λ hm=>?_) (λ hm j F=>?_) 100000 0 none rfl (λ m hm=>by lia) ⟨K,by lia,by lia,k1,k2,k3⟩
 ·dsimp only
  refine Ab ?_
  have:=h s.heap xs false ⟨rfl,λ _ _=>rfl⟩ ⟨⟨es,ep,t,ho,X,Bl,Ag,AL⟩,Bs⟩ (.inl ⟨hm,rfl⟩)
  exact this
 ·dsimp only
  refine za0 (zaA ho rfl X.fits ?_)
  dsimp only
  obtain⟨p1,p2,p3⟩:=X.tab.put F
  rw[Aq] at p1
  have B6:(t.put j).1.plain=true:=by rw[p2];exact Ag
  have BO:(t.put j).1.mask=t.mask:=by rw[p2]
  have Ak:(t.put j).1.led=led:=by rw[p2];exact Bl
  generalize hT:(t.put j)=P at *
  obtain⟨t1,p⟩:=P
  dsimp only at *
  rw[B6]
  simp only[if_true]
  refine za0 (Sb hb ?_)
  simp only[if_true]
  let xs1:=xs.take p++(key,b)::xs.drop p
  have hperm:xs1.Perm (xs++[(key,b)]):=by
   have e:xs.take p++xs.drop p=xs:=Dn p xs
   have:xs1.Perm ((key,b)::(xs.take p++xs.drop p)):=List.perm_middle
   rw[e] at this
   exact this.trans (List.perm_append_singleton _ _).symm
  have hl1:xs1.length=xs.length+1:=by rw[hperm.length_eq];simp
  have hes1:(insertAt es p ((rk prog w).hash key,Value.ref b)).toList=xs1.map λ e=>((rk prog w).hash e.1,Value.ref e.2):=by
   rw[toList_insertAt,X.es]
   simp[xs1,C2,C1]
  have hsz1:(insertAt es p ((rk prog w).hash key,Value.ref b)).size=xs.length+1:=by rw[<- Bd,hes1,Aq,hl1]
  have BF:(insertAt es p ((rk prog w).hash key,Value.ref b)).size<=sizeLine:=by
   rw[hsz1]
   have:sizeLine=16777216:=rfl
   lia
  refine za0 (wpAny_storeSet_of ho rfl ?_ BF)
  have sb:=Heap.SameBut.update s.heap a (Obj.putSet (insertAt es p ((rk prog w).hash key,Value.ref b)) t1)
  have ho1:=nR (es':=insertAt es p ((rk prog w).hash key,Value.ref b)) (t':=t1) ho
  have hm7:7<=t.mask:=by rcases X.tab.mask with e | e | e <;> lia
  have X1:sH (prog:=prog) (w:=w) (s.heap.update a (Obj.putSet (insertAt es p ((rk prog w).hash key,Value.ref b)) t1)) (insertAt es p ((rk prog w).hash key,Value.ref b)) t1 xs1:=by
   refine⟨hes1,λ e he=>?_,?_,by rw[hl1,BO];lia⟩
   ·rcases A1.mp (hperm.mem_iff.mp he) with q | q
    ·exact lP (X.is e q) ho sb
    ·cases AF.mp q;exact lP hb ho sb
   ·have:xs1.map (λ e=>(rk prog w).hash e.1)=(xs.map λ e=>(rk prog w).hash e.1).take p++(rk prog w).hash key::(xs.map λ e=>(rk prog w).hash e.1).drop p:=by simp[xs1,C2,C1]
    rw[this];exact p3
  have hnd1:(xs1.map (·.1)).Nodup:=by
   refine (hperm.map _).nodup_iff.mpr ?_
   rw[B2,List.nodup_append]
   refine⟨Bs,by simp,λ x hx y hy=>?_⟩
   simp at hy
   subst hy
   exact λ e=>hm (e▸hx)
  by_cases hf:t1.tooFull=true
  ·rw[hf]
   simp only[Cm,C8,if_true]
   have hfill:t1.fill=xs.length+1:=by
    unfold SetTable.fill
    rw[p3.sh,p3.len]
    simp
    lia
   have hfull:t.mask*3<=(xs.length+1)*5:=by
    have:=hf
    unfold SetTable.tooFull at this
    rw[hfill,BO] at this
    simpa using this
   obtain⟨M',g1,g2,g3⟩:=fA xs.length t.mask X.tab.mask AL hfull hn
   rw[hlen]
   refine za0 (YU (led:=led) ho1 X1 Ak B6 g1 g2 (by rw[hl1];exact g3) hnd1 λ h' xs' sb' S' pm=>?_)
   refine Ab ?_
   exact h h' xs' true (sb.trans sb') S' (.inr ⟨hm,pm.trans hperm⟩)
  ·have hf':t1.tooFull=false:=by simpa using hf
   rw[hf']
   simp only[Cm,C7,A3,if_false]
   refine Ab ?_
   have hfill:t1.fill=xs.length+1:=by
    unfold SetTable.fill
    rw[p3.sh,p3.len]
    simp
    lia
   have hfull:(xs.length+1)*5<t.mask*3:=by
    have:=hf'
    unfold SetTable.tooFull at this
    rw[hfill,BO] at this
    simpa using this
   exact h _ xs1 true sb ⟨⟨_,ep+1,t1,ho1,X1,Ak,B6,by rw[hl1,BO];exact hfull⟩,hnd1⟩ (.inr ⟨hm,hperm⟩)
end
noncomputable def vf (w:World):Bool:=!w.params.followText "set-order"
def yN (w:World):Obj:={ cls:=.type "set",dict:=none,data:=.set #[] 0 (.fresh 0 0 (vf w)) }
section
variable {prog:Program}{w:World}{A:Around}{E:Value->Shared->Prop}{s:Shared}
set_option maxHeartbeats 3200000 in
def bA (a:Value) {Q:Value->Shared->Prop}(h:Q (.ref s.heap.objs.size) { s with heap:=s.heap.push (yN w) }):
  codeAny (model prog w) A (.call (.builtin "set.__new__") ⟨[.type "set",a],[]⟩) (wants Q E) s:=by
 refine codeAny_of_tree ?_
 show wpAny _ A.in1 (checkBuiltinCall "set.__new__" ⟨[.type "set",a],[]⟩ >>= λ _=>again (.builtin "set.__new__" ⟨[.type "set",a],[]⟩)) _ _ s
 refine za0 (wpAny_of_eq (F.newCall_set_1 a) (Ab ⟨plainId_quiet F.plain_set_new _,codeAny_builtin F.entry_set_new ?_⟩))
 rw[Around.under_plainId F.plain_set_new _]
 unfold Builtin.«set.__new__» Builtin.Frozenset.newClass newSet setsByText
 have sub:=sub_set_self
 obtain⟨hp,g,d,tk,os⟩:=s
 dsimp only
 wp_walk
 refine zaP (Ab ?_)
 dsimp only
 simp only[newObj]
 exact za0 (wpAny_alloc (Ab (Ab h)))
def Y0 {h:Heap}{a:Addr}(ho:h.get? a=some (yN w)):vo prog w h a [] (vf w):=
 ⟨⟨#[],0,_,ho,⟨rfl,λ e he=>(by cases he),⟨.inl rfl,rfl,rfl,.nil,λ j hj=>(by cases hj),λ i g j hg=>(by cases hg)⟩,by simp⟩,rfl,rfl,by show 0*5<7*3;lia⟩,.nil⟩
end
end ST
namespace ST
open PySem PySem.SetTable PyProof.Rows
structure Up (its:Array Value) (rows:List (List Int)) (i:Nat) (xs:List (List Int×Addr)):Prop where
 own:∀ e∈xs,∃ j,j<i/\its[j]?=some (.ref e.2)/\rows[j]?=some e.1
 all:∀ (j:Nat) r,j<i->rows[j]?=some r->r∈xs.map (·.1)
def Up.len {its:Array Value}{rows:List (List Int)}{i:Nat}{xs:List (List Int×Addr)}(U:Up its rows i xs) (nd:(xs.map (·.1)).Nodup):xs.length<=i:=by
 have:∀ x∈xs.map (·.1),x∈(List.range i).map λ j=>rows.getD j []:=λ x hx=>by
  obtain⟨e,he,rfl⟩:=AE.mp hx
  obtain⟨j,h1,_,h3⟩:=U.own e he
  refine AE.mpr ⟨j,A6.mpr h1,?_⟩
  rw[DB,h3];rfl
 have key:∀ (l m:List (List Int)),l.Nodup->(∀ x∈l,x∈m)->l.length<=m.length:=by
  intro l
  induction l with
  | nil=>intro m _ _;exact AM _
  | cons x l ih=>
   intro m hn hs
   have h1:=A2.mp hn
   have hx:=hs x Ap
   have:=ih (m.erase x) h1.2 λ z hz=>(Dr (λ e:z=x=>h1.1 (by rw[<- e];exact hz))).mpr (hs z (Av _ hz))
   rw[Dq hx] at this
   have:=C6 hx
   simp only[A0];lia
 have:=key _ _ nd this
 simpa using this
def Up.step {its:Array Value}{rows:List (List Int)}{i:Nat}{xs xs':List (List Int×Addr)}{key:List Int}{b:Addr}(U:Up its rows i xs) (hi:its[i]?=some (.ref b)) (hr:rows[i]?=some key)
  (h:key∈xs.map (·.1)/\xs'=xs\/key∉xs.map (·.1)/\xs'.Perm (xs++[(key,b)])):Up its rows (i+1) xs':=by
 rcases h with ⟨hm,rfl⟩ | ⟨_,hp⟩
 ·refine⟨λ e he=>?_,λ j r hj A8=>?_⟩
  ·obtain⟨j,h1,h2⟩:=U.own e he
   exact⟨j,by lia,h2⟩
  ·rcases Bb j i with q | q
   ·exact U.all j r q A8
   ·have:j=i:=by lia
    subst this
    rw[hr] at A8;cases A8;exact hm
 ·refine⟨λ e he=>?_,λ j r hj A8=>?_⟩
  ·rcases A1.mp (hp.mem_iff.mp he) with q | q
   ·obtain⟨j,h1,h2⟩:=U.own e q
    exact⟨j,by lia,h2⟩
   ·cases AF.mp q
    exact⟨i,by lia,hi,hr⟩
  ·have hp':=hp.map (·.1)
   rw[hp'.mem_iff,B2]
   rcases Bb j i with q | q
   ·exact Cg _ (U.all j r q A8)
   ·have:j=i:=by lia
    subst this
    rw[hr] at A8;cases A8
    exact AN _ Ap
section
variable {prog:Program}{w:World}{A:Around}{R:Result->Shared->Prop}{I:Addr}{fp wr:List Addr}{G:Array GenState->Array GenState->Prop}{n:Nat}{P:Nat->Value->Prop}{St:Nat->Shared->Prop}
def rJ (prog:Program) (w:World) (h:Heap) (its:Array Value) (rows:List (List Int)):Prop:=∀ (i:Nat) v,its[i]?=some v->∃ b r,v=.ref b/\rows[i]?=some r/\IsTupleKey (intKind prog w) h r b
def rJ.at {h h':Heap}{its:Array Value}{rows:List (List Int)}(T:rJ prog w h its rows) (k:∀ (i:Nat) b,its[i]?=some (.ref b)->∀ o,h.get? b=some o->h'.get? b=some o):rJ prog w h' its rows:=λ i v hv=>by
 obtain⟨b,r,rfl,h1,o,items,m,h2,h3⟩:=T i v hv
 exact⟨b,r,rfl,h1,o,items,m,k i b hv o h2,h3⟩
def UW (W:WalksS prog w A.in1 I fp wr G n (λ i v=>P i v) St) (Sa:Addr) (hSf:Sa∉fp) {its:Array Value}{rows:List (List Int)}(hP:∀ i v,P i v->its[i]?=some v) (hn:n<70) (hu:A.units+1<cLine) (led:Bool)
  (BN:∀ (i:Nat) b,its[i]?=some (.ref b)->b∉Sa::wr):∀ (k i:Nat) (s:Shared) (xs:List (List Int×Addr)),n-i=k->i<=n->St i s->vo prog w s.heap Sa xs led->rJ prog w s.heap its rows->Up its rows i xs->
   (∀ s' xs',Moved (Sa::wr) G s s'->vo prog w s'.heap Sa xs' led->Up its rows n xs'->R (.ok (.ret .none)) s')->
   codeAny (model prog w) A (.builtin "set.update.loop" ⟨[.ref Sa,.ref I],[]⟩) R s:=by
 have hSw:Sa∉wr:=λ z=>hSf (W.sub _ z)
 have more:∀ b∈wr,b∈Sa::wr:=λ b hb=>Av _ hb
 have keepS:∀ {s s':Shared}{xs:List (List Int×Addr)}{wr':List Addr},Sa∉wr'->(∀ e∈xs,e.2∉wr')->Moved wr' G s s'->vo prog w s.heap Sa xs led->vo prog w s'.heap Sa xs led:=λ{s s' xs wr'} h1 h2 hm ⟨⟨es,ep,t,ho,X,r1,r2,r3⟩,nd⟩=>
  ⟨⟨es,ep,t,hm.heap Sa _ h1 ho,⟨X.es,λ e he=>by
   obtain⟨o,items,m,g1,g2⟩:=X.is e he
   exact⟨o,items,m,hm.heap _ _ (h2 e he) g1,g2⟩,X.tab,X.j_⟩,r1,r2,r3⟩,nd⟩
 intro k
 induction k with
 | zero=>
  intro i s xs hk hi Aw hS hT hU hR
  have e:i=n:=by lia
  subst e
  refine codeAny_builtin F.entry_set_update_loop ?_
  rw[Around.under_plainId F.plain_set_update_loop _]
  show wpAny _ A.in1 (pyNext (.ref I) >>= _) _ _ s
  refine za0 (W.done s _ _ Aw λ s' hm=>?_)
  refine Ab (hR s' xs (hm.mono more) (keepS hSw (λ e he=>?_) hm hS) hU)
  obtain⟨j,_,h2,_⟩:=hU.own e he
  exact λ z=>BN j e.2 h2 (more _ z)
 | succ k ih=>
  intro i s xs hk hi Aw hS hT hU hR
  have Ak:i<n:=by lia
  refine codeAny_builtin F.entry_set_update_loop ?_
  rw[Around.under_plainId F.plain_set_update_loop _]
  show wpAny _ A.in1 (pyNext (.ref I) >>= _) _ _ s
  refine za0 (W.item i s _ _ Ak Aw λ v s1 hPv hst1 hm=>?_)
  have hv:=hP i v hPv
  have T1:rJ prog w s1.heap its rows:=hT.at λ j b hj o e=>hm.heap b o (λ z=>BN j b hj (more _ z)) e
  obtain⟨b,r,rfl,hr,hb⟩:=T1 i v hv
  have S1:vo prog w s1.heap Sa xs led:=keepS hSw (λ e he=>by
   obtain⟨j,_,h2,_⟩:=hU.own e he
   exact λ z=>BN j e.2 h2 (more _ z)) hm hS
  have hl:xs.length<70:=by have:=hU.len hS.nd;lia
  show wpAny _ A.in1 (holding [Value.ref b] (setAdd Sa (.ref b)) >>= _) _ _ s1
  refine za0 (za5 ?_)
  unfold setAdd
  refine za5 (za0 ((rk prog w).pyHash (k:=r) (a:=b) (A:=A.in1) hu hb ?_))
  refine Qg (s:={ s1 with toks:=s1.toks+(rk prog w).draws r }) (A:=A.in1) hu S1 hb hl λ h' xs' rr sb S' hx=>?_
  have fr:=W.frame (i+1) s1 h' (s1.toks+(rk prog w).draws r) hst1 (BS _ _) λ c hc o e=>(sb.2 c (λ z:c=Sa=>hSf (z▸hc))).trans e
  refine Ab ⟨plainId_quiet F.plain_set_update_loop _,ih (i+1) _ xs' (by lia) Ak fr S' (T1.at λ j c hj o e=>?_) (hU.step hv hr hx) λ s2 xs2 hm2 S2 U2=>?_⟩
  ·exact (sb.2 c (λ z=>BN j c hj (z▸Ap))).trans e
  ·refine hR s2 xs2 (Moved.trans W.gtrans ((hm.mono more).then_heap (BS _ _) λ c o hc e=>?_) hm2) S2 U2
   exact (sb.2 c (λ z=>hc (z▸Ap))).trans e
end
section
variable {prog:Program}{w:World}{A:Around}{E:Value->Shared->Prop}{s:Shared}
set_option maxHeartbeats 6400000 in
def RD {l:Addr}{its:Array Value}{rows:List (List Int)}{Q:Value->Shared->Prop}(hh:A.handled=none) (hu:A.units+64<cLine) (hl:s.heap.IsList l its) (hT:rJ prog w s.heap its rows) (hn:its.size<70)
  (h:∀ (h':Heap) (tk:Nat) xs,vo prog w h' s.heap.objs.size xs (vf w)->Up its rows its.size xs->(∀ b o,b<s.heap.objs.size->s.heap.get? b=some o->h'.get? b=some o)->Q (.ref s.heap.objs.size) { s with heap:=h',toks:=tk }):
  wpAny (model prog w) A (call (.type "set") [.ref l]) Q E s:=by
 obtain⟨c,tl,DS⟩:=F.called_set.mro
 have made:=F.called_set.made
 have subm:=F.called_set.sub
 refine wpAny_call (codeAny_of_tree ?_)
 show wpAny _ _ (callAny (.type "set") _) _ _ _
 refine Ab ⟨Code.quiet_builtin _ (by decide +kernel),codeAny_builtin F.entry_type_call ?_⟩
 rw[Around.under_plain (weight_type_call_type "set" [.ref l] []) rfl]
 have nt:=F.called_set.notType
 have cc:=F.called_set.canCreate
 have tc:=F.typeCall_set_1 (.ref l)
 repeat (any_goals (first | assumption | wp_step))
 refine codeAny_mono (bA (.ref l) (E:=E) (Q:=λ obj s₁=>obj=.ref s.heap.objs.size/\s₁={ s with heap:=s.heap.push (yN w) }) ⟨rfl,rfl⟩) λ r s₁ hr=>?_
 cases r with
 | error e=>exact hr
 | ok fl=>
  cases fl with
  | ret obj=>
   obtain⟨rfl,rfl⟩:=hr
   have hS:(s.heap.push (yN w)).get? s.heap.objs.size=some (yN w):=AH _ rfl
   have hTy:Shared.TypeIs { s with heap:=s.heap.push (yN w) } (.ref s.heap.objs.size) "set":=⟨_,hS,rfl⟩
   have li:=F.called_set.init.lookup
   have bi:=F.called_set.init.bind (.ref s.heap.objs.size)
   repeat (any_goals (first | assumption | wp_step))
   let s1:Shared:={ s with heap:=s.heap.push (yN w) }
   refine codeAny_mono (codeAny_call_builtin (R:=wants (λ r s₂=>r=.none/\∃ h' tk xs,s₂={ s with heap:=h',toks:=tk }/\vo prog w h' s.heap.objs.size xs (vf w)/\Up its rows its.size xs/\
     ∀ b o,b<s.heap.objs.size->s.heap.get? b=some o->h'.get? b=some o) E) F.called_set.init.plain F.entry_set_init (check_set_init_1 hTy ?_)) λ r₂ s₂ hr₂=>?_
   ·obtain⟨⟨ocls,odict,odata,oslots⟩,CL,AJ,nl,CV⟩:=id hl
    simp only at AJ CV
    subst AJ CV
    have hol1:(s.heap.push (yN w)).get? l=some { cls:=.type "list",dict:=odict,data:=.seq its nl,slots:=oslots }:=za1 _ CL
    have sls:=F.sub_list_set
    have slf:=F.sub_list_frozenset
    have nd:(Value.type "list" == Value.type "dict")=false:=by decide
    have hl1:(s.heap.push (yN w)).IsList l its:=⟨_,hol1,rfl,nl,rfl⟩
    unfold Builtin.«set.__init__» noKeywords Builtin.Frozenset.updateFrom
    generalize hPI:pyIter=PI
    unfold yN at *
    wp_walk
    subst hPI
    refine zaO hl1 (za0 (wpAny_runValue ?_))
    have hlS:l<s.heap.objs.size:=Ai CL
    have Ar:(s.heap.push (yN w)).objs.size=s.heap.objs.size+1:=Heap.size_push _ _
    have hneI:l≠(s.heap.push (yN w)).objs.size:=by rw[Ar];exact Al (BH hlS)
    have szne:s.heap.objs.size≠(s.heap.push (yN w)).objs.size:=by rw[Ar];exact Al (Cj _)
    have low:∀ b:Addr,b<s.heap.objs.size->b≠(s.heap.push (yN w)).objs.size:=λ b hb=>by rw[Ar];exact Al (BH hb)
    have tin:∀ (i:Nat) b,its[i]?=some (.ref b)->b<s.heap.objs.size:=λ i b hb=>by
     obtain⟨b',r,e,_,o,_,_,ho,_⟩:=hT i _ hb
     cases e;exact Ai ho
    refine UW (A:=A.in1.in1) (P:=λ i v=>its[i]?=some v) ((Walks.list (A:=A.in1.in1.in1) (by simp[hh]) _ l hneI its).toS) s.heap.objs.size ?_ (its:=its) (rows:=rows) (λ _ _ q=>q) hn (show A.units+1+1+1<cLine by lia) (vf w) ?_ its.size 0 _ [] (by lia) (AM _)
     ⟨⟨_,AH _ rfl,rfl,rfl⟩,hl1.push _⟩ (Y0 (w:=w) (za1 _ hS)) (hT.at λ i b _ o e=>za1 _ (za1 _ e)) ⟨λ e he=>(by cases he),λ j r hj=>(by lia)⟩ ?_
    ·intro hm
     rcases Aj.mp hm with q | q
     ·exact szne q
     ·exact Bu hlS (AF.mp q)
    ·intro i b hb hm
     have Ak:=tin i b hb
     rcases Aj.mp hm with q | q
     ·exact Al Ak q
     ·exact low b Ak (AF.mp q)
    ·intro s' xs' hm S' U'
     obtain⟨h',g',d',tk',os'⟩:=s'
     obtain rfl:g'=s.gens:=hm.gens
     obtain rfl:d'=s.drawn:=hm.drawn
     obtain rfl:os'=s.os:=hm.os
     refine Ab (Ab ⟨rfl,h',tk',xs',rfl,S',U',λ b o hb e=>?_⟩)
     refine hm.heap b o (λ q=>?_) (za1 _ (za1 _ e))
     rcases Aj.mp q with q | q
     ·exact Al hb q
     ·exact low b hb (AF.mp q)
   ·cases r₂ with
    | error e=>exact hr₂
    | ok fl₂=>
     cases fl₂ with
     | ret r=>
      obtain⟨rfl,h',tk,xs,rfl,g1,g2,g3⟩:=hr₂
      repeat (any_goals (first | assumption | wp_step))
      exact h h' tk xs g1 g2 g3
     | _=>exact hr₂.elim
  | _=>exact hr.elim
end
end ST
namespace ST
open PySem PySem.SetTable
section facts
def eU:Manifest.owners.lookup (String.ofList ['r','o','t','a','r','e','t','i','_','t','e','s'].reverse)=some Manifest.sig_set_iterator:=by kernel_rfl
def qj:Slot "set_iterator" "__next__" "set_iterator.__next__":=
 .of (owner:="set_iterator") (n:="__next__") (by rw[typeLookup_type,builtinLookup_eq_fast];kernel_rfl) (by decide +kernel) (by decide +kernel) (by decide +kernel) (by first | exact .inl (by decide +kernel) | exact .inr (by decide +kernel)) (by rw[isSubtype_type];kernel_rfl)
def cW:entryFor table "set_iterator.__next__"=some Builtin.«set_iterator.__next__»:=entryFor_of_tree (by kernel_rfl)
def bT (a:Value):argsOk "set_iterator.__next__" ⟨[a],[]⟩:=by
 unfold argsOk
 rw[signature?_of (id:="set_iterator.__next__") (n:=['_','_','t','x','e','n','_','_']) (o:=['r','o','t','a','r','e','t','i','_','t','e','s']) (by kernel_rfl) eU]
 kernel_rfl
def Rj:entryFor table "set.__iter__"=some Builtin.«frozenset.__iter__»:=entryFor_alias (id':="frozenset.__iter__") (by kernel_rfl) rfl (by decide +kernel) (by kernel_rfl)
def f9:Slot "set_iterator" "__iter__" "set_iterator.__iter__":=
 .of (owner:="set_iterator") (n:="__iter__") (by rw[typeLookup_type,builtinLookup_eq_fast];kernel_rfl) (by decide +kernel) (by decide +kernel) (by decide +kernel) (by first | exact .inl (by decide +kernel) | exact .inr (by decide +kernel)) (by rw[isSubtype_type];kernel_rfl)
def Ri:entryFor table "set_iterator.__iter__"=some Builtin.«dict_keyiterator.__iter__»:=entryFor_alias (id':="dict_keyiterator.__iter__") (by kernel_rfl) rfl (by decide +kernel) (by kernel_rfl)
def Qa (a:Value):argsOk "set_iterator.__iter__" ⟨[a],[]⟩:=by
 unfold argsOk
 rw[signature?_of (id:="set_iterator.__iter__") (n:=['_','_','r','e','t','i','_','_']) (o:=['r','o','t','a','r','e','t','i','_','t','e','s']) (by kernel_rfl) eU]
 kernel_rfl
end facts
theorem cV {α:Type}:∀ (l:List α) (i:Nat) (x:α),l[i]?=some x->l.Perm (x::l.eraseIdx i)
 | [],i,x,h=>by simp at h
 | y::l,0,x,h=>by simp at h;subst h;simp
 | y::l,i+1,x,h=>by
  have ih:=cV l i x (by simpa using h)
  rw[List.eraseIdx_cons_succ]
  exact (ih.cons y).trans (.swap x y _)
theorem eB {α:Type}(next:Nat->Nat):∀ (f k:Nat) (left:List α) (out:Array α),left.length=f->(pickOrder.go next f k left out).toList.Perm (out.toList++left)
 | 0,k,left,out,h=>by
  cases left with
  | nil=>unfold pickOrder.go;simp
  | cons _ _=>simp at h
 | f+1,k,left,out,h=>by
  unfold pickOrder.go
  have Ak:next k%left.length<left.length:=Cv _ (by lia)
  rw[BL Ak]
  dsimp only
  refine (eB next f (k+1) _ _ (by rw[List.length_eraseIdx_of_lt Ak];lia)).trans ?_
  rw[Array.toList_push,Dl]
  exact (cV left _ _ (BL Ak)).symm.append_left _
def Xx {α:Type}(next:Nat->Nat) (xs:Array α):(pickOrder next xs).toList.Perm xs.toList:=by
 unfold pickOrder
 simpa using eB next xs.size 0 xs.toList #[] (by simp)
noncomputable def comes (w:World) (a:Addr) (es:Array (Int×Value)) (ep:Nat):Array (Int×Value):=if w.params.followText "set-order"=true then pickOrder (w.params.setOrder a ep) es else es
def qP (w:World) (a:Addr) (es:Array (Int×Value)) (ep:Nat):(comes w a es ep).toList.Perm es.toList:=by
 unfold comes
 split
 ·exact Xx _ _
 ·exact .refl _
noncomputable def tZ (a:Addr) (slot i n ep:Nat):Obj:={ cls:=.type "set_iterator",data:=.fields #[rawInt slot,rawInt i,.ref a,rawInt n,rawInt ep] }
noncomputable def slotAt (t:SetTable):Nat->Nat
 | 0=>0
 | i+1=>t.place.getD i 0+1
theorem RQ {t:SetTable}(hr:uh t.place.toList):∀ i,i<=t.place.size->below t.place (slotAt t i)=i
 | 0,_=>by
  obtain⟨h1,h2,h3⟩:=mJ (xs:=t.place) (j:=0) hr
  rcases Nat.eq_zero_or_pos (below t.place 0) with q | q
  ·exact q
  ·have:=h2 0 (by lia) q
   lia
 | i+1,hi=>by
  have hd:t.place.getD i 0=t.place[i]:=jQ (by lia)
  show below t.place (t.place.getD i 0+1)=i+1
  rw[hd]
  obtain⟨h1,h2,h3⟩:=mJ (xs:=t.place) (j:=t.place[i] + 1) hr
  have wo:∀ a b (ha:a<t.place.size) (hb:b<t.place.size),a<b->t.place[a]<t.place[b]:=λ a b ha hb Cs=>by
   have r:=Cy.mp hr a b (by simpa using ha) (by simpa using hb) Cs
   rw[BX,BX] at r
   exact r
  rcases C5 (below t.place (t.place[i] + 1)) (i+1) with q | q | q
  ·have:=h3 i (by lia) (by lia)
   lia
  ·exact q
  ·have a:=h2 (i+1) (by lia) q
   have b:=wo i (i+1) (by lia) (by lia) (by lia)
   lia
structure wy (w:World) (h:Heap) (a:Addr) (es:Array (Int×Value)) (ep:Nat) (t:SetTable):Prop where
 get:h.get? a=some { cls:=.type "set",dict:=none,data:=.set es ep t }
 fits:t.fits es.size=true
 wo:uh t.place.toList
 led:t.led=vf w
 plain:t.plain=true
theorem wy.size {w:World}{h:Heap}{a:Addr}{es:Array (Int×Value)}{ep:Nat}{t:SetTable}(S:wy w h a es ep t):t.place.size=es.size:=by
 have:=S.fits
 simp only[SetTable.fits,AU,beq_iff_eq] at this
 exact this.1
section
variable {prog:Program}{w:World}{A:Around}{E:Value->Shared->Prop}{s:Shared}
def dv {a:Addr}{es:Array (Int×Value)}{ep:Nat}{t:SetTable}{i:Nat}{Q:Option (Value×Nat)->Shared->Prop}(S:wy w s.heap a es ep t) (hi:i<=es.size) (slot:Nat) (hs:w.params.followText "set-order"=false->slot=slotAt t i)
  (h:∀ slot',(w.params.followText "set-order"=false->slot'=slotAt t (i+1))->Q ((comes w a es ep)[i]?.map λ e=>(e.2,slot')) s):wpAny (model prog w) A (setNext a slot i ep) Q E s:=by
 unfold setNext setsByText
 refine za0 (zaA S.get rfl S.fits ?_)
 dsimp only
 refine za0 (za0 (zaP (Ab ?_)))
 show wpAny _ A (if w.params.followText "set-order"=true then _ else _) Q E s
 cases hb:w.params.followText "set-order" with
 | true=>
  rw[if_pos rfl,if_neg (by simp)]
  unfold setWalk setsByText
  refine za0 (za0 (zaA S.get rfl S.fits ?_))
  dsimp only
  refine za0 (za0 (zaP (Ab ?_)))
  show wpAny _ A (if w.params.followText "set-order"=true then _ else _) _ E s
  rw[if_pos hb]
  refine za0 (zaP (Ab ?_))
  refine Ab ?_
  have:=h slot (λ q=>by rw[hb] at q;cases q)
  unfold comes at this
  rw[if_pos hb] at this
  exact this
 | false=>
  rw[if_neg (by simp)]
  split
  ·rename_i hd
   have hd':(!t.plain&&decide (es.size>1))=true:=hd
   rw[S.plain] at hd';simp at hd'
  ·show wpAny _ A ((if (!t.led&&!es.isEmpty)=true then unsupported "set:maker-not-led" else pure ()) >>= _) Q E s
   have hl:t.led=true:=by rw[S.led];unfold vf;rw[hb];rfl
   rw[if_neg (by rw[hl];simp)]
   refine za0 (Ab (Ab ?_))
   have BF:=hs hb
   have hz:=S.size
   rw[BF,RQ S.wo i (by rw[hz];exact hi)]
   have:=h (slotAt t (i+1)) (λ _=>rfl)
   unfold comes at this
   rw[if_neg (by rw[hb];simp)] at this
   rcases Bb i es.size with q | q
   ·have hp:i<t.place.size:=by rw[hz];exact q
    rw[A7 q] at this
    rw[A7 q,A7 hp]
    have e:slotAt t (i+1)=t.place[i] + 1:=by show t.place.getD i 0+1=_;rw[jQ hp]
    rw[e] at this
    exact this
   ·rw[Cb q] at this
    rw[Cb q]
    exact this
def r0 {a I:Addr}{slot i n ep:Nat}(ho:s.heap.get? I=some (tZ a slot i n ep)):s.TypeIs (.ref I) "set_iterator":=⟨_,ho,rfl⟩
def gR (k:Nat):((k:Int)).toNat=k:=Dk k
def Yx {I a:Addr}{es:Array (Int×Value)}{ep:Nat}{t:SetTable}{i slot:Nat}{e:Int×Value}{Q:Option Value->Shared->Prop}(ho:s.heap.get? I=some (tZ a slot i es.size ep)) (S:wy w s.heap a es ep t) (hs:w.params.followText "set-order"=false->slot=slotAt t i) (he:(comes w a es ep)[i]?=some e)
  (hi:i<es.size) (h:∀ h' slot',(w.params.followText "set-order"=false->slot'=slotAt t (i+1))->h'.get? I=some (tZ a slot' (i+1) es.size ep)->Heap.SameBut I s.heap h'->Q (some e.2) { s with heap:=h' }):wpAny (model prog w) A (pyNext (.ref I)) Q E s:=by
 unfold pyNext
 refine za0 (wpAny_attempt (zaF (name:=Str.ofString "__next__") (r0 ho) qj (zaB qj (r0 ho) cW ?_ (bT _))))
 refine za0 (Ab ?_)
 dsimp only
 refine za0 (wpAny_fieldsOf ho rfl ?_)
 dsimp only[rawInt]
 refine za0 (za0 (zaA S.get rfl S.fits (Ab ?_)))
 rw[if_neg (by simp)]
 refine za0 (dv S (by lia) slot hs λ slot' hs'=>?_)
 rw[gR] at hs' ⊢
 rw[he]
 dsimp only[Option.map_some]
 refine za0 (zaC ho rfl (by simp) ?_)
 have o1:=za6 (Obj.mapFields (·.set! 0 (Value.int (slot':Int) 0))) ho rfl
 refine za0 (zaC o1 rfl (by simp) ?_)
 have o2:=za6 (Obj.mapFields (·.set! 1 (Value.int ((i:Int)+1) 0))) o1 rfl
 refine Ab ⟨_,rfl,Ab (h _ slot' hs' o2 ((Heap.SameBut.update ..).trans (Heap.SameBut.update ..)))⟩
def Yy {I a:Addr}{es:Array (Int×Value)}{ep:Nat}{t:SetTable}{slot:Nat}{Q:Option Value->Shared->Prop}(hh:A.handled=none) (ho:s.heap.get? I=some (tZ a slot es.size es.size ep)) (S:wy w s.heap a es ep t) (hs:w.params.followText "set-order"=false->slot=slotAt t es.size)
  (h:∀ h',Heap.ExtBut I s.heap h'->Q none { s with heap:=h' }):wpAny (model prog w) A (pyNext (.ref I)) Q E s:=by
 have hn:(comes w a es ep)[es.size]?=none:=by
  have:=(qP w a es ep).length_eq
  simp only[Bd] at this
  rw[Cb (by lia)]
 unfold pyNext
 refine za0 (wpAny_attempt (zaF (name:=Str.ofString "__next__") (r0 ho) qj (zaB qj (r0 ho) cW ?_ (bT _))))
 refine za0 (Ab ?_)
 dsimp only
 refine za0 (wpAny_fieldsOf ho rfl ?_)
 dsimp only[rawInt]
 refine za0 (za0 (zaA S.get rfl S.fits (Ab ?_)))
 rw[if_neg (by simp)]
 refine za0 (dv S (by simp) slot (by simpa using hs) λ slot' hs'=>?_)
 rw[gR,hn]
 dsimp only[Option.map_none]
 refine za0 (zaC ho rfl (by simp) ?_)
 refine za0 ?_
 simp only[newExc,newTuple]
 refine za0 (za8 ?_ (by size_fits))
 refine za0 (m:=firstArgMember _ _) (wpAny_of_eq (a:=Value.none) (by first | rfl | (simp only[firstArgMember];rfl)) (za8 ?_ (by size_fits)))
 unfold raiseNew
 refine za0 (wpAny_handled ?_)
 rw[show A.in1.handled=none from hh]
 refine za0 ((Ab (wpAny_throw ?_)))
 refine za0 ((wpAny_isInstance (T:="StopIteration") (b:=true) ⟨_,AH _ rfl,rfl⟩ isSubtype_stop ?_))
 exact Ab (h _ (((Heap.SameBut.update ..).extBut.push _).push _))
def Yw {I a:Addr}{slot i n ep:Nat}{Q:Value->Shared->Prop}(ho:s.heap.get? I=some (tZ a slot i n ep)) (h:Q (.ref I) s):wpAny (model prog w) A (pyIter (.ref I)) Q E s:=by
 refine wpAny_pyIter_slot (r0 ho) f9 (zaB f9 (r0 ho) Ri ?_ (Qa _))
 exact Ab ⟨_,rfl,"set_iterator",_,r0 ho,qj.lookup,h⟩
def wy.keep {h h':Heap}{a:Addr}{es:Array (Int×Value)}{ep:Nat}{t:SetTable}(S:wy w h a es ep t) (k:∀ o,h.get? a=some o->h'.get? a=some o):wy w h' a es ep t:=⟨k _ S.get,S.fits,S.wo,S.led,S.plain⟩
def Zt (hh:A.handled=none) (I a:Addr) (An:a≠I) (es:Array (Int×Value)) (ep:Nat) (t:SetTable):
  Walks prog w A I [I,a] [I] es.size (λ i v=>∃ e,(comes w a es ep)[i]?=some e/\v=e.2) (λ i h=>(∃ slot,(w.params.followText "set-order"=false->slot=slotAt t i)/\h.get? I=some (tZ a slot i es.size ep))/\wy w h a es ep t) where
 sub:=λ b hb=>by simp at hb;simp[hb]
 frame:=λ _ _ _ st k=>by
  obtain⟨⟨slot,h1,h2⟩,S⟩:=st
  exact⟨⟨slot,h1,k I (by simp) _ h2⟩,S.keep λ o e=>k a (by simp) o e⟩
 item:=λ i s Q E hi st hQ=>by
  obtain⟨⟨slot,h1,h2⟩,S⟩:=st
  have hl:i<(comes w a es ep).size:=by
   have:=(qP w a es ep).length_eq
   simp only[Bd] at this
   lia
  refine Yx h2 S h1 (A7 hl) hi λ h' slot' g1 g2 g3=>?_
  exact hQ _ h' s.toks ⟨_,A7 hl,rfl⟩ ⟨⟨slot',g1,g2⟩,S.keep λ o e=>(g3.2 a An).trans e⟩ λ b o hb e=>(g3.2 b (λ z=>hb (by simp[z]))).trans e
 done:=λ s Q E st hQ=>by
  obtain⟨⟨slot,h1,h2⟩,S⟩:=st
  exact Yy hh h2 S h1 λ h' g=>hQ h' s.toks λ b o hb e=>g b o (λ z=>hb (by simp[z])) e
 self:=λ _ _ _ _ st hQ=>by
  obtain⟨⟨slot,h1,h2⟩,S⟩:=st
  exact Yw h2 hQ
def UZ:typeLookup (.type "set") "__len__"=pure (some (.builtin "set.__len__")):=F.slot_set_len.lookup
def split_len:splitId "set.__len__"=some ("set","__len__"):=by decide +kernel
def UC {a:Addr}{es:Array (Int×Value)}{ep:Nat}{t:SetTable}{Q:Bool->Shared->Prop}(S:wy w s.heap a es ep t) (h:Q false s):wpAny (model prog w) A (setDrawn a) Q E s:=by
 unfold setDrawn setsByText
 refine za0 (zaA S.get rfl S.fits ?_)
 dsimp only
 refine za0 (za0 (zaP (Ab (Ab ?_))))
 show Q (!w.params.followText "set-order"&&(!t.plain&&decide (es.size>1))) s
 rw[S.plain]
 simpa using h
set_option maxHeartbeats 4000000 in
def UG {a:Addr}{es:Array (Int×Value)}{ep:Nat}{t:SetTable}{Q:Bool->Shared->Prop}(S:wy w s.heap a es ep t) (h:Q false s):wpAny (model prog w) A (Builtin.List.listLengthHint (.ref a)) Q E s:=by
 have Ty:s.TypeIs (.ref a) "set":=⟨_,S.get,rfl⟩
 unfold Builtin.List.listLengthHint
 refine za0 (wpAny_specialOf Ty UZ ?_)
 dsimp only
 rw[split_len]
 dsimp only
 refine za0 (wpAny_isInstance (b:=true) Ty sub_set_self ?_)
 rw[if_neg (by decide)]
 rw[if_pos (by decide +kernel)]
 refine za0 (zaG Ty ?_)
 exact Ab h
set_option maxHeartbeats 4000000 in
def Rz {a:Addr}{es:Array (Int×Value)}{ep:Nat}{t:SetTable}{Q:List Value->Shared->Prop}(hh:A.handled=none) (S:wy w s.heap a es ep t) (hn:es.size<=sizeLine)
  (h:∀ (h':Heap) (tk:Nat),(∀ b o,b<s.heap.objs.size->s.heap.get? b=some o->h'.get? b=some o)->s.heap.objs.size<=h'.objs.size->Q ((comes w a es ep).toList.map (·.2)) { s with heap:=h',toks:=tk }):wpAny (model prog w) A (collect (.ref a)) Q E s:=by
 have ha:a<s.heap.objs.size:=Ai S.get
 unfold collect
 refine za0 (wpAny_runValue (codeAny_builtin F.entry_proto_collect ?_))
 rw[Around.under_plainId F.plain_proto_collect _]
 show wpAny _ A.in1 (newList [] >>= λ l=>again (.builtin "list.__iadd__" ⟨[l,.ref a],[]⟩)) _ _ s
 refine za0 (za8 (Ab ⟨plainId_quiet F.plain_list_iadd _,codeAny_builtin F.entry_list_iadd ?_⟩))
 rw[Around.under_plainId F.plain_list_iadd _]
 let L0:Obj:={ cls:=.type "list",data:=.seq ([]:List Value).toArray }
 have S1:wy w (s.heap.push L0) a es ep t:=S.keep λ o e=>za1 _ e
 have T1:Shared.TypeIs { s with heap:=s.heap.push L0 } (.ref a) "set":=⟨_,S1.get,rfl⟩
 show wpAny _ A.in1 (Builtin.List.listExtendWith (.ref s.heap.objs.size) (.ref a) (.ref s.heap.objs.size)) _ _ { s with heap:=s.heap.push L0 }
 unfold Builtin.List.listExtendWith
 refine za0 (zaG T1 ?_)
 have An:s.heap.objs.size≠a:=Bu ha
 have c1:Builtin.List.listSameRef (.ref s.heap.objs.size) (.ref a)=false:=by simp[Builtin.List.listSameRef,An]
 rw[if_neg (by rw[c1];decide)]
 refine za0 (wpAny_pyIter_slot T1 F.slot_set_iter (zaB F.slot_set_iter T1 Rj ?_ (F.args_set_iter_1 _)))
 refine za0 (za0 (Ab (Ab ?_)))
 refine za0 (za0 (za0 (zaA S1.get rfl S1.fits (Ab (Ab ?_)))))
 refine za0 (UC S1 ?_)
 rw[if_neg (by decide)]
 refine za0 (Ab ?_)
 refine za0 (wpAny_setEpoch_of S1.get rfl S1.fits ?_)
 refine za0 (za8 (Ab ⟨_,rfl,"set_iterator",_,⟨_,AH _ rfl,rfl⟩,qj.lookup,?_⟩))
 let I:=(s.heap.push L0).objs.size
 let h2:=(s.heap.push L0).push (tZ a 0 0 es.size ep)
 have S2:wy w h2 a es ep t:=S1.keep λ o e=>za1 _ e
 have hI:h2.get? I=some (tZ a 0 0 es.size ep):=AH _ rfl
 have hL:h2.get? s.heap.objs.size=some L0:=za1 _ (AH _ rfl)
 have Ar:(s.heap.push L0).objs.size=s.heap.objs.size+1:=Heap.size_push _ _
 show wpAny _ A.in1 _ _ _ { s with heap:=h2 }
 refine za0 (za5 (UG (s:={ s with heap:=h2 }) S2 ?_))
 rw[if_pos (by decide +kernel)]
 refine za0 (wpAny_rule ?_)
 refine za0 ?_
 show wpAny _ A.in1 (updateSeq s.heap.objs.size (·.push .none) >>= λ _=>updateSeq s.heap.objs.size (·.pop)) _ _ { s with heap:=h2 }
 refine za0 (wpAny_updateSeq hL rfl ?_)
 have hL2:=za6 (Obj.mapSeq (·.push Value.none)) hL rfl
 refine wpAny_updateSeq hL2 rfl ?_
 have hL3:=za6 (Obj.mapSeq (·.pop)) hL2 rfl
 let h3:=(h2.update s.heap.objs.size (Obj.mapSeq (·.push Value.none))).update s.heap.objs.size (Obj.mapSeq (·.pop))
 have oth:∀ b o,b≠s.heap.objs.size->h2.get? b=some o->h3.get? b=some o:=λ b o hb e=>(za9 _ _ (Ne.symm hb)).trans ((za9 _ _ (Ne.symm hb)).trans e)
 have haI:a≠I:=by show a≠(s.heap.push L0).objs.size;rw[Ar];exact Al (BH ha)
 have hIn:I≠s.heap.objs.size:=by show (s.heap.push L0).objs.size≠_;rw[Ar];exact Bu (Cj _)
 refine Ab ⟨plainId_quiet F.plain_extend_loop _,codeAny_extend_loopS ((Zt (A:=A.in1) hh I a haI es ep t).toS) hn s.heap.objs.size ?_ _ es.size 0 { s with heap:=h3 } #[] _ rfl (AM _) ⟨⟨0,λ _=>rfl,oth I _ hIn hI⟩,S2.keep λ o e=>oth a o (Ne.symm An) e⟩ hL3 (ItemsOf.nil _) λ s' acc c' hm hS' AG=>?_⟩
 ·intro hm
  rcases Aj.mp hm with q | q
  ·exact hIn q.symm
  ·exact An (AF.mp q)
 ·refine za0 (wpAny_load hS' (Ab ?_))
  obtain⟨h',g',d',tk',os'⟩:=s'
  obtain rfl:g'=s.gens:=hm.gens
  obtain rfl:d'=s.drawn:=hm.drawn
  obtain rfl:os'=s.os:=hm.os
  have hcm:(comes w a es ep).size=es.size:=by
   have:=(qP w a es ep).length_eq
   simpa using this
  have e:acc.toList=(comes w a es ep).toList.map (·.2):=by
   refine List.ext_getElem? λ j=>?_
   rw[AA]
   rcases Bb j es.size with q | q
   ·have CO:j<acc.size:=by rw[AG.1];exact q
    have hj:acc[j]?=some acc[j]:=A7 CO
    obtain⟨e,e1,e2⟩:=AG.2 j _ hj
    rw[Br,Br,hj,e1,e2];rfl
   ·rw[Br,Br,Cb (by rw[AG.1];exact q),Cb (by rw[hcm];exact q)];rfl
  rw[e]
  refine h h' tk' (λ b o hb e=>hm.heap b o (λ q=>?_) (oth b o (Al hb) (za1 _ (za1 _ e)))) ?_
  ·rcases Aj.mp q with q | q
   ·exact Al hb q
   ·have q':b=(s.heap.push L0).objs.size:=AF.mp q
    rw[Ar] at q'
    exact Al (BH hb) q'
  ·exact BD (Ai hS')
end
end ST
namespace ST
open PySem PySem.SetTable PyProof.Rows L4
section
variable {prog:Program}{w:World}{A:Around}{E:Value->Shared->Prop}{s:Shared}
def fg {a:Addr}{es:Array (Int×Value)}{ep:Nat}{t:SetTable}{Q:Value->Shared->Prop}{Out:Array Value->Prop}(hh:A.handled=none) (S:wy w s.heap a es ep t) (hz:es.size<=sizeLine)
  (core:∀ s6:Shared,2<=es.size->(∀ b o,s.heap.get? b=some o->s6.heap.get? b=some o)->Core prog w A.in1.in1 E ((comes w a es ep).toList.map (·.2)) Out s6) (short:es.size<2->Out ((comes w a es ep).toList.map (·.2)).toArray)
  (fin:∀ (out:Array Value) (h':Heap) (tk l:Nat),Out out->out.size=es.size->s.heap.objs.size<=l->(∀ b o,s.heap.get? b=some o->h'.get? b=some o)->(∃ e,h'.get? l=some (seqObj "list" out e))->Q (.ref l) { s with heap:=h',toks:=tk }):
  wpAny (model prog w) A (call (.builtin "sorted") [.ref a]) Q E s:=by
 have AJ:((comes w a es ep).toList.map (·.2)).length=es.size:=by
  have:=(qP w a es ep).length_eq
  rw[Aq,this,Bd]
 refine Calls.call_function_entry kind_sorted plain_sorted entry_sorted (args_sorted1 _) ?_
 unfold Builtin.«sorted»
 refine za0 (m:=checkCount "sorted" 1 1 _) (Ab (za0 (Rz (A:=A.in1) hh S hz λ h1 tk k1 k2=>za0 (wpAny_newList ?_ (by rw[AJ];exact hz)))))
 generalize hvs:(comes w a es ep).toList.map (·.2)=vs at *
 have hoL:(h1.push (seqObj "list" vs.toArray 0)).get? h1.objs.size=some (seqObj "list" vs.toArray 0):=AH _ rfl
 have k3:∀ b o,s.heap.get? b=some o->h1.get? b=some o:=λ b o q=>k1 b o (Ai q) q
 show wpAny _ _ _ _ _ { s with heap:=h1.push (seqObj "list" vs.toArray 0),toks:=tk }
 refine za0 (za5 (zaB slot_list_sort ⟨_,hoL,rfl⟩ entry_list_sort (U_ hoL (by rw[AJ];exact hz) (λ h2 s6 k=>core s6 (by rw[<- AJ];exact h2) λ b o q=>k b o ?_ (za1 _ (k3 b o q))) (λ h2=>short (by rw[<- AJ];exact h2)) λ out g1 g2=>⟨_,rfl,?_⟩) (args_list_sort _)))
 ·exact Al (AO (Ai q) k2)
 ·refine Ab ⟨_,rfl,fin out _ tk h1.objs.size g1 (by rw[g2,AJ]) k2 (λ b o q=>?_) (sortedHeap_at (n:=0) hoL)⟩
  have Ak:b<h1.objs.size:=Ai (k3 b o q)
  rw[sortedHeap_old (Al Ak) (by rw[size_push'];exact BH Ak),Heap.get?_push_ne _ _ _ (Al Ak)]
  exact k3 b o q
end
end ST
namespace ST
open PySem PySem.SetTable PySem.Spec PyProof.Rows L2
def yD (w:World) (a:Addr) (us:List Value):Heap->Prop:=λ h=>∃ es ep t,wy w h a es ep t/\es.toList.map (·.2)=us
def yD.wL {w:World}{a:Addr}{us:List Value}{h1 h2:Heap}(S:yD w a us h1) (k:∀ o,h1.get? a=some o->h2.get? a=some o):yD w a us h2:=by
 obtain⟨es,ep,t,S,e⟩:=S
 exact⟨es,ep,t,S.keep k,e⟩
def vo.at {prog:Program}{w:World}{h:Heap}{a:Addr}{xs:List (List Int×Addr)}(S:vo prog w h a xs (vf w)):yD w a (xs.map λ e=>Value.ref e.2) h:=by
 obtain⟨⟨es,ep,t,ho,X,h1,h2,h3⟩,_⟩:=S
 exact⟨es,ep,t,⟨ho,X.fits,X.tab.wo,h1,h2⟩,by rw[X.es,Bp];rfl⟩
section
variable {X:Cx}
abbrev mM (K:Aa) (H:Hp) (ys:List V) (rows:List (List Int)):Prop:=Paired (λ v r=>r≠[]/\∃ b,v=V.ref b/\zY K H b (r.map V.int)) ys rows
theorem dW:∀ {ns:List Int}{us:List Value},Vals (ns.map V.int) us->∀ {prog:Program}{w:World},ItemsAre (intKind prog w) ns us
 | [],_,.nil,_,_=>.nil
 | n::ns,_,.cons r t,prog,w=>by
  obtain⟨tk,rfl⟩:=r
  exact .cons (intKind_is _ _ _ _) (dW t)
structure rO (ys:List V) (rows:List (List Int)) (vs:List V) (rs:List (List Int)):Prop where
 sub:∀ (i:Nat) v r,vs[i]?=some v->rs[i]?=some r->∃ (j:Nat),ys[j]?=some v/\rows[j]?=some r
 len:vs.length=rs.length
 nd:rs.Nodup
 all:∀ r∈rows,r∈rs
def RA (hc:X.calm=true) (hu:X.A.units+64<cLine):yW X (.type "set") (λ xs H Q=>∃ p ys,∃ rows:List (List Int),xs=[.ref p]/\zP X.K H p ys/\mM X.K H ys rows/\rows.length<64/\
  ∀ (l:Addr) (us:List Value) (vs:List V) (rs:List (List Int)),H l=none->Vals vs us->rO ys rows vs rs->Q (.ref l) (upd H l (.ext (yD X.w l us)))):=by
 intro pins s Y H xs us Q I r h
 obtain⟨p,ys,rows,rfl,hq,hr,h64,q⟩:=h
 obtain⟨u,rfl,ru⟩:=vals1 r
 cases ru
 obtain⟨its,rv,pl,hz⟩:=I.list hq
 have hl:=rv.length
 have DT:ys.length=rows.length:=Paired.length hr
 have wK:rJ X.prog X.w s.heap its.toArray rows:=λ i v hv=>by
  have hv':its[i]?=some v:=by simpa using hv
  have hi:i<its.length:=(Az.mp hv').1
  obtain⟨An,b,hb,DI⟩:=L4.Paired.at' hr (i:=i) (by lia) V.zg ([]:List Int)
  have hy:ys[i]?=some (V.ref b):=by
   rw[BL (by lia)]
   have:ys.getD i V.zg=ys[i]'(by lia):=by simp[show i<ys.length by lia]
   rw[this] at hb;rw[hb]
  obtain⟨v',e1,e2⟩:=rv.get hy
  rw[hv'] at e1;cases e1
  cases (show v=Value.ref b from e2)
  obtain⟨its2,rv2,⟨o,e,AJ,n,hd⟩,_⟩:=I.tuple DI
  refine⟨b,rows.getD i [],rfl,?_,o,its2.toArray,n,e,AJ,hd,by simpa using dW rv2⟩
  simp[show i<rows.length by lia]
 have hh:X.A.handled=none:=I.ok.hd hc
 refine RD (A:=X.A) hh hu pl.isList wK (by rw[Ao];lia) λ h' tk xs S U k=>?_
 have kk:∀ b o,s.heap.get? b=some o->h'.get? b=some o:=λ b o e=>k b o (Ai e) e
 have AI:H s.heap.objs.size=none:=I.zu.fresh (Ad _)
 have hSO:=S.at
 have vals:Vals (xs.map λ e=>V.ref e.2) (xs.map λ e=>Value.ref e.2):=by
  clear S U hSO
  induction xs with
  | nil=>exact .nil
  | cons e xs ih=>exact .cons rfl ih
 refine⟨.ref s.heap.objs.size,_,I.laid (t':=tk) (o:=.ext (yD X.w s.heap.objs.size (xs.map λ e=>Value.ref e.2))) kk (Ad _) ?_,rfl,q _ _ (xs.map λ e=>V.ref e.2) (xs.map (·.1)) AI vals ⟨λ i v r hv hr'=>?_,by simp,S.nd,λ r hr'=>?_⟩⟩
 ·obtain⟨es,ep,t,St,e⟩:=id hSO
  exact⟨hSO,⟨_,St.get⟩,λ h1 h2 S1 k=>S1.wL k⟩
 ·rw[AA] at hv hr'
  obtain⟨e,e1,rfl⟩:=Au.mp hv
  rw[e1] at hr'
  cases hr'
  obtain⟨j,j1,j2,j3⟩:=U.own e (Be e1)
  refine⟨j,?_,j3⟩
  have hj':its[j]?=some (Value.ref e.2):=by simpa using j2
  have CO:j<ys.length:=by rw[hl];exact (Az.mp hj').1
  obtain⟨v',e2,e3⟩:=rv.get (BL CO)
  rw[hj'] at e2;cases e2
  obtain⟨An,b,hb,_⟩:=L4.Paired.at' hr (i:=j) (by lia) V.zg ([]:List Int)
  have:ys.getD j V.zg=ys[j]:=by simp[CO]
  rw[this] at hb
  rw[hb] at e3
  cases (show Value.ref e.2=Value.ref b from e3)
  rw[BL CO,hb]
 ·obtain⟨j,hj⟩:=C3.mp hr'
  exact U.all j r (by have:=(Az.mp hj).1;rw[Ao];lia) hj
theorem Paired.mk {α β:Type}{F:α->β->Prop}:∀ {l:List α}{m:List β},l.length=m.length->(∀ (i:Nat) a b,l[i]?=some a->m[i]?=some b->F a b)->Paired F l m
 | [],[],_,_=>.nil
 | a::l,b::m,h,f=>.cons (f 0 a b rfl rfl) (Paired.mk (by simpa using h) λ i x y hx hy=>f (i+1) x y (by simpa using hx) (by simpa using hy))
 | [],_::_,h,_=>by simp at h
 | _::_,[],h,_=>by simp at h
def R9 (hc:X.calm=true):yW X (.builtin "sorted") (λ xs H Q=>∃ l us vs,∃ rs:List (List Int),xs=[.ref l]/\H l=some (.ext (yD X.w l us))/\Vals vs us/\mM X.K H vs rs/\rs.length<64/\
  ∀ (p:Addr) (idx:List Nat),H p=none->idx.Perm (List.range vs.length)->(idx.map λ i=>rs.getD i []).Pairwise (λ a b=>HT.lexLt b a=false)->Q (.ref p) (upd H p (.lst (idx.map λ i=>vs.getD i .zg)))):=by
 intro pins s Y H xs us0 Q I r h
 obtain⟨l,us,vs,rs,rfl,hl,hv,hr,h64,q⟩:=h
 obtain⟨u,rfl,ru⟩:=vals1 r
 cases ru
 obtain⟨⟨es,ep,t,S,eu⟩,-,-⟩:=(show xG X.prog X.w H s.heap l (.ext (yD X.w l us)) from I.zu l _ hl)
 have hlen:es.size=us.length:=by rw[<- eu];simp
 have hvl:=hv.length
 have hrl:vs.length=rs.length:=Paired.length hr
 have hh:X.A.handled=none:=I.ok.hd hc
 obtain⟨ix,ix1,ix2⟩:∃ ix:List Nat,ix.Perm (List.range us.length)/\(comes X.w l es ep).toList.map (·.2)=ix.map λ i=>us.getD i Value.none:=by
  have hp:((comes X.w l es ep).toList.map (·.2)).Perm us:=by rw[<- eu];exact (qP X.w l es ep).map _
  generalize (comes X.w l es ep).toList.map (·.2)=cs at hp
  clear eu hl hv hvl hlen
  induction hp with
  | nil=>exact⟨[],.refl _,rfl⟩
  | @cons x a b _ ih=>
   obtain⟨ix,i1,i2⟩:=ih
   refine⟨0::ix.map (· + 1),?_,?_⟩
   ·rw[A0,Cw]
    exact (i1.map _).cons 0
   ·rw[Ax,Bp,i2]
    rfl
  | @swap x y a=>
   refine⟨1::0::(List.range a.length).map (· + 2),?_,?_⟩
   ·rw[A0,A0,Cw,Cw,Ax,Bp]
    exact .swap _ _ _
   ·rw[Ax,Ax,Bp]
    refine congrArg _ (congrArg _ ?_)
    refine Cc (by simp) λ i h1 h2=>?_
    simp[h1]
  | @trans a b c _ _ ih1 ih2=>
   obtain⟨i1,p1,e1⟩:=ih1
   obtain⟨i2,p2,e2⟩:=ih2
   have hlb:b.length=c.length:=by rw[e2,Aq,p2.length_eq];simp
   refine⟨i1.map λ i=>i2.getD i 0,?_,?_⟩
   ·refine (p1.map _).trans ?_
    have e:(List.range b.length).map (λ i=>i2.getD i 0)=i2:=by
     have hl2:i2.length=b.length:=by rw[p2.length_eq,hlb];simp
     rw[<- hl2]
     refine Cc (by simp) λ i h1 h2=>?_
     simp[h2]
    rw[e];exact p2
   ·rw[e1,Bp]
    refine Dj λ i hi=>?_
    have hi':i<b.length:=by simpa using p1.mem_iff.mp hi
    have hl2:i<i2.length:=by rw[p2.length_eq,<- hlb];simpa using hi'
    show b.getD i _=c.getD (i2.getD i 0) _
    rw[e2]
    simp[hl2]
 have hix:∀ i∈ix,i<us.length:=λ i hi=>by simpa using ix1.mem_iff.mp hi
 have rows_at:∀ h6:Heap,(∀ b o,s.heap.get? b=some o->h6.get? b=some o)->L4.rM h6 ((comes X.w l es ep).toList.map (·.2)) (ix.map λ i=>rs.getD i []):=λ h6 k=>by
  rw[ix2]
  refine Paired.mk (by simp) λ j a b ha hb=>?_
  rw[AA] at ha hb
  obtain⟨i,hi,rfl⟩:=Au.mp ha
  rw[hi] at hb
  cases hb
  have B9:=hix i (Be hi)
  obtain⟨An,b,hbv,DI⟩:=L4.Paired.at' hr (i:=i) (by lia) V.zg ([]:List Int)
  obtain⟨u',e1,e2⟩:=hv.get (i:=i) (x:=vs.getD i V.zg) (by simp[show i<vs.length by lia])
  rw[hbv] at e2
  cases (show u'=Value.ref b from e2)
  obtain⟨its2,rv2,⟨o,e,AJ,n,hd⟩,_⟩:=I.tuple DI
  have eg:us.getD i Value.none=Value.ref b:=by simp[e1]
  refine⟨An,b,o,its2.toArray,n,eg,k _ _ e,AJ,hd,by simpa using intsAre_of rv2⟩
 have AJ:((comes X.w l es ep).toList.map (·.2)).length=us.length:=by rw[ix2,Aq,ix1.length_eq];simp
 refine fg (Out:=L4.iM ((comes X.w l es ep).toList.map (·.2)) (ix.map λ i=>rs.getD i [])) hh S (by rw[hlen];have:sizeLine=16777216:=rfl;lia) (λ s6 h2 k=>L4.Rw (rows_at _ k) (by rw[AJ,<- hlen];exact h2) (by rw[AJ];lia)) (λ h1=>?_) λ out h' tk p ho hs hp k Cr=>?_
 ·refine⟨List.range ((comes X.w l es ep).toList.map (·.2)).length,.refl _,?_,?_⟩
  ·refine Cc (by simp) λ i h1 h2=>?_
   simp at h2
   simp[h2]
  ·rw[Cz,Cy]
   intro i j hi hj AV
   rw[AJ] at hi hj
   simp at hi hj
   lia
 ·obtain⟨idx,g1,g2,g3⟩:=ho
  obtain⟨e,he⟩:=Cr
  rw[AJ] at g1
  have AI:H p=none:=I.zu.fresh hp
  have CQ:∀ i∈idx,i<us.length:=λ i hi=>by simpa using g1.mem_iff.mp hi
  have hxl:ix.length=us.length:=by rw[ix1.length_eq];simp
  let jx:=idx.map λ i=>ix.getD i 0
  have hjp:jx.Perm (List.range vs.length):=by
   rw[hvl]
   refine (g1.map _).trans ?_
   have e:(List.range us.length).map (λ i=>ix.getD i 0)=ix:=by
    rw[<- hxl]
    refine Cc (by simp) λ i h1 h2=>?_
    simp[h2]
   rw[e];exact ix1
  have hjr:(jx.map λ i=>rs.getD i [])=idx.map λ i=>(ix.map λ i=>rs.getD i []).getD i []:=by
   rw[Bp]
   refine Dj λ i hi=>?_
   have:=CQ i hi
   simp[show i<ix.length by lia]
  refine⟨.ref p,_,I.laid (t':=tk) (o:=.lst (jx.map λ i=>vs.getD i .zg)) k hp ?_,rfl,q p jx AI hjp (by rw[hjr];exact g3)⟩
  refine⟨by rw[Aq,hjp.length_eq,CH];have:sizeLine=16777216:=rfl;lia,out.toList,e,?_,by simpa using he⟩
  rw[g2,ix2]
  refine Paired.mk (by simp[jx]) λ j a b ha hb=>?_
  rw[AA] at ha hb
  obtain⟨i,hi,rfl⟩:=Au.mp hb
  simp only[jx,AA,hi,Option.map_some,Option.some.injEq] at ha
  have B9:=CQ i (Be hi)
  have hx:ix.getD i 0<us.length:=by
   have:ix.getD i 0∈ix:=by simp[show i<ix.length by lia]
   exact hix _ this
  obtain⟨u',e1,e2⟩:=hv.get (i:=ix.getD i 0) (x:=vs.getD (ix.getD i 0) V.zg) (by
   have hx':ix.getD i 0<vs.length:=by lia
   generalize ix.getD i 0=q at hx'
   rw[DB,BL hx'];rfl)
  subst ha
  have e3:(ix.map λ i=>us.getD i Value.none).getD i Value.none=u':=by
   simp[show i<ix.length by lia] at e1 ⊢
   simp[e1]
  rw[e3];exact e2
end
end ST
namespace L5
open PySem PySem.Spec L2 L3
open PyProof.Rows hiding St
noncomputable def xM:List (List Int)->List (List Int)
 | []=>[]
 | r::rs=>if r∈xM rs then xM rs else r::xM rs
theorem oa {r:List Int}:∀ {rs:List (List Int)},r∈xM rs↔r∈rs
 | []=>.rfl
 | x::rs=>by
  unfold xM
  split
  ·rename_i h
   rw[oa,Aj]
   exact⟨.inr,λ h'=>h'.elim (λ e=>e▸oa.mp h) id⟩
  ·rw[Aj,Aj,oa]
theorem ma:∀ rs:List (List Int),(xM rs).Nodup
 | []=>.nil
 | x::rs=>by
  unfold xM
  split
  ·exact ma rs
  ·rename_i h
   exact A2.mpr ⟨h,ma rs⟩
theorem jo:∀ rs:List (List Int),(xM rs).length<=rs.length
 | []=>Ad _
 | x::rs=>by
  unfold xM
  have:=jo rs
  split <;> simp only[A0] <;> lia
def vY:xZ:=λ ds S Q=>match ds with
 | [.tup _]=>False
 | [d]=>∃ rows:List (List Int),zZ d S=some (rows.map wj)/\rows.length<64/\(∀ r∈rows,r≠[])/\∀ l,S l=none->Q (.ref l) (ups S l (.lst ((L4.vP (xM rows)).map wj)))
 | _=>False
noncomputable def ny:List T->Option T
 | [.lst ts]=>(tP ts).bind λ rs=>if rs.length<64/\∀ r∈rs,r≠[] then some (.lst ((L4.vP (xM rs)).map zw)) else none
 | _=>none
def Sg:uN zK ny vY:=λ S Z ys z ds Q hz hv e hq=>by
 unfold ny at e
 split at e
 ·obtain⟨d,rfl,h1⟩:=um hv
  obtain⟨rs,e1,e2⟩:=Af.mp e
  split at e2
  ·rename_i hc
   cases e2
   cases fN e1
   obtain⟨es,h2,h3⟩:=h1.seq rfl
   cases nC.mp h3
   have key:∃ rows:List (List Int),zZ d S=some (rows.map wj)/\rows.length<64/\(∀ r∈rows,r≠[])/\∀ l,S l=none->Q (.ref l) (ups S l (.lst ((L4.vP (xM rows)).map wj))):=
    ⟨rs,h2,hc.1,hc.2,λ l hl=>hq _ _ (.new hl _) (qo hz hl (nC.mpr rfl))⟩
   obtain⟨_,q | ⟨a,q,_⟩,_⟩:=h1.lst
   ·subst q;exact key
   ·subst q;exact key
  ·cases e2
 ·cases e
section
variable {K:Aa}{e:Expr}{p:Pos}
def vY.mo:uj vY:=λ ds S Q Q' hq h=>by
 unfold vY at h ⊢
 split at h
 ·exact h.elim
 ·obtain⟨rows,h1,h2,h3,h4⟩:=h
  exact⟨rows,h1,h2,h3,λ l hl=>hq _ _ (h4 l hl)⟩
 ·exact h.elim
def zm.pick {H:Hp}{ys vs:List V}{rows rs:List (List Int)}(h:zm K H (rows.map wj) ys) (P:ST.rO ys rows vs rs):zm K H (rs.map wj) vs:=by
 have key:∀ (vs:List V) (rs:List (List Int)),vs.length=rs.length->(∀ (i:Nat) v r,vs[i]?=some v->rs[i]?=some r->∃ (j:Nat),ys[j]?=some v/\rows[j]?=some r)->zm K H (rs.map wj) vs:=by
  intro vs
  induction vs with
  | nil=>intro rs hl _;cases rs with
   | nil=>exact .nil
   | cons _ _=>simp at hl
  | cons v vs ih=>intro rs hl hp;cases rs with
   | nil=>simp at hl
   | cons r rs=>
    refine .cons ?_ (ih rs (by simpa using hl) λ i v r hv hr=>hp (i+1) v r (by simpa using hv) (by simpa using hr))
    obtain⟨j,j1,j2⟩:=hp 0 v r rfl rfl
    obtain⟨x,e1,e2⟩:=h.get (i:=j) (d:=wj r) (by rw[AA,j2];rfl)
    rw[j1] at e1;cases e1
    exact e2
 exact key vs rs P.len P.sub
def rO.mem {ys vs:List V}{rows rs:List (List Int)}(P:ST.rO ys rows vs rs) {r:List Int}:r∈rs↔r∈rows:=by
 refine⟨λ h=>?_,P.all r⟩
 obtain⟨i,hi⟩:=C3.mp h
 have hl:i<vs.length:=by rw[P.len];exact (Az.mp hi).1
 obtain⟨j,_,j2⟩:=P.sub i _ r (BL hl) hi
 exact Be j2
def vY.fits {w:World}:tE K vY (λ xs H Q=>∃ p ys,∃ rows:List (List Int),xs=[.ref p]/\zP K H p ys/\ST.mM K H ys rows/\rows.length<64/\
  ∀ (l:Addr) (us:List Value) (vs:List V) (rs:List (List Int)),H l=none->Vals vs us->ST.rO ys rows vs rs->
   ∃ l' us' vs',∃ rs':List (List Int),[V.ref l]=[.ref l']/\(upd H l (.ext (ST.yD w l us))) l'=some (.ext (ST.yD w l' us'))/\Vals vs' us'/\ST.mM K (upd H l (.ext (ST.yD w l us))) vs' rs'/\rs'.length<64/\
    ∀ (p:Addr) (idx:List Nat),(upd H l (.ext (ST.yD w l us))) p=none->idx.Perm (List.range vs'.length)->(idx.map λ i=>rs'.getD i []).Pairwise (λ a b=>HT.lexLt b a=false)->Q (.ref p) (upd (upd H l (.ext (ST.yD w l us))) p (.lst (idx.map λ i=>vs'.getD i .zg)))):=λ xs ds H S Q h0 h2 h=>by
 unfold vY at h
 split at h
 ·exact h.elim
 ·rename_i d hn
  obtain⟨x,hx,h1⟩:=h0.one;subst hx
  obtain⟨rows,e,h64,An,h⟩:=h
  obtain⟨a,ys,rfl,g1,g2⟩:=sO h1 h2 e (λ ts z=>hn ts z)
  refine⟨a,ys,rows,rfl,g1,kK g2 An,h64,λ l us vs rs hf hv P=>?_⟩
  have g3:=zm.pick g2 P
  have x1:Ext H (upd H l (.ext (ST.yD w l us))):=.new hf _
  have CK:rs.Perm (xM rows):=(Dm P.nd (ma rows)).mpr λ r=>by rw[rO.mem P,oa]
  refine⟨l,us,vs,rs,rfl,yq,hv,kK (zm.ext x1 _ g3) λ r hr=>An r ((rO.mem P).mp hr),by rw[CK.length_eq];have:=jo rows;lia,λ p idx hp hi hs=>?_⟩
  rw[P.len] at hi
  have heq:=L4.Yp ((UN hi).trans CK) hs
  have Ag:p≠l:=λ z=>by subst z;rw[yq] at hp;cases hp
  have hpH:H p=none:=by rw[zN Ag] at hp;exact hp
  have x2:Ext (upd H l (.ext (ST.yD w l us))) (upd (upd H l (.ext (ST.yD w l us))) p (.lst (idx.map λ i=>vs.getD i .zg))):=.new hp _
  have r1:zE K (upd H l (.ext (ST.yD w l us))) S:=h2.new hf
  refine h p (h2.none hpH) _ _ (by simp only[zi]) (x1.trans x2) (r1.ups x2 ⟨_,yq,?_⟩)
  rw[<- heq]
  exact zm.ext (x1.trans x2) _ (zm.perm g3 λ i h=>by simpa using hi.mem_iff.mp h)
 ·exact h.elim
end
end L5
namespace ST
open PySem PySem.SetTable PyProof.Rows
theorem c9 {t:SetTable}{hs:List Int}(T:Tab t hs) (h:Int):∀ (f k K:Nat),k<=K->K<k+f->(way t.mask h K).j∉t.place.toList->(∀ m<K,(way t.mask h m).j∈t.place.toList)->probe.go t (λ _=>h+1) h f (way t.mask h k)=some (.empty (way t.mask h K).j none)
 | 0,k,K,h1,h2,_,_=>by lia
 | f+1,k,K,h1,h2,h3,h4=>by
  by_cases e:k=K
  ·subst e
   unfold probe.go
   rw[T.empty h3,lK]
  ·obtain⟨i,g,p1,_⟩:=T.at (h4 k (by lia))
   have ih:=c9 T h f (k+1) K (by lia) (by lia) h3 h4
   conv=>lhs;unfold probe.go
   rw[T.live p1]
   dsimp only
   rw[if_neg (by intro q;have:=eq_of_beq q;lia),iE]
   exact ih
def SH {t:SetTable}{hs:List Int}(T:Tab t hs) (hl:hs.length<=t.mask) (h:Int):∃ j,t.freeSlot h=some (j,false)/\iQ t h j:=by
 obtain⟨K,k1,k2,k3⟩:=T.first hl h
 refine⟨(way t.mask h K).j,?_,⟨k2,K,rfl,k3⟩⟩
 have g:=c9 T h (10*turns t.mask) 0 K (AM _) (by unfold turns;lia) k2 k3
 unfold SetTable.freeSlot
 have e:t.probe (λ _=>h+1) h (t.probeStart h)=some (.empty (way t.mask h K).j none):=g
 rw[e]
 rfl
structure vp (prog:Program) (w:World) (h:Heap) (a:Addr) (xs:List (Int×Tok)) (led:Bool):Prop where
 ex:∃ es ep t,h.get? a=some { cls:=.type "set",dict:=none,data:=.set es ep t }/\es.toList=xs.map (λ e=>((intKind prog w).hash e.1,Value.int e.1 e.2))/\Tab t (xs.map λ e=>(intKind prog w).hash e.1)/\t.led=led/\t.plain=true/\xs.length*5<t.mask*3
 nd:(xs.map (·.1)).Nodup
section
variable {prog:Program}{w:World}{A:Around}{E:Value->Shared->Prop}{s:Shared}
def fits_of {es:Array (Int×Value)}{t:SetTable}{hs:List Int}{n:Nat}(h1:es.size=n) (T:Tab t hs) (h2:hs.length=n) (h3:n<=t.mask):t.fits es.size=true:=by
 have l:=T.len
 unfold SetTable.fits SetTable.fill
 rw[T.sh,h1,l,h2]
 simp
 lia
def oj {n m:Int}{t:Tok}:(intKind prog w).is n (.int m t)=true↔n=m:=by
 constructor
 ·intro h
  obtain⟨t',e⟩:=Value.isInt_shape (show Value.isInt n (.int m t)=true from h)
  cases e;rfl
 ·rintro rfl;exact intKind_is _ _ _ _
def Rl {es:Array (Int×Value)}{xs:List (Int×Tok)}(h:es.toList=xs.map (λ e=>((intKind prog w).hash e.1,Value.int e.1 e.2))):ElemsOf (intKind prog w) es.toList:=λ e he=>by
 rw[h] at he
 obtain⟨x,_,rfl⟩:=AE.mp he
 exact⟨⟨x.1,oj.mpr rfl,rfl⟩,rfl⟩
def YV {es:Array (Int×Value)}{t:SetTable}{xs:List (Int×Tok)}{M wanted:Nat}(he:es.toList=xs.map (λ e=>((intKind prog w).hash e.1,Value.int e.1 e.2))) (hM:vb M) (hw:sizeAbove wanted=M+1) (AL:xs.length*5<M*3):
  ∃ es' t',∃ xs':List (Int×Tok),relayAll t es wanted=(es',t',false)/\es'.toList=xs'.map (λ e=>((intKind prog w).hash e.1,Value.int e.1 e.2))/\xs'.Perm xs/\Tab t' (xs'.map λ e=>(intKind prog w).hash e.1)/\t'.mask=M/\t'.led=t.led/\t'.plain=t.plain/\es'.size=es.size:=by
 have hlen:es.size=xs.length:=by have:=congrArg List.length he;simpa using this
 have DW:(es.map (·.1)).toList=xs.map λ e=>(intKind prog w).hash e.1:=by rw[Array.toList_map,he,Bp];rfl
 have Ar:(es.map (·.1)).size=xs.length:=by rw[CA,hlen]
 obtain⟨t',order,h1,h2,h3,h4,h5,h6,h7⟩:=dM hM t.finger (t.movedTo M) t.led t.plain (es.map (·.1)) (by rw[Ar];lia)
 rw[Ar] at h6
 have Ak:∀ k∈order.toList,k<xs.length:=λ k hk=>by simpa using h6.mem_iff.mp hk
 have hr:t.relaid (es.map (·.1)) wanted=some (t',order):=by
  unfold SetTable.relaid
  rw[hw,Nat.add_sub_cancel];exact h1
 have BA:(order.filterMap (es[·]?)).toList=(order.toList.filterMap λ k=>xs[k]?).map λ e=>((intKind prog w).hash e.1,Value.int e.1 e.2):=by
  rw[Array.toList_filterMap,List.map_filterMap]
  congr 1
  funext k
  rw[<- Br,he,AA]
 have hperm:(order.toList.filterMap λ k=>xs[k]?).Perm xs:=(h6.filterMap _).trans (by rw[List.filterMap_getElem?_range_length])
 have Bw:(order.filterMap (es[·]?)).size=es.size:=by
  rw[<- Bd,BA,Aq,hperm.length_eq,hlen]
 have hT:Tab t' ((order.toList.filterMap λ k=>xs[k]?).map λ e=>(intKind prog w).hash e.1):=by
  rw[<- kT xs (λ e=>(intKind prog w).hash e.1) 0 order.toList Ak,<- DW]
  exact h7
 refine⟨_,t',_,?_,BA,hperm,hT,h2,h4,h5,Bw⟩
 have iu:coversAll order es.size=true:=by
  unfold coversAll
  rw[List.isPerm_iff,hlen]
  exact h6
 have fit:t'.fits (order.filterMap (es[·]?)).size=true:=fits_of (n:=xs.length) (by rw[Bw,hlen]) hT (by rw[Aq,hperm.length_eq]) (by rw[h2];lia)
 unfold relayAll
 rw[hr]
 dsimp only
 rw[iu,fit]
 rfl
def add_int {a:Addr}{xs:List (Int×Tok)}{n:Int}{tk:Tok}{led:Bool}{Q:Bool->Shared->Prop}(S:vp prog w s.heap a xs led) (hn:xs.length<70)
  (h:∀ h' xs' r,Heap.SameBut a s.heap h'->vp prog w h' a xs' led->(n∈xs.map (·.1)/\xs'=xs\/n∉xs.map (·.1)/\xs'.Perm (xs++[(n,tk)]))->Q r { s with heap:=h' }):
  wpAny (model prog w) A (setAddHashed a (.int n tk) ((intKind prog w).hash n)) Q E s:=by
 have S0:=S
 obtain⟨⟨es,ep,t,ho,he,T,Bl,Ag,AL⟩,Bs⟩:=S
 have hlen:es.size=xs.length:=by have:=congrArg List.length he;simpa using this
 have hm7:7<=t.mask/\t.mask<=127:=by rcases T.mask with e | e | e <;> lia
 have fit:t.fits es.size=true:=fits_of (n:=xs.length) hlen T (by simp) (by lia)
 have hel:=Rl (prog:=prog) (w:=w) he
 unfold setAddHashed setAddHashedIn
 refine za5 (za0 (zaA ho rfl fit ?_))
 dsimp only
 have bs:byScan (.int n tk) es=true:=by
  have h1:decide (es.size<scanBound)=true:=zaJ (by unfold scanBound;lia)
  have h2:es.all (·.2.scannable)=true:=by
   rw[Array.all_eq_true_iff_forall_mem]
   intro e hm
   exact (hel e (by simpa using hm)).2
  unfold byScan
  rw[h1,h2]
  rfl
 rw[if_pos bs]
 refine za0 ?_
 unfold setAddByScan
 refine za0 (wpAny_rule (za0 (wpAny_setScan_of (k:=n) (oj.mpr rfl) ho rfl fit hel ?_)))
 have hfind:(es.toList.findIdx? (λ e=>(intKind prog w).is n e.2)).isSome=true↔n∈xs.map (·.1):=by
  rw[he,List.findIdx?_isSome,CG]
  constructor
  ·rintro⟨e,hm,q⟩
   obtain⟨x,hx,rfl⟩:=AE.mp hm
   exact AE.mpr ⟨x,hx,(oj.mp q).symm⟩
  ·intro hm
   obtain⟨x,hx,rfl⟩:=AE.mp hm
   exact⟨_,AE.mpr ⟨x,hx,rfl⟩,oj.mpr rfl⟩
 cases hc:es.toList.findIdx? (λ e=>(intKind prog w).is n e.2) with
 | some j=>
  dsimp only
  have hm:=hfind.mp (by rw[hc];rfl)
  refine Ab ?_
  dsimp only
  exact Ab (h s.heap xs false ⟨rfl,λ _ _=>rfl⟩ S0 (.inl ⟨hm,rfl⟩))
 | none=>
  dsimp only
  have hm:n∉xs.map (·.1):=λ q=>by have:=hfind.mpr q;rw[hc] at this;cases this
  obtain⟨j,fs,F⟩:=SH T (by rw[Aq];lia) ((intKind prog w).hash n)
  obtain⟨p1,p2,p3⟩:=T.put F
  rw[Aq] at p1
  have B6:(t.put j).1.plain=true:=by rw[p2];exact Ag
  have BO:(t.put j).1.mask=t.mask:=by rw[p2]
  have Ak:(t.put j).1.led=led:=by rw[p2];exact Bl
  generalize hT:(t.put j)=P at *
  obtain⟨t1,p⟩:=P
  dsimp only at *
  let xs1:=xs.take p++(n,tk)::xs.drop p
  have hperm:xs1.Perm (xs++[(n,tk)]):=by
   have e:xs.take p++xs.drop p=xs:=Dn p xs
   have:xs1.Perm ((n,tk)::(xs.take p++xs.drop p)):=List.perm_middle
   rw[e] at this
   exact this.trans (List.perm_append_singleton _ _).symm
  have hl1:xs1.length=xs.length+1:=by rw[hperm.length_eq];simp
  have hes1:(insertAt es p ((intKind prog w).hash n,Value.int n tk)).toList=xs1.map λ e=>((intKind prog w).hash e.1,Value.int e.1 e.2):=by
   rw[toList_insertAt,he]
   simp[xs1,C2,C1]
  have hsz1:(insertAt es p ((intKind prog w).hash n,Value.int n tk)).size=xs.length+1:=by rw[<- Bd,hes1,Aq,hl1]
  have T1:Tab t1 (xs1.map λ e=>(intKind prog w).hash e.1):=by
   have:xs1.map (λ e=>(intKind prog w).hash e.1)=(xs.map λ e=>(intKind prog w).hash e.1).take p++(intKind prog w).hash n::(xs.map λ e=>(intKind prog w).hash e.1).drop p:=by simp[xs1,C2,C1]
   rw[this];exact p3
  have fit1:t1.fits (insertAt es p ((intKind prog w).hash n,Value.int n tk)).size=true:=fits_of (n:=xs.length+1) hsz1 T1 (by rw[Aq,hl1]) (by rw[BO];lia)
  have CN:layNew t es ((intKind prog w).hash n) (.int n tk)=(insertAt es p ((intKind prog w).hash n,Value.int n tk),t1,false,false):=by
   unfold layNew
   rw[fs]
   dsimp only
   rw[hT]
   dsimp only
   unfold SetTable.orStandIn
   rw[fit1]
   rfl
  have BF:(insertAt es p ((intKind prog w).hash n,Value.int n tk)).size<=sizeLine:=by
   rw[hsz1]
   have:sizeLine=16777216:=rfl
   lia
  have hnd1:(xs1.map (·.1)).Nodup:=by
   refine (hperm.map _).nodup_iff.mpr ?_
   rw[B2,List.nodup_append]
   refine⟨Bs,by simp,λ x hx y hy=>?_⟩
   simp at hy
   subst hy
   exact λ e=>hm (e▸hx)
  have ho1:=nR (es':=insertAt es p ((intKind prog w).hash n,Value.int n tk)) (t':=t1) ho
  have sb:=Heap.SameBut.update s.heap a (Obj.putSet (insertAt es p ((intKind prog w).hash n,Value.int n tk)) t1)
  have hfill:t1.fill=xs.length+1:=by
   have l:=T1.len
   rw[Aq,hl1] at l
   unfold SetTable.fill
   rw[T1.sh,l]
   simp
  rw[CN]
  dsimp only
  refine za0 (m:=pure ()) (Ab ?_)
  rw[B6]
  simp only[if_true]
  refine za0 (m:=pure true) (Ab ?_)
  simp only[if_true]
  refine za0 (wpAny_storeSet_of ho rfl ?_ BF)
  by_cases hf:t1.tooFull=true
  ·rw[hf]
   simp only[Cm,C8,if_true]
   have hfull:t.mask*3<=(xs.length+1)*5:=by
    have:=hf
    unfold SetTable.tooFull at this
    rw[hfill,BO] at this
    simpa using this
   obtain⟨M',g1,g2,g3⟩:=fA xs.length t.mask T.mask AL hfull hn
   obtain⟨es2,t2,xs2,r1,r2,r3,r4,r5,r6,r7,r8⟩:=YV (prog:=prog) (w:=w) (t:=t1) hes1 g1 (wanted:=grown (insertAt es p ((intKind prog w).hash n,Value.int n tk)).size) (by rw[hsz1];exact g2) (by rw[hl1];exact g3)
   rw[r1]
   dsimp only
   refine za0 (m:=pure ()) (Ab (za0 (wpAny_storeSet_of ho1 rfl ?_ (by rw[r8];exact BF))))
   refine Ab ?_
   dsimp only
   refine Ab (h _ xs2 true (sb.trans (Heap.SameBut.update _ a _)) ⟨⟨es2,ep+1+1,t2,nR ho1,r2,r4,by rw[r6];exact Ak,by rw[r7];exact B6,by rw[r3.length_eq,hl1,r5];exact g3⟩,(r3.map _).nodup_iff.mpr hnd1⟩ (.inr ⟨hm,r3.trans hperm⟩))
  ·have hf':t1.tooFull=false:=by simpa using hf
   rw[hf']
   simp only[Cm,C7,A3,if_false]
   have hfull:(xs.length+1)*5<t.mask*3:=by
    have:=hf'
    unfold SetTable.tooFull at this
    rw[hfill,BO] at this
    simpa using this
   refine Ab ?_
   dsimp only
   exact Ab (h _ xs1 true sb ⟨⟨_,ep+1,t1,ho1,hes1,T1,Ak,B6,by rw[hl1,BO];exact hfull⟩,hnd1⟩ (.inr ⟨hm,hperm⟩))
end
structure t8 (its:Array Value) (ns:List Int) (i:Nat) (xs:List (Int×Tok)):Prop where
 own:∀ e∈xs,∃ j,j<i/\ns[j]?=some e.1
 all:∀ (j:Nat) r,j<i->ns[j]?=some r->r∈xs.map (·.1)
theorem jq:∀ (l m:List Int),l.Nodup->(∀ x∈l,x∈m)->l.length<=m.length
 | [],m,_,_=>AM _
 | x::l,m,hn,hs=>by
  have h1:=A2.mp hn
  have hx:=hs x Ap
  have:=jq l (m.erase x) h1.2 λ z hz=>(Dr (λ e:z=x=>h1.1 (by rw[<- e];exact hz))).mpr (hs z (Av _ hz))
  rw[Dq hx] at this
  have:=C6 hx
  simp only[A0];lia
def t8.len {its:Array Value}{ns:List Int}{i:Nat}{xs:List (Int×Tok)}(U:t8 its ns i xs) (nd:(xs.map (·.1)).Nodup):xs.length<=i:=by
 have:=jq (xs.map (·.1)) ((List.range i).map λ j=>ns.getD j 0) nd λ x hx=>by
  obtain⟨e,he,rfl⟩:=AE.mp hx
  obtain⟨j,h1,h3⟩:=U.own e he
  exact AE.mpr ⟨j,A6.mpr h1,by rw[DB,h3];rfl⟩
 simpa using this
def t8.step {its:Array Value}{ns:List Int}{i:Nat}{xs xs':List (Int×Tok)}{n:Int}{t:Tok}(U:t8 its ns i xs) (hr:ns[i]?=some n)
  (h:n∈xs.map (·.1)/\xs'=xs\/n∉xs.map (·.1)/\xs'.Perm (xs++[(n,t)])):t8 its ns (i+1) xs':=by
 have eqi:∀ j:Nat,j<i+1->¬ j<i->j=i:=λ j a b=>by lia
 rcases h with ⟨hm,rfl⟩ | ⟨_,hp⟩
 ·refine⟨λ e he=>?_,λ j r hj A8=>?_⟩
  ·obtain⟨j,h1,h2⟩:=U.own e he
   exact⟨j,BH h1,h2⟩
  ·by_cases q:j<i
   ·exact U.all j r q A8
   ·rw[eqi j hj q,hr] at A8;cases A8;exact hm
 ·refine⟨λ e he=>?_,λ j r hj A8=>?_⟩
  ·rcases A1.mp (hp.mem_iff.mp he) with q | q
   ·obtain⟨j,h1,h2⟩:=U.own e q
    exact⟨j,BH h1,h2⟩
   ·cases AF.mp q
    exact⟨i,Cj i,hr⟩
  ·rw[(hp.map (·.1)).mem_iff,B2]
   by_cases q:j<i
   ·exact Cg _ (U.all j r q A8)
   ·rw[eqi j hj q,hr] at A8;cases A8
    exact AN _ Ap
def Nums (its:Array Value) (ns:List Int):Prop:=∀ (i:Nat) v,its[i]?=some v->∃ n t,v=.int n t/\ns[i]?=some n
section
variable {prog:Program}{w:World}{A:Around}{R:Result->Shared->Prop}{I:Addr}{fp wr:List Addr}{G:Array GenState->Array GenState->Prop}{n:Nat}{P:Nat->Value->Prop}{St:Nat->Shared->Prop}
def vp.keep {h h':Heap}{a:Addr}{xs:List (Int×Tok)}{led:Bool}(S:vp prog w h a xs led) (k:∀ o,h.get? a=some o->h'.get? a=some o):vp prog w h' a xs led:=
 let ⟨⟨es,ep,t,ho,r⟩,nd⟩:=S;⟨⟨es,ep,t,k _ ho,r⟩,nd⟩
def UX (W:WalksS prog w A.in1 I fp wr G n (λ i v=>P i v) St) (Sa:Addr) (hSf:Sa∉fp) {its:Array Value}{ns:List Int}(hP:∀ i v,P i v->its[i]?=some v) (hn:n<70) (led:Bool) (hN:Nums its ns):
  ∀ (k i:Nat) (s:Shared) (xs:List (Int×Tok)),n-i=k->i<=n->St i s->vp prog w s.heap Sa xs led->t8 its ns i xs->
   (∀ s' xs',Moved (Sa::wr) G s s'->vp prog w s'.heap Sa xs' led->t8 its ns n xs'->R (.ok (.ret .none)) s')->
   codeAny (model prog w) A (.builtin "set.update.loop" ⟨[.ref Sa,.ref I],[]⟩) R s:=by
 have hSw:Sa∉wr:=λ z=>hSf (W.sub _ z)
 have more:∀ b∈wr,b∈Sa::wr:=λ b hb=>Av _ hb
 intro k
 induction k with
 | zero=>
  intro i s xs hk hi Aw hS hU hR
  have e:i=n:=by lia
  subst e
  refine codeAny_builtin F.entry_set_update_loop ?_
  rw[Around.under_plainId F.plain_set_update_loop _]
  show wpAny _ A.in1 (pyNext (.ref I) >>= _) _ _ s
  exact za0 (W.done s _ _ Aw λ s' hm=>Ab (hR s' xs (hm.mono more) (hS.keep λ o e=>hm.heap _ o hSw e) hU))
 | succ k ih=>
  intro i s xs hk hi Aw hS hU hR
  have Ak:i<n:=by lia
  refine codeAny_builtin F.entry_set_update_loop ?_
  rw[Around.under_plainId F.plain_set_update_loop _]
  show wpAny _ A.in1 (pyNext (.ref I) >>= _) _ _ s
  refine za0 (W.item i s _ _ Ak Aw λ v s1 hPv hst1 hm=>?_)
  obtain⟨m,t,rfl,hr⟩:=hN i v (hP i v hPv)
  have S1:vp prog w s1.heap Sa xs led:=hS.keep λ o e=>hm.heap _ o hSw e
  have hl:xs.length<70:=by have:=hU.len hS.nd;lia
  show wpAny _ A.in1 (holding [Value.int m t] (setAdd Sa (.int m t)) >>= _) _ _ s1
  refine za0 (za5 ?_)
  unfold setAdd
  refine za5 (za0 ((intKind prog w).pyHash (A:=A.in1) (k:=m) (oj.mpr rfl) ?_))
  refine add_int (s:={ s1 with toks:=s1.toks+1 }) (A:=A.in1) S1 hl λ h' xs' rr sb S' hx=>?_
  have fr:=W.frame (i+1) s1 h' (s1.toks+1) hst1 (BS _ _) λ c hc o e=>(sb.2 c (λ z:c=Sa=>hSf (z▸hc))).trans e
  refine Ab ⟨plainId_quiet F.plain_set_update_loop _,ih (i+1) _ xs' (by lia) Ak fr S' (hU.step hr hx) λ s2 xs2 hm2 S2 U2=>?_⟩
  refine hR s2 xs2 (Moved.trans W.gtrans ((hm.mono more).then_heap (BS _ _) λ c o hc e=>?_) hm2) S2 U2
  exact (sb.2 c (λ z=>hc (z▸Ap))).trans e
end
section
variable {prog:Program}{w:World}{A:Around}{E:Value->Shared->Prop}{s:Shared}
def Y1 {h:Heap}{a:Addr}(ho:h.get? a=some (yN w)):vp prog w h a [] (vf w):=
 ⟨⟨#[],0,_,ho,rfl,⟨.inl rfl,rfl,rfl,.nil,λ j hj=>(by cases hj),λ i g j hg=>(by cases hg)⟩,rfl,rfl,by show 0*5<7*3;lia⟩,.nil⟩
set_option maxHeartbeats 6400000 in
def RC {l:Addr}{its:Array Value}{ns:List Int}{Q:Value->Shared->Prop}(hh:A.handled=none) (hl:s.heap.IsList l its) (hT:Nums its ns) (hn:its.size<70)
  (h:∀ (h':Heap) (tk:Nat) xs,vp prog w h' s.heap.objs.size xs (vf w)->t8 its ns its.size xs->(∀ b o,b<s.heap.objs.size->s.heap.get? b=some o->h'.get? b=some o)->Q (.ref s.heap.objs.size) { s with heap:=h',toks:=tk }):
  wpAny (model prog w) A (call (.type "set") [.ref l]) Q E s:=by
 obtain⟨c,tl,DS⟩:=F.called_set.mro
 have made:=F.called_set.made
 have subm:=F.called_set.sub
 refine wpAny_call (codeAny_of_tree ?_)
 show wpAny _ _ (callAny (.type "set") _) _ _ _
 refine Ab ⟨Code.quiet_builtin _ (by decide +kernel),codeAny_builtin F.entry_type_call ?_⟩
 rw[Around.under_plain (weight_type_call_type "set" [.ref l] []) rfl]
 have nt:=F.called_set.notType
 have cc:=F.called_set.canCreate
 have tc:=F.typeCall_set_1 (.ref l)
 repeat (any_goals (first | assumption | wp_step))
 refine codeAny_mono (bA (.ref l) (E:=E) (Q:=λ obj s₁=>obj=.ref s.heap.objs.size/\s₁={ s with heap:=s.heap.push (yN w) }) ⟨rfl,rfl⟩) λ r s₁ hr=>?_
 cases r with
 | error e=>exact hr
 | ok fl=>
  cases fl with
  | ret obj=>
   obtain⟨rfl,rfl⟩:=hr
   have hS:(s.heap.push (yN w)).get? s.heap.objs.size=some (yN w):=AH _ rfl
   have hTy:Shared.TypeIs { s with heap:=s.heap.push (yN w) } (.ref s.heap.objs.size) "set":=⟨_,hS,rfl⟩
   have li:=F.called_set.init.lookup
   have bi:=F.called_set.init.bind (.ref s.heap.objs.size)
   repeat (any_goals (first | assumption | wp_step))
   let s1:Shared:={ s with heap:=s.heap.push (yN w) }
   refine codeAny_mono (codeAny_call_builtin (R:=wants (λ r s₂=>r=.none/\∃ h' tk xs,s₂={ s with heap:=h',toks:=tk }/\vp prog w h' s.heap.objs.size xs (vf w)/\t8 its ns its.size xs/\
     ∀ b o,b<s.heap.objs.size->s.heap.get? b=some o->h'.get? b=some o) E) F.called_set.init.plain F.entry_set_init (check_set_init_1 hTy ?_)) λ r₂ s₂ hr₂=>?_
   ·obtain⟨⟨ocls,odict,odata,oslots⟩,CL,AJ,nl,CV⟩:=id hl
    simp only at AJ CV
    subst AJ CV
    have hol1:(s.heap.push (yN w)).get? l=some { cls:=.type "list",dict:=odict,data:=.seq its nl,slots:=oslots }:=za1 _ CL
    have sls:=F.sub_list_set
    have slf:=F.sub_list_frozenset
    have nd:(Value.type "list" == Value.type "dict")=false:=by decide
    have hl1:(s.heap.push (yN w)).IsList l its:=⟨_,hol1,rfl,nl,rfl⟩
    unfold Builtin.«set.__init__» noKeywords Builtin.Frozenset.updateFrom
    generalize hPI:pyIter=PI
    unfold yN at *
    wp_walk
    subst hPI
    refine zaO hl1 (za0 (wpAny_runValue ?_))
    have hlS:l<s.heap.objs.size:=Ai CL
    have Ar:(s.heap.push (yN w)).objs.size=s.heap.objs.size+1:=Heap.size_push _ _
    have hneI:l≠(s.heap.push (yN w)).objs.size:=by rw[Ar];exact Al (BH hlS)
    have szne:s.heap.objs.size≠(s.heap.push (yN w)).objs.size:=by rw[Ar];exact Al (Cj _)
    have low:∀ b:Addr,b<s.heap.objs.size->b≠(s.heap.push (yN w)).objs.size:=λ b hb=>by rw[Ar];exact Al (BH hb)
    refine UX (A:=A.in1.in1) (P:=λ i v=>its[i]?=some v) ((Walks.list (A:=A.in1.in1.in1) (by simp[hh]) _ l hneI its).toS) s.heap.objs.size ?_ (its:=its) (ns:=ns) (λ _ _ q=>q) hn (vf w) hT its.size 0 _ [] (by lia) (AM _)
     ⟨⟨_,AH _ rfl,rfl,rfl⟩,hl1.push _⟩ (Y1 (w:=w) (za1 _ hS)) ⟨λ e he=>(by cases he),λ j r hj=>(by lia)⟩ ?_
    ·intro hm
     rcases Aj.mp hm with q | q
     ·exact szne q
     ·exact Bu hlS (AF.mp q)
    ·intro s' xs' hm S' U'
     obtain⟨h',g',d',tk',os'⟩:=s'
     obtain rfl:g'=s.gens:=hm.gens
     obtain rfl:d'=s.drawn:=hm.drawn
     obtain rfl:os'=s.os:=hm.os
     refine Ab (Ab ⟨rfl,h',tk',xs',rfl,S',U',λ b o hb e=>?_⟩)
     refine hm.heap b o (λ q=>?_) (za1 _ (za1 _ e))
     rcases Aj.mp q with q | q
     ·exact Al hb q
     ·exact low b hb (AF.mp q)
   ·cases r₂ with
    | error e=>exact hr₂
    | ok fl₂=>
     cases fl₂ with
     | ret r=>
      obtain⟨rfl,h',tk,xs,rfl,g1,g2,g3⟩:=hr₂
      repeat (any_goals (first | assumption | wp_step))
      exact h h' tk xs g1 g2 g3
     | _=>exact hr₂.elim
  | _=>exact hr.elim
end
end ST
namespace L4
open PySem PyProof.Rows
def Rx {prog:Program}{w:World}{A:Around}{E:Value->Shared->Prop}{s:Shared}{vs:List Value}{ns:List Int}(hI:IntsAre vs ns) (h2:2<=vs.length) (h64:vs.length<64):
  Core prog w A E vs (λ out=>∃ ns',IntsAre out.toList ns'/\ns'.Perm ns/\ns'.Pairwise (·<=·)) s:=by
 obtain⟨v1,v2,rest,rfl⟩:∃ v1 v2 rest,vs=v1::v2::rest:=by
  match vs,h2 with
  | v1::v2::rest,_=>exact⟨v1,v2,rest,rfl⟩
 unfold Core
 rw[keyKind_ints hI]
 refine Ab ⟨rfl,?_⟩
 refine za3 (wpS_sortRuns (a₀:=pairsOf (v1::v2::rest)) (st:=SortSt.mk' oneType' ((v1::v2::rest).toArray.zip (v1::v2::rest).toArray) #[] 7 none)
   (Q:=λ _ st'=>(arrOf st').Perm (pairsOf (v1::v2::rest))/\failedOf st'=none/\SortedTo (arrOf st') (pairsOf (v1::v2::rest)).size)
   hI.intKeys ⟨Array.Perm.refl _,rfl,rfl,rfl⟩ (by rw[pairsOf_size];simp) (by rw[pairsOf_size];exact h64) λ st' a1 a2 a3=>⟨a1,a2,a3⟩) ?_ λ _ _ e=>e
 rintro⟨⟨⟩,st'⟩ s' ⟨rfl,hp,hf,hs⟩
 exact⟨rfl,hf,sorted_out hI hp hs,by rw[hp.size_eq,pairsOf_size]⟩
end L4
namespace L5
open PySem PySem.Spec L2 L3
open PyProof.Rows hiding St
structure Bq (mg:Str->Option Value):Prop where
 set:mg "set"=none
 zip:mg "zip"=none
 enumerate:mg "enumerate"=none
section
variable {X:Cx}{K:Aa}{a b c e:Expr}{ta tb tc:zx}{pos:Pos}{fa fb fc:Ev->Option T}
def qO (f g:yM) (ta tb tc:zx):zx:=fun L S Q=>ta L S λ x S1=>tb L S1 λ y S2=>f x y S2 λ z S3=>match z with
 | .bl k=>if k=true then tc L S3 λ w S4=>g y w S4 Q else Q (.bl false) S3
 | _=>False
def qO.mo {f g:yM}(hf:xC f) (hg:xC g) (ha:yz ta) (hb:yz tb) (hc:yz tc):yz (qO f g ta tb tc):=fun L S Q Q' hq h=>
 ha L S _ _ (λ x S1 h=>hb L S1 _ _ (λ y S2 h=>hf x y S2 _ _ (λ z S3 h=>by
  cases z <;> first
   | exact vh (hc L S3 _ _ λ w S4 h=>hg y w S4 _ _ hq h) (hq _ _) h
   | exact h) h) h) h
def Zz {f g:yM}{r r':R2}(hr:xu K f r) (hr':xu K g r') (hf:xC f) (hg:xC g) (ha:yz ta) (hb:yz tb) (hc:yz tc) {Y:St}{H:Hp}{Q:VK}(h:zU K (qO f g ta tb tc) Y H Q):gT r r' (zU K ta) (zU K tb) (zU K tc) Y H Q:=by
 obtain⟨L,S,r1,r2,h⟩:=h
 refine zU.go ha r1 r2 h λ x S1 v H1 h1 q1 e1 p1=>?_
 refine zU.go hb (r1.ext e1) p1 h1 λ y S2 w H2 h2 q2 e2 p2=>?_
 refine hr v w x y H2 S2 _ (zi.ext e2 x q1) q2 p2 (hf x y S2 _ _ (λ d S3 z v3 H3 q3 e3 p3=>?_) h2)
 cases d with
 | bl k=>
  simp only[zi] at q3
  refine⟨k,q3,vh (λ z=>?_) (λ z=>?_) z⟩
  ·refine zU.go hc (r1.ext ((e1.trans e2).trans e3)) p3 z λ w4 S4 v4 H4 h4 q4 e4 p4=>?_
   exact hr' w v4 y w4 H4 S4 Q (zi.ext (e3.trans e4) y q2) q4 p4 (hg y w4 S4 _ _ (λ d S' z=>z.ext (((e1.trans e2).trans e3).trans e4)) h4)
  ·exact z _ H3 (by simp only[zi]) ((e1.trans e2).trans e3) p3
 | _=>exact z.elim
@[simp] noncomputable def bF (f g:T->T->Option T) (fa fb fc:Ev->Option T):Ev->Option T:=fun J=>(fa J).bind λ x=>(fb J).bind λ y=>(f x y).bind λ b=>match b with
 | .bl k=>if k=true then (fc J).bind λ z=>g y z else some (.bl false)
 | _=>none
def U0 {f g:T->T->Option T}{F G:yM}(hf:Good2 zK f F) (hg:Good2 zK g G) (ha:yy fa ta) (hb:yy fb tb) (hc:yy fc tc):xt (bF f g fa fb fc) (qO F G ta tb tc):=λ S Z L J y Q hE e hq=>by
 obtain⟨x1,e1,e⟩:=Af.mp e
 obtain⟨x2,e2,e⟩:=Af.mp e
 obtain⟨b,e3,e⟩:=Af.mp e
 refine ha S Z L J x1 _ hE e1 λ d1 S1 s1 r1=>?_
 refine hb S1 Z L J x2 _ (hE.grow s1) e2 λ d2 S2 s2 r2=>?_
 refine hf S2 Z x1 x2 b d1 d2 _ (hE.grow (s1.trans s2)).zd (Vw.grow r1 s2) r2 e3 λ c S3 s3 r3=>?_
 split at e
 ·have:=r3.1
  simp only[Sn] at this
  subst this
  split at e
  ·rename_i hk
   obtain⟨x4,e4,e5⟩:=Af.mp e
   dsimp only;rw[if_pos hk]
   refine hc S3 Z L J x4 _ (hE.grow ((s1.trans s2).trans s3)) e4 λ d4 S4 s4 r4=>?_
   exact hg S4 Z x2 x4 y d2 d4 Q (hE.grow (((s1.trans s2).trans s3).trans s4)).zd (Vw.grow r2 (s3.trans s4)) r4 e5 λ c' S5 s5 r5=>hq c' S5 ((((s1.trans s2).trans s3).trans s4).trans s5) (Cl.cl (((s1.trans s2).trans s3).trans s4) r5)
  ·rename_i hk
   dsimp only;rw[if_neg hk]
   cases e
   exact hq _ S3 ((s1.trans s2).trans s3) (Cl.of (λ _=>nofun) wc)
 ·cases e
def Wz {op op':CmpOp}{f g:yM}{r r':R2}(ho:z_ X (compareOp op) r) (ho':z_ X (compareOp op') r') (hr:xu X.K f r) (hr':xu X.K g r') (hf:xC f) (hg:xC g) (ha:PD X a ta) (hb:PD X b tb) (hc:PD X c tc)
  (hm:lastMarks [op,op'] [b,c]=false:=by with_unfolding_all rfl):PD X (.Compare a [op,op'] [b,c] pos) (qO f g ta tb tc):=
 ⟨qO.mo hf hg ha.mo hb.mo hc.mo,PE.imp (XX ho ho' ha.pe hb.pe hc.pe hm) λ _ _ _ h=>Zz hr hr' hf hg ha.mo hb.mo hc.mo h⟩
end
end L5
namespace L2
open PySem PySem.Spec PyProof.Rows
section
variable {X:Cx}
def eZ:z_ X (compareOp .Is) (λ x y H Q=>∃ c d,x=.bl c/\y=.bl d/\Q (.bl (c == d)) H):=by
 intro pins s Y H x y v u Q I rx ry h
 obtain⟨c,d,rfl,rfl,q⟩:=h
 cases rx
 cases ry
 exact is_bool ⟨.bl _,H,I,rfl,q⟩
def eW:z_ X (compareOp .IsNot) (λ x y H Q=>∃ c d,x=.bl c/\y=.bl d/\Q (.bl (c != d)) H):=by
 intro pins s Y H x y v u Q I rx ry h
 obtain⟨c,d,rfl,rfl,q⟩:=h
 cases rx
 cases ry
 exact isnot_bool ⟨.bl _,H,I,rfl,q⟩
end
end L2
namespace L5
open PySem PySem.Spec L2 L3
open PyProof.Rows hiding St
section
variable {X:Cx}{K:Aa}{a b c e o i v:Expr}{es:List Expr}{ta tb td ty tv:zx}{pos p pos':Pos}
def u5:yM:=λ x y S Q=>match x,y with
 | .int i,.int j=>Q (.bl (decide (i<j))) S
 | .tup ds,.tup es=>∃ ns ms:List Int,ds=ns.map D.int/\es=ms.map D.int/\Q (.bl (HT.lexLt ns ms)) S
 | _,_=>False
noncomputable def zX:T->T->Option T
 | .int i,.int j=>some (.bl (decide (i<j)))
 | .tup ts,.tup us=>(vA ts).bind λ ns=>(vA us).map λ ms=>.bl (HT.lexLt ns ms)
 | _,_=>none
def u5.mo:xC u5:=λ x y S Q Q' hq h=>by
 unfold u5 at h ⊢
 split at h
 ·exact hq _ _ h
 ·obtain⟨ns,ms,h1,h2,h3⟩:=h
  exact⟨ns,ms,h1,h2,hq _ _ h3⟩
 ·exact h.elim
def u5.fits:xu K u5 (λ x y H Q=>wq (λ i j=>.bl (decide (i<j))) x y H Q\/kO K x y H Q):=λ x y d e H S Q h1 h2 h3 h=>by
 unfold u5 at h
 split at h
 ·simp only[zi] at h1 h2
  exact .inl ⟨_,_,h1,h2,h _ H (by simp only[zi]) (.refl H) h3⟩
 ·obtain⟨ns,ms,rfl,rfl,h⟩:=h
  simp only[zi] at h1 h2
  obtain⟨a,xs,rfl,g1,g2⟩:=h1
  obtain⟨b,ys,rfl,g3,g4⟩:=h2
  rw[g2.ints] at g1
  rw[g4.ints] at g3
  exact .inr ⟨a,b,ns,ms,rfl,rfl,g1,g3,h _ H (by simp only[zi]) (.refl H) h3⟩
 ·exact h.elim
def jK:Good2 zK zX u5:=λ S Z x y z d e Q hz hx hy ef hq=>by
 unfold zX at ef
 split at ef
 ·cases ef
  cases hx.int;cases hy.int
  exact hq _ S (.refl S) (Cl.of (λ _=>nofun) wc)
 ·obtain⟨ns,e1,e2⟩:=Af.mp ef
  obtain⟨ms,e3,rfl⟩:=Au.mp e2
  cases om e1
  cases om e3
  obtain⟨ds,rfl,h2⟩:=hx.tup
  obtain⟨es,rfl,h4⟩:=hy.tup
  exact⟨ns,ms,uU.mp h2,uU.mp h4,hq _ S (.refl S) (Cl.of (λ _=>nofun) wc)⟩
 ·cases ef
def WI {k:Nat}(hr:ye k X.A):z_ X (compareOp .Lt) (λ x y H Q=>wq (λ i j=>.bl (decide (i<j))) x y H Q\/kO X.K x y H Q):=WK.or (WJ (by have:=hr.units;lia))
def vR {k:Nat}(hr:ye k X.A) (ha:PD X a ta) (hb:PD X b tb):x9 X (.Compare a [.Lt] [b] pos) (vk (yh u5 ta tb)):=tR (WI hr) u5.fits u5.mo ha hb (vT _)
def xa (neg:Bool):yM:=λ x y S Q=>match x,y with
 | .bl c,.bl d=>Q (.bl (cond neg (c != d) (c == d))) S
 | x,.zg=>Q (.bl (cond neg (!qE x) (qE x))) S
 | _,_=>False
noncomputable def yf (neg:Bool):T->T->Option T
 | .bl c,.bl d=>some (.bl (cond neg (c != d) (c == d)))
 | x,.zg=>some (.bl (cond neg (!isNone x) (isNone x)))
 | _,_=>none
def xa.mo {neg:Bool}:xC (xa neg):=λ x y S Q Q' hq h=>by
 unfold xa at h ⊢
 split at h
 ·exact hq _ _ h
 ·exact hq _ _ h
 ·exact h.elim
def xa.fits:xu K (xa false) (λ x y H Q=>(∃ c d,x=.bl c/\y=.bl d/\Q (.bl (c == d)) H)\/(y=.zg/\Q (.bl (decide (x=.zg))) H)):=λ x y d e H S Q h1 h2 h3 h=>by
 unfold xa at h
 split at h
 ·simp only[zi] at h1 h2
  exact .inl ⟨_,_,h1,h2,h _ H (by simp only[zi,cond]) (.refl H) h3⟩
 ·simp only[zi] at h2
  refine .inr ⟨h2,?_⟩
  rw[dY h1]
  exact h _ H (by simp only[zi,cond]) (.refl H) h3
 ·exact h.elim
def xa.cM:xu K (xa true) (λ x y H Q=>(∃ c d,x=.bl c/\y=.bl d/\Q (.bl (c != d)) H)\/(y=.zg/\Q (.bl (!decide (x=.zg))) H)):=λ x y d e H S Q h1 h2 h3 h=>by
 unfold xa at h
 split at h
 ·simp only[zi] at h1 h2
  exact .inl ⟨_,_,h1,h2,h _ H (by simp only[zi,cond]) (.refl H) h3⟩
 ·simp only[zi] at h2
  refine .inr ⟨h2,?_⟩
  rw[dY h1]
  exact h _ H (by simp only[zi,cond]) (.refl H) h3
 ·exact h.elim
def T9 {S:SS}{Z:Addr->Prop}{x:T}{d:D}(hx:Vw S Z x d):qE d=isNone x:=by
 cases x with
 | zg=>cases hx.zg;rfl
 | bl _=>cases hx.bl;rfl
 | int _=>cases hx.int;rfl
 | str _=>cases hx.str;rfl
 | tup _=>obtain⟨ds,rfl,_⟩:=hx.tup;rfl
 | lst _=>obtain⟨ds,rfl | ⟨a,rfl,h1⟩,h2⟩:=hx.lst <;> rfl
 | yP=>obtain⟨a,Ae,⟨rfl,_⟩,h1⟩:=hx.yP;rfl
 | err _ _ _=>obtain⟨x,rfl,_⟩:=hx.err;rfl
def So {neg:Bool}:Good2 zK (yf neg) (xa neg):=λ S Z x y z d e Q hz hx hy ef hq=>by
 unfold yf at ef
 split at ef
 ·cases ef
  cases hx.bl;cases hy.bl
  exact hq _ S (.refl S) (Cl.of (λ _=>nofun) wc)
 ·cases ef
  cases hy.zg
  have key:Q (.bl (cond neg (!qE d) (qE d))) S:=by
   rw[T9 hx]
   exact hq _ S (.refl S) (Cl.of (λ _=>nofun) wc)
  unfold xa
  cases d <;> exact key
 ·cases ef
def nX (ha:PD X a ta) (hb:PD X b tb):PD X (.Compare a [.Is] [b] pos) (yh (xa false) ta tb):=nZ (eZ.or eY) xa.fits xa.mo ha hb (vT _)
def Wv (ha:PD X a ta) (hb:PD X b tb):PD X (.Compare a [.IsNot] [b] pos) (yh (xa true) ta tb):=nZ (eW.or eV) xa.cM xa.mo ha hb (vT _)
def sY (ha:PD X a ta) (hb:PD X b tb):x9 X (.Compare a [.Is] [b] pos) (vk (yh (xa false) ta tb)):=tR (eZ.or eY) xa.fits xa.mo ha hb (vT _)
def kY (ha:PD X a ta) (hb:PD X b tb):x9 X (.Compare a [.IsNot] [b] pos) (vk (yh (xa true) ta tb)):=tR (eW.or eV) xa.cM xa.mo ha hb (vT _)
def bx (td ty tv:zx):yk:=λ E L S=>tv L S λ v S1=>td L S1 λ x S2=>ty L S2 λ y S3=>∃ p ds k j,x=.ref p/\y=.int k/\S3 p=some (.lst ds)/\xV ds.length k=some j/\E.nx L (ups S3 p (.lst (ds.set j v)))
theorem zm.set {H:Hp}{d:D}{x:V}(h:zi K H d x):∀ {ds:List D}{xs:List V}(j:Nat),zm K H ds xs->zm K H (ds.set j d) (xs.set j x)
 | [],xs,j,r=>by simp only[zm] at r;subst r;exact .nil
 | c::ds,xs,0,r=>by
  simp only[zm] at r
  obtain⟨y,ys,rfl,_,r2⟩:=r
  exact .cons h r2
 | c::ds,xs,j+1,r=>by
  simp only[zm] at r
  obtain⟨y,ys,rfl,r1,r2⟩:=r
  exact .cons r1 (zm.set h j r2)
def kZ (ho:PD X o td) (hi:PD X i ty) (hv:PD X v tv) (hs:swapsWithSole [.Subscript o i pos'] v pos.line X.env=pure false:=by rfl) (hw:swappedStores [.Subscript o i pos'] v X.env=pure none:=by rfl)
  (h1:(assignEach [.Subscript o i pos'] X.env).map (·.2)=[assign (.Subscript o i pos') X.env]:=by rfl)
  (ha:∀ v,assign (.Subscript o i pos') X.env v=(do
   let ov <- holding [v] (eval o X.env)
   let iv <- holding [v,ov] (eval i X.env)
   standAt pos'
   holding [v,ov,iv] (setItem ov iv v)
   release [v,ov,iv] []):=by intro _;rfl):w_ X (.Assign [.Subscript o i pos'] v pos) (bx td ty tv):=by
 refine⟨λ E E' L S hE z=>hv.mo L S _ _ (λ w S1 z=>ho.mo L S1 _ _ (λ x S2 z=>hi.mo L S2 _ _ (λ y S3 ⟨p,ds,k,j,a,b,c,d,h⟩=>⟨p,ds,k,j,a,b,c,d,hE.nx _ _ h⟩) z) z) z,PS.imp (eA hv.pe (X8 ho.pe hi.pe set_list ha) hs hw h1) λ D Y H hu=>?_⟩
 obtain⟨L,S,r1,r2,z⟩:=hu
 refine zU.go hv.mo r1 r2 z λ w S1 w1 H1 h1 q1 e1 p1=>?_
 refine zU.go ho.mo (r1.ext e1) p1 h1 λ x S2 w2 H2 h2 q2 e2 p2=>?_
 refine zU.go hi.mo ((r1.ext e1).ext e2) p2 h2 λ y S3 w3 H3 h3 q3 e3 p3=>?_
 obtain⟨p,ds,k,j,rfl,rfl,c1,c2,h⟩:=h3
 simp only[zi] at q2 q3
 subst q2 q3
 obtain⟨xs,g1,g2⟩:=p3 _ _ c1
 have e4:Ext H3 (upd H3 p (.lst (xs.set j w1))):=.lst g1 _
 refine⟨p,xs,k,j,rfl,rfl,g1,by rw[<- g2.length];exact c2,?_⟩
 exact h Y _ ((((r1.ext e1).ext e2).ext e3).ext e4) (((e1.trans e2).trans e3).trans e4) (p3.ups e4 ⟨_,yq,zm.ext e4 _ (zm.set (zi.ext (e2.trans e3) w q1) j g2)⟩)
@[simp] def mh (n:Nat) (f v:Ev->Option T):Sm:=fun J=>(v J).bind λ z=>(f J).bind λ y=>match J[n]?,y with
 | some (some (.own (.lst ts))),.int k=>(xV ts.length k).map λ j=>.nx (J.set n (some (.own (.lst (ts.set j z)))))
 | _,_=>none
def Vc {R:Rk}(n:Nat) {f v:Ev->Option T}(hf:yy f ty) (hv:vL v tv):ym R (mh n f v) (bx (xk n) ty tv):=λ S0 Z0 S Z L J o E F e P=>by
 obtain⟨z,e1,e⟩:=Af.mp e
 obtain⟨x,e2,e3⟩:=Af.mp e
 split at e3
 ·rename_i ts k h
  obtain⟨j,hj,rfl⟩:=Au.mp e3
  refine hv S Z L J z _ F.er e1 λ dz S1 s1 r1=>?_
  have F1:=F.grow s1
  obtain⟨p,ob,h1,h2,h3,h4⟩:=F1.er.ow n _ h
  cases ob with
  | yo _=>exact h3.elim
  | lst ds=>
   show xk n L S1 _
   unfold xk;rw[h1]
   refine hf S1 Z L J _ _ F1.er e2 λ d S2 s2 r2=>?_
   cases Vw.int r2
   have h5:zk (zQ S2 Z) ts ds:=zk.sx (vU s2) ts h3
   exact⟨p,ds,k,j,rfl,rfl,s2 _ _ h2,by rw[h5.len];exact hj,P _ Z L ((F1.grow s2).mut (us:=.lst (ts.set j z)) (es:=.lst (ds.set j dz)) n h h1 (h5.fC j (Sn.sx (vU s2) z r1)))⟩
 ·cases e3
end
end L5
namespace ZP
open PySem PyProof.Rows
noncomputable def jA (k:Bool):String:=cond k "tuple_iterator" "list_iterator"
def SI (h:Heap) (k:Bool) (it l:Addr) (i:Nat):Prop:=∃ o,h.get? it=some o/\o.cls=.type (jA k)/\o.data=.fields #[.ref l,.int i 0]
def SQ (h:Heap) (k:Bool) (l:Addr) (xs:Array Value):Prop:=match k with
 | true=>h.IsTuple l xs
 | false=>h.IsList l xs
def SI.on {h h':Heap}{k:Bool}{it l:Addr}{i:Nat}(x:SI h k it l i) (f:∀ o,h.get? it=some o->h'.get? it=some o):SI h' k it l i:=
 let ⟨o,ho,r⟩:=x;⟨o,f o ho,r⟩
def SQ.on {h h':Heap}{k:Bool}{l:Addr}{xs:Array Value}(x:SQ h k l xs) (f:∀ o,h.get? l=some o->h'.get? l=some o):SQ h' k l xs:=by
 cases k with
 | true=>obtain⟨o,ho,r⟩:=(show h.IsTuple l xs from x);exact⟨o,f o ho,r⟩
 | false=>obtain⟨o,ho,r⟩:=(show h.IsList l xs from x);exact⟨o,f o ho,r⟩
def SQ.lt {h:Heap}{k:Bool}{l:Addr}{xs:Array Value}(x:SQ h k l xs):l<h.objs.size:=by
 cases k with
 | true=>obtain⟨o,ho,_⟩:=(show h.IsTuple l xs from x);exact Ai ho
 | false=>obtain⟨o,ho,_⟩:=(show h.IsList l xs from x);exact Ai ho
section
variable {prog:Program}{w:World}{A:Around}{E:Value->Shared->Prop}{s:Shared}
def made {k:Bool}{l:Addr}{xs:Array Value}{Q:Value->Shared->Prop}(hl:SQ s.heap k l xs)
  (hQ:Q (.ref s.heap.objs.size) { s with heap:=s.heap.push { cls:=.type (jA k),data:=.fields #[.ref l,.int 0 0] } }):wpAny (model prog w) A (pyIter (.ref l)) Q E s:=by
 cases k with
 | true=>exact wpAny_pyIter_tuple hl hQ
 | false=>exact zaO hl hQ
def Rm {it l:Addr}{i:Nat}{xs:Array Value}{x:Value}{Q:Value->Shared->Prop}(hit:s.heap.IsTupleIter it l i) (hl:s.heap.IsTuple l xs) (hx:xs[i]?=some x)
  (hQ:∀ h',h'.IsTupleIter it l (i+1)->Heap.SameBut it s.heap h'->Q x { s with heap:=h' }):wpAny (model prog w) A (Builtin.SmallTypes.nextOf (.ref it)) Q E s:=by
 have ht:=hit.typeIs
 obtain⟨oi,e1,e2,e3⟩:=id hit
 obtain⟨ol,g1,_,n,g2⟩:=hl
 refine za0 (zaF (name:=Str.ofString "__next__") ht F.slot_tuple_iterator_next (zaB F.slot_tuple_iterator_next ht F.entry_tuple_iterator_next ?_ (F.args_tuple_iterator_next_1 _)))
 refine za0 (m:=field (.ref it) 0) (za4 e1 e3 (x:=.ref l) rfl ?_)
 dsimp only
 rw[if_neg (show ¬ ((Value.ref l == Value.none)=true) from BI)]
 refine za0 (m:=field (.ref it) 1) (za4 e1 e3 (x:=.int i 0) rfl ?_)
 dsimp only
 refine za0 (m:=seqItems? (.ref l)) (zaE g1 g2 ?_)
 simp only[Dk,hx]
 have there:=za6 (Obj.mapFields λ y=>y.setIfInBounds 1 (rawInt ((i:Int)+1))) e1 (Obj.isFreed_of_fields (Obj.data_mapFields e3 _))
 refine za0 (zaC e1 e3 (by simp) (Ab ⟨x,rfl,Ab (hQ _ ⟨_,there,(Obj.cls_mapFields ..).trans e2,?_⟩ (Heap.SameBut.update ..))⟩))
 rw[Obj.data_mapFields e3];simp[rawInt]
def Rh {it l:Addr}{i:Nat}{xs:Array Value}{Q:Value->Shared->Prop}(hh:A.handled=none) (hit:s.heap.IsTupleIter it l i) (hl:s.heap.IsTuple l xs) (hx:xs[i]?=none)
  (hE:∀ h' e,Heap.ExtBut it s.heap h'->(∃ o,h'.get? e=some o/\o.cls=.type "StopIteration")->E (.ref e) { s with heap:=h' }):wpAny (model prog w) A (Builtin.SmallTypes.nextOf (.ref it)) Q E s:=by
 have ht:=hit.typeIs
 obtain⟨oi,e1,e2,e3⟩:=id hit
 obtain⟨ol,g1,_,n,g2⟩:=hl
 refine za0 (zaF (name:=Str.ofString "__next__") ht F.slot_tuple_iterator_next (zaB F.slot_tuple_iterator_next ht F.entry_tuple_iterator_next ?_ (F.args_tuple_iterator_next_1 _)))
 refine za0 (m:=field (.ref it) 0) (za4 e1 e3 (x:=.ref l) rfl ?_)
 dsimp only
 rw[if_neg (show ¬ ((Value.ref l == Value.none)=true) from BI)]
 refine za0 (m:=field (.ref it) 1) (za4 e1 e3 (x:=.int i 0) rfl ?_)
 dsimp only
 refine za0 (m:=seqItems? (.ref l)) (zaE g1 g2 ?_)
 simp only[Dk,hx]
 refine za0 (wpAny_rule (za0 (zaC e1 e3 (by simp) ?_)))
 refine za0 (m:=newExc (.type "StopIteration") []) ?_
 simp only[newExc,newTuple]
 refine za0 (za8 (za0 (m:=firstArgMember _ _) (wpAny_of_eq (a:=Value.none) (by first | rfl | (simp only[firstArgMember];rfl)) (za8 ?_ (by size_fits)))) (by size_fits))
 simp only[raiseNew]
 refine za0 (wpAny_handled ?_)
 rw[show A.in1.handled=none from hh]
 exact za0 (Ab (wpAny_throw (hE _ _ (((Heap.SameBut.update ..).extBut.push _).push _) ⟨_,AH _ rfl,rfl⟩)))
def draw {k:Bool}{it l:Addr}{i:Nat}{xs:Array Value}{x:Value}{Q:Value->Shared->Prop}(hit:SI s.heap k it l i) (hl:SQ s.heap k l xs) (hx:xs[i]?=some x)
  (hQ:∀ h',SI h' k it l (i+1)->Heap.SameBut it s.heap h'->Q x { s with heap:=h' }):wpAny (model prog w) A (Builtin.SmallTypes.nextOf (.ref it)) Q E s:=by
 cases k with
 | true=>exact Rm hit hl hx hQ
 | false=>exact wpAny_nextOf_list_item hit hl hx hQ
def c_ {k:Bool}{it l:Addr}{i:Nat}{xs:Array Value}{Q:Value->Shared->Prop}(hh:A.handled=none) (hit:SI s.heap k it l i) (hl:SQ s.heap k l xs) (hx:xs[i]?=none)
  (hE:∀ h' e,Heap.ExtBut it s.heap h'->(∃ o,h'.get? e=some o/\o.cls=.type "StopIteration")->E (.ref e) { s with heap:=h' }):wpAny (model prog w) A (Builtin.SmallTypes.nextOf (.ref it)) Q E s:=by
 cases k with
 | true=>exact Rh hh hit hl hx hE
 | false=>exact wpAny_nextOf_list_end hh hit hl hx hE
structure lb (z TI TO i1 i2 l1 l2:Addr):Prop where
 nd:[z,TI,TO,i1,i2].Nodup
 f1:l1∉[z,TI,TO,i1,i2]
 f2:l2∉[z,TI,TO,i1,i2]
structure At (h:Heap) (k1 k2:Bool) (z TI TO i1 i2 l1 l2:Addr) (f0:Value) (n:Nat):Prop where
 z:IsZip h z TI TO f0
 ti:IsPair h TI (.ref i1) (.ref i2)
 to:∃ a b,IsPair h TO a b
 s1:SI h k1 i1 l1 n
 s2:SI h k2 i2 l2 n
def At.keep {h h':Heap}{k1 k2:Bool}{z TI TO i1 i2 l1 l2:Addr}{f0:Value}{n:Nat}(S:At h k1 k2 z TI TO i1 i2 l1 l2 f0 n) (f:∀ b∈[z,TI,TO,i1,i2],∀ o,h.get? b=some o->h'.get? b=some o):At h' k1 k2 z TI TO i1 i2 l1 l2 f0 n:=
 ⟨f z (by simp) _ S.z,f TI (by simp) _ S.ti,let ⟨a,b,e⟩:=S.to;⟨a,b,f TO (by simp) _ e⟩,S.s1.on (f i1 (by simp)),S.s2.on (f i2 (by simp))⟩
def item {k1 k2:Bool}{z TI TO i1 i2 l1 l2:Addr}{n:Nat}{xs ys:Array Value}{x y:Value}{Q:Option Value->Shared->Prop}(D:lb z TI TO i1 i2 l1 l2) (S:At s.heap k1 k2 z TI TO i1 i2 l1 l2 .none n)
  (h1:SQ s.heap k1 l1 xs) (h2:SQ s.heap k2 l2 ys) (hx:xs[n]?=some x) (hy:ys[n]?=some y)
  (hQ:∀ h',At h' k1 k2 z TI TO i1 i2 l1 l2 (rawInt s.heap.objs.size) (n+1)->IsPair h' s.heap.objs.size x y->(∀ c o,c∉[z,TI,TO,i1,i2]->s.heap.get? c=some o->h'.get? c=some o)->Q (some (.ref s.heap.objs.size)) { s with heap:=h' }):
  wpAny (model prog w) A (pyNext (.ref z)) Q E s:=by
 obtain⟨nd,f1,f2⟩:=D
 simp only[A2,Aj,AK,or_false,not_or,List.nodup_nil,and_true,not_false_eq_true] at nd f1 f2
 obtain⟨⟨n1,n2,n3,n4⟩,⟨n5,n6,n7⟩,⟨n8,n9⟩,n10⟩:=nd
 obtain⟨a1,a2,a3,a4,a5⟩:=f1
 obtain⟨b1,b2,b3,b4,b5⟩:=f2
 obtain⟨hz,Dg,⟨a,b,DH⟩,s1,s2⟩:=S
 have hT:s.TypeIs (.ref z) "zip":=⟨_,hz,rfl⟩
 unfold pyNext
 refine za0 (wpAny_attempt (zaF (name:=Str.ofString "__next__") hT F.slot_zip_next (zaB F.slot_zip_next hT F.entry_zip_next ?_ (F.args_zip_next_1 _))))
 refine za0 (m:=field (.ref z) 2) (za4 hz rfl (x:=.bool false) rfl ?_)
 refine za0 (m:=field (.ref z) 3) (za4 hz rfl (x:=.ref TI) rfl ?_)
 refine za0 (m:=seqItems? (.ref TI)) (zaE Dg rfl ?_)
 refine za0 (m:=Builtin.SmallTypes.ownedTupleIsFree (.ref z)) (za0 (m:=field (.ref z) 0) (za4 hz rfl (x:=.none) rfl (Ab ?_)))
 simp only[if_true]
 refine za0 (wpAny_rule (za0 (za4 hz rfl (x:=.ref TO) rfl (za0 (zaK hz (by simp) λ g1 hz1 e1=>?_)))))
 replace hz1:IsZip g1 z TI TO .ellipsis:=hz1
 refine za0 ?_
 simp only[List.zipIdx_cons,List.zipIdx_nil,Dc,List.forIn_nil]
 refine za0 (za0 (wpAny_onRaise (za0 (m:=Builtin.SmallTypes.nextOf (.ref i1)) (draw (s1.on λ o q=>e1.extBut _ _ (Ne.symm n3) q) (h1.on λ o q=>e1.extBut _ _ a1 q) hx λ g2 s12 e2=>Ab ?_))))
 have to2:IsPair g2 TO a b:=e2.extBut _ _ n8 (e1.extBut _ _ (Ne.symm n2) DH)
 refine za0 (zaE to2 rfl (za0 (wpAny_updateSeq_pair to2 λ g3 to3 e3=>za0 (wpAny_letGo (Ab ?_)))))
 replace to3:IsPair g3 TO x b:=to3
 have up:∀ c o,c≠z->c≠i1->c≠TO->s.heap.get? c=some o->g3.get? c=some o:=λ c o c1 c2 c3 q=>e3.extBut _ _ c3 (e2.extBut _ _ c2 (e1.extBut _ _ c1 q))
 refine za0 (za0 (wpAny_onRaise (za0 (m:=Builtin.SmallTypes.nextOf (.ref i2)) (draw (s2.on λ o q=>up _ o (Ne.symm n4) (Ne.symm n10) (Ne.symm n9) q) (h2.on λ o q=>up _ o b1 b4 b3 q) hy λ g4 s24 e4=>Ab ?_))))
 have to4:IsPair g4 TO x b:=e4.extBut _ _ n9 to3
 refine za0 (zaE to4 rfl (za0 (wpAny_updateSeq_pair to4 λ g5 to5 e5=>za0 (wpAny_letGo (Ab (Ab ?_))))))
 replace to5:IsPair g5 TO x y:=to5
 refine za0 (zaE to5 rfl (za0 (wpAny_newTuple ?_)))
 have sz:g5.objs.size=s.heap.objs.size:=by rw[e5.1,e4.1,e3.1,e2.1,e1.1]
 have hz5:IsZip g5 z TI TO .ellipsis:=e5.extBut _ _ n2 (e4.extBut _ _ n4 (e3.extBut _ _ n2 (e2.extBut _ _ n3 hz1)))
 have up5:∀ c o,c∉[z,TI,TO,i1,i2]->s.heap.get? c=some o->g5.get? c=some o:=λ c o hc q=>by
  simp only[Aj,AK,or_false,not_or] at hc
  exact e5.extBut _ _ hc.2.2.1 (e4.extBut _ _ hc.2.2.2.2 (up c o hc.1 hc.2.2.2.1 hc.2.2.1 q))
 have ti5:IsPair g5 TI (.ref i1) (.ref i2):=e5.extBut _ _ n5 (e4.extBut _ _ n7 (up _ _ (Ne.symm n1) n6 n5 Dg))
 have s15:SI g5 k1 i1 l1 (n+1):=s12.on λ o q=>e5.extBut _ _ (Ne.symm n8) (e4.extBut _ _ n10 (e3.extBut _ _ (Ne.symm n8) q))
 have s25:SI g5 k2 i2 l2 (n+1):=s24.on λ o q=>e5.extBut _ _ (Ne.symm n9) q
 have lz:z<g5.objs.size:=Ai hz5
 refine za0 (m:=Builtin.SmallTypes.ownedTupleHandOut (.ref z) (.ref g5.objs.size)) ?_
 have hz6:IsZip (g5.push { cls:=.type "tuple",data:=.seq #[x,y] }) z TI TO .ellipsis:=za1 _ hz5
 refine za0 (zaK hz6 (by simp) λ g7 hz7 e7=>?_)
 replace hz7:IsZip g7 z TI TO (rawInt g5.objs.size):=hz7
 refine zaK hz7 (by simp) λ g8 hz8 e8=>?_
 replace hz8:IsZip g8 z TI TO (rawInt g5.objs.size):=hz8
 have up8:∀ c o,c≠z->(g5.push { cls:=.type "tuple",data:=.seq #[x,y] }).get? c=some o->g8.get? c=some o:=λ c o c1 q=>e8.extBut _ _ c1 (e7.extBut _ _ c1 q)
 have T8:IsPair g8 g5.objs.size x y:=up8 _ _ (Bu lz) (AH _ rfl)
 have up9:∀ c o,c≠z->g5.get? c=some o->g8.get? c=some o:=λ c o c1 q=>up8 c o c1 (za1 _ q)
 rw[sz] at hz8 T8
 refine Ab ⟨.ref g5.objs.size,rfl,Ab ?_⟩
 show Q (some (.ref g5.objs.size)) _
 rw[sz]
 refine hQ g8 ⟨hz8,up9 _ _ (Ne.symm n1) ti5,⟨x,y,up9 _ _ (Ne.symm n2) to5⟩,s15.on λ o q=>up9 _ o (Ne.symm n3) q,s25.on λ o q=>up9 _ o (Ne.symm n4) q⟩ T8 λ c o hc q=>up9 c o (λ e=>hc (by simp[e])) (up5 c o hc q)
def stop {k1 k2:Bool}{z TI TO i1 i2 l1 l2:Addr}{n:Nat}{xs ys:Array Value}{Q:Option Value->Shared->Prop}(hh:A.handled=none) (D:lb z TI TO i1 i2 l1 l2) (S:At s.heap k1 k2 z TI TO i1 i2 l1 l2 .none n)
  (h1:SQ s.heap k1 l1 xs) (h2:SQ s.heap k2 l2 ys) (D2:xs[n]?=none\/ys[n]?=none)
  (hQ:∀ h',(∀ c o,c∉[z,TI,TO,i1,i2]->s.heap.get? c=some o->h'.get? c=some o)->Q none { s with heap:=h' }):
  wpAny (model prog w) A (pyNext (.ref z)) Q E s:=by
 obtain⟨nd,f1,f2⟩:=D
 simp only[A2,Aj,AK,or_false,not_or,List.nodup_nil,and_true,not_false_eq_true] at nd f1 f2
 obtain⟨⟨n1,n2,n3,n4⟩,⟨n5,n6,n7⟩,⟨n8,n9⟩,n10⟩:=nd
 obtain⟨a1,a2,a3,a4,a5⟩:=f1
 obtain⟨b1,b2,b3,b4,b5⟩:=f2
 obtain⟨hz,Dg,⟨a,b,DH⟩,s1,s2⟩:=S
 have hT:s.TypeIs (.ref z) "zip":=⟨_,hz,rfl⟩
 have fin:∀ (h':Heap) (e:Addr),(∀ c o,c∉[z,TI,TO,i1,i2]->s.heap.get? c=some o->h'.get? c=some o)->(∃ o,h'.get? e=some o/\o.cls=.type "StopIteration")->
   wpAny (model prog w) A (do if <- isInstance (.ref e) (.type "StopIteration") then pure none else throw (.ref e)) Q E { s with heap:=h' }:=λ h' e k1 k2=>by
  obtain⟨o,ho,hc⟩:=k2
  exact za0 (wpAny_isInstance (T:="StopIteration") (b:=true) ⟨o,ho,hc⟩ isSubtype_stop (Ab (hQ _ k1)))
 unfold pyNext
 refine za0 (wpAny_attempt (zaF (name:=Str.ofString "__next__") hT F.slot_zip_next (zaB F.slot_zip_next hT F.entry_zip_next ?_ (F.args_zip_next_1 _))))
 refine za0 (m:=field (.ref z) 2) (za4 hz rfl (x:=.bool false) rfl ?_)
 refine za0 (m:=field (.ref z) 3) (za4 hz rfl (x:=.ref TI) rfl ?_)
 refine za0 (m:=seqItems? (.ref TI)) (zaE Dg rfl ?_)
 refine za0 (m:=Builtin.SmallTypes.ownedTupleIsFree (.ref z)) (za0 (m:=field (.ref z) 0) (za4 hz rfl (x:=.none) rfl (Ab ?_)))
 simp only[if_true]
 refine za0 (wpAny_rule (za0 (za4 hz rfl (x:=.ref TO) rfl (za0 (zaK hz (by simp) λ g1 hz1 e1=>?_)))))
 replace hz1:IsZip g1 z TI TO .ellipsis:=hz1
 refine za0 ?_
 simp only[List.zipIdx_cons,List.zipIdx_nil,Dc,List.forIn_nil]
 cases hx:xs[n]? with
 | none=>
  refine za0 (za0 (wpAny_onRaise (za0 (m:=Builtin.SmallTypes.nextOf (.ref i1)) (c_ hh (s1.on λ o q=>e1.extBut _ _ (Ne.symm n3) q) (h1.on λ o q=>e1.extBut _ _ a1 q) hx λ g2 ex e2 he=>?_))))
  have hz2:IsZip g2 z TI TO .ellipsis:=e2 _ _ n3 hz1
  obtain⟨oe,q1,q2⟩:=he
  have ne:ex≠z:=λ q=>by subst q;rw[hz2] at q1;cases q1;simp at q2
  refine zaK hz2 (by simp) λ g3 _ e3=>fin g3 ex (λ c o hc q=>?_) ⟨oe,e3.extBut _ _ ne q1,q2⟩
  simp only[Aj,AK,or_false,not_or] at hc
  exact e3.extBut _ _ hc.1 (e2 _ _ hc.2.2.2.1 (e1.extBut _ _ hc.1 q))
 | some x=>
  have hy:ys[n]?=none:=D2.resolve_left (by rw[hx];simp)
  refine za0 (za0 (wpAny_onRaise (za0 (m:=Builtin.SmallTypes.nextOf (.ref i1)) (draw (s1.on λ o q=>e1.extBut _ _ (Ne.symm n3) q) (h1.on λ o q=>e1.extBut _ _ a1 q) hx λ g2 s12 e2=>Ab ?_))))
  have to2:IsPair g2 TO a b:=e2.extBut _ _ n8 (e1.extBut _ _ (Ne.symm n2) DH)
  refine za0 (zaE to2 rfl (za0 (wpAny_updateSeq_pair to2 λ g3 to3 e3=>za0 (wpAny_letGo (Ab ?_)))))
  have up:∀ c o,c≠z->c≠i1->c≠TO->s.heap.get? c=some o->g3.get? c=some o:=λ c o c1 c2 c3 q=>e3.extBut _ _ c3 (e2.extBut _ _ c2 (e1.extBut _ _ c1 q))
  refine za0 (za0 (wpAny_onRaise (za0 (m:=Builtin.SmallTypes.nextOf (.ref i2)) (c_ hh (s2.on λ o q=>up _ o (Ne.symm n4) (Ne.symm n10) (Ne.symm n9) q) (h2.on λ o q=>up _ o b1 b4 b3 q) hy λ g4 ex e4 he=>?_))))
  have hz4:IsZip g4 z TI TO .ellipsis:=e4 _ _ n4 (e3.extBut _ _ n2 (e2.extBut _ _ n3 hz1))
  obtain⟨oe,q1,q2⟩:=he
  have ne:ex≠z:=λ q=>by subst q;rw[hz4] at q1;cases q1;simp at q2
  refine zaK hz4 (by simp) λ g5 _ e5=>fin g5 ex (λ c o hc q=>?_) ⟨oe,e5.extBut _ _ ne q1,q2⟩
  simp only[Aj,AK,or_false,not_or] at hc
  exact e5.extBut _ _ hc.1 (e4 _ _ hc.2.2.2.2 (up c o hc.1 hc.2.2.2.1 hc.2.2.1 q))
end
abbrev t_ (k:Bool) (l:Addr):Obj:={ cls:=.type (jA k),data:=.fields #[.ref l,.int 0 0] }
abbrev mw (k1 k2:Bool) (h:Heap) (l1 l2:Addr):Heap:=(h.push (t_ k1 l1)).push (t_ k2 l2)
abbrev mv (k1 k2:Bool) (h:Heap) (l1 l2:Addr):Heap:=(mw k1 k2 h l1 l2).push { cls:=.type "tuple",data:=.seq #[.ref h.objs.size,.ref (h.push (t_ k1 l1)).objs.size] }
abbrev mr (k1 k2:Bool) (h:Heap) (l1 l2:Addr):Heap:=(mv k1 k2 h l1 l2).push { cls:=.type "tuple",data:=.seq #[.none,.none] }
abbrev qH (k1 k2:Bool) (h:Heap) (l1 l2:Addr):Heap:=(mr k1 k2 h l1 l2).push { cls:=.type "zip",data:=.fields #[.none,.bool false,.bool false,.ref (mw k1 k2 h l1 l2).objs.size,.ref (mv k1 k2 h l1 l2).objs.size] }
def UM (k1 k2:Bool) (l1 l2:Addr) (xs ys:Array Value):Meets (Builtin.«zip.__new__» ⟨[.type "zip",.ref l1,.ref l2],[]⟩) (λ _ R s=>SQ s.heap k1 l1 xs/\SQ s.heap k2 l2 ys/\
   R (.ok (.ret (.ref (mr k1 k2 s.heap l1 l2).objs.size))) { s with heap:=qH k1 k2 s.heap l1 l2 }):=
 .of_wp λ prog w A R s h=>by
  obtain⟨hp,g,d,tk,os⟩:=s
  obtain⟨q1,q2,h⟩:=h
  have hsub:=sub_zip
  have m1:SQ (Shared.heap ⟨hp,g,d,tk,os⟩) k1 l1 xs:=q1
  have m2:SQ (Shared.heap ⟨hp.push (t_ k1 l1),g,d,tk,os⟩) k2 l2 ys:=q2.on λ o e=>za1 _ e
  wp_walk using made m1,made m2
  exact⟨_,rfl,h⟩
section
variable {prog:Program}{w:World}{A:Around}{E:Value->Shared->Prop}{s:Shared}
def new {k1 k2:Bool}{l1 l2:Addr}{xs ys:Array Value}{Q:Value->Shared->Prop}(h1:SQ s.heap k1 l1 xs) (h2:SQ s.heap k2 l2 ys)
  (h:∀ h' z TI TO i1 i2,(∀ b∈[z,TI,TO,i1,i2],s.heap.objs.size<=b)->lb z TI TO i1 i2 l1 l2->At h' k1 k2 z TI TO i1 i2 l1 l2 .none 0->(∀ c o,s.heap.get? c=some o->h'.get? c=some o)->Q (.ref z) { s with heap:=h' }):
  wpAny (model prog w) A (call (.type "zip") [.ref l1,.ref l2]) Q E s:=by
 refine callType_new F.called_zip (by decide) (F.typeCall_zip_2 _ _) (F.newCall_zip_2 _ _) (λ obj=>F.args_object_init_3 obj _ _) F.entry_zip_new (UM k1 k2 l1 l2 xs ys) ⟨h1,h2,?_⟩
 have z1:(s.heap.push (t_ k1 l1)).objs.size=s.heap.objs.size+1:=Heap.size_push ..
 have z2:(mw k1 k2 s.heap l1 l2).objs.size=s.heap.objs.size+2:=by rw[Heap.size_push,z1]
 have z3:(mv k1 k2 s.heap l1 l2).objs.size=s.heap.objs.size+3:=by rw[Heap.size_push,z2]
 have z4:(mr k1 k2 s.heap l1 l2).objs.size=s.heap.objs.size+4:=by rw[Heap.size_push,z3]
 have p1:∀ (h:Heap) (o:Obj),o.isFreed=false->(h.push o).get? h.objs.size=some o:=λ h o e=>AH _ e
 have u:∀ {h:Heap}{b:Addr}{o:Obj}(o':Obj),h.get? b=some o->(h.push o').get? b=some o:=λ o' e=>za1 _ e
 have g5:(qH k1 k2 s.heap l1 l2).get? (mr k1 k2 s.heap l1 l2).objs.size=some _:=p1 _ _ rfl
 have g4:(qH k1 k2 s.heap l1 l2).get? (mv k1 k2 s.heap l1 l2).objs.size=some _:=u _ (p1 _ _ rfl)
 have g3:(qH k1 k2 s.heap l1 l2).get? (mw k1 k2 s.heap l1 l2).objs.size=some _:=u _ (u _ (p1 _ _ rfl))
 have g2:(qH k1 k2 s.heap l1 l2).get? (s.heap.push (t_ k1 l1)).objs.size=some (t_ k2 l2):=u _ (u _ (u _ (p1 _ _ rfl)))
 have g1:(qH k1 k2 s.heap l1 l2).get? s.heap.objs.size=some (t_ k1 l1):=u _ (u _ (u _ (u _ (p1 _ _ rfl))))
 have a1:=h1.lt
 have a2:=h2.lt
 rw[z2,z3,z4] at g5
 rw[z1,z2] at g3
 rw[z3] at g4
 rw[z1] at g2
 generalize hN:s.heap.objs.size=N at *
 have lt:∀ {m:Nat},m<N->∀ j:Nat,¬ m=N+j:=λ hm j=>by lia
 have ne:∀ {i j:Nat},i≠j->¬ (N+i=N+j):=λ AV e=>AV (by lia)
 show _/\_
 rw[z4]
 refine⟨⟨_,g5,rfl⟩,h _ (N+4) (N+2) (N+3) N (N+1) (λ b hb=>?_) ⟨?_,?_,?_⟩ ⟨g5,g3,⟨_,_,g4⟩,⟨_,g1,rfl,rfl⟩,⟨_,g2,rfl,rfl⟩⟩ λ c o e=>u _ (u _ (u _ (u _ (u _ e))))⟩
 ·simp only[Aj,AK,or_false] at hb
  have h0:N<=N:=Ad N
  rcases hb with e | e | e | e | e <;> subst e
  ·exact BS N 4
  ·exact BS N 2
  ·exact BS N 3
  ·exact h0
  ·exact BS N 1
 ·have e0:∀ {i:Nat},i≠0->¬ (N+i=N):=λ hi e=>hi (by lia)
  have e0':∀ {i:Nat},i≠0->¬ (N=N+i):=λ hi e=>hi (by lia)
  simp only[A2,Aj,AK,or_false,not_or,List.nodup_nil,and_true,not_false_eq_true]
  exact⟨⟨ne (by decide),ne (by decide),e0 (by decide),ne (by decide)⟩,⟨ne (by decide),e0 (by decide),ne (by decide)⟩,⟨e0 (by decide),ne (by decide)⟩,e0' (by decide)⟩
 ·simp only[Aj,AK,or_false,not_or]
  exact⟨lt a1 4,lt a1 2,lt a1 3,Al a1,lt a1 1⟩
 ·simp only[Aj,AK,or_false,not_or]
  exact⟨lt a2 4,lt a2 2,lt a2 3,Al a2,lt a2 1⟩
end
end ZP
namespace L2
open PySem PySem.Spec PyProof.Rows ZP
section
variable {X:Cx}{pins:List (Addr×Obj)}{Y:St}{H:Hp}{s:Shared}
def Inv.gO {h':Heap}{t':Nat}{fp:List Addr}(I:Inv X pins Y H s) (k:∀ b o,b∉fp->s.heap.get? b=some o->h'.get? b=some o) (hf:∀ b∈fp,vv X pins H b):Inv X pins Y H { s with heap:=h',toks:=t' }:=by
 have nit:∀ b u,H b=some u->b∉fp:=λ b u e z=>by rw[(hf b z).1] at e;cases e
 refine I.step (g':=s.gens) (d':=s.drawn) (ch:=fp) (λ b hb=>?_) (λ b o _ _ hc e _=>k b o hc e) (λ b o _ _ hc e _=>⟨o.slots,k b o hc e⟩) (λ _ _ _ _ n=>n)
  (λ b o hc e=>⟨o,k b o hc e⟩) (λ _ _ e=>e) (λ _ _ _ e=>e) (λ b ps e=>⟨#[],by rw[e];simp⟩) (λ m hm=>?_) (λ b u e=>?_) I.bare
 ·obtain⟨_,q1,_,q2,q3,q4⟩:=hf b hb
  exact⟨q2,q1,q3,q4⟩
 ·obtain⟨o,es,ep,ho,r⟩:=hm
  exact⟨o,es,ep,k _ o (λ z=>(hf _ z).2.1 rfl) ho,r⟩
 ·refine (I.zu b u e).wL (λ c v hc q=>k c v ?_ q) (λ _ q=>q) λ _ _ q=>q
  rcases hc with z | z
  ·rw[z];exact nit b u e
  ·exact nit c _ z
def wZ (K:Aa) (H:Hp) (k:Bool) (a:Addr) (xs:List V):Prop:=match k with
 | true=>zY K H a xs
 | false=>zP K H a xs
def wZ.of (I:Inv X pins Y H s) {k:Bool}{a:Addr}{xs:List V}(h:wZ X.K H k a xs):∃ its:List Value,Vals xs its/\SQ s.heap k a its.toArray:=by
 cases k with
 | true=>obtain⟨its,rv,p,_⟩:=I.tuple h;exact⟨its,rv,p⟩
 | false=>obtain⟨its,rv,p,_⟩:=I.list h;exact⟨its,rv,p.isList⟩
def wZ.inj (I:Inv X pins Y H s) {k:Bool}{a:Addr}{xs ys:List V}(h:wZ X.K H k a xs) (h':wZ X.K H k a ys):xs=ys:=by
 cases k with
 | true=>exact I.lO h h'
 | false=>exact I.jz h h'
def ah (K:Aa) (k1 k2:Bool) (a1 a2:Addr):It:=
 ⟨λ i H=>∃ xs ys x y,wZ K H k1 a1 xs/\wZ K H k2 a2 ys/\xs[i]?=some x/\ys[i]?=some y,
   λ i H v H'=>∃ p x y,v=.ref p/\H p=none/\H'=upd H p (.tup [x,y])/\(∀ xs,wZ K H k1 a1 xs->xs[i]?=some x)/\∀ ys,wZ K H k2 a2 ys->ys[i]?=some y,
   λ i H=>∃ xs ys,wZ K H k1 a1 xs/\wZ K H k2 a2 ys/\(xs.length<=i\/ys.length<=i)⟩
def ZE {P:Program}{w:World}{K:Aa}{es:List Expr}{kk} {pos:Pos}{k1 k2:Bool}{z TI TO i1 i2 a1 a2:Addr}(D:lb z TI TO i1 i2 a1 a2):
  Turn P w K (.Tuple es kk pos) (ah K k1 k2 a1 a2) [z,TI,TO,i1,i2] z (λ i h=>At h k1 k2 z TI TO i1 i2 a1 a2 .none i) where
 mem:=by simp
 obj:=λ i h st b hb=>by
  obtain⟨q1,q2,⟨_,_,q3⟩,⟨o1,q4,_,d1⟩,⟨o2,q5,_,d2⟩⟩:=st
  simp only[Aj,AK,or_false] at hb
  rcases hb with e | e | e | e | e <;> subst e
  ·exact⟨_,q1,λ v z=>by cases z⟩
  ·exact⟨_,q2,λ v z=>by cases z⟩
  ·exact⟨_,q3,λ v z=>by cases z⟩
  ·exact⟨_,q4,λ v z=>by rw[d1] at z;cases z⟩
  ·exact⟨_,q5,λ v z=>by rw[d2] at z;cases z⟩
 keep:=λ i h h' st k=>st.keep k
 item:=by
  intro X hP hw hK hc i pins s Y H E I hf st hg
  subst hP hw hK
  obtain⟨xs,ys,x,y,g1,g2,hx,hy⟩:=hg
  obtain⟨it1,rv1,q1⟩:=g1.of I
  obtain⟨it2,rv2,q2⟩:=g2.of I
  obtain⟨u1,e1,r1⟩:=rv1.get hx
  obtain⟨u2,e2,r2⟩:=rv2.get hy
  refine ZP.item D st q1 q2 (x:=u1) (y:=u2) (by simpa using e1) (by simpa using e2) λ h' S' T' up=>⟨_,rfl,?_⟩
  refine wpAny_letOwnedTupleGo_zip S'.z λ h2 z2 sb=>?_
  have nT:s.heap.objs.size∉[z,TI,TO,i1,i2]:=λ hb=>by
   obtain⟨o,ho,_⟩:=(show ∃ o,s.heap.get? s.heap.objs.size=some o/\True from by
    obtain⟨w1,w2,⟨_,_,w3⟩,⟨o1,w4,_⟩,⟨o2,w5,_⟩⟩:=st
    simp only[Aj,AK,or_false] at hb
    rcases hb with e | e | e | e | e <;> rw[e]
    ·exact⟨_,w1,trivial⟩
    ·exact⟨_,w2,trivial⟩
    ·exact⟨_,w3,trivial⟩
    ·exact⟨_,w4,trivial⟩
    ·exact⟨_,w5,trivial⟩)
   exact absurd (Ai ho) (B3 _)
  have nz:s.heap.objs.size≠z:=λ e=>nT (by simp[e])
  have fr:H s.heap.objs.size=none:=I.zu.fresh (Ad _)
  have I1:Inv X pins Y (upd H s.heap.objs.size (.tup [x,y])) { s with heap:=s.heap.push { cls:=.type "tuple",data:=.seq [u1,u2].toArray },toks:=s.toks }:=
   I.laid (o:=.tup [x,y]) (λ b u q=>za1 _ q) (Ad _) ⟨by show 2<=sizeLine;decide,[u1,u2],.cons r1 (.cons r2 .nil),IsTup.new _ _⟩
  have hf':∀ b∈[z,TI,TO,i1,i2],upd H s.heap.objs.size (.tup [x,y]) b=none:=λ b hb=>by
   rw[zN (λ e=>nT (by rw[<- e];exact hb))]
   exact (hf b hb).1
  have kk:∀ b o,b∉[z,TI,TO,i1,i2]->(s.heap.push { cls:=.type "tuple",data:=.seq [u1,u2].toArray }).get? b=some o->h2.get? b=some o:=λ b o hb q=>by
   have hbz:b≠z:=λ e=>hb (by simp[e])
   by_cases hbs:b=s.heap.objs.size
   ·subst hbs
    rw[AH _ rfl] at q
    cases q
    exact sb.extBut _ _ nz T'
   ·have q':s.heap.get? b=some o:=by rw[Heap.get?_push_ne _ _ _ hbs] at q;exact q
    exact sb.extBut _ _ hbz (up b o hb q')
  have I2:=Inv.gO (h':=h2) (t':=s.toks) (fp:=[z,TI,TO,i1,i2]) I1 kk λ b hb=>⟨hf' b hb,(hf b hb).2⟩
  refine⟨.ref s.heap.objs.size,_,I2,rfl,⟨_,x,y,rfl,fr,rfl,λ zs hz=>by rw[hz.inj I g1];exact hx,λ zs hz=>by rw[hz.inj I g2];exact hy⟩,⟨z2,?_,?_,?_,?_⟩,hf'⟩
  ·have nd:=D.nd
   simp only[A2,Aj,AK,or_false,not_or] at nd
   exact sb.extBut _ _ (Ne.symm nd.1.1) S'.ti
  ·obtain⟨a,b,e⟩:=S'.to
   have nd:=D.nd
   simp only[A2,Aj,AK,or_false,not_or] at nd
   exact⟨a,b,sb.extBut _ _ (Ne.symm nd.1.2.1) e⟩
  ·have nd:=D.nd
   simp only[A2,Aj,AK,or_false,not_or] at nd
   exact S'.s1.on λ o q=>sb.extBut _ _ (Ne.symm nd.1.2.2.1) q
  ·have nd:=D.nd
   simp only[A2,Aj,AK,or_false,not_or] at nd
   exact S'.s2.on λ o q=>sb.extBut _ _ (Ne.symm nd.1.2.2.2) q
 done:=by
  intro X hP hw hK hc i pins s Y H E I hf st hg
  subst hP hw hK
  obtain⟨xs,ys,g1,g2,hx⟩:=hg
  obtain⟨it1,rv1,q1⟩:=g1.of I
  obtain⟨it2,rv2,q2⟩:=g2.of I
  have l1:=rv1.length
  have l2:=rv2.length
  refine ZP.stop (I.ok.hd hc) D st q1 q2 ?_ λ h' up=>⟨rfl,I.gO (t':=s.toks) up hf⟩
  rcases hx with hx | hx
  ·exact .inl (by simp;lia)
  ·exact .inr (by simp;lia)
 self:=λ _ _ _ _ _ st h=>wpAny_pyIter_zip st.z h
def TV (K:Aa) (ta:TA):TI:=fun Y H R=>ta Y H λ vs H1=>∃ a1 a2 k1 k2,vs=[.ref a1,.ref a2]/\(∃ xs,wZ K H1 k1 a1 xs)/\(∃ ys,wZ K H1 k2 a2 ys)/\R (ah K k1 k2 a1 a2) H1
def X0 {a b:Expr}{ta:TA}{p pos pos':Pos}{es:List Expr}{kk} (hg:Gl X "zip") (hm:X.mg "zip"=none) (ha:PA X [a,b] ta) (hs:starEach [a,b] X.env=[(false,eval a X.env),(false,eval b X.env)]:=by rfl) (hs2:starEach [b] X.env=[(false,eval b X.env)]:=by rfl):
  PI X (.Tuple es kk pos') (.Call (.Name "zip" p) [a,b] [] pos) (TV X.K ta):=by
 intro pins s Y H R I h
 refine Call_ (qA I hg hm boot_zip (PyProof.Rows.callWith_type1 (zH (ha pos pins s Y H _ I h) λ us s1 ⟨vs,H1,I1,r1,q1⟩=>?_) (by rw[hs,hs2]) (by rw[hs2];rfl)))
 obtain⟨a1,a2,k1,k2,rfl,⟨xs,g1⟩,⟨ys,g2⟩,q⟩:=q1
 cases r1 with
 | cons r rr=>
  cases rr with
  | cons r' rr=>
   cases rr
   cases r
   cases r'
   obtain⟨it1,_,q1⟩:=g1.of I1
   obtain⟨it2,_,q2⟩:=g2.of I1
   refine ZP.new q1 q2 λ h' z TI TO i1 i2 nw D S up=>wpAny_pyIter_zip S.z ?_
   exact⟨z,[z,TI,TO,i1,i2],_,_,H1,rfl,I1.kept (t':=s1.toks) up,ZE D,S,λ b hb=>I1.jW (nw b hb) (I1.zu.fresh (nw b hb)),q⟩
end
end L2
namespace L5
open PySem PySem.Spec L2 L3
open PyProof.Rows hiding St
section
variable {K:Aa}{a:Expr}{p:Pos}
def dR (t:yb):xY:=fun L S R=>t L S λ ds S1=>∃ d e xs ys,ds=[d,e]/\zZ d S1=some xs/\zZ e S1=some ys/\R ⟨List.zipWith (λ x y=>D.tup [x,y]) xs ys,λ S=>zZ d S=some xs/\zZ e S=some ys⟩ S1
noncomputable def mi:D->Bool
 | .tup _=>true
 | _=>false
def zZ.k {H:Hp}{S:SS}{d:D}{v:V}{ds:List D}(r:zi K H d v) (p:zE K H S) (e:zZ d S=some ds):∃ a xs,v=.ref a/\wZ K H (mi d) a xs/\zm K H ds xs:=by
 by_cases q:∃ ts,d=.tup ts
 ·obtain⟨ts,rfl⟩:=q
  cases e
  simp only[zi] at r
  obtain⟨a,xs,h1,h2,h3⟩:=r
  exact⟨a,xs,h1,h2,h3⟩
 ·obtain⟨a,xs,h1,h2,h3⟩:=sO r p e λ ts z=>q ⟨ts,z⟩
  refine⟨a,xs,h1,?_,h3⟩
  have:mi d=false:=by cases d <;> first | rfl | exact absurd ⟨_,rfl⟩ q
  rw[this];exact h2
end
section
variable {X:Cx}{a b:Expr}{tA:yb}{pos p pos':Pos}{es:List Expr}{kk:Nat}
def Wj (hm:X.mg "zip"=none) (ha:xA X [a,b] tA) (hg:Gl X "zip":=by rfl) (hs:starEach [a,b] X.env=[(false,eval a X.env),(false,eval b X.env)]:=by rfl) (hs2:starEach [b] X.env=[(false,eval b X.env)]:=by rfl):
  uJ X (.Tuple es kk pos') (.Call (.Name "zip" p) [a,b] [] pos) (dR tA):=by
 refine⟨fun L S Q Q' hq z=>ha.mo L S _ _ (λ ds S1 ⟨d,e,xs,ys,h1,h2,h3,h4⟩=>⟨d,e,xs,ys,h1,h2,h3,hq _ _ h4⟩) z,PI.imp (X0 hg hm ha.pa hs hs2) fun Y H R hu=>?_⟩
 obtain⟨L,S,r1,r2,z⟩:=hu
 refine xJ.go ha.mo r1 r2 z λ ds S1 vs H1 h1 q1 e1 p1=>?_
 obtain⟨d,e,xs,ys,rfl,s1,s2,h⟩:=h1
 obtain⟨v,u,rfl,d1,d2⟩:=q1.two
 obtain⟨a1,us,rfl,g1,g2⟩:=zZ.k d1 p1 s1
 obtain⟨a2,ws,rfl,g3,g4⟩:=zZ.k d2 p1 s2
 refine⟨a1,a2,mi d,mi e,rfl,⟨us,g1⟩,⟨ws,g3⟩,h _ H1 e1 p1 λ i H2 S2 x1 x2 hk=>?_⟩
 obtain⟨b1,us2,q1,m1,m2⟩:=zZ.k (zi.ext x1 d d1) x2 hk.1
 cases q1
 obtain⟨b2,ws2,q2,m3,m4⟩:=zZ.k (zi.ext x1 e d2) x2 hk.2
 cases q2
 have l1:=m2.length
 have l2:=m4.length
 refine⟨λ dd hd=>?_,λ hl=>⟨us2,ws2,m1,m3,?_⟩⟩
 ·rw[List.getElem?_zipWith] at hd
  split at hd
  ·rename_i dx dy hx hy
   cases hd
   obtain⟨x,hx',rx⟩:=m2.get hx
   obtain⟨y,hy',ry⟩:=m4.get hy
   refine⟨⟨us2,ws2,x,y,m1,m3,hx',hy'⟩,λ v H' q=>?_⟩
   obtain⟨pp,x',y',rfl,hp,rfl,f1,f2⟩:=q
   have ex:x'=x:=by have:=f1 _ m1;rw[hx'] at this;exact (AY this).symm
   have ey:y'=y:=by have:=f2 _ m3;rw[hy'] at this;exact (AY this).symm
   subst ex ey
   refine⟨.new hp _,x2.new hp,?_⟩
   simp only[zi]
   exact⟨pp,_,rfl,zY.of yq,zm.ext (.new hp _) _ (.cons rx (.cons ry .nil))⟩
  ·cases hd
 ·have hl':(List.zipWith (λ x y=>D.tup [x,y]) xs ys).length<=i:=hl
  rw[List.length_zipWith] at hl'
  lia
@[simp] noncomputable def lI:List T->Option (List T)
 | [x,y]=>(wA x).bind λ xs=>(wA y).map λ ys=>List.zipWith (λ a b=>T.tup [a,b]) xs ys
 | _=>none
theorem fj {S:SS}:∀ {ts us:List T}{ds es:List D},zk S ts ds->zk S us es->zk S (List.zipWith (λ a b=>T.tup [a,b]) ts us) (List.zipWith (λ x y=>D.tup [x,y]) ds es)
 | [],us,ds,es,h,h'=>by simp only[zk] at h;subst h;simpa using zk.nil
 | t::ts,[],ds,es,h,h'=>by simp only[zk] at h';subst h';simpa using zk.nil
 | t::ts,u::us,ds,es,h,h'=>by
  simp only[zk] at h h'
  obtain⟨c,cs,rfl,h1,h2⟩:=h
  obtain⟨c',cs',rfl,h3,h4⟩:=h'
  exact zk.cons (qi (zk.cons h1 (zk.cons h3 zk.nil))) (fj h2 h4)
def zZ.sx {S S':SS}{d:D}{ds:List D}(h:zZ d S=some ds) (s:Sx S S'):zZ d S'=some ds:=by
 unfold zZ at h ⊢
 split at h
 ·exact h
 ·exact h
 ·split at h
  ·rename_i q
   cases h
   rw[s _ _ q]
  ·cases h
 ·cases h
def Vl {g:Ev->Option (List T)}(h:rQ g tA):rP false (wR lI g) (dR tA):=λ S Z L J ts Q hE e hq=>by
 obtain⟨ys,e1,e2⟩:=Af.mp e
 refine h S Z L J ys _ hE e1 λ ds S1 s1 r1=>?_
 unfold lI at e2
 split at e2
 ·obtain⟨xs,e3,e4⟩:=Af.mp e2
  obtain⟨zs,e5,rfl⟩:=Au.mp e4
  obtain⟨d,d',rfl,h1,h2⟩:=lL r1
  obtain⟨es,g1,g2⟩:=h1.seq e3
  obtain⟨es',g3,g4⟩:=h2.seq e5
  exact⟨d,d',es,es',rfl,g1,g3,hq _ S1 s1 (fj g2 g4) λ S'' s=>⟨zZ.sx g1 s,zZ.sx g3 s⟩⟩
 ·cases e2
end
end L5
namespace HT
open PySem PyProof.Rows
section
variable {prog:Program}{w:World}{A:Around}{E:Value->Shared->Prop}{s:Shared}
def Rr {t sl:Addr}{items:Array Value}{vl vu:Value}{lo hi:Option Int}{Q:Value->Shared->Prop}(ht:IsTup s.heap t items) (hs:s.heap.IsSliceOf sl vl vu .none) (pl:IsPart vl lo) (pu:IsPart vu hi)
  (hw:zF items.size 0 lo=0/\zF items.size items.size hi=items.size) (h:Q (.ref t) s):wpAny (model prog w) A (getItem (.ref t) (.ref sl)) Q E s:=by
 have hT:=ht.typeIs
 obtain⟨os,e1,e2,e3⟩:=id hs
 have hS:s.TypeIs (.ref sl) "slice":=⟨os,e1,e2⟩
 unfold getItem
 try with_reducible refine za5 ?_
 first | refine za0 (Ab ?_) | skip
 refine za0 (wpAny_sequenceKey hT (by decide) (za0 (zaF (name:=Str.ofString "__getitem__") hT PyProof.Rows.slot_tuple_getitem (zaB PyProof.Rows.slot_tuple_getitem hT entry_tuple_getitem ?_ (args_tuple_getitem _ _)))))
 refine za0 (m:=Builtin.Tuple.tupleItemsOf (.ref t)) (tupleItemsOf_ ht (za0 (zaG hS ?_)))
 rw[if_pos (by decide)]
 refine za0 (fx hs pl pu ?_)
 have yes:(((zF items.size 0 lo:Nat):Int) == 0&&(1:Int) == 1&&(zF items.size items.size hi-zF items.size 0 lo) == items.size)=true:=by rw[hw.1,hw.2];simp
 show wpAny _ _ (if (((zF items.size 0 lo:Nat):Int) == 0&&(1:Int) == 1&&(zF items.size items.size hi-zF items.size 0 lo) == items.size)=true then _ else _) _ _ s
 rw[if_pos yes]
 refine za0 (m:=Builtin.Tuple.tupleIsExact (.ref t)) (za0 (zaG hT (Ab ?_)))
 rw[if_pos (by decide)]
 first
  | exact za0 (wpAny_rule (Ab ⟨_,rfl,Ab h⟩))
  | exact za0 (wpAny_rule (za0 (Ab (Ab ⟨_,rfl,Ab h⟩))))
end
end HT
namespace L2
open PySem PySem.Spec PyProof.Rows
section
variable {X:Cx}
def fS (K:Aa):V->Option Int->Option Int->Hp->VK->Prop:=λ x lo hi H Q=>∃ a xs,x=.ref a/\zY K H a xs/\(HT.zF xs.length 0 lo=0/\HT.zF xs.length xs.length hi=xs.length)/\Q (.ref a) H
def Ys:sv X (fS X.K):=by
 intro pins s Y H x v vl vu lo hi sl Q I rx hs pl pu h
 obtain⟨a,xs,rfl,hx,hw,q⟩:=h
 cases rx
 obtain⟨its,r,ht,hz⟩:=I.tuple hx
 have hlen:its.toArray.size=xs.length:=by rw[Ao];exact r.length.symm
 exact⟨"tuple",_,PyProof.Rows.slot_tuple_getitem.lookup,ht.typeIs,HT.Rr ht hs pl pu (by rw[hlen];exact hw) ⟨.ref a,H,I,rfl,q⟩⟩
end
end L2
namespace L5
open PySem PySem.Spec L2 L3
open PyProof.Rows hiding St
def ud {α:Type}(xs:List α) (lo hi:Option Int):List α:=(xs.drop (HT.zF xs.length 0 lo)).take (HT.zF xs.length xs.length hi-HT.zF xs.length 0 lo)
section
variable {X:Cx}{K:Aa}{e:Expr}{lo hi:Option Expr}{te:zx}{tl th:Option zx}{pos p2:Pos}
def uc (t:Option zx):yc->SS->(Option Int->SS->Prop)->Prop:=fun L S Q=>match t with
 | none=>Q none S
 | some t=>t L S λ d S1=>match d with
  | .int i=>Q (some i) S1
  | _=>False
def af (t:Option zx):Prop:=∀ u,t=some u->yz u
def uc.mo (h:af tl):∀ L S (Q Q':Option Int->SS->Prop),(∀ d S',Q d S'->Q' d S')->uc tl L S Q->uc tl L S Q':=fun L S Q Q' hq z=>by
 cases tl with
 | none=>exact hq _ _ z
 | some t=>exact h t rfl L S _ _ (λ d S1 z=>by cases d <;> first | exact hq _ _ z | exact z) z
noncomputable def Zy (K:Aa) (t:Option zx):TO:=fun Y H Q=>∃ L S,yp K H L Y/\zE K H S/\uc t L S λ o S1=>∀ H1,Ext H H1->zE K H1 S1->Q o H1
structure mQ (X:Cx) (e:Option Expr) (t:Option zx):Prop where
 mo:af t
 po:PO X e (Zy X.K t)
def Wi:mQ X none none:=⟨nofun,λ pins s Y H Q I h=>by
 obtain⟨L,S,r1,r2,z⟩:=h
 exact Xu pins s Y H Q I (z H (.refl H) r2)⟩
def Wh (h:PD X e te):mQ X (some e) (some te):=⟨λ u q=>by cases q;exact h.mo,λ pins s Y H Q I hu=>by
 refine Xt h.pe pins s Y H Q I ?_
 obtain⟨L,S,r1,r2,z⟩:=hu
 refine zU.go h.mo r1 r2 z λ d S1 v H1 h1 q1 e1 p1=>?_
 cases d with
 | int i=>simp only[zi] at q1;exact⟨i,q1,h1 H1 e1 p1⟩
 | zg=>exact h1.elim
 | bl _=>exact h1.elim
 | str _=>exact h1.elim
 | err _ _ _=>exact h1.elim
 | tup _=>exact h1.elim
 | xx _=>exact h1.elim
 | ref _=>exact h1.elim⟩
def vZ (d:D) (lo hi:Option Int) (S:SS) (Q:DK):Prop:=match d with
 | .tup ds=>Q (.tup (ud ds lo hi)) S
 | d=>∃ ds,zZ d S=some ds/\∀ p,S p=none->Q (.ref p) (ups S p (.lst (ud ds lo hi)))
def vZ.mo {d:D}{lo hi:Option Int}{S:SS}{Q Q':DK}(hq:∀ d S',Q d S'->Q' d S') (h:vZ d lo hi S Q):vZ d lo hi S Q':=by
 unfold vZ at h ⊢
 split at h
 ·exact hq _ _ h
 ·obtain⟨ds,h1,h2⟩:=h
  exact⟨ds,h1,λ p hp=>hq _ _ (h2 p hp)⟩
def zm.cut {H:Hp}{ds:List D}{xs:List V}(h:zm K H ds xs) (lo hi:Option Int):zm K H (ud ds lo hi) (uB xs lo hi):=by
 have hd:∀ {ds:List D}{xs:List V}(n:Nat),zm K H ds xs->zm K H (ds.drop n) (xs.drop n):=by
  intro ds
  induction ds with
  | nil=>intro xs n h;simp only[zm] at h;subst h;simpa using zm.nil
  | cons d ds ih=>
   intro xs n h
   simp only[zm] at h
   obtain⟨y,ys,rfl,h1,h2⟩:=h
   cases n with
   | zero=>exact .cons h1 h2
   | succ n=>exact ih n h2
 have ht:∀ {ds:List D}{xs:List V}(n:Nat),zm K H ds xs->zm K H (ds.take n) (xs.take n):=by
  intro ds
  induction ds with
  | nil=>intro xs n h;simp only[zm] at h;subst h;simpa using zm.nil
  | cons d ds ih=>
   intro xs n h
   simp only[zm] at h
   obtain⟨y,ys,rfl,h1,h2⟩:=h
   cases n with
   | zero=>exact .nil
   | succ n=>exact .cons h1 (ih n h2)
 unfold ud uB
 rw[h.length]
 exact ht _ (hd _ h)
def Rt {xs:List V}{lo hi:Option Int}(h:HT.zF xs.length 0 lo=0/\HT.zF xs.length xs.length hi=xs.length):uB xs lo hi=xs:=by
 unfold uB
 rw[h.1,h.2]
 simp
abbrev Xa (K:Aa):V->Option Int->Option Int->Hp->VK->Prop:=λ x lo hi H Q=>fU K x lo hi H Q\/(fT K x lo hi H Q\/fS K x lo hi H Q)
def vZ.fits {d:D}{v:V}{lo hi:Option Int}{H:Hp}{S:SS}{Q:VK}(h1:zi K H d v) (h2:zE K H S) (h:vZ d lo hi S (xO K H Q)):Xa K v lo hi H Q:=by
 unfold vZ at h
 split at h
 ·simp only[zi] at h1
  obtain⟨a,xs,rfl,g1,g2⟩:=h1
  by_cases hw:HT.zF xs.length 0 lo=0/\HT.zF xs.length xs.length hi=xs.length
  ·refine .inr (.inr ⟨a,xs,rfl,g1,hw,h _ H ?_ (.refl H) h2⟩)
   simp only[zi]
   refine⟨a,xs,rfl,g1,?_⟩
   have:=zm.cut g2 lo hi
   rw[Rt hw] at this
   exact this
  ·refine .inr (.inl ⟨a,xs,rfl,g1,hw,λ p hp=>h _ _ ?_ (.new hp _) (h2.new hp)⟩)
   simp only[zi]
   exact⟨p,_,rfl,zY.of yq,zm.ext (.new hp _) _ (zm.cut g2 lo hi)⟩
 ·rename_i hn
  obtain⟨ds,e,h⟩:=h
  obtain⟨a,xs,rfl,g1,g2⟩:=sO h1 h2 e (λ ts z=>hn ts z)
  exact .inl ⟨a,xs,rfl,g1,λ p hp=>h p (h2.none hp) _ _ (by simp only[zi]) (.new hp _) (h2.ups (.new hp _) ⟨_,yq,zm.ext (.new hp _) _ (zm.cut g2 lo hi)⟩)⟩
def bq (te:zx) (tl th:Option zx):zx:=fun L S Q=>te L S λ x S1=>uc tl L S1 λ l S2=>uc th L S2 λ u S3=>vZ x l u S3 Q
def Ws (he:PD X e te) (hl:mQ X lo tl) (hh:mQ X hi th):PD X (.Subscript e (.Slice lo hi none p2) pos) (bq te tl th):=by
 refine⟨fun L S Q Q' hq z=>he.mo L S _ _ (λ x S1 z=>uc.mo hl.mo L S1 _ _ (λ l S2 z=>uc.mo hh.mo L S2 _ _ (λ u S3 z=>vZ.mo hq z) z) z) z,
  PE.imp (XH (Yu.or (Yt.or Ys)) he.pe hl.po hh.po) fun Y H Q hu=>?_⟩
 obtain⟨L,S,r1,r2,z⟩:=hu
 refine zU.go he.mo r1 r2 z λ x S1 v H1 h1 q1 e1 p1=>?_
 refine⟨L,S1,r1.ext e1,p1,uc.mo hl.mo L S1 _ _ (λ l S2 h2 H2 e2 p2=>?_) h1⟩
 refine⟨L,S2,(r1.ext e1).ext e2,p2,uc.mo hh.mo L S2 _ _ (λ u S3 h3 H3 e3 p3=>?_) h2⟩
 exact vZ.fits (zi.ext (e2.trans e3) x q1) p3 (vZ.mo (λ d S' z=>z.ext ((e1.trans e2).trans e3)) h3)
@[simp] noncomputable def i4:Option (Ev->Option T)->Ev->Option (Option Int)
 | none,_=>some none
 | some f,J=>(f J).bind λ x=>match x with
  | .int i=>some (some i)
  | _=>none
def mX (f:Option (Ev->Option T)) (t:Option zx):Prop:=∀ S Z L J y Q,ER S Z L J->i4 f J=some y->(∀ S',Sx S S'->Q y S')->uc t L S Q
def V1:mX none none:=λ S Z L J y Q hE e hq=>by cases e;exact hq S (.refl S)
def Vz {f:Ev->Option T}(h:yy f te):mX (some f) (some te):=λ S Z L J y Q hE e hq=>by
 obtain⟨x,e1,e2⟩:=Af.mp e
 refine h S Z L J x _ hE e1 λ d S1 s1 r1=>?_
 split at e2
 ·cases e2
  cases Vw.int r1
  exact hq S1 s1
 ·cases e2
@[simp] noncomputable def b8 (lo hi:Option Int):T->Option T
 | .tup ts=>some (.tup (ud ts lo hi))
 | .lst ts=>some (.lst (ud ts lo hi))
 | _=>none
@[simp] def fy (f:Ev->Option T) (lo hi:Option (Ev->Option T)):Ev->Option T:=fun J=>(f J).bind λ x=>(i4 lo J).bind λ l=>(i4 hi J).bind λ u=>b8 l u x
def zk.cut {S:SS}{ts:List T}{ds:List D}(h:zk S ts ds) (lo hi:Option Int):zk S (ud ts lo hi) (ud ds lo hi):=by
 unfold ud
 rw[h.len]
 exact zk.take' _ (zk.drop' _ h)
def VG {f:Ev->Option T}{l u:Option (Ev->Option T)}(h:yy f te) (hl:mX l tl) (hu:mX u th):xt (fy f l u) (bq te tl th):=λ S Z L J y Q hE e hq=>by
 obtain⟨x,e1,e⟩:=Af.mp e
 obtain⟨l',e2,e⟩:=Af.mp e
 obtain⟨u',e3,e⟩:=Af.mp e
 refine h S Z L J x _ hE e1 λ d S1 s1 r1=>?_
 refine hl S1 Z L J l' _ (hE.grow s1) e2 λ S2 s2=>?_
 refine hu S2 Z L J u' _ (hE.grow (s1.trans s2)) e3 λ S3 s3=>?_
 have r3:Vw S3 Z x d:=Vw.grow r1 (s2.trans s3)
 have hz:=(hE.grow ((s1.trans s2).trans s3)).zd
 unfold b8 at e
 split at e
 ·cases e
  obtain⟨ds,rfl,h2⟩:=r3.tup
  exact hq _ S3 ((s1.trans s2).trans s3) (Cl.of (λ _=>nofun) (qi (zk.cut h2 _ _)))
 ·cases e
  obtain⟨ds,h1,h2⟩:=r3.seq rfl
  have key:∃ ds,zZ d S3=some ds/\∀ p,S3 p=none->Q (.ref p) (ups S3 p (.lst (ud ds l' u'))):=⟨ds,h1,λ p hp=>hq _ _ (((s1.trans s2).trans s3).trans (.new hp _)) (Cl.cl ((s1.trans s2).trans s3) (qo hz hp (zk.cut h2 _ _)))⟩
  obtain⟨_,q | ⟨a,q,_⟩,_⟩:=r3.lst
  ·subst q;exact key
  ·subst q;exact key
 ·cases e
end
end L5
namespace TM
open PySem PyProof.Rows
def noFill:fillsNumberSlot (.type "tuple") "mul"=pure false:=
 PySem.fillsNumberSlot_seq (id:="tuple.__mul__") (r:=some (.builtin "tuple.__rmul__")) F.slot_tuple_mul.lookup (by decide +kernel) F.slot_tuple_rmul.lookup (by decide +kernel)
def rep:seqRepeat? (.type "tuple")=pure (some (.builtin "tuple.__mul__")):=by
 have a:=PySem.seqSlot_of (T:="tuple") (name:="__mul__") (id:="tuple.__mul__") F.slot_tuple_mul.lookup (by decide +kernel)
 have b:=PySem.seqSlot_of (T:="tuple") (name:="__rmul__") (id:="tuple.__rmul__") F.slot_tuple_rmul.lookup (by decide +kernel)
 unfold seqRepeat?
 rw[a,b]
 rfl
def declines (i:Int) (t:Tok) (l:Addr) (items:Array Value) (n:Nat) (dd:Option Addr) (sl:Array (Option Value)):
  Meets (Builtin.«int.__rmul__» ⟨[.int i t,.ref l],[]⟩) (λ _ R s=>s.heap.get? l=some { cls:=.type "tuple",dict:=dd,data:=.seq items n,slots:=sl }/\R (.ok (.ret Value.notImplemented)) s):=
 .of_wp λ prog w A R s h=>by
  obtain⟨hp,g,d,tk,os⟩:=s
  obtain⟨hl,h⟩:=h
  wp_walk
  exact⟨_,rfl,h⟩
theorem cF {α:Type}(xs:List α):∀ (m:Nat) (acc:Array α),(List.replicate m xs.toArray).foldl (·++·) acc=acc++(List.replicate m xs).flatten.toArray
 | 0,acc=>by simp
 | m+1,acc=>by
  rw[BV,List.foldl_cons,cF xs m,BV,B0,Dz]
  simp
def UJ (k:Int) (t:Tok) (l:Addr) (items:Array Value) (n:Nat) (dd:Option Addr) (sl:Array (Option Value)) (h1:¬ (decide (k < -(2 ^ 63))||decide (k≥2 ^ 63))=true) (h2:¬ (items.isEmpty||k == 1)=true) (h3:¬ (decide (k<=0)||items.isEmpty)=true)
  (h4:¬ (items.size*k>(2 ^ 63-1)/8)) (h5:¬ Builtin.Tuple.tupleTooMany (items.size*k)=true) (h6:((List.replicate k.toNat items).foldl (·++·) #[]).size<=sizeLine):
  Meets (Builtin.«tuple.__mul__» ⟨[.ref l,.int k t],[]⟩) (λ _ R s=>s.heap.get? l=some { cls:=.type "tuple",dict:=dd,data:=.seq items n,slots:=sl }/\
   R (.ok (.ret (.ref s.heap.objs.size))) { s with heap:=s.heap.push { cls:=.type "tuple",data:=.seq ((List.replicate k.toNat items).foldl (·++·) #[]) } }):=
 .of_wp λ prog w A R s h=>by
  obtain⟨hp,g,d,tk,os⟩:=s
  obtain⟨hl,h⟩:=h
  have e0:IsTup (Shared.heap ⟨hp,g,d,tk,os⟩) l items:=⟨_,hl,rfl,n,rfl⟩
  wp_walk
  rw[if_neg h1]
  refine za0 (m:=Builtin.Tuple.tupleItemsOf (.ref l)) (tupleItemsOf_ e0 ?_)
  dsimp only
  rw[if_neg h2,if_neg h3,if_neg h4,if_neg h5]
  exact za0 (m:=Builtin.Tuple.tupleExact _) (za8 (Ab ⟨_,rfl,h⟩) h6)
def UK (t:Tok) (l:Addr) (items:Array Value) (n:Nat) (dd:Option Addr) (sl:Array (Option Value)):
  Meets (Builtin.«tuple.__mul__» ⟨[.ref l,.int 1 t],[]⟩) (λ _ R s=>s.heap.get? l=some { cls:=.type "tuple",dict:=dd,data:=.seq items n,slots:=sl }/\R (.ok (.ret (.ref l))) s):=
 .of_wp λ prog w A R s h=>by
  obtain⟨hp,g,d,tk,os⟩:=s
  obtain⟨hl,h⟩:=h
  have c:(items.isEmpty||(1:Int) == 1)=true:=by simp
  wp_walk
  exact⟨_,rfl,h⟩
section
variable {prog:Program}{w:World}{A:Around}{E:Value->Shared->Prop}{s:Shared}
def times {l:Addr}{its:List Value}{k:Int}{t:Tok}{Q:Value->Shared->Prop}(ht:IsTup s.heap l its.toArray) (An:its≠[]) (h0:1<=k) (hz:its.length*k.toNat<=sizeLine)
  (one:k=1->Q (.ref l) s) (more:k≠1->Q (.ref s.heap.objs.size) { s with heap:=s.heap.push { cls:=.type "tuple",data:=.seq (List.replicate k.toNat its).flatten.toArray } }):
  wpAny (model prog w) A (binaryOp .Mult (.ref l) (.int k t)) Q E s:=by
 have hT:=ht.typeIs
 obtain⟨⟨cls,dd,data,sl⟩,ho,hc,n,hd⟩:=id ht
 simp only at hc hd
 subst hc hd
 refine wpAny_binaryOp_repeat_ref (T:="tuple") (U:="int") (by decide) hT (λ s'=>typeIs_int s' k t) noFill F.fills_int_mul F.slot_int_rmul rep F.slot_int_index.lookup
  (call_meets F.slot_int_rmul (typeIs_int s k t) F.entry_int_rmul (F.args_int_rmul_2 _ _) (declines k t l its.toArray n dd sl) ⟨ho,rfl,hT,?_⟩)
 have hlen:0<its.length:=List.length_pos_iff.mpr An
 have hem:its.toArray.isEmpty=false:=by cases its with
  | nil=>exact absurd rfl An
  | cons a r=>rfl
 by_cases h1:k=1
 ·subst h1
  exact call_meets F.slot_tuple_mul hT F.entry_tuple_mul (F.args_tuple_mul_2 _ _) (UK t l its.toArray n dd sl) ⟨ho,one rfl⟩
 ·have hks:k.toNat<=sizeLine:=Bo (Nat.le_mul_of_pos_left _ hlen) hz
  have hl:sizeLine=16777216:=rfl
  have hk2:k<=16777216:=by lia
  have hcast:((its.toArray.size:Nat):Int)*k=((its.length*k.toNat:Nat):Int):=by
   rw[Ao,Int.natCast_mul,Int.toNat_of_nonneg (by lia)]
  have hf:(List.replicate k.toNat its.toArray).foldl (·++·) #[]=(List.replicate k.toNat its).flatten.toArray:=by rw[cF];simp
  have DX:(List.replicate k.toNat its).flatten.length=k.toNat*its.length:=by simp
  refine call_meets F.slot_tuple_mul hT F.entry_tuple_mul (F.args_tuple_mul_2 _ _) (UJ k t l its.toArray n dd sl ?_ ?_ ?_ ?_ ?_ ?_) ⟨ho,?_⟩
  ·simp only[Bool.or_eq_true,decide_eq_true_eq,not_or]
   exact⟨by lia,by lia⟩
  ·rw[hem];simpa using h1
  ·rw[hem];simp;lia
  ·rw[hcast];lia
  ·rw[hcast]
   intro q
   unfold Builtin.Tuple.tupleTooMany at q
   have:=of_decide_eq_true q
   lia
  ·rw[hf,Ao,DX,Nat.mul_comm];exact hz
  ·rw[hf];exact more h1
end
end TM
namespace L2
open PySem PySem.Spec PyProof.Rows
def fV (K:Aa):R2:=λ x y H Q=>∃ a k xs,x=.ref a/\y=.int k/\zY K H a xs/\xs≠[]/\1<=k/\xs.length*k.toNat<=sizeLine/\(k=1->Q (.ref a) H)/\(k≠1->∀ p,H p=none->Q (.ref p) (upd H p (.tup (List.replicate k.toNat xs).flatten)))
def WE {X:Cx}:z_ X (binaryOp .Mult) (fV X.K):=by
 intro pins s Y H x y v u Q I rx ry h
 obtain⟨a,k,xs,rfl,rfl,hx,An,h1,hz,q1,q2⟩:=h
 cases rx
 obtain⟨t,rfl⟩:=ry
 obtain⟨its,r,ht,_⟩:=I.tuple hx
 have hl:=r.length
 refine TM.times ht (λ z=>An (r.me.mp z)) h1 (by rw[<- hl];exact hz) (λ e=>⟨.ref a,H,I,rfl,q1 e⟩) λ e=>?_
 have hlen:(List.replicate k.toNat xs).flatten.length<=sizeLine:=by
  have:(List.replicate k.toNat xs).flatten.length=k.toNat*xs.length:=by simp
  rw[this,Nat.mul_comm];exact hz
 exact⟨.ref _,_,I.laid (t':=s.toks) (o:=.tup (List.replicate k.toNat xs).flatten) (λ b ob q=>za1 _ q) (Ad _) ⟨hlen,_,r.rep k.toNat,IsTup.new _ _⟩,rfl,q2 e _ (I.zu.fresh (Ad _))⟩
end L2
namespace L5
open PySem PySem.Spec L2 L3
open PyProof.Rows hiding St
section
variable {X:Cx}{K:Aa}{a b:Expr}{ta tb:zx}{pos:Pos}
def u4:yM:=λ x y S Q=>match x,y with
 | .int i,.int j=>xh i j/\Q (.int (i*j)) S
 | .tup ds,.int k=>(ds≠[]/\1<=k/\ds.length*k.toNat<=sizeLine)/\Q (.tup (List.replicate k.toNat ds).flatten) S
 | _,_=>False
noncomputable def yw:T->T->Option T
 | .int i,.int j=>if xh i j then some (.int (i*j)) else none
 | .tup ts,.int k=>if ts≠[]/\1<=k/\ts.length*k.toNat<=sizeLine then some (.tup (List.replicate k.toNat ts).flatten) else none
 | _,_=>none
def u4.mo:xC u4:=λ x y S Q Q' hq h=>by
 unfold u4 at h ⊢
 split at h
 ·exact⟨h.1,hq _ _ h.2⟩
 ·exact⟨h.1,hq _ _ h.2⟩
 ·exact h.elim
theorem zm.rep {H:Hp}{ds:List D}{xs:List V}(h:zm K H ds xs):∀ n:Nat,zm K H (List.replicate n ds).flatten (List.replicate n xs).flatten
 | 0=>.nil
 | n+1=>by
  rw[BV,BV,B0,B0]
  exact h.append (zm.rep h n)
def u4.fits:xu K u4 (λ x y H Q=>rI xh (λ i j=>.int (i*j)) x y H Q\/fV K x y H Q):=λ x y d e H S Q h1 h2 h3 h=>by
 unfold u4 at h
 split at h
 ·simp only[zi] at h1 h2
  exact .inl ⟨_,_,h1,h2,h.1,h.2 _ H (by simp only[zi]) (.refl H) h3⟩
 ·rename_i ds k
  obtain⟨⟨c1,c2,c3⟩,h⟩:=h
  have h1':=h1
  simp only[zi] at h1 h2
  obtain⟨a,xs,rfl,g1,g2⟩:=h1
  have hl:=g2.length
  refine .inr ⟨a,k,xs,rfl,h2,g1,λ z=>c1 (by subst z;cases ds with | nil=>rfl | cons _ _=>simp at hl),c2,by rw[<- hl];exact c3,λ e=>?_,λ e p hp=>?_⟩
  ·subst e
   refine h _ H ?_ (.refl H) h3
   have:(List.replicate (1:Int).toNat ds).flatten=ds:=by simp
   rw[this];exact h1'
  ·refine h _ _ ?_ (.new hp _) (h3.new hp)
   simp only[zi]
   exact⟨p,_,rfl,zY.of yq,zm.ext (.new hp _) _ (zm.rep g2 _)⟩
 ·exact h.elim
theorem zk.rep {S:SS}{ts:List T}{ds:List D}(h:zk S ts ds):∀ n:Nat,zk S (List.replicate n ts).flatten (List.replicate n ds).flatten
 | 0=>.nil
 | n+1=>by
  rw[BV,BV,B0,B0]
  exact h.append (zk.rep h n)
def Si:Good2 zK yw u4:=λ S Z x y z d e Q hz hx hy ef hq=>by
 unfold yw at ef
 split at ef
 ·split at ef
  ·rename_i hc
   cases ef
   cases hx.int;cases hy.int
   exact⟨hc,hq _ S (.refl S) (Cl.of (λ _=>nofun) wa)⟩
  ·cases ef
 ·split at ef
  ·rename_i hc
   cases ef
   obtain⟨ds,rfl,h2⟩:=hx.tup
   cases hy.int
   have hl:=h2.len
   exact⟨⟨λ q=>hc.1 (by subst q;simpa using hl.symm),hc.2.1,by rw[hl];exact hc.2.2⟩,hq _ S (.refl S) (Cl.of (λ _=>nofun) (qi (zk.rep h2 _)))⟩
  ·cases ef
 ·cases ef
def vS (ha:PD X a ta) (hb:PD X b tb):PD X (.BinOp a .Mult b pos) (yh u4 ta tb):=tT (WG.or WE) u4.fits u4.mo ha hb
end
end L5
namespace L5
open PySem PySem.Spec L2 L3
open PyProof.Rows hiding St
section
variable {X:Cx}
def yW.or {f:Value}{r r':List V->Hp->VK->Prop}(h:yW X f r) (h':yW X f r'):yW X f (λ xs H Q=>r xs H Q\/r' xs H Q):=λ pins s Y H xs us Q I rv q=>
 q.elim (λ q=>h pins s Y H xs us Q I rv q) λ q=>h' pins s Y H xs us Q I rv q
end
end L5
namespace ST
open PySem PySem.SetTable PySem.Spec PyProof.Rows L2
def TR {us us':List Value}(p:us'.Perm us):∀ {ms:List Int},IntsAre us ms->∃ ms',IntsAre us' ms'/\ms'.Perm ms:=by
 induction p with
 | nil=>intro ms h;exact⟨ms,h,.refl _⟩
 | cons x _ ih=>
  intro ms h
  cases h with
  | cons n t h=>
   obtain⟨ms',h1,h2⟩:=ih h
   exact⟨n::ms',.cons n t h1,h2.cons n⟩
 | swap x y l=>
  intro ms h
  cases h with
  | cons n t h=>
   cases h with
   | cons m u h=>exact⟨m::n::_,.cons m u (.cons n t h),.swap _ _ _⟩
 | trans _ _ ih1 ih2=>
  intro ms h
  obtain⟨m1,h1,h2⟩:=ih2 h
  obtain⟨m2,h3,h4⟩:=ih1 h1
  exact⟨m2,h3,h4.trans h2⟩
def vp.at {prog:Program}{w:World}{h:Heap}{a:Addr}{xs:List (Int×Tok)}(S:vp prog w h a xs (vf w)):yD w a (xs.map λ e=>Value.int e.1 e.2) h:=by
 obtain⟨⟨es,ep,t,ho,he,T,h1,h2,h3⟩,_⟩:=S
 have hm:7<=t.mask/\t.mask<=127:=by rcases T.mask with e | e | e <;> lia
 have hlen:es.size=xs.length:=by have:=congrArg List.length he;simpa using this
 exact⟨es,ep,t,⟨ho,fits_of (n:=xs.length) hlen T (by simp) (by lia),T.wo,h1,h2⟩,by rw[he,Bp];rfl⟩
theorem cw:∀ xs:List (Int×Tok),IntsAre (xs.map λ e=>Value.int e.1 e.2) (xs.map (·.1))
 | []=>.nil
 | e::xs=>.cons e.1 e.2 (cw xs)
theorem gF:∀ {us:List Value}{ns:List Int},IntsAre us ns->Vals (ns.map V.int) us
 | _,_,.nil=>.nil
 | _,_,.cons n t h=>.cons ⟨t,rfl⟩ (gF h)
section
variable {X:Cx}
def RB (hc:X.calm=true):yW X (.type "set") (λ xs H Q=>∃ p,∃ ns:List Int,xs=[.ref p]/\zP X.K H p (ns.map V.int)/\ns.length<64/\
  ∀ (l:Addr) (us:List Value) (ms:List Int),H l=none->IntsAre us ms->ms.Nodup->(∀ n,n∈ms↔n∈ns)->Q (.ref l) (upd H l (.ext (yD X.w l us)))):=by
 intro pins s Y H xs us Q I r h
 obtain⟨p,ns,rfl,hq,h64,q⟩:=h
 obtain⟨u,rfl,ru⟩:=vals1 r
 cases ru
 obtain⟨its,rv,pl,hz⟩:=I.list hq
 have hl:=rv.length
 rw[Aq] at hl
 have iA:IntsAre its ns:=intsAre_of rv
 have nums:Nums its.toArray ns:=λ i v hv=>by
  have hv':its[i]?=some v:=by simpa using hv
  have hi:i<ns.length:=by rw[hl];exact (Az.mp hv').1
  obtain⟨u,e1,t,e2⟩:=rv.get (i:=i) (x:=V.int ns[i]) (by simp[hi])
  rw[hv'] at e1;cases e1
  exact⟨ns[i],t,e2,by simp[hi]⟩
 have hh:X.A.handled=none:=I.ok.hd hc
 refine RC (A:=X.A) hh pl.isList nums (by rw[Ao];lia) λ h' tk xs S U k=>?_
 have kk:∀ b o,s.heap.get? b=some o->h'.get? b=some o:=λ b o e=>k b o (Ai e) e
 have hSO:=S.at
 refine⟨.ref s.heap.objs.size,_,I.laid (t':=tk) (o:=.ext (yD X.w s.heap.objs.size (xs.map λ e=>Value.int e.1 e.2))) kk (Ad _) ?_,rfl,q _ _ (xs.map (·.1)) (I.zu.fresh (Ad _)) (cw xs) S.nd λ n=>⟨λ hn=>?_,λ hn=>?_⟩⟩
 ·obtain⟨es,ep,t,St,e⟩:=id hSO
  exact⟨hSO,⟨_,St.get⟩,λ h1 h2 S1 k=>S1.wL k⟩
 ·obtain⟨e,he,rfl⟩:=AE.mp hn
  obtain⟨j,_,hj⟩:=U.own e he
  exact Be hj
 ·obtain⟨j,hj⟩:=C3.mp hn
  exact U.all j n (by have:=(Az.mp hj).1;rw[Ao];lia) hj
def R8 (hc:X.calm=true):yW X (.builtin "sorted") (λ xs H Q=>∃ l us,∃ ms:List Int,xs=[.ref l]/\H l=some (.ext (yD X.w l us))/\IntsAre us ms/\ms.length<64/\
  ∀ (p:Addr) (ns:List Int),H p=none->ns.Perm ms->ns.Pairwise (·<=·)->Q (.ref p) (upd H p (.lst (ns.map V.int)))):=by
 intro pins s Y H xs us0 Q I r h
 obtain⟨l,us,ms,rfl,hl,hm,h64,q⟩:=h
 obtain⟨u,rfl,ru⟩:=vals1 r
 cases ru
 obtain⟨⟨es,ep,t,S,eu⟩,-,-⟩:=(show xG X.prog X.w H s.heap l (.ext (yD X.w l us)) from I.zu l _ hl)
 have hlen:es.size=us.length:=by rw[<- eu];simp
 have hml:=hm.length
 have hh:X.A.handled=none:=I.ok.hd hc
 have hp:((comes X.w l es ep).toList.map (·.2)).Perm us:=by rw[<- eu];exact (qP X.w l es ep).map _
 obtain⟨ms',i1,i2⟩:=TR hp hm
 have AJ:=hp.length_eq
 have hl24:sizeLine=16777216:=rfl
 refine fg (Out:=λ out=>∃ ns',IntsAre out.toList ns'/\ns'.Perm ms'/\ns'.Pairwise (·<=·)) hh S (by rw[hlen,hml];lia) (λ s6 h2 k=>L4.Rx i1 (by rw[AJ,<- hlen];exact h2) (by rw[AJ,hml];exact h64)) (λ h1=>⟨ms',by simpa using i1,.refl _,?_⟩) λ out h' tk p ho hs hp' k Cr=>?_
 ·have:ms'.length<2:=by rw[<- i1.length,AJ,<- hlen];exact h1
  match ms',this with
  | [],_=>exact .nil
  | [_],_=>exact List.pairwise_singleton _ _
 ·obtain⟨ns,g1,g2,g3⟩:=ho
  obtain⟨e,he⟩:=Cr
  refine⟨.ref p,_,I.laid (t':=tk) (o:=.lst (ns.map V.int)) k hp' ?_,rfl,q p ns (I.zu.fresh hp') (g2.trans i2) g3⟩
  exact⟨by rw[Aq,g2.length_eq,i2.length_eq];lia,out.toList,e,gF g1,by simpa using he⟩
end
end ST
namespace L5
open PySem PySem.Spec L2 L3
open PyProof.Rows hiding St
noncomputable def insI (n:Int):List Int->List Int
 | []=>[n]
 | m::l=>if n<m then n::m::l else if n=m then m::l else m::insI n l
noncomputable def vy:List Int->List Int
 | []=>[]
 | n::ns=>insI n (vy ns)
theorem jv {n k:Int}:∀ {l:List Int},k∈insI n l↔k=n\/k∈l
 | []=>by simp[insI]
 | m::l=>by
  unfold insI
  split
  ·simp
  ·split
   ·rename_i h;subst h;simp
   ·rw[Aj,jv,Aj]
    constructor
    ·rintro (h | h | h)
     ·exact .inr (.inl h)
     ·exact .inl h
     ·exact .inr (.inr h)
    ·rintro (h | h | h)
     ·exact .inr (.inl h)
     ·exact .inl h
     ·exact .inr (.inr h)
theorem d7 {k:Int}:∀ {l:List Int},k∈vy l↔k∈l
 | []=>.rfl
 | n::l=>by unfold vy;rw[jv,d7,Aj]
theorem cz {n:Int}:∀ {l:List Int},l.Pairwise (· < ·)->(insI n l).Pairwise (· < ·)
 | [],_=>List.pairwise_singleton _ _
 | m::l,h=>by
  have h':=BZ.mp h
  unfold insI
  split
  ·rename_i c
   refine BZ.mpr ⟨λ x hx=>?_,h⟩
   rcases Aj.mp hx with e | e
   ·rw[e];exact c
   ·exact Int.lt_trans c (h'.1 x e)
  ·split
   ·exact h
   ·rename_i c1 c2
    refine BZ.mpr ⟨λ x hx=>?_,cz h'.2⟩
    rcases jv.mp hx with e | e
    ·rw[e];lia
    ·exact h'.1 x e
theorem gL:∀ l:List Int,(vy l).Pairwise (· < ·)
 | []=>.nil
 | n::l=>cz (gL l)
def Zx {l m:List Int}(h1:l.Nodup) (h2:l.Pairwise (·<=·)) (h3:m.Pairwise (· < ·)) (h:∀ k,k∈l↔k∈m):l=m:=by
 have nm:m.Nodup:=h3.imp λ h e=>by lia
 refine L4.kU (r:=λ a b:Int=>a<=b) (λ a b p q=>by lia) ((Dm h1 nm).mpr h) h2 (h3.imp λ h=>by lia)
section
variable {X:Cx}{K:Aa}{e:Expr}{tA:yb}{pos pos2 p p2:Pos}
def ot:xZ:=λ ds S Q=>vY ds S Q\/∃ d,∃ ns:List Int,ds=[d]/\(∀ ts,d≠.tup ts)/\zZ d S=some (ns.map D.int)/\ns.length<64/\∀ l,S l=none->Q (.ref l) (ups S l (.lst ((vy ns).map D.int)))
noncomputable def nv:List T->Option T
 | [.lst ts]=>match vA ts with
  | some ns=>if ns.length<64 then some (.lst ((vy ns).map T.int)) else none
  | none=>ny [.lst ts]
 | _=>none
def Sf:uN zK nv ot:=λ S Z ys z ds Q hz hv e hq=>by
 unfold nv at e
 split at e
 ·split at e
  ·rename_i ns Bf
   split at e
   ·rename_i hc
    cases e
    cases om Bf
    obtain⟨d,rfl,h1⟩:=um hv
    obtain⟨es,h2,h3⟩:=h1.seq rfl
    cases uU.mp h3
    refine .inr ⟨d,ns,rfl,?_,h2,hc,λ l hl=>hq _ _ (.new hl _) (qo hz hl (uU.mpr rfl))⟩
    obtain⟨_,q | ⟨a,q,_⟩,_⟩:=h1.lst <;> subst q <;> exact λ _=>nofun
   ·cases e
  ·exact .inl (Sg S Z _ z ds Q hz hv e hq)
 ·cases e
theorem ot.mo:uj ot:=λ ds S Q Q' hq h=>by
 rcases h with h | ⟨d,ns,h1,h2,h3,h4,h5⟩
 ·exact .inl (vY.mo ds S Q Q' hq h)
 ·exact .inr ⟨d,ns,h1,h2,h3,h4,λ l hl=>hq _ _ (h5 l hl)⟩
def SK {w:World}{xs:List V}{H:Hp}{S:SS}{Q:VK}{d:D}{ns:List Int}(h0:zm K H [d] xs) (h2:zE K H S) (hn:∀ ts,d≠.tup ts) (e:zZ d S=some (ns.map D.int)) (h64:ns.length<64) (h:∀ l,S l=none->xO K H Q (.ref l) (ups S l (.lst ((vy ns).map D.int)))):
  ∃ p,∃ ns':List Int,xs=[.ref p]/\zP K H p (ns'.map V.int)/\ns'.length<64/\
   ∀ (l:Addr) (us:List Value) (ms:List Int),H l=none->IntsAre us ms->ms.Nodup->(∀ n,n∈ms↔n∈ns')->
    ∃ l' us',∃ ms':List Int,[V.ref l]=[.ref l']/\(upd H l (.ext (ST.yD w l us))) l'=some (.ext (ST.yD w l' us'))/\IntsAre us' ms'/\ms'.length<64/\
     ∀ (p:Addr) (ns:List Int),(upd H l (.ext (ST.yD w l us))) p=none->ns.Perm ms'->ns.Pairwise (·<=·)->Q (.ref p) (upd (upd H l (.ext (ST.yD w l us))) p (.lst (ns.map V.int))):=by
 obtain⟨x,hx,h1⟩:=h0.one;subst hx
 obtain⟨a,ys,rfl,g1,g2⟩:=sO h1 h2 e hn
 rw[g2.ints] at g1
 refine⟨a,ns,rfl,g1,h64,λ l us ms hf hi nd A_=>⟨l,us,ms,rfl,yq,hi,?_,λ p ns2 hp pm srt=>?_⟩⟩
 ·have:=ST.jq ms ns nd λ x hx=>(A_ x).mp hx
  lia
 ·have x1:Ext H (upd H l (.ext (ST.yD w l us))):=.new hf _
  have Ag:p≠l:=λ z=>by subst z;rw[yq] at hp;cases hp
  have hpH:H p=none:=by rw[zN Ag] at hp;exact hp
  have x2:Ext (upd H l (.ext (ST.yD w l us))) (upd (upd H l (.ext (ST.yD w l us))) p (.lst (ns2.map V.int))):=.new hp _
  have heq:ns2=vy ns:=Zx (pm.nodup_iff.mpr nd) srt (gL ns) λ k=>by rw[pm.mem_iff,A_,d7]
  refine h p (h2.none hpH) _ _ (by simp only[zi]) (x1.trans x2) ((h2.new hf).ups x2 ⟨_,yq,?_⟩)
  rw[<- heq]
  exact zm.jn ns2
def Wr {k:Nat}(hr:ye k X.A) (hm:X.mg "sorted"=none) (hm2:X.mg "set"=none) (ha:xA X [e] tA) (hc:X.calm=true:=by rfl) (hg:Gl X "sorted":=by rfl) (hg2:Gl X "set":=by rfl)
  (he2:starEach [e] X.env=(false,eval e X.env)::starEach [] X.env:=by rfl)
  (he:starEach [.Call (.Name "set" p2) [e] [] pos2] X.env=(false,eval (.Call (.Name "set" p2) [e] [] pos2) X.env)::starEach [] X.env:=by rfl) (Ag:(backTo pos (starEach [] X.env)).any (·.1)=false:=by rfl) (hpl2:(backTo pos2 (starEach [] X.env)).any (·.1)=false:=by rfl):
  PD X (.Call (.Name "sorted" p) [.Call (.Name "set" p2) [e] [] pos2] [] pos) (wX ot tA):=by
 have h:=qq (p:=p) (yW.or (ST.R9 hc) (ST.R8 hc)) hg hm boot_sorted (tW (nU (yW.or (ST.RA hc hr.units) (ST.RB hc)) hg2 hm2 PyProof.Rows.boot_set ha.pa (by decide) (by decide) he2 hpl2) qx he) (by decide) (by decide) he Ag
 refine⟨wX.mo ot.mo ha.mo,PE.imp h fun Y H Q hu=>?_⟩
 obtain⟨L,S,r1,r2,z⟩:=hu
 refine xJ.go ha.mo r1 r2 z λ ds S1 xs H1 h1 q1 e1 p1=>?_
 rcases h1 with h1 | ⟨d,ns,rfl,c1,c2,c3,h1⟩
 ·obtain⟨p,ys,rows,a1,a2,a3,a4,a5⟩:=vY.fits (w:=X.w) xs ds H1 S1 Q q1 p1 (vY.mo ds S1 _ _ (λ d S' z=>z.ext e1) h1)
  exact .inl ⟨p,ys,rows,a1,a2,a3,a4,λ l us vs rs b1 b2 b3=>.inl (a5 l us vs rs b1 b2 b3)⟩
 ·obtain⟨p,ns',a1,a2,a3,a4⟩:=SK (w:=X.w) q1 p1 c1 c2 c3 (λ l hl=>(h1 l hl).ext e1)
  exact .inr ⟨p,ns',a1,a2,a3,λ l us ms b1 b2 b3 b4=>.inr (a4 l us ms b1 b2 b3 b4)⟩
end
end L5
namespace L5
open PySem L2 L3
def jL:Good2 zK j6 cR:=oo (λ _ _ _=>wc) λ _ _ _=>nofun
def jM:Good2 zK c6 ia:=oo (λ _ _ _=>wc) λ _ _ _=>nofun
def jN:Good2 zK jS m8:=oo (λ _ _ _=>wc) λ _ _ _=>nofun
end L5
namespace L5
open PySem PySem.Spec L2 L3
open PyProof.Rows hiding St
section
variable {X:Cx}{e:Expr}{te:zx}{pos p q:Pos}
def Ww (T:Bt X.mg) (he:PD X e te) (hg:Gl X "isinstance":=by rfl) (hg2:Gl X "str":=by rfl) (h1:starEach (e::[.Name "str" q]) X.env=(false,eval e X.env)::starEach [.Name "str" q] X.env:=by rfl) (h2:(backTo pos (starEach [.Name "str" q] X.env)).any (·.1)=false:=by rfl) (h3:starEach [.Name "str" q] X.env=(false,eval (.Name "str" q) X.env)::starEach [] X.env:=by rfl):
  PD X (.Call (.Name "isinstance" p) [e,.Name "str" q] [] pos) (rD "str" te):=pU (by simp) T.isinstance T.str PyProof.Rows.boot_str hg2 (by decide) (by decide) he hg h1 h2 h3
def jg (T:Bt X.mg) (he:PD X e te) (hg:Gl X "isinstance":=by rfl) (hg2:Gl X "list":=by rfl) (h1:starEach (e::[.Name "list" q]) X.env=(false,eval e X.env)::starEach [.Name "list" q] X.env:=by rfl) (h2:(backTo pos (starEach [.Name "list" q] X.env)).any (·.1)=false:=by rfl) (h3:starEach [.Name "list" q] X.env=(false,eval (.Name "list" q) X.env)::starEach [] X.env:=by rfl):
  PD X (.Call (.Name "isinstance" p) [e,.Name "list" q] [] pos) (rD "list" te):=pU (by simp) T.isinstance T.list PyProof.Rows.boot_list hg2 (by decide) (by decide) he hg h1 h2 h3
end
end L5
namespace L5
open PySem PySem.Spec L2 L3
open PyProof.Rows hiding St
section
variable {X:Cx}{K:Aa}{e:Expr}{es:List Expr}{tA:yb}{pos p:Pos}
def u6:xZ:=λ ds S Q=>match ds with
 | [.int i]=>Q (.int i) S
 | [.bl k]=>Q (.int (if k then 1 else 0)) S
 | _=>False
def u6.mo:uj u6:=λ ds S Q Q' hq h=>by
 unfold u6 at h ⊢
 split at h
 ·exact hq _ _ h
 ·exact hq _ _ h
 ·exact h.elim
def u6.fits:tE K u6 (λ xs H Q=>(∃ i,xs=[.int i]/\Q (.int i) H)\/∃ k,xs=[.bl k]/\Q (.int (if k then 1 else 0)) H):=λ xs ds H S Q h0 h2 h=>by
 unfold u6 at h
 split at h
 ·obtain⟨x,rfl,h1⟩:=h0.one
  simp only[zi] at h1;subst h1
  exact .inl ⟨_,rfl,h _ H (by simp only[zi]) (.refl H) h2⟩
 ·obtain⟨x,rfl,h1⟩:=h0.one
  simp only[zi] at h1;subst h1
  exact .inr ⟨_,rfl,h _ H (by simp only[zi]) (.refl H) h2⟩
 ·exact h.elim
def Wx (hm:X.mg "int"=none) (ha:xA X (e::es) tA) (hg:Gl X "int":=by rfl) (he:starEach (e::es) X.env=(false,eval e X.env)::starEach es X.env:=by rfl) (Ag:(backTo pos (starEach es X.env)).any (·.1)=false:=by rfl):PD X (.Call (.Name "int" p) (e::es) [] pos) (wX u6 tA):=
 qw (nU RJ hg hm PyProof.Rows.boot_int ha.pa (by decide) (by decide) he Ag) u6.mo u6.fits ha.mo
@[simp] noncomputable def ml:List T->Option T
 | [.int i]=>some (.int i)
 | [.bl k]=>some (.int (if k then 1 else 0))
 | _=>none
def good_int:uN zK ml u6:=λ S Z ys z ds Q hz hv e hq=>by
 unfold ml at e
 split at e
 ·cases e
  obtain⟨d,rfl,h1⟩:=um hv
  cases h1.int
  exact hq _ S (.refl S) (Cl.of (λ _=>nofun) wa)
 ·cases e
  obtain⟨d,rfl,h1⟩:=um hv
  cases h1.bl
  exact hq _ S (.refl S) (Cl.of (λ _=>nofun) wa)
 ·cases e
end
section
variable {α:Type}{P:List α->Prop}
def mL (h:∀ a,P [a]) (us:List α) (hl:us.length=1):P us:=match us,hl with | [a],_=>h a
def wH (h:∀ a b,P [a,b]) (us:List α) (hl:us.length=2):P us:=match us,hl with | [a,b],_=>h a b
def o9 (h:∀ a b c,P [a,b,c]) (us:List α) (hl:us.length=3):P us:=match us,hl with | [a,b,c],_=>h a b c
def rH (h:∀ a b c d,P [a,b,c,d]) (us:List α) (hl:us.length=4):P us:=match us,hl with | [a,b,c,d],_=>h a b c d
def mK (h:∀ a b c d e,P [a,b,c,d,e]) (us:List α) (hl:us.length=5):P us:=match us,hl with | [a,b,c,d,e],_=>h a b c d e
def ar6 (h:∀ a b c d e f,P [a,b,c,d,e,f]) (us:List α) (hl:us.length=6):P us:=match us,hl with | [a,b,c,d,e,f],_=>h a b c d e f
def ar7 (h:∀ a b c d e f g,P [a,b,c,d,e,f,g]) (us:List α) (hl:us.length=7):P us:=match us,hl with | [a,b,c,d,e,f,g],_=>h a b c d e f g
def ar8 (h:∀ a b c d e f g i,P [a,b,c,d,e,f,g,i]) (us:List α) (hl:us.length=8):P us:=match us,hl with | [a,b,c,d,e,f,g,i],_=>h a b c d e f g i
end
end L5
namespace L5
open PySem PySem.Spec L2 L3
open PyProof.Rows hiding St
section
variable {P:Program}{w:World}{K:Aa}{mg:Str->Option Value}{base h:Heap}{x:Str}{st:Stmt}
def Fx (K:Aa) (x:Str) (st:Stmt):Prop:=∃ (f:Addr) (oc:Value) (od:Option Addr) (kV dc pm:Value) (an:Option Addr) (cd ct:Value) (sl:Array (Option Value)),
 PySem.W.nsIn K mainGlobals x=some (some (.ref f))/\K.lookup f=some ⟨oc,od,.func (PySem.W.fnOf x x (vj st) (xo st) (zB st) .none kV dc pm an cd ct),sl⟩/\PySem.W.codeIn K cd x=true/\PySem.W.keepIn K (.ref f)=true
def Fx.i {f:Addr}{oc:Value}{od:Option Addr}{kV dc pm:Value}{an:Option Addr}{cd ct:Value}{sl:Array (Option Value)}(a:PySem.W.nsIn K mainGlobals x=some (some (.ref f))) (l:K.lookup f=some ⟨oc,od,.func (PySem.W.fnOf x x (vj st) (xo st) (zB st) .none kV dc pm an cd ct),sl⟩) (c:PySem.W.codeIn K cd x=true) (k:PySem.W.keepIn K (.ref f)=true):Fx K x st:=⟨f,oc,od,kV,dc,pm,an,cd,ct,sl,a,l,c,k⟩
def Fy (K:Aa) (mg:Str->Option Value) (x:Str) (st:Stmt):Prop:=∃ (f:Addr) (fd:FuncData),wI K x x st f fd/\mg x=some (.ref f)
def Fx.mk (H:Fx K x st) (X:K.In h) (G:h.Ns mainGlobals mg):Fy K mg x st:=by
 obtain⟨f,oc,od,kV,dc,pm,an,cd,ct,sl,a,l,c,k⟩:=H
 exact⟨f,_,jU l c k,PySem.W.mg_of X G a⟩
theorem Fx.law {fa:Addr}{p:Str}(H:Fx K "law" st) (X:K.In h) (G:h.Ns mainGlobals mg) (D1:mg "law"=some (.ref fa)) (hb:∀ (kV dc pm:Value) (an:Option Addr) (cd ct:Value) (s:Shared) (v:Value),BindsTo s (PySem.W.fnOf "law" "law" (vj st) (xo st) (zB st) .none kV dc pm an cd ct) ⟨[v],[]⟩ [(p,v)]):∃ fd:FuncData,wI K "law" "law" st fa fd/\∀ (s:Shared) (v:Value),BindsTo s fd ⟨[v],[]⟩ [(p,v)]:=by
 obtain⟨f,oc,od,kV,dc,pm,an,cd,ct,sl,a,l,c,k⟩:=H
 have e:=D1.symm.trans (PySem.W.mg_of X G a)
 cases e
 exact⟨_,jU l c k,hb kV dc pm an cd ct⟩
def y_ {R:Rk} [Lo R] {N ps:List Str}{k n:Nat}{g:Sm}(F:Fy K mg x st) (Sc:yd N ps (zB st)) (hn:n=ps.length)
  (hb:∀ (kV doc pm:Value) (an:Option Addr) (Ac ct:Value) (us:List Value),us.length=ps.length->bindArgs (PySem.W.fnOf x x (vj st) (xo st) (zB st) .none kV doc pm an Ac ct) ⟨us,[]⟩=pure (ps.zip us))
  (hbody:∀ (f:Addr) (Ac:Value) (A:Around) (outer:List Env) (s:Shared) (H:Hp) (E:XK),ye k (A.deeper (envOfC x (zB st) s.heap.objs.size f Ac))->
   ∃ t,ui (xX xv P w K mg base N x (zB st) f Ac A outer s H E).ve (xo st) t/\ym R g t):FD P w K mg base x (k+1) ps (zO R (ya N n g)):=by
 obtain⟨f,fd,F,hm⟩:=F
 exact SO F hm Sc hn hb (hbody f)
end
end L5
namespace PySem
section
variable {prog:Program}{w:World}{A:Around}{E:Value->Shared->Prop}{h:Heap}{g:Array GenState}{d:Drawn}{t:Nat}{os:OsState}
variable {nm q:Str}{C N:Addr}{bs bm bmB:List Value}{hdct:Bool}{sn:List Str}{sub:List Value}{ab:Bool}{col:Option Bool}{dd:Option Addr}{k0 k1 k2 k3 k5:Option Value}{B newId initId:String}
def Zb (F:ExcBaseFacts B newId initId bmB) (T:OwnTail h bmB bm) {mN:Str->Option Value}{rest:List Value}{fI:Addr}{oI:Obj}{Q:Fin->Shared->Prop}
  (hC:h.get? C=some (excClassObj nm q C N bs bm hdct sn sub ab col dd k0 k1 k2 k3 k5 newId)) (hn:h.Ns N mN) (hi:mN "__init__"=some (.ref fI))
  (hfI:h.get? fI=some oI) (CU:oI.cls=.type "function")
  (hq:∀ h' e,h.objs.size<=e->Heap.MadeExcOf h h' e (.ref C) rest->
   wpAny (model prog w) A (call (.ref fI) (.ref e::rest)) (λ r s'=>r=.none/\Q (.done (.ret (.ref e))) s') E ⟨h',g,d,t,os⟩) (hrest:rest.length<=sizeLine):
  wpAny (model prog w) A (Builtin.«type.__call__» ⟨.ref C::rest,[]⟩) Q E ⟨h,g,d,t,os⟩:=by
 repeat (first | with_reducible refine za2 hC ?_ | with_reducible refine wpAny_madeBy_exc hC ?_ | wp_step)
 refine codeAny_call_builtin_code (Code.quiet_builtin _ F.quiet) (wpAny_check_new_subT F T hC ?_)
 refine codeAny_exc_new_subT F T hC ?_ hrest
 show wpAny _ _ _ _ _ _
 have up:∀ b o,h.get? b=some o->((h.push { cls:=.type "tuple",data:=.seq rest.toArray }).push { cls:=.ref C,data:=.fields #[.ref h.objs.size,.none,.none,.none,.bool false,.none] }).get? b=some o:=λ b o e=>za1 _ (za1 _ e)
 have hC₁:=up _ _ hC
 have hfI₁:=up _ _ hfI
 have CS:((h.push { cls:=.type "tuple",data:=.seq rest.toArray }).push
   { cls:=.ref C,data:=.fields #[.ref h.objs.size,.none,.none,.none,.bool false,.none] }).get? (h.objs.size+1)=some
   { cls:=.ref C,data:=.fields #[.ref h.objs.size,.none,.none,.none,.bool false,.none] }:=by heap_get
 have hcC:(Value.ref C::bm).contains (.ref C)=true:=by simp
 unfold isInstance
 repeat (first | with_reducible refine za2 CS ?_ | (with_reducible refine zaD hC₁ ?_;rw[hcC]) | wp_step)
 show wpAny _ _ (typeLookup (.ref C) _) _ _ _
 refine wpAny_typeLookup_tail hC₁ (hn.keeps up) (T.keeps up) F.mroIs F.init.lookup ?_
 rw[hi]
 refine za5 (za0 ?_)
 unfold bindSpecial
 refine za0 (zaG (T:="function") ⟨_,hfI₁,CU⟩ ?_)
 rw[if_pos (by decide)]
 refine Ab (za0 (za3 (hq _ (h.objs.size+1) (Nat.le_succ _) ⟨up,zaQ (Nat.le_succ _),h.objs.size,CS,zaQ (Ad _),?_⟩) (λ r s' hr=>?_) λ _ _ x=>x))
 ·exact za1 _ (Heap.get?_push_at rfl rfl)
 ·obtain⟨rfl,hQ⟩:=hr
  wp_walk
  exact hQ
def Zn (F:ExcBaseFacts B newId initId bmB) (T:OwnTail h bmB bm) {mN:Str->Option Value}{rest:List Value}{fI:Addr}{oI:Obj}{Q:Value->Shared->Prop}
  (hC:h.get? C=some (excClassObj nm q C N bs bm hdct sn sub ab col dd k0 k1 k2 k3 k5 newId)) (hn:h.Ns N mN) (hi:mN "__init__"=some (.ref fI))
  (hfI:h.get? fI=some oI) (CU:oI.cls=.type "function")
  (hq:∀ h' e,h.objs.size<=e->Heap.MadeExcOf h h' e (.ref C) rest->
   wpAny (model prog w) (A.under (.builtin "type.__call__" ⟨.ref C::rest,[]⟩)) (call (.ref fI) (.ref e::rest)) (λ r s'=>r=.none/\Q (.ref e) s') E ⟨h',g,d,t,os⟩) (hrest:rest.length<=sizeLine):
  wpAny (model prog w) A (call (.ref C) rest) Q E ⟨h,g,d,t,os⟩:=by
 have f1:=tc_lookup
 have f2:=tc_bind (.ref C)
 have hT:(⟨h,g,d,t,os⟩:Shared).TypeIs (.ref C) "type":=⟨_,hC,rfl⟩
 refine wpAny_call (codeAny_of_tree ?_)
 show wpAny _ _ (callAny (.ref C) _) _ _ _
 repeat (any_goals (first | assumption | with_reducible refine za2 hC ?_ | wp_step))
 refine⟨rfl,?_⟩
 exact codeAny_call_builtin_at (Code.quiet_builtin _ (by decide +kernel)) entry_typeCall (wpAny_check_type_call_sub hC (Zb F T hC hn hi hfI CU (λ h' e hl hm=>hq h' e hl hm) hrest))
def Ze {M:Model}{env:Env}{s:Shared}{x:Sem Value}{Q:Flow->Shared->Prop}(hbase:bm.contains (.type "BaseException")=true) (hh:A.handled=none)
  (hx:wpAny M A x (λ v s₁=>∃ e yo vs sl,v=.ref e/\s₁.heap.get? C=some (excClassObj nm q C N bs bm hdct sn sub ab col dd k0 k1 k2 k3 k5 newId)/\
   s₁.heap.get? e=some { cls:=.ref C,dict:=yo,data:=.fields #[.ref vs,.none,.none,.none,.bool false,.none],slots:=sl }/\E (.ref e) s₁) E s):
  wpAny M A (raiseStmt env (some x) none) Q E s:=by
 have hcB:(Value.ref C::bm).contains (.type "BaseException")=true:=by rw[A4,hbase,Ca]
 unfold raiseStmt
 refine za0 (za3 hx (λ v s₁ h₁=>?_) λ _ _ x=>x)
 obtain⟨e,yo,vs,sl,rfl,hC,he,hE⟩:=h₁
 obtain⟨hp,g,d,tk,os⟩:=s₁
 repeat (first | with_reducible refine za2 he ?_ | with_reducible refine za2 hC ?_ | (with_reducible refine zaD hC ?_;rw[hcB]) | wp_step)
 exact wpAny_raiseNew_none hh hE
end
end PySem
namespace PySem
open Builtin Builtin.ObjectAttr
section
variable {prog:Program}{w:World}{M:Model}{A:Around}{E:Value->Shared->Prop}{h:Heap}{g:Array GenState}{d:Drawn}{t:Nat}{os:OsState}
variable {nm q:Str}{C N P x:Addr}{bs bmB:List Value}{hdct:Bool}{sn:List Str}{sub:List Value}{ab:Bool}{col:Option Bool}{dd:Option Addr}{k0 k1 k2 k3 k5:Option Value}{B newId:String}
 {mN mP:Str->Option Value}{name:Str}{v:Value}
structure t7 (h:Heap) (P:Addr) (mP:Str->Option Value):Prop where
 ex:∃ (c0:Value) (dd:Option Addr) (cd:ClassData) (sl:Array (Option Value)),h.get? P=some { cls:=c0,dict:=dd,data:=.cls cd,slots:=sl }/\h.Ns cd.ns mP
def tH {n:Str}{y:Option Value}{Q:Option Value->Shared->Prop}
  (hC:h.get? C=some (excClassObj nm q C N bs (.ref P::bmB) hdct sn sub ab col dd k0 k1 k2 k3 k5 newId)) (hn:h.Ns N mN) (hP:t7 h P mP) (hbm:mroOf (.type B)=pure bmB) (hB:typeLookup (.type B) n=pure y)
  (h1:mN n=none) (h2:mP n=none) (hq:Q y ⟨h,g,d,t,os⟩):wpAny M A (typeLookup (.ref C) n) Q E ⟨h,g,d,t,os⟩:=by
 obtain⟨c0,pd,cd,sl,hA,hN⟩:=hP.ex
 have hrest:lookupAlong bmB n=pure y:=by rw[typeLookup_eq,hbm] at hB;exact hB
 rw[typeLookup_eq]
 refine za0 (wpAny_mroOf_exc hC ?_)
 rw[lookupAlong_cons]
 refine za0 (wpAny_classOwn_exc hC hn ?_)
 rw[h1]
 show wpAny M A (lookupAlong (.ref P::bmB) n) Q E _
 rw[lookupAlong_cons]
 refine za0 (wpAny_classOwn_cls hA hN ?_)
 rw[h2]
 show wpAny M A (lookupAlong bmB n) Q E _
 rw[hrest]
 exact Ab hq
def Zm {o:Obj}{nameV:Value}{Q:Unit->Shared->Prop}{sa owner:String}(SF:StoreFacts B bmB sa owner)
  (hC:h.get? C=some (excClassObj nm q C N bs (.ref P::bmB) true sn sub ab col dd k0 k1 k2 k3 k5 newId)) (hx:h.get? x=some o) (hc:o.cls=.ref C) (hq:Q () ⟨h,g,d,t,os⟩):
  wpAny M A (checkBuiltinCall sa ⟨[.ref x,nameV,v],[]⟩) Q E ⟨h,g,d,t,os⟩:=by
 have hcB:(Value.ref C::.ref P::bmB).contains (.type owner)=true:=by rw[A4,A4,SF.hasOwner,Ca,Ca]
 have ha:=SF.args (.ref x) nameV v
 simp only[checkBuiltinCall,SF.kind,SF.split]
 refine za0 ?_
 unfold isInstance
 repeat (first | (with_reducible refine za2 hx ?_;rw[hc]) | (with_reducible refine zaD hC ?_;rw[hcB]) | wp_step)
 cases DJ:Manifest.signature? sa with
 | none=>exact Ab hq
 | some sig=>
  simp only[argsOk,DJ] at ha
  have h2:Bind.checkArgs sa sig ⟨[.ref x,nameV,v],[]⟩=pure ():=ha
  show wpAny M A (Bind.checkArgs sa sig ⟨[.ref x,nameV,v],[]⟩) Q E _
  rw[h2];exact Ab hq
def Zc {tk:Tok}{Q:Fin->Shared->Prop}{sa owner:String}{o:Obj}(SF:StoreFacts B bmB sa owner)
  (hC:h.get? C=some (excClassObj nm q C N bs (.ref P::bmB) true sn sub ab col dd k0 k1 k2 k3 k5 newId)) (hn:h.Ns N mN) (hP:t7 h P mP) (Bj:mN name=none) (Bi:mP name=none)
  (hB:typeLookup (.type B) name=pure none) (hx:h.get? x=some o) (hc:o.cls=.ref C) (D3:o.dict=none) (Bx:∀ c,o.data≠.cls c)
  (hq:∀ h' tk',h'.get? x=some { o with dict:=some h.objs.size }->h'.Ns1 h.objs.size (λ y=>if y=name then some v else none)->
   (∀ b o,b≠x->h.get? b=some o->h'.get? b=some o)->Q (.done (.ret .none)) ⟨h',g,d,tk',os⟩):
  wpAny (model prog w) A (Builtin.«object.__setattr__» ⟨[.ref x,.str name tk,v],[]⟩) Q E ⟨h,g,d,t,os⟩:=by
 have hpass:=SF.passes (.ref x)
 unfold Builtin.«object.__setattr__»
 repeat (first | rw[refuse_eq] | (rw[refuseLoop_ref,refuseLoop_ref,hpass]) | (with_reducible refine za2 hx ?_;rw[hc]) | with_reducible refine wpAny_mroOf_exc hC ?_ | (with_reducible refine tH hC hn hP SF.mro hB Bj Bi ?_) | wp_step)
 rw[D3,if_neg (by simp[typeHasDict])]
 split
 ·rename_i AR
  cases AR
 split
 ·rename_i c AR
  exact absurd AR (Bx c)
 ·have hx₁:(h.push { cls:=.type "dict",data:=.dict #[] }).get? x=some o:=za1 _ hx
  have hxs:x≠h.objs.size:=Al (Ai hx)
  refine za0 (wpAny_alloc' ?_)
  refine za0 (wpAny_update' hx₁ ?_)
  refine Ab ?_
  have hgd:((h.push { cls:=.type "dict",data:=.dict #[] }).update x λ o=>{ cls:=o.cls,dict:=some h.objs.size,data:=o.data,slots:=o.slots }).get? h.objs.size
    = some { cls:=.type "dict",data:=.dict #[] }:=
   (Heap.get?_update_ne _ _ _ _ hxs.symm).trans (Heap.get?_push_at rfl rfl)
  have Bs:((h.push { cls:=.type "dict",data:=.dict #[] }).update x λ o=>{ cls:=o.cls,dict:=some h.objs.size,data:=o.data,slots:=o.slots }).Ns h.objs.size (λ _=>none):=
   ⟨_,#[],_,hgd,rfl,λ e he=>absurd he (by simp),λ _=>rfl⟩
  show wpAny _ _ (storeInDict h.objs.size (.str name tk) name v) _ _ _
  unfold storeInDict newKeyGuard
  refine za0 (Ab (za0 (wpAny_nsSet1 (Heap.Ns1.of_empty Bs) λ h' hn' hs=>?_)))
  obtain⟨oD,esD,epD,hoD,hdD,hcD⟩:=hn'.count (Within.cons name v Within.nil)
  refine za0 (wpAny_lookBehind hoD (by rw[hdD];exact pastItsLine_dict (Bo hcD (by rw[A0,CB,sizeLine_eq];lia))) ?_)
  wp_walk
  refine hq h' _ ?_ hn' λ b ob hbx hb=>?_
  ·refine (hs.2 x hxs).trans (za6 _ hx₁ ?_)
   have AI:=(Heap.get?_some_iff.mp hx).2
   obtain⟨oc,od,odt,osl⟩:=o
   cases odt <;> first | rfl | exact AI
  ·exact (hs.2 b (Al (Ai hb))).trans ((Heap.get?_update_ne _ _ _ _ hbx).trans (za1 _ hb))
def Zd {Q:Unit->Shared->Prop}{sa owner:String}{o:Obj}(SF:StoreFacts B bmB sa owner)
  (hC:h.get? C=some (excClassObj nm q C N bs (.ref P::bmB) true sn sub ab col dd k0 k1 k2 k3 k5 newId)) (hn:h.Ns N mN) (hP:t7 h P mP) (Bf:mN "__setattr__"=none) (hps:mP "__setattr__"=none) (Bj:mN name=none) (Bi:mP name=none)
  (hB:typeLookup (.type B) name=pure none) (hx:h.get? x=some o) (hc:o.cls=.ref C) (D3:o.dict=none) (Bx:∀ c,o.data≠.cls c)
  (hq:∀ h' tk',h'.get? x=some { o with dict:=some h.objs.size }->h'.Ns1 h.objs.size (λ y=>if y=name then some v else none)->
   (∀ b o,b≠x->h.get? b=some o->h'.get? b=some o)->Q () ⟨h',g,d,tk',os⟩):
  wpAny (model prog w) A (setAttr (.ref x) name v) Q E ⟨h,g,d,t,os⟩:=by
 have f3:=SF.slot.bind (.ref x)
 unfold setAttr callSpecial? specialOf
 repeat (any_goals (first | assumption | (with_reducible refine za2 hx ?_;rw[hc]) | (with_reducible refine tH hC hn hP SF.mro SF.slot.lookup Bf hps ?_) | wp_step))
 refine codeAny_call_builtin SF.slot.plain SF.entry (Zm SF hC hx hc (Zc SF hC hn hP Bj Bi hB hx hc D3 Bx λ h' tk' h1 h2 h3=>?_))
 repeat (any_goals (first | assumption | wp_step))
 exact hq h' tk' h1 h2 h3
end
section
variable {prog:Program}{w:World}{M:Model}{A:Around}{E:Value->Shared->Prop}{h:Heap}{g:Array GenState}{d:Drawn}{t:Nat}{os:OsState}
variable {nm q:Str}{C N P x dx:Addr}{bs bmB:List Value}{sn:List Str}{sub:List Value}{ab:Bool}{col:Option Bool}{dd:Option Addr}{k0 k1 k2 k3 k5:Option Value}{B newId:String}
 {mN mP mA:Str->Option Value}{name:Str}{v:Value}{o:Obj}
def gy {nameV:Value}{Q:Unit->Shared->Prop}(hb:bmB.contains (.type "BaseException")=true) (hC:h.get? C=some (excClassObj nm q C N bs (.ref P::bmB) true sn sub ab col dd k0 k1 k2 k3 k5 newId))
  (hx:h.get? x=some o) (hc:o.cls=.ref C) (hq:Q () ⟨h,g,d,t,os⟩):wpAny M A (checkBuiltinCall "BaseException.__getattribute__" ⟨[.ref x,nameV],[]⟩) Q E ⟨h,g,d,t,os⟩:=by
 have hk:builtinKind "BaseException.__getattribute__"=some .slot:=by decide +kernel
 have hsplit:splitId "BaseException.__getattribute__"=some ("BaseException","__getattribute__"):=by decide +kernel
 have hcB:(Value.ref C::.ref P::bmB).contains (.type "BaseException")=true:=by rw[A4,A4,hb];rfl
 have ha:=F.args_bexc_ga (.ref x) nameV
 simp only[checkBuiltinCall,hk,hsplit]
 refine za0 ?_
 unfold isInstance
 repeat (first | (with_reducible refine za2 hx ?_;rw[hc]) | (with_reducible refine zaD hC ?_;rw[hcB]) | wp_step)
 exact hq
def Zf {tk:Tok}{Q:Fin->Shared->Prop}
  (hC:h.get? C=some (excClassObj nm q C N bs (.ref P::bmB) true sn sub ab col dd k0 k1 k2 k3 k5 newId)) (hn:h.Ns N mN) (hP:t7 h P mP) (hm:mroOf (.type B)=pure bmB) (Bj:mN name=none) (Bi:mP name=none)
  (hB:typeLookup (.type B) name=pure none) (hx:h.get? x=some o) (hc:o.cls=.ref C) (Bx:∀ c,o.data≠.cls c) (Cp:o.dict=some dx) (Bf:h.Ns1 dx mA) (hv:mA name=some v) (hq:Q (.done (.ret v)) ⟨h,g,d,t,os⟩):
  wpAny (model prog w) A (Builtin.«object.__getattribute__» ⟨[.ref x,.str name tk],[]⟩) Q E ⟨h,g,d,t,os⟩:=by
 unfold Builtin.«object.__getattribute__»
 repeat (first | (with_reducible refine za2 hx ?_;rw[hc]) | (with_reducible refine tH hC hn hP hm hB Bj Bi ?_) | wp_step)
 split
 ·rename_i c AR
  exact absurd AR (Bx c)
 unfold instanceDict
 repeat (first | (with_reducible refine za2 hx ?_;rw[hc]) | with_reducible refine za2 hC ?_ | wp_step)
 rw[Cp]
 repeat (first | (with_reducible refine wpAny_nsGet Bf.ns ?_;rw[hv]) | wp_step)
 exact hq
def Zi {expr:Bool}{Q:Value->Shared->Prop}(FB:ExcAttrBase B bmB)
  (hC:h.get? C=some (excClassObj nm q C N bs (.ref P::bmB) true sn sub ab col dd k0 k1 k2 k3 k5 newId)) (hn:h.Ns N mN) (hP:t7 h P mP) (hq1:mN "__getattribute__"=none) (hq2:mP "__getattribute__"=none) (hq3:mN "__getattr__"=none) (hq4:mP "__getattr__"=none) (Bj:mN name=none) (Bi:mP name=none)
  (hB:typeLookup (.type B) name=pure none) (hx:h.get? x=some o) (hc:o.cls=.ref C) (Bx:∀ c,o.data≠.cls c) (Cp:o.dict=some dx) (Bf:h.Ns1 dx mA) (hv:mA name=some v) (hh:handedOut v=pure v) (hq:Q v ⟨h,g,d,t+1,os⟩):
  wpAny (model prog w) A (getAttr (.ref x) name expr) Q E ⟨h,g,d,t,os⟩:=by
 have f3:=FB.ga.bind (.ref x)
 have hx0:(expr&&onTheHeap (Value.builtin "BaseException.__getattribute__"))=false:=by cases expr <;> rfl
 have hx2:(Value.builtin "BaseException.__getattribute__" == Value.builtin "object.__getattribute__")=false:=by decide +kernel
 have hx1:(onTheHeap (Value.ref C)&&Value.builtin "BaseException.__getattribute__" == Value.builtin "object.__getattribute__")=false:=by rw[hx2];rfl
 unfold getAttr getAttrBy
 repeat (any_goals (first | assumption | (with_reducible refine za2 hx ?_;rw[hc]) | with_reducible refine tH hC hn hP FB.mro FB.ga.lookup hq1 hq2 ?_ | with_reducible refine tH hC hn hP FB.mro FB.noGetattr hq3 hq4 ?_ | wp_step))
 refine codeAny_call_builtin FB.ga.plain F.entry_bexc_ga (gy FB.hasBase hC hx hc (Zf hC hn hP FB.mro Bj Bi hB hx hc Bx Cp Bf hv ?_))
 repeat (any_goals (first | assumption | (rw[hh];exact Ab hq) | wp_step))
end
section
variable {prog:Program}{w:World}{A:Around}{E:Value->Shared->Prop}{h:Heap}{g:Array GenState}{d:Drawn}{t:Nat}{os:OsState}
variable {nm q:Str}{C N P x:Addr}{bs bmB:List Value}{sn:List Str}{sub:List Value}{ab:Bool}{col:Option Bool}{dd:Option Addr}{k0 k1 k2 k3 k5:Option Value}{B newId:String}
 {mN mP:Str->Option Value}{o:Obj}
def Zj {R:Result->Shared->Prop}(hb:bmB.contains (.type "object")=true) (hC:h.get? C=some (excClassObj nm q C N bs (.ref P::bmB) true sn sub ab col dd k0 k1 k2 k3 k5 newId))
  (hx:h.get? x=some o) (hc:o.cls=.ref C) (hq:R (.ok (.ret (.ref C))) ⟨h,g,d,t,os⟩):
  codeAny (model prog w) A (.call (.builtin "getset_descriptor.__get__") ⟨[.builtin "object.__class__",.ref x,.ref C],[]⟩) R ⟨h,g,d,t,os⟩:=by
 have hT5:(⟨h,g,d,t,os⟩:Shared).TypeIs (.builtin "object.__class__") "getset_descriptor":=F.typeOf_object_class
 have hcB:(Value.ref C::.ref P::bmB).contains (.type (".".intercalate ("object.__class__".cutAt '.').dropLast))=true:=by rw[F.owner_object_class,A4,A4,hb];rfl
 refine codeAny_call_builtin F.slot_gs_get.plain F.entry_gs_get (F.slot_gs_get.check _ _ _ _ _ _ _ _ hT5 (F.args_gs_get _ _ _) ?_)
 repeat (any_goals (first | assumption | (with_reducible refine za2 hx ?_;rw[hc]) | (with_reducible refine zaD hC ?_;rw[hcB]) | wp_step))
 refine⟨Code.quiet_builtin _ (by decide +kernel),codeAny_builtin F.entry_object_class ?_⟩
 repeat (any_goals (first | assumption | (with_reducible refine za2 hx ?_;rw[hc]) | wp_step))
def Zk {tk:Tok}{Q:Fin->Shared->Prop}(hb:bmB.contains (.type "object")=true) (hC:h.get? C=some (excClassObj nm q C N bs (.ref P::bmB) true sn sub ab col dd k0 k1 k2 k3 k5 newId)) (hn:h.Ns N mN) (hP:t7 h P mP) (hm:mroOf (.type B)=pure bmB)
  (hB:typeLookup (.type B) "__class__"=pure (some (.builtin "object.__class__"))) (Bj:mN "__class__"=none) (Bi:mP "__class__"=none)
  (hx:h.get? x=some o) (hc:o.cls=.ref C) (hq:Q (.done (.ret (.ref C))) ⟨h,g,d,t,os⟩):
  wpAny (model prog w) A (Builtin.«object.__getattribute__» ⟨[.ref x,.str "__class__" tk],[]⟩) Q E ⟨h,g,d,t,os⟩:=by
 have hT5:(⟨h,g,d,t,os⟩:Shared).TypeIs (.builtin "object.__class__") "getset_descriptor":=F.typeOf_object_class
 have f5:=F.typeOf_object_class
 have f6:=F.slot_gs_get.lookup
 have f7:=F.slot_gs_set.lookup
 repeat (any_goals (first | assumption | (with_reducible refine za2 hx ?_;rw[hc]) | (with_reducible refine tH hC hn hP hm hB Bj Bi ?_) | wp_step))
 refine Zj hb hC hx hc ?_
 repeat (any_goals (first | assumption | wp_step))
def Zl {tk:Tok}{Q:Value->Shared->Prop}(FB:ExcAttrBase B bmB) (hb:bmB.contains (.type "object")=true) (hC:h.get? C=some (excClassObj nm q C N bs (.ref P::bmB) true sn sub ab col dd k0 k1 k2 k3 k5 newId)) (hn:h.Ns N mN) (hP:t7 h P mP)
  (hB:typeLookup (.type B) "__class__"=pure (some (.builtin "object.__class__"))) (hq1:mN "__getattribute__"=none) (hq2:mP "__getattribute__"=none) (hq3:mN "__getattr__"=none) (hq4:mP "__getattr__"=none) (Bj:mN "__class__"=none) (Bi:mP "__class__"=none)
  (hx:h.get? x=some o) (hc:o.cls=.ref C) (hq:Q (.ref C) ⟨h,g,d,t,os⟩):wpAny (model prog w) A (getAttrBy (.ref x) (.str "__class__" tk) false) Q E ⟨h,g,d,t,os⟩:=by
 have f3:=FB.ga.bind (.ref x)
 have hx2:(Value.builtin "BaseException.__getattribute__" == Value.builtin "object.__getattribute__")=false:=by decide +kernel
 have hx1:(onTheHeap (Value.ref C)&&Value.builtin "BaseException.__getattribute__" == Value.builtin "object.__getattribute__")=false:=by rw[hx2];rfl
 repeat (any_goals (first | assumption | (with_reducible refine za2 hx ?_;rw[hc]) | with_reducible refine tH hC hn hP FB.mro FB.ga.lookup hq1 hq2 ?_ | with_reducible refine tH hC hn hP FB.mro FB.noGetattr hq3 hq4 ?_ | wp_step))
 refine codeAny_call_builtin FB.ga.plain F.entry_bexc_ga (gy FB.hasBase hC hx hc (Zk hb hC hn hP FB.mro hB Bj Bi hx hc ?_))
 repeat (any_goals (first | assumption | wp_step))
def gx {Q:Option Value->Shared->Prop}(FB:ExcAttrBase B bmB) (hb:bmB.contains (.type "object")=true) (hC:h.get? C=some (excClassObj nm q C N bs (.ref P::bmB) true sn sub ab col dd k0 k1 k2 k3 k5 newId)) (hn:h.Ns N mN) (hP:t7 h P mP)
  (hB:typeLookup (.type B) "__class__"=pure (some (.builtin "object.__class__"))) (hq1:mN "__getattribute__"=none) (hq2:mP "__getattribute__"=none) (hq3:mN "__getattr__"=none) (hq4:mP "__getattr__"=none) (Bj:mN "__class__"=none) (Bi:mP "__class__"=none)
  (hx:h.get? x=some o) (hc:o.cls=.ref C) (hq:Q (some (.ref C)) ⟨h,g,d,t+1,os⟩):wpAny (model prog w) A (getAttr? (.ref x) "__class__") Q E ⟨h,g,d,t,os⟩:=by
 unfold getAttr? getAttrBy?
 repeat (any_goals (first | assumption | with_reducible apply Zl FB hb hC hn hP hB hq1 hq2 hq3 hq4 Bj Bi hx hc | wp_step))
end
section
variable {prog:Program}{w:World}{A:Around}{E:Value->Shared->Prop}{h:Heap}{g:Array GenState}{d:Drawn}{t:Nat}{os:OsState}
variable {nm q:Str}{C N P x D:Addr}{bs bmB:List Value}{sn:List Str}{sub:List Value}{ab:Bool}{col:Option Bool}{dd:Option Addr}{k0 k1 k2 k3 k5:Option Value}{B newId:String}
 {mN mP:Str->Option Value}{o:Obj}
structure iG (h:Heap) (C P:Addr) (B:String) (bmB:List Value):Prop where
 FB:ExcAttrBase B bmB
 hb:bmB.contains (.type "object")=true
 hB:typeLookup (.type B) "__class__"=pure (some (.builtin "object.__class__"))
 ex:∃ (nm q:Str) (N:Addr) (bs:List Value) (sn:List Str) (sub:List Value) (ab:Bool) (col:Option Bool) (dd:Option Addr) (k0 k1 k2 k3 k5:Option Value) (newId:String) (mN mP:Str->Option Value),
  h.get? C=some (excClassObj nm q C N bs (.ref P::bmB) true sn sub ab col dd k0 k1 k2 k3 k5 newId)/\h.Ns N mN/\t7 h P mP/\
  ∀ n∈(["__getattribute__","__getattr__","__class__"]:List Str),mN n=none/\mP n=none
def Zh {tk:Tok}{dep:Int}{Q:Fin->Shared->Prop}{oD:Obj}{cD:ClassData}(X:iG h C P B bmB) (hx:h.get? x=some o) (hc:o.cls=.ref C) (hD:h.get? D=some oD) (hDc:oD.cls=.type "type") (hDd:oD.data=.cls cD)
  (hq:∀ t',Q (.done (.ret (.bool ((Value.ref C::.ref P::bmB).contains (.ref D))))) ⟨h,g,d,t',os⟩):
  wpAny (model prog w) A (Builtin.«isinstance.nested» ⟨[.ref x,.ref D,.int dep tk],[]⟩) Q E ⟨h,g,d,t,os⟩:=by
 obtain⟨FB,hb,hB,nm,q,N,bs,sn,sub,ab,col,dd,k0,k1,k2,k3,k5,newId,mN,mP,hC,hn,hP,hm⟩:=X
 have m1:=hm "__getattribute__" (.head _)
 have m2:=hm "__getattr__" (.tail _ (.head _))
 have m3:=hm "__class__" (.tail _ (.tail _ (.head _)))
 by_cases he:C=D
 ·subst he
  have Bg:(Value.ref C::.ref P::bmB).contains (.ref C)=true:=by simp
  rw[Bg] at hq
  have hee:(Value.ref C == Value.ref C)=true:=by simp
  repeat (any_goals (first | assumption | (with_reducible refine za2 hx ?_;rw[hc]) | wp_step))
  exact hq _
 ·have hee:(Value.ref C == Value.ref D)=false:=by simpa using he
  cases Bg:(Value.ref C::.ref P::bmB).contains (.ref D) with
  | true=>
   rw[Bg] at hq
   repeat (any_goals (first | assumption | (with_reducible refine za2 hx ?_;rw[hc]) | (with_reducible refine za2 hD ?_;rw[hDc]) | (with_reducible refine za2 hD ?_;rw[hDd]) | (with_reducible refine zaD hC ?_;rw[Bg]) | wp_step))
   exact hq _
  | false=>
   rw[Bg] at hq
   repeat (any_goals (first | assumption | (with_reducible refine za2 hx ?_;rw[hc]) | (with_reducible refine za2 hD ?_;rw[hDc]) | (with_reducible refine za2 hD ?_;rw[hDd]) | (with_reducible refine zaD hC ?_;rw[Bg]) | with_reducible apply gx FB hb hC hn hP hB m1.1 m1.2 m2.1 m2.2 m3.1 m3.2 hx hc | with_reducible refine za2 hC ?_ | wp_step))
   exact hq _
def Zg {tk:Tok}{dep:Int}{Q:Fin->Shared->Prop}{T:String}(X:iG h C P B bmB) (hx:h.get? x=some o) (hc:o.cls=.ref C) (hty:typeOf (.type T)=pure (.type "type"))
  (hq:∀ t',Q (.done (.ret (.bool (bmB.contains (.type T))))) ⟨h,g,d,t',os⟩):
  wpAny (model prog w) A (Builtin.«isinstance.nested» ⟨[.ref x,.type T,.int dep tk],[]⟩) Q E ⟨h,g,d,t,os⟩:=by
 obtain⟨FB,hb,hB,nm,q,N,bs,sn,sub,ab,col,dd,k0,k1,k2,k3,k5,newId,mN,mP,hC,hn,hP,hm⟩:=X
 have m1:=hm "__getattribute__" (.head _)
 have m2:=hm "__getattr__" (.tail _ (.head _))
 have m3:=hm "__class__" (.tail _ (.tail _ (.head _)))
 have hee:(Value.ref C == Value.type T)=false:=rfl
 have Bg:(Value.ref C::.ref P::bmB).contains (.type T)=bmB.contains (.type T):=by rw[A4,A4];rfl
 cases hct:bmB.contains (.type T) with
 | true=>
  rw[hct] at hq Bg
  repeat (any_goals (first | assumption | (with_reducible refine za2 hx ?_;rw[hc]) | (with_reducible refine zaD hC ?_;rw[Bg]) | wp_step))
  exact hq _
 | false=>
  rw[hct] at hq Bg
  repeat (any_goals (first | assumption | (with_reducible refine za2 hx ?_;rw[hc]) | (with_reducible refine zaD hC ?_;rw[Bg]) | with_reducible apply gx FB hb hC hn hP hB m1.1 m1.2 m2.1 m2.2 m3.1 m3.2 hx hc | with_reducible refine za2 hC ?_ | wp_step))
  exact hq _
def gw {c:Value}{b:Bool}{s:Shared}{Q:Value->Shared->Prop}(hn:∀ (prog:Program) (w:World) (A:Around) (Q:Fin->Shared->Prop) (E:Value->Shared->Prop),(∀ t',Q (.done (.ret (.bool b))) { s with toks:=t' })->wpAny (model prog w) A (Builtin.«isinstance.nested» ⟨[.ref x,c,rawInt 0],[]⟩) Q E s)
  (hq:∀ t',Q (.bool b) { s with toks:=t' }):wpAny (model prog w) A (call (.builtin "isinstance") [.ref x,c]) Q E s:=
 call_isinstance (S:=λ _ R s'=>s'=s/\∀ t',R (.ok (.ret (.bool b))) { s with toks:=t' }) (λ prog w A R s' hs=>by
  obtain⟨rfl,hs⟩:=hs
  refine isinstance_outer (hn prog w _ _ _ λ t'=>?_) (λ e=>by cases e)
  exact hs t') ⟨rfl,λ t'=>hq t'⟩
end
namespace Heap
def qU (h base:Heap) (e:Addr) (cls a0 fl:Value) (yo:Option Addr) (T:Addr):Prop:=
 ∃ oe vs oT ts,h.get? e=some oe/\((oe.cls=cls/\oe.dict=yo)/\vs[0]?=some a0)/\oe.data=.fields vs/\vs[1]?=some (.ref T)/\base.get? T=none/\T≠e/\h.get? T=some oT/\oT.data=.fields ts/\ts[3]?=some fl
structure m_ (base:Heap) (l:List Env) (e:Addr) (cls a0:Value) (yo:Option Addr) (h h':Heap):Prop where
 stays:base.StaysIn h'
 frames:h'.FunFrames base l
 tr:∃ T,h.objs.size<=T/\h'.qU base e cls a0 .none yo T
 slots:h.UpToSlots h'
 sT:∀ b o vs,h.get? b=some o->o.data=.fields vs->∃ o' vs',h'.get? b=some o'/\o'.data=.fields vs'
end Heap
def Obj.ba (f:Array Value->Array Value) (o:Obj):(Obj.mapFields f o).dict=o.dict:=by
 obtain⟨c,dc,dt,sl⟩:=o
 cases dt <;> rfl
section
variable {M:Model}{A:Around}{E:Value->Shared->Prop}{s:Shared}
def gs {base:Heap}{env:Env}{outer:List Env}{L e:Addr}{oe:Obj}{vs:Array Value}{head a0:Value}{hadNext:Bool}{Q:Unit->Shared->Prop}
  (AI:A.frames=some (env::outer)) (hl:s.heap.FunFrames base (env::outer)) (hf:env.frame=some L)
  (he:s.heap.get? e=some oe) (Bz:base.StaysIn s.heap) (BR:base.get? e=none) (hd:oe.data=.fields vs) (Ar:1<vs.size) (h0:vs[0]?=some a0)
  (h:∀ h',Heap.m_ base (env::outer) e oe.cls a0 oe.dict s.heap h'->Q () { s with heap:=h' }):
  wpAny M A (do let a <- frameOf env;let pl <- entryPlaceOf L hadNext;let b <- EntryCells.newEntry head a .none (rawInt L) .none pl;setField (.ref e) 1 b) (λ _ s'=>wpAny M A (setFlight (.ref e) none) Q E s') E s:=by
 have B_:e∉(env::outer).filterMap (·.frame):=λ hm=>by
  obtain⟨_,o,ho,Am⟩:=hl.mem hm
  rw[he] at ho;cases ho;exact Am vs hd
 refine za0 (wpAny_frameOf_fun AI hl hf λ h₁ hs₁=>za0 (wpAny_entryPlaceOf λ pl Ag=>?_))
 unfold EntryCells.newEntry newFields
 refine za0 (za8 ?_ (Ag.sizeOk5 _ _ _ _ _))
 have he₁:h₁.get? e=some oe:=(hs₁.2.1 e B_).trans he
 have kb₁:base.StaysIn h₁:=λ b o AD=>(hs₁.2.1 b λ hm=>by rw[(hl.mem hm).1] at AD;cases AD).trans (Bz b o AD)
 generalize CJ:({ cls:=.type "traceback",dict:=none,data:=.fields ([head,.ref L,.none,rawInt L,.none]++(if pl.isEmpty then List.replicate 6 Value.none else pl)).toArray }:Obj)=tb
 have tbd:tb.data=.fields ([head,.ref L,.none,rawInt L,.none]++(if pl.isEmpty then List.replicate 6 Value.none else pl)).toArray:=by rw[<- CJ]
 have tbf:tb.isFreed=false:=by rw[<- CJ];rfl
 have he₂:(h₁.push tb).get? e=some oe:=za1 _ he₁
 refine zaC he₂ hd Ar ?_
 have hTe:h₁.objs.size≠e:=Bu (Ai he₁)
 have hd₃:=Obj.data_mapFields hd (·.setIfInBounds 1 (Value.ref h₁.objs.size))
 have he₃:=za6 (Obj.mapFields (·.setIfInBounds 1 (Value.ref h₁.objs.size))) he₂ (Obj.isFreed_of_fields hd₃)
 have hT₃:=(za9 (h₁.push tb) (Obj.mapFields (·.setIfInBounds 1 (Value.ref h₁.objs.size))) (Ne.symm hTe)).trans (AH h₁ tbf)
 unfold setFlight
 refine za0 (za4 he₃ hd₃ (x:=.ref h₁.objs.size) (by simp[Ar]) ?_)
 rw[if_pos (show (Value.ref h₁.objs.size != Value.none)=true from by simp)]
 refine zaC hT₃ tbd (by simp only[Ao,CF,A0,CB] <;> lia) (h _ ?_)
 have keep:∀ b o,b≠e->h₁.get? b=some o->(((h₁.push tb).update e (Obj.mapFields (·.setIfInBounds 1 (Value.ref h₁.objs.size)))).update h₁.objs.size (Obj.mapFields (·.setIfInBounds 3 ((none:Option Addr).elim Value.none λ f=>rawInt f)))).get? b=some o:=λ b o BB hb=>by
  rw[za9 _ _ (Bu (Ai hb)),za9 _ _ (Ne.symm BB)]
  exact za1 _ hb
 have noRecord:∀ b o,s.heap.get? b=some o->(∀ vs,o.data≠.fields vs)->b≠e:=λ b o hb Am q=>by
  rw[q,he] at hb;cases hb;exact Am vs hd
 refine⟨λ b o AD=>keep b o (λ q=>by rw[q,BR] at AD;cases AD) (kb₁ b o AD),hl.of_keeps λ b o hb Am=>?_,?_,λ b o hb Am=>?_,λ b o us hb Bh=>?_⟩
 ·obtain⟨sl,hs⟩:=hs₁.2.2 b o hb
  exact⟨_,keep b _ (noRecord b o hb Am) hs,rfl⟩
 ·refine⟨h₁.objs.size,by rw[hs₁.1];exact Ad _,_,_,_,_,?_,⟨⟨Obj.cls_mapFields _ _,Obj.ba _ _⟩,by rw[zbZ (by decide)];exact h0⟩,hd₃,by simp[Ar],kb₁.fresh,hTe,za6 _ hT₃ (Obj.isFreed_of_fields (Obj.data_mapFields tbd _)),Obj.data_mapFields tbd _,by first | (simp;done) | (rcases Ag with rfl | ⟨_,_,_,_,_,_,_,rfl⟩ <;> simp)⟩
  rw[za9 _ _ hTe];exact he₃
 ·obtain⟨sl,hs⟩:=hs₁.2.2 b o hb
  exact⟨sl,keep b _ (noRecord b o hb Am) hs⟩
 ·by_cases q:b=e
  ·subst q
   exact⟨_,_,(by rw[za9 _ _ hTe];exact he₃),hd₃⟩
  ·have hb₁:h₁.get? b=some o:=(hs₁.2.1 b λ hm=>by
    obtain⟨_,o',ho',Am⟩:=hl.mem hm
    rw[hb] at ho';cases ho';exact Am us Bh).trans hb
   exact⟨o,us,keep b o q hb₁,Bh⟩
def a_ {base:Heap}{env:Env}{outer:List Env}{L e:Addr}{oe:Obj}{vs:Array Value}{a0:Value}{Q:Unit->Shared->Prop}
  (AI:A.frames=some (env::outer)) (hl:s.heap.FunFrames base (env::outer)) (hf:env.frame=some L)
  (he:s.heap.get? e=some oe) (Bz:base.StaysIn s.heap) (BR:base.get? e=none) (hd:oe.data=.fields vs) (h1:vs[1]?=some .none) (h0:vs[0]?=some a0)
  (h:∀ h',Heap.m_ base (env::outer) e oe.cls a0 oe.dict s.heap h'->Q () { s with heap:=h' }):wpAny M A (leaving env (.ref e)) Q E s:=by
 unfold leaving noteFrame
 simp only[hf]
 refine za0 (za0 (za4 he hd h1 ?_))
 rw[if_neg (by decide)]
 exact gs AI hl hf he Bz BR hd (Array.getElem?_eq_some_iff.mp h1).1 h0 h
def aX {base:Heap}{env:Env}{outer:List Env}{L e:Addr}{cls a0:Value}{yo:Option Addr}{T:Addr}{Q:Unit->Shared->Prop}
  (AI:A.frames=some (env::outer)) (hl:s.heap.FunFrames base (env::outer)) (hf:env.frame=some L) (ht:s.heap.qU base e cls a0 .none yo T) (Bz:base.StaysIn s.heap) (BR:base.get? e=none)
  (h:∀ h',Heap.m_ base (env::outer) e cls a0 yo s.heap h'->Q () { s with heap:=h' }):wpAny M A (leaving env (.ref e)) Q E s:=by
 obtain⟨oe,vs,oT,ts,he,⟨⟨rfl,rfl⟩,h0⟩,hd,h1,hnT,hTe,hT,hdT,h3⟩:=ht
 unfold leaving noteFrame
 simp only[hf]
 refine za0 (za0 (za4 he hd h1 ?_))
 rw[if_pos (show (Value.ref T != Value.none)=true from by simp)]
 refine za0 (za4 hT hdT h3 ?_)
 rw[if_neg (show ¬ ((Value.none == rawInt L)=true) from by simp[rawInt])]
 refine za0 (zaC hT hdT (Array.getElem?_eq_some_iff.mp h3).1 ?_)
 have other:∀ b,b≠T->(s.heap.update T (Obj.mapFields (·.setIfInBounds 3 Value.none))).get? b=s.heap.get? b:=λ b hb=>za9 _ _ (Ne.symm hb)
 have noRecord:∀ b o,s.heap.get? b=some o->(∀ vs,o.data≠.fields vs)->b≠T:=λ b o hb Am q=>by
  rw[q,hT] at hb;cases hb;exact Am ts hdT
 refine gs AI (hl.of_keeps λ b o hb Am=>⟨o,(other b (noRecord b o hb Am)).trans hb,rfl⟩) hf ((other e (Ne.symm hTe)).trans he)
  (λ b o AD=>(other b λ q=>by rw[q,hnT] at AD;cases AD).trans (Bz b o AD)) BR hd (Array.getElem?_eq_some_iff.mp h1).1 h0
  λ h' x=>h h' ⟨x.stays,x.frames,(by
   obtain⟨T',n,r⟩:=x.tr
   exact⟨T',by rw[Heap.size_after_update] at n;exact n,r⟩),λ b o hb Am=>x.slots b o ((other b (noRecord b o hb Am)).trans hb) Am,λ b o us hb Bh=>(by
   by_cases q:b=T
   ·subst q
    exact x.sT _ _ _ (za6 _ hT (Obj.isFreed_of_fields (Obj.data_mapFields hdT _))) (Obj.data_mapFields hdT _)
   ·exact x.sT b o us ((other b q).trans hb) Bh)⟩
end
structure Heap.ae (base:Heap) (l:List Env) (e:Addr) (cls a0 fl:Value) (yo:Option Addr) (h h':Heap):Prop where
 stays:base.StaysIn h'
 frames:h'.FunFrames base l
 tr:∃ T,h.objs.size<=T/\h'.qU base e cls a0 fl yo T
 slots:h.UpToSlots h'
 sT:∀ b o vs,h.get? b=some o->o.data=.fields vs->∃ o' vs',h'.get? b=some o'/\o'.data=.fields vs'
section
variable {M:Model}{A:Around}{E:Value->Shared->Prop}{s:Shared}
def Za {base:Heap}{env:Env}{outer:List Env}{L e:Addr}{oe:Obj}{vs:Array Value}{head a0:Value}{hadNext:Bool}{Q:Unit->Shared->Prop}
  (AI:A.frames=some (env::outer)) (hl:s.heap.FunFrames base (env::outer)) (hf:env.frame=some L)
  (he:s.heap.get? e=some oe) (Bz:base.StaysIn s.heap) (BR:base.get? e=none) (hd:oe.data=.fields vs) (Ar:1<vs.size) (h0:vs[0]?=some a0)
  (h:∀ h',Heap.ae base (env::outer) e oe.cls a0 (rawInt L) oe.dict s.heap h'->Q () { s with heap:=h' }):
  wpAny M A (do let a <- frameOf env;let pl <- entryPlaceOf L hadNext;let b <- EntryCells.newEntry head a .none (rawInt L) .none pl;setField (.ref e) 1 b) Q E s:=by
 have B_:e∉(env::outer).filterMap (·.frame):=λ hm=>by
  obtain⟨_,o,ho,Am⟩:=hl.mem hm
  rw[he] at ho;cases ho;exact Am vs hd
 refine za0 (wpAny_frameOf_fun AI hl hf λ h₁ hs₁=>za0 (wpAny_entryPlaceOf λ pl Ag=>?_))
 unfold EntryCells.newEntry newFields
 refine za0 (za8 ?_ (Ag.sizeOk5 _ _ _ _ _))
 have he₁:h₁.get? e=some oe:=(hs₁.2.1 e B_).trans he
 have kb₁:base.StaysIn h₁:=λ b o AD=>(hs₁.2.1 b λ hm=>by rw[(hl.mem hm).1] at AD;cases AD).trans (Bz b o AD)
 generalize CJ:({ cls:=.type "traceback",dict:=none,data:=.fields ([head,.ref L,.none,rawInt L,.none]++(if pl.isEmpty then List.replicate 6 Value.none else pl)).toArray }:Obj)=tb
 have tbd:tb.data=.fields ([head,.ref L,.none,rawInt L,.none]++(if pl.isEmpty then List.replicate 6 Value.none else pl)).toArray:=by rw[<- CJ]
 have tbf:tb.isFreed=false:=by rw[<- CJ];rfl
 have he₂:(h₁.push tb).get? e=some oe:=za1 _ he₁
 refine zaC he₂ hd Ar (h _ ?_)
 have hTe:h₁.objs.size≠e:=Bu (Ai he₁)
 have hd₃:=Obj.data_mapFields hd (·.setIfInBounds 1 (Value.ref h₁.objs.size))
 have he₃:=za6 (Obj.mapFields (·.setIfInBounds 1 (Value.ref h₁.objs.size))) he₂ (Obj.isFreed_of_fields hd₃)
 have hT₃:=(za9 (h₁.push tb) (Obj.mapFields (·.setIfInBounds 1 (Value.ref h₁.objs.size))) (Ne.symm hTe)).trans (AH h₁ tbf)
 have keep:∀ b o,b≠e->h₁.get? b=some o->((h₁.push tb).update e (Obj.mapFields (·.setIfInBounds 1 (Value.ref h₁.objs.size)))).get? b=some o:=λ b o BB hb=>by
  rw[za9 _ _ (Ne.symm BB)]
  exact za1 _ hb
 have noRecord:∀ b o,s.heap.get? b=some o->(∀ vs,o.data≠.fields vs)->b≠e:=λ b o hb Am q=>by
  rw[q,he] at hb;cases hb;exact Am vs hd
 refine⟨λ b o AD=>keep b o (λ q=>by rw[q,BR] at AD;cases AD) (kb₁ b o AD),hl.of_keeps λ b o hb Am=>?_,?_,λ b o hb Am=>?_,λ b o us hb Bh=>?_⟩
 ·obtain⟨sl,hs⟩:=hs₁.2.2 b o hb
  exact⟨_,keep b _ (noRecord b o hb Am) hs,rfl⟩
 ·exact⟨h₁.objs.size,by rw[hs₁.1];exact Ad _,_,_,_,_,he₃,⟨⟨Obj.cls_mapFields _ _,Obj.ba _ _⟩,by rw[zbZ (by decide)];exact h0⟩,hd₃,by simp[Ar],kb₁.fresh,hTe,hT₃,tbd,by simp⟩
 ·obtain⟨sl,hs⟩:=hs₁.2.2 b o hb
  exact⟨sl,keep b _ (noRecord b o hb Am) hs⟩
 ·by_cases q:b=e
  ·subst q
   exact⟨_,_,he₃,hd₃⟩
  ·have hb₁:h₁.get? b=some o:=(hs₁.2.1 b λ hm=>by
    obtain⟨_,o',ho',Am⟩:=hl.mem hm
    rw[hb] at ho';cases ho';exact Am us Bh).trans hb
   exact⟨o,us,keep b o q hb₁,Bh⟩
def aW {base:Heap}{env:Env}{outer:List Env}{L e:Addr}{cls a0:Value}{yo:Option Addr}{T:Addr}{Q:Unit->Shared->Prop}
  (AI:A.frames=some (env::outer)) (hl:s.heap.FunFrames base (env::outer)) (hf:env.frame=some L) (ht:s.heap.qU base e cls a0 .none yo T) (Bz:base.StaysIn s.heap) (BR:base.get? e=none)
  (h:∀ h',Heap.ae base (env::outer) e cls a0 (rawInt L) yo s.heap h'->Q () { s with heap:=h' }):wpAny M A (noteFrame (.ref e) env) Q E s:=by
 obtain⟨oe,vs,oT,ts,he,⟨⟨rfl,rfl⟩,h0⟩,hd,h1,hnT,hTe,hT,hdT,h3⟩:=ht
 unfold noteFrame
 simp only[hf]
 refine za0 (za4 he hd h1 ?_)
 rw[if_pos (show (Value.ref T != Value.none)=true from by simp)]
 refine za0 (za4 hT hdT h3 ?_)
 rw[if_neg (show ¬ ((Value.none == rawInt L)=true) from by simp[rawInt])]
 refine za0 (zaC hT hdT (Array.getElem?_eq_some_iff.mp h3).1 ?_)
 have other:∀ b,b≠T->(s.heap.update T (Obj.mapFields (·.setIfInBounds 3 Value.none))).get? b=s.heap.get? b:=λ b hb=>za9 _ _ (Ne.symm hb)
 have noRecord:∀ b o,s.heap.get? b=some o->(∀ vs,o.data≠.fields vs)->b≠T:=λ b o hb Am q=>by
  rw[q,hT] at hb;cases hb;exact Am ts hdT
 refine Za AI (hl.of_keeps λ b o hb Am=>⟨o,(other b (noRecord b o hb Am)).trans hb,rfl⟩) hf ((other e (Ne.symm hTe)).trans he)
  (λ b o AD=>(other b λ q=>by rw[q,hnT] at AD;cases AD).trans (Bz b o AD)) BR hd (Array.getElem?_eq_some_iff.mp h1).1 h0
  λ h' x=>h h' ⟨x.stays,x.frames,(by
   obtain⟨T',n,r⟩:=x.tr
   exact⟨T',by rw[Heap.size_after_update] at n;exact n,r⟩),λ b o hb Am=>x.slots b o ((other b (noRecord b o hb Am)).trans hb) Am,λ b o us hb Bh=>(by
   by_cases q:b=T
   ·subst q
    exact x.sT _ _ _ (za6 _ hT (Obj.isFreed_of_fields (Obj.data_mapFields hdT _))) (Obj.data_mapFields hdT _)
   ·exact x.sT b o us ((other b q).trans hb) Bh)⟩
def gr {base:Heap}{l:List Env}{e:Addr}{cls a0 fl:Value}{yo:Option Addr}{T:Addr}{Q:Unit->Shared->Prop}
  (Bz:base.StaysIn s.heap) (hl:s.heap.FunFrames base l) (ht:s.heap.qU base e cls a0 fl yo T)
  (h:∀ h',base.StaysIn h'->h'.FunFrames base l->h'.qU base e cls a0 .none yo T->s.heap.UpToSlots h'->(∀ b o vs,s.heap.get? b=some o->o.data=.fields vs->∃ o' vs',h'.get? b=some o'/\o'.data=.fields vs')->Q () { s with heap:=h' }):wpAny M A (setFlight (.ref e) none) Q E s:=by
 obtain⟨oe,vs,oT,ts,he,AX,hd,h1,hnT,hTe,hT,hdT,h3⟩:=ht
 have hsz3:3<ts.size:=(Array.getElem?_eq_some_iff.mp h3).1
 have other:∀ b,b≠T->(s.heap.update T (Obj.mapFields (·.setIfInBounds 3 ((none:Option Addr).elim Value.none λ f=>rawInt f)))).get? b=s.heap.get? b:=
  λ b hb=>za9 _ _ (Ne.symm hb)
 have noRecord:∀ b o,s.heap.get? b=some o->(∀ vs,o.data≠.fields vs)->b≠T:=λ b o hb Am q=>by
  rw[q,hT] at hb;cases hb;exact Am ts hdT
 unfold setFlight
 refine za0 (za4 he hd h1 ?_)
 rw[if_pos (show (Value.ref T != Value.none)=true from by simp)]
 refine zaC hT hdT hsz3 (h _ (λ b o AD=>(other b λ q=>by rw[q,hnT] at AD;cases AD).trans (Bz b o AD))
  (hl.of_keeps λ b o hb Am=>⟨o,(other b (noRecord b o hb Am)).trans hb,rfl⟩) ?_ (λ b o hb Am=>⟨o.slots,(other b (noRecord b o hb Am)).trans hb⟩) λ b o us hb Bh=>?_)
 ·exact⟨oe,vs,_,_,(other e (Ne.symm hTe)).trans he,AX,hd,h1,hnT,hTe,za6 _ hT (Obj.isFreed_of_fields (Obj.data_mapFields hdT _)),Obj.data_mapFields hdT _,by simp[hsz3]⟩
 ·by_cases q:b=T
  ·subst q;exact⟨_,_,za6 _ hT (Obj.isFreed_of_fields (Obj.data_mapFields hdT _)),Obj.data_mapFields hdT _⟩
  ·exact⟨o,us,(other b q).trans hb,Bh⟩
end
end PySem
namespace PySem
open Calls Spec
section
variable {prog:Program}{w:World}{M:Model}{A:Around}{E:Value->Shared->Prop}{env:Env}
variable {nm q:Str}{C N:Addr}{bs bm:List Value}{hdct:Bool}{sn:List Str}{sub:List Value}{ab:Bool}{col:Option Bool}{dd:Option Addr}{k0 k1 k2 k3 k5:Option Value}{newId:String}
variable {nm' q':Str}{P N':Addr}{bs' bm':List Value}{hdct':Bool}{sn':List Str}{sub':List Value}{ab':Bool}{col':Option Bool}{dd':Option Addr}{l0 l1 l2 l3 l5:Option Value}{newId':String}
def aY {h:Heap}{g:Array GenState}{d:Drawn}{t:Nat}{os:OsState}{e:Addr}{oe:Obj}{Q:Bool->Shared->Prop}
  (hC:h.get? C=some (excClassObj nm q C N bs bm hdct sn sub ab col dd k0 k1 k2 k3 k5 newId)) (hP:h.get? P=some (excClassObj nm' q' P N' bs' bm' hdct' sn' sub' ab' col' dd' l0 l1 l2 l3 l5 newId'))
  (he:h.get? e=some oe) (AX:oe.cls=.ref C) (hbase:bm'.contains (.type "BaseException")=true) (hm:bm.contains (.ref P)=true)
  (hq:Q true ⟨h,g,d,t,os⟩):wpAny M A (excMatches (.ref e) (.ref P)) Q E ⟨h,g,d,t,os⟩:=by
 have hcB:(Value.ref P::bm').contains (.type "BaseException")=true:=by rw[A4,hbase,Ca]
 have hcP:(Value.ref C::bm).contains (.ref P)=true:=by rw[A4,hm,Ca]
 have f:=tc_notTuple
 unfold excMatches
 repeat (first | (with_reducible refine za2 he ?_;rw[AX]) | with_reducible refine za2 hP ?_ | (with_reducible refine zaD hP ?_;rw[hcB]) | (with_reducible refine zaD hC ?_;rw[hcP]) | wp_step)
 exact hq
def aZ {s:Shared}{e:Addr}{t:Expr}{n:Str}{b₀:Stmt}{suite:List Stmt}{pos:Pos}{rest:List ExceptHandler}{Q:Flow->Shared->Prop}
  (hbase:bm'.contains (.type "BaseException")=true) (hm:bm.contains (.ref P)=true)
  (h:wpAny (model prog w) (A.mark (some (.ref e))) (eval t env) (λ c s₁=>c=.ref P/\s₁.heap.get? C=some (excClassObj nm q C N bs bm hdct sn sub ab col dd k0 k1 k2 k3 k5 newId)/\s₁.heap.get? P=some (excClassObj nm' q' P N' bs' bm' hdct' sn' sub' ab' col' dd' l0 l1 l2 l3 l5 newId')/\(∃ oe,s₁.heap.get? e=some oe/\oe.cls=.ref C)/\
   wpAny (model prog w) (A.mark (some (.ref e))) (setFlight (.ref e) none) (λ _ s₂=>
     wpAny (model prog w) (A.mark (some (.ref e))) (storeName env n (.ref e)) (λ _ s₃=>
      wpAny (model prog w) (A.mark (some (.ref e))) (execs (b₀::suite) env)
       (λ f s₄=>wpAny (model prog w) A (do bindName env n .none;unbindBehindTheSuite env n pos) (λ _ s₅=>Q f s₅) E s₄)
       (AsSuiteRaised (model prog w) (A.mark (some (.ref e))) env n pos (notedBy (model prog w) (A.mark (some (.ref e))) env (cameBackBy (model prog w) A env E))) s₃) (notedBy (model prog w) (A.mark (some (.ref e))) env (cameBackBy (model prog w) A env E)) s₂) (notedBy (model prog w) (A.mark (some (.ref e))) env (cameBackBy (model prog w) A env E)) s₁) (notedBy (model prog w) (A.mark (some (.ref e))) env (cameBackBy (model prog w) A env E)) s):
  wpAny (model prog w) A (handleBy (.ref e) env (.ExceptHandler (some t) (some n) (b₀::suite) pos::rest)) Q E s:=by
 refine wpAny_handleBy_cons (codeAny_handlers_test (za3 h (λ c s₁ h₁=>?_) λ _ _ y=>y)) (by intro q;cases q)
 obtain⟨rfl,hC,hP,⟨oe,he,AX⟩,hk⟩:=h₁
 obtain⟨hh,g,d,tk,os⟩:=s₁
 exact aY hC hP he AX hbase hm (codeAny_handlers_suite_as hk)
end
end PySem
namespace L3
open PySem PySem.Spec L2
open PyProof.Rows hiding St
noncomputable def xQ (T:Addr):HO:=.ext λ h=>∃ oT ts,h.get? T=some oT/\oT.data=.fields ts
def ak (h:Heap) (e:Addr):Prop:=∃ oe vs a0,h.get? e=some oe/\oe.data=.fields vs/\vs[1]?=some .none/\vs[0]?=some a0
def rV (h:Heap) (H:Hp) (e:Addr):Prop:=∃ oe vs a0 T oT ts,h.get? e=some oe/\oe.data=.fields vs/\vs[0]?=some a0/\vs[1]?=some (.ref T)/\T≠e/\H T=some (xQ T)/\h.get? T=some oT/\oT.data=.fields ts/\ts[3]?=some .none
def oK (H:Hp) (e:Addr):Prop:=∃ C dx,H e=some (wz e C dx)
section
variable {P:Program}{w:World}{H:Hp}{h h':Heap}
def jX {fs as:List Addr}(zu:yn P w H h) (hf:∀ b∈fs,H b=none/\∀ o,h.get? b=some o->∀ vs,o.data≠.fields vs) (st:(PySem.W.hideAll h as).StaysIn h') (us:h.UpToSlots h')
  (has:∀ a∈as,a∈fs\/∃ φ:Heap->Prop,H a=some (.ext φ)/\φ h'/\∃ o,h'.get? a=some o):Un fs [] H H h h'/\yn P w H h':=by
 have st':∀ b o,b∉as->h.get? b=some o->h'.get? b=some o:=λ b o hb e=>st b o (PySem.W.hideAll_get _ e hb)
 refine⟨⟨λ b o e n hb _=>st' b o (λ hm=>?_) e,λ b o e n hb _=>us b o e ((hf b hb).2 o e),λ _ _ _ n _=>n,λ b o e _=>?_,λ _ _ q=>q,λ _ _ _ q=>q,λ _ ps q=>⟨#[],by rw[q];simp⟩⟩,λ a o e=>?_⟩
 ·rcases has b hm with z | ⟨φ,z,_⟩
  ·exact hb z
  ·rw[n] at z;cases z
 ·by_cases hm:b∈as
  ·rcases has b hm with z | ⟨φ,_,_,z⟩
   ·obtain⟨sl,q⟩:=us b o e ((hf b z).2 o e)
    exact⟨_,q⟩
   ·exact z
  ·exact⟨o,st' b o hm e⟩
 ·by_cases hm:a∈as
  ·rcases has a hm with z | ⟨φ,z,z1,z2⟩
   ·rw[(hf a z).1] at e;cases e
   ·rw[e] at z;cases z
    exact⟨z1,z2,(zu a _ e).2.2⟩
  ·refine (zu a o e).wL (λ b u hb q=>?_) (λ _ q=>q) λ _ _ q=>q
   rcases hb with rfl | hb
   ·exact st' _ u hm q
   ·refine st' _ u (λ hm'=>?_) q
    rcases has b hm' with z | ⟨φ,z,_⟩
    ·rw[(hf b z).1] at hb;cases hb
    ·rw[hb] at z;cases z
def cI {fs:List Addr}{T:Addr}{oT:Obj}{ts:Array Value}(u:Un fs [] H H h h') (zu:yn P w H h') (hk:yn P w H h) (hp:h.objs.size<=T) (e:h'.get? T=some oT) (hd:oT.data=.fields ts):
  H T=none/\Un fs [] H (upd H T (xQ T)) h h'/\yn P w (upd H T (xQ T)) h':=by
 have hn:=hk.fresh hp
 refine⟨hn,⟨u.keep,u.slot,λ b o q n x=>by rw[zN (Al (AO (Ai q) hp))];exact n,u.there,λ b xs q=>by rw[zN (xm q hn)];exact q,λ b o xs q=>by rw[zN (xm q hn)];exact q,λ b ps q=>⟨#[],by rw[zN (xm q hn),q];simp⟩⟩,λ b o q=>?_⟩
 by_cases hb:b=T
 ·subst hb
  rw[yq] at q;cases q
  exact⟨⟨oT,ts,e,hd⟩,⟨oT,e⟩,λ h1 h2 ⟨o,ts,a,b⟩ k=>⟨o,ts,k _ a,b⟩⟩
 ·rw[zN hb] at q
  exact (zu b o q).wL (λ _ _ _ z=>z) (λ c z=>by rw[zN (xm z hn)];exact z) λ c xs z=>by rw[zN (xm z hn)];exact z
end
section
variable {X:Cx}{pins:List (Addr×Obj)}{Y:St}{H:Hp}{s:Shared}{e:Addr}
def jV (I:Inv X pins Y H s):∀ b∈yK X.stack,H b=none/\∀ o,s.heap.get? b=some o->∀ vs,o.data≠.fields vs:=λ b hb=>
 ⟨I.lW b hb,λ o ho=>by
  obtain⟨_,o',ho',hd⟩:=I.stack.mem hb
  rw[ho] at ho';cases ho';exact hd⟩
def cU {H:Hp}{h:Heap}{P:Program}{w:World}{C dx:Addr}{oe:Obj}(zu:yn P w H h) (he:H e=some (wz e C dx)) (q:h.get? e=some oe):oe.cls=.ref C/\oe.dict=some dx:=by
 obtain⟨⟨o',_,a,b,c,_⟩,_⟩:=zu e _ he
 rw[q] at a;cases a;exact⟨b,c⟩
def Td {M:Model}{E:Value->Shared->Prop}(I:Inv X pins Y H s) (Aw:X.stack=X.env::X.outer) (AI:X.env.frame=some X.env.locals) (he:oK H e) (hf:ak s.heap e\/rV s.heap H e) {Q:Unit->Shared->Prop}
  (hq:∀ h' T,H T=none->Un (yK X.stack) [] H (upd H T (xQ T)) s.heap h'->yn X.prog X.w (upd H T (xQ T)) h'->rV h' (upd H T (xQ T)) e->Q () { s with heap:=h' }):wpAny M X.A (leaving X.env (.ref e)) Q E s:=by
 obtain⟨C,dx,hE⟩:=he
 have hF:=I.ok.frames
 rw[Aw] at hF
 have hS:=I.stack
 rw[Aw] at hS
 have fin:∀ (as:List Addr) (oe:Obj) (a0:Value),s.heap.get? e=some oe->(∀ a∈as,a=e\/a∈yK X.stack\/H a=some (xQ a))->
   ∀ h':Heap,Heap.m_ (PySem.W.hideAll s.heap as) (X.env::X.outer) e oe.cls a0 oe.dict s.heap h'->Q () { s with heap:=h' }:=λ as oe a0 g0 has h' x=>by
  obtain⟨T,hp,oe',vs',oT,ts,a1,⟨⟨a2,a3⟩,a4⟩,a5,a6,a7,a8,a9,a10,a11⟩:=x.tr
  obtain⟨z1,z2⟩:=cU I.zu hE g0
  obtain⟨u,zu⟩:=jX (as:=as) I.zu (jV I) x.stays x.slots λ a ha=>by
   rcases has a ha with z | z | z
   ·rw[z];exact .inr ⟨_,hE,⟨oe',vs',a1,a2.trans z1,a3.trans z2,a5⟩,oe',a1⟩
   ·exact .inl z
   ·obtain⟨⟨oT,ts,q1,q2⟩,_⟩:=I.zu a _ z
    obtain⟨o',ts',q3,q4⟩:=x.sT _ _ _ q1 q2
    exact .inr ⟨_,z,⟨o',ts',q3,q4⟩,o',q3⟩
  obtain⟨n,u',A9⟩:=cI u zu I.zu hp a9 a10
  exact hq h' T n u' A9 ⟨oe',vs',a0,T,oT,ts,a1,a5,a4,a6,a8,yq,a9,a10,a11⟩
 have Bm:∀ (r:List Addr),∀ env∈X.env::X.outer,∀ a,env.frame=some a->a∈r++yK X.stack:=λ r env hm a ha=>AN _ (Cf.mpr ⟨env,by rw[Aw];exact hm,ha⟩)
 rcases hf with ⟨oe,vs,a0,g0,g1,g2,g3⟩ | ⟨oe,vs,a0,T,oT,ts,g0,g1,g3,g2,g4,g5,g6,g7,g8⟩
 ·refine a_ (base:=PySem.W.hideAll s.heap ([e]++yK X.stack)) hF (PySem.W.funFrames_hide hS (Bm _)) AI g0 (λ b o q=>PySem.W.of_hideAll _ q) (PySem.W.hideAll_none _ (by simp)) g1 g2 g3 (fin _ oe a0 g0 λ a ha=>?_)
  rcases A1.mp ha with q | q
  ·exact .inl (AF.mp q)
  ·exact .inr (.inl q)
 ·refine aX (base:=PySem.W.hideAll s.heap ([e,T]++yK X.stack)) hF (PySem.W.funFrames_hide hS (Bm _)) AI ⟨oe,vs,oT,ts,g0,⟨⟨rfl,rfl⟩,g3⟩,g1,g2,PySem.W.hideAll_none _ (by simp),g4,g6,g7,g8⟩ (λ b o q=>PySem.W.of_hideAll _ q) (PySem.W.hideAll_none _ (by simp)) (fin _ oe a0 g0 λ a ha=>?_)
  rcases A1.mp ha with q | q
  ·rcases Aj.mp q with q | q
   ·exact .inl q
   ·exact .inr (.inr (by rw[AF.mp q];exact g5))
  ·exact .inr (.inl q)
end
section
variable {X:Cx}{pins:List (Addr×Obj)}{Y:St}{H:Hp}{s:Shared}{e:Addr}{M:Model}{A:Around}{E:Value->Shared->Prop}
def UB (I:Inv X pins Y H s) (Aw:X.stack=X.env::X.outer) (AI:X.env.frame=some X.env.locals) (he:oK H e) (hf:rV s.heap H e) {Q:Unit->Shared->Prop}
  (hq:∀ h' T,H T=none->Un (yK X.stack) [] H (upd H T (xQ T)) s.heap h'->yn X.prog X.w (upd H T (xQ T)) h'->rV h' (upd H T (xQ T)) e->Q () { s with heap:=h' }):
  wpAny M X.A (noteFrame (.ref e) X.env) (λ _ s₂=>wpAny M X.A (setFlight (.ref e) none) Q E s₂) E s:=by
 obtain⟨C,dx,hE⟩:=he
 have hF:=I.ok.frames
 rw[Aw] at hF
 have hS:=I.stack
 rw[Aw] at hS
 obtain⟨oe,vs,a0,T,oT,ts,g0,g1,g3,g2,g4,g5,g6,g7,g8⟩:=hf
 have Bm:∀ env∈X.env::X.outer,∀ a,env.frame=some a->a∈[e,T]++yK X.stack:=λ env hm a ha=>AN _ (Cf.mpr ⟨env,by rw[Aw];exact hm,ha⟩)
 refine aW (base:=PySem.W.hideAll s.heap ([e,T]++yK X.stack)) hF (PySem.W.funFrames_hide hS Bm) AI ⟨oe,vs,oT,ts,g0,⟨⟨rfl,rfl⟩,g3⟩,g1,g2,PySem.W.hideAll_none _ (by simp),g4,g6,g7,g8⟩ (λ b o q=>PySem.W.of_hideAll _ q) (PySem.W.hideAll_none _ (by simp)) λ h1 x=>?_
 obtain⟨T',hp,tr⟩:=x.tr
 refine gr (s:={ s with heap:=h1 }) x.stays x.frames tr λ h2 y1 y2 y3 y4 y5=>?_
 obtain⟨oe',vs',oT',ts',a1,⟨⟨a2,a3⟩,a4⟩,a5,a6,a7,a8,a9,a10,a11⟩:=y3
 obtain⟨z1,z2⟩:=cU I.zu hE g0
 obtain⟨u,zu⟩:=jX (as:=[e,T]++yK X.stack) I.zu (jV I) y1 (x.slots.trans y4) λ a ha=>by
  rcases A1.mp ha with q | q
  ·rcases Aj.mp q with q | q
   ·rw[q];exact .inr ⟨_,hE,⟨oe',vs',a1,a2.trans z1,a3.trans z2,a5⟩,oe',a1⟩
   ·rw[AF.mp q]
    obtain⟨o1,t1,b1,b2⟩:=x.sT _ _ _ g6 g7
    obtain⟨o2,t2,b3,b4⟩:=y5 _ _ _ b1 b2
    exact .inr ⟨_,g5,⟨o2,t2,b3,b4⟩,o2,b3⟩
  ·exact .inl q
 obtain⟨n,u',A9⟩:=cI u zu I.zu hp a9 a10
 exact hq h2 T' n u' A9 ⟨oe',vs',a0,T',oT',ts',a1,a5,a4,a6,a8,yq,a9,a10,a11⟩
def Tp (I:Inv X pins Y H s) (he:oK H e) (hf:rV s.heap H e) {Q:Unit->Shared->Prop}
  (hq:∀ h',Un (yK X.stack) [] H H s.heap h'->yn X.prog X.w H h'->Q () { s with heap:=h' }):wpAny M A (setFlight (.ref e) none) Q E s:=by
 obtain⟨C,dx,hE⟩:=he
 obtain⟨oe,vs,a0,T,oT,ts,g0,g1,g3,g2,g4,g5,g6,g7,g8⟩:=hf
 have Bm:∀ env∈X.stack,∀ a,env.frame=some a->a∈[T]++yK X.stack:=λ env hm a ha=>AN _ (Cf.mpr ⟨env,hm,ha⟩)
 refine gr (base:=PySem.W.hideAll s.heap ([T]++yK X.stack)) (λ b o q=>PySem.W.of_hideAll _ q) (PySem.W.funFrames_hide I.stack Bm) ⟨oe,vs,oT,ts,g0,⟨⟨rfl,rfl⟩,g3⟩,g1,g2,PySem.W.hideAll_none _ (by simp),g4,g6,g7,g8⟩ λ h2 y1 y2 y3 y4 y5=>?_
 obtain⟨u,zu⟩:=jX (as:=[T]++yK X.stack) I.zu (jV I) y1 y4 λ a ha=>by
  rcases A1.mp ha with q | q
  ·rw[AF.mp q]
   obtain⟨o2,t2,b3,b4⟩:=y5 _ _ _ g6 g7
   exact .inr ⟨_,g5,⟨o2,t2,b3,b4⟩,o2,b3⟩
  ·exact .inl q
 exact hq h2 u zu
def Sy {i:Nat}{x:Str}{pos:Pos}{Q:Unit->Shared->Prop}(I:Inv X pins Y H s) (hN:X.N.Nodup) (hi:X.N[i]?=some x) (hk:X.env.kindOf x=some .local)
  (h:∀ s',Inv X pins (Y.set i none) H s'->Q () s'):wpAny M A (do bindName X.env x .none;unbindBehindTheSuite X.env x pos) Q E s:=by
 obtain⟨m,hn,hl⟩:=id I.loc
 have AX:(X.env.scope.kind == .class||(X.env.scope.kind == .module&&X.env.locals != X.env.globals))=false:=by rw[I.ok.kind];rfl
 have uf:=I.uf
 obtain⟨oL,_,_,hoL,_⟩:=id hn
 refine wpAny_nameGoes_keeps hk hn AX λ h' v hn' hs=>?_
 refine h _ ⟨I.ok,I.os,I.bare,⟨λ b o e n hb hx=>?_,λ b o e n hb hx=>?_,I.base.free,λ b o e hx=>?_,I.base.wK,I.base.vi,I.base.vz⟩,⟨_,hn',λ j y v' e1 e2 e3=>?_⟩,λ y c e=>?_,I.free,I.wG,λ p hp=>?_,λ b ob e=>?_,by simpa using I.len⟩
 ·exact (hs.2 b (Al (AO (Ai e) I.ok.above))).trans (I.base.keep b o e n hb hx)
 ·obtain⟨sl,e1⟩:=I.base.slot b o e n hb hx
  exact⟨sl,(hs.2 b (Al (AO (Ai e) I.ok.above))).trans e1⟩
 ·obtain⟨o',e1⟩:=I.base.there b o e hx
  exact⟨o',(hs.2 b (Al (AO (Ai e) I.ok.above))).trans e1⟩
 ·by_cases hj:j=i
  ·subst hj
   rw[Cd] at e2
   simp at e2
  ·rw[Dx (Ne.symm hj)] at e2
   obtain⟨u',r',q⟩:=hl j y v' e1 e2 e3
   refine⟨u',r',?_⟩
   rcases q with ⟨k,e⟩ | ⟨k,c,e,z⟩
   ·refine .inl ⟨k,?_⟩
    have:y≠x:=λ e=>hj (jr hN e1 (e▸hi))
    simp[this,e]
   ·exact .inr ⟨k,c,e,z.sameBut hs (uf y c e)⟩
 ·obtain⟨w',z⟩:=I.cell y c e
  exact⟨w',z.sameBut hs (uf y c e)⟩
 ·obtain⟨e,n,ne,nf,d⟩:=I.pin p hp
  exact⟨(hs.2 p.1 ne).trans e,n,ne,nf,d⟩
 ·refine (I.zu b ob e).wL (λ c w' hc q=>(hs.2 c ?_).trans q) (λ _ q=>q) λ _ _ q=>q
  rintro rfl
  rcases hc with rfl | hc
  ·rw[I.free] at e;cases e
  ·rw[I.free] at hc;cases hc
end
abbrev sf:List Str:=["place","pair","way","times","told","name","row"]
def m7 {f:Str}(h:f∈sf):f∈tX:=by
 simp only[Aj,AK,or_false] at h ⊢
 rcases h with h | h | h | h | h | h | h <;> simp[h]
def gE {f:Str}(h:f∈sf):typeLookup (.type "ValueError") f=pure none:=by
 simp only[Aj,AK,or_false] at h
 rcases h with rfl | rfl | rfl | rfl | rfl | rfl | rfl <;> (rw[typeLookup_type,builtinLookup_eq_fast];kernel_rfl)
def Zv:typeLookup (.type "ValueError") "__class__"=pure (some (.builtin "object.__class__")):=by rw[typeLookup_type,builtinLookup_eq_fast];kernel_rfl
section
variable {K:Aa}{h:Heap}{c:Str}{C P N NP:Addr}{bm:List Value}
def sy.at (o:sy K c C bm N) (X:K.In h):(∃ (q:Str) (bs:List Value) (sn:List Str) (sub:List Value) (ab:Bool) (col:Option Bool) (dd:Option Addr) (k0 k1 k2 k3 k5:Option Value),h.get? C=some (excClassObj c q C N bs bm true sn sub ab col dd k0 k1 k2 k3 k5 "ValueError.__new__"))/\h.Ns N (h.nsMap N)/\∀ n∈tX,h.nsMap N n=none:=by
 obtain⟨⟨q,bs,sn,sub,ab,col,dd,k0,k1,k2,k3,k5,e⟩,ok,hn⟩:=o
 exact⟨⟨q,bs,sn,sub,ab,col,dd,k0,k1,k2,k3,k5,X _ _ e⟩,.of_isNs (PySem.W.isNs_of_in X ok),λ n m=>PySem.W.nsMap_none_of_in X ok (hn n m)⟩
def sF.gu (e:sF K c C P N NP) (X:K.In h):iG h C P "ValueError" vn:=by
 obtain⟨⟨q,bs,sn,sub,ab,col,dd,k0,k1,k2,k3,k5,hC⟩,hN,hn⟩:=e.own.at X
 obtain⟨⟨q',bs',sn',sub',ab',col',dd',l0,l1,l2,l3,l5,hP⟩,hN',hn'⟩:=e.par.at X
 refine⟨PySem.F.attrBase_ValueError,by decide,Zv,c,q,N,bs,sn,sub,ab,col,dd,k0,k1,k2,k3,k5,_,_,_,hC,hN,⟨⟨_,_,_,_,hP,hN'⟩⟩,λ n m=>?_⟩
 have m':n∈tX:=by
  simp only[Aj,AK,or_false] at m ⊢
  rcases m with m | m | m <;> simp[m]
 exact⟨hn n m',hn' n m'⟩
end
noncomputable def oS (e C vs:Addr):HO:=.ext λ h=>h.get? e=some { cls:=.ref C,data:=.fields #[.ref vs,.none,.none,.none,.bool false,.none] }
noncomputable def iZ (e C dx vs:Addr):HO:=.ext λ h=>h.get? e=some { cls:=.ref C,dict:=some dx,data:=.fields #[.ref vs,.none,.none,.none,.bool false,.none] }
section
variable {P:Program}{w:World}{fs:List Addr}{H:Hp}{h h':Heap}{e dx:Addr}{φ ψ:Heap->Prop}{fv:List (Str×V)}
def Z8 (zu:yn P w H h) (he:H e=some (.ext φ)) (hd:h.objs.size<=dx) (k:∀ b o,b≠e->h.get? b=some o->h'.get? b=some o) (hψ:ψ h') (BQ:∃ o,h'.get? e=some o)
  (st:∀ h1 h2:Heap,ψ h1->(∀ o,h1.get? e=some o->h2.get? e=some o)->ψ h2) (hx:∃ mA,h'.Ns1 dx mA/\∀ f,iK (fv.lookup f) (mA f)):
  Un fs [] H (upd (upd H dx (.xd fv)) e (.ext ψ)) h h'/\yn P w (upd (upd H dx (.xd fv)) e (.ext ψ)) h':=by
 have hn:H dx=none:=zu.fresh hd
 have up:∀ b,b≠e->b≠dx->upd (upd H dx (.xd fv)) e (.ext ψ) b=H b:=λ b a c=>by rw[zN a,zN c]
 have ue:∀ b,H b=none->b≠e:=λ b a z=>by rw[z,he] at a;cases a
 have ux:∀ b o,h.get? b=some o->b≠dx:=λ b o q=>Al (AO (Ai q) hd)
 have us:∀ b u,H b=some u->(∀ φ,u≠.ext φ)->upd (upd H dx (.xd fv)) e (.ext ψ) b=some u:=λ b u q n=>by
  rw[up b (rp q he (n _)) (xm q hn)];exact q
 refine⟨⟨λ b o q n _ _=>k b o (ue b n) q,λ b o q n _ _=>⟨o.slots,k b o (ue b n) q⟩,λ b o q n _=>by rw[up b (ue b n) (ux b o q)];exact n,λ b o q _=>?_,λ b xs q=>us b _ q (λ _ z=>by cases z),λ b o u q=>us b _ q (λ _ z=>by cases z),λ b ps q=>⟨#[],by rw[us b _ q (λ _ z=>by cases z)];simp⟩⟩,λ a o q=>?_⟩
 ·by_cases z:b=e
  ·rw[z];exact BQ
  ·exact⟨o,k b o z q⟩
 ·by_cases z:a=e
  ·subst z
   rw[yq] at q;cases q
   exact⟨hψ,BQ,st⟩
  ·rw[zN z] at q
   by_cases z':a=dx
   ·subst z'
    rw[yq] at q;cases q
    exact hx
   ·rw[zN z'] at q
    refine (zu a o q).wL (λ b u hb c=>k b u ?_ c) (λ b c=>us b _ c (λ _ z=>by cases z)) λ b xs c=>us b _ c (λ _ z=>by cases z)
    rcases hb with rfl | hb
    ·exact z
    ·exact rp hb he (by intro z;cases z)
def Z6 (zu:yn P w H h) (he:H e=some (.ext φ)) (hψ:ψ h) (st:∀ h1 h2:Heap,ψ h1->(∀ o,h1.get? e=some o->h2.get? e=some o)->ψ h2):
  Un fs [] H (upd H e (.ext ψ)) h h/\yn P w (upd H e (.ext ψ)) h:=by
 have ue:∀ b,H b=none->b≠e:=λ b a z=>by rw[z,he] at a;cases a
 have us:∀ b u,H b=some u->(∀ φ,u≠.ext φ)->upd H e (.ext ψ) b=some u:=λ b u q n=>by
  rw[zN (rp q he (n _))];exact q
 refine⟨⟨λ b o q n _ _=>q,λ b o q n _ _=>⟨o.slots,q⟩,λ b o q n _=>by rw[zN (ue b n)];exact n,λ b o q _=>⟨o,q⟩,λ b xs q=>us b _ q (λ _ z=>by cases z),λ b o u q=>us b _ q (λ _ z=>by cases z),λ b ps q=>⟨#[],by rw[us b _ q (λ _ z=>by cases z)];simp⟩⟩,λ a o q=>?_⟩
 by_cases z:a=e
 ·subst z
  rw[yq] at q;cases q
  exact⟨hψ,(zu a _ he).2.1,st⟩
 ·rw[zN z] at q
  exact (zu a o q).wL (λ b u hb c=>c) (λ b c=>us b _ c (λ _ z=>by cases z)) λ b xs c=>us b _ c (λ _ z=>by cases z)
end
def ZR (K:Aa) (f:Str):TS:=λ D Y H=>∃ e C vs v c,Y[0]?=some (some (.ref e))/\Y[1]?=some (some v)/\H e=some (oS e C vs)/\uk K c C/\
 ∀ dx,H dx=none->dx≠e->D.nx Y (upd (upd H dx (.xd [(f,v)])) e (iZ e C dx vs))
def Xn {X:Cx}{o value:Expr}{f:Str}{pos pos':Pos}(hf:f∈sf) (ho:PE X o (pB 0)) (hv:PE X value (pB 1)) (hs:swapsWith value (some (.Attribute o f pos')) pos.line X.env=pure false):
  PS X (.Assign [.Attribute o f pos'] value pos) (ZR X.K f):=by
 intro pins s Y H D I h
 obtain⟨e,C,vs,v,c,h0,h1,h2,⟨P,N,NP,hE⟩,hq⟩:=h
 refine plainObj_wpAny_Assign_Attribute (zH (hv pins s Y H (λ x H'=>x=v/\H'=H) I ⟨v,h1,rfl,rfl⟩) λ u s1 ⟨y,H1,I1,ry,ey,eH⟩=>?_) hs
 subst ey eH
 refine zH (ho pins s1 Y H1 (λ x H'=>x=.ref e/\H'=H1) I1 ⟨_,h0,rfl,rfl⟩) λ ov s2 ⟨x,H2,I2,rx,ex,eH2⟩=>?_
 subst ex eH2
 obtain rfl:ov=Value.ref e:=rx
 obtain⟨hh,g,d,t,os⟩:=s2
 obtain⟨⟨q,bs,sn,sub,ab,col,dd,k0,k1,k2,k3,k5,hC⟩,hN,hn⟩:=hE.own.at I2.y8
 obtain⟨⟨q',bs',sn',sub',ab',col',dd',l0,l1,l2,l3,l5,hP⟩,hN',hn'⟩:=hE.par.at I2.y8
 have hsa:("__setattr__":Str)∈tX:=by simp
 have h3:hh.get? e=some { cls:=.ref C,data:=.fields #[.ref vs,.none,.none,.none,.bool false,.none] }:=(I2.zu e _ h2).1
 refine Zd PySem.F.store_ValueError hC hN ⟨⟨_,_,_,_,hP,hN'⟩⟩ (hn _ hsa) (hn' _ hsa) (hn _ (m7 hf)) (hn' _ (m7 hf)) (gE hf) h3 rfl rfl (λ _=>nofun) λ h' tk' z1 z2 z3=>?_
 have dn:=I2.zu.fresh (Ad hh.objs.size)
 obtain⟨u',A9⟩:=Z8 (fs:=X.fs) (fv:=[(f,y)]) (ψ:=λ h=>h.get? e=some { cls:=.ref C,dict:=some hh.objs.size,data:=.fields #[.ref vs,.none,.none,.none,.bool false,.none] }) I2.zu h2 (Ad _) z3 z1 ⟨_,z1⟩ (λ h1 h2 a b=>b _ a) ⟨_,z2,λ f'=>by
  by_cases DZ:f'=f
  ·subst DZ
   simp only[A5,beq_self_eq_true,if_true]
   exact ry
  ·have:(f' == f)=false:=by simpa using DZ
   simp only[A5,this,List.lookup_nil,if_neg DZ]
   trivial⟩
 exact⟨Y,_,I2.un (t':=tk') u' A9,hq _ dn (xm h2 dn).symm⟩
noncomputable def Ym (K:Aa) (f:Str):Sp:=λ vs H Q _=>∃ e C va v c,vs=[.ref e,v]/\H e=some (oS e C va)/\uk K c C/\∀ dx,H dx=none->dx≠e->Q .zg (upd (upd H dx (.xd [(f,v)])) e (iZ e C dx va))
structure rT (K:Aa) (mg:Str->Option Value) (c f:Str) (st:Stmt):Prop where
 fl:f∈sf
 ex:∃ (C P N NP fI:Addr) (fd:FuncData),sF K c C P N NP/\mg c=some (.ref C)/\PySem.W.keepIn K (.ref C)=true/\PySem.W.nsIn K N "__init__"=some (some (.ref fI))/\PySem.W.isFn K (.ref fI)=true/\wI K "__init__" (c++".__init__") st fI fd
structure rS (f:Str) (st:Stmt):Prop where
 sc:yd ["self",f] ["self",f] (zB st)
 bd:∃ p1 p2 p3 p4,xo st=[.Assign [.Attribute (.Name "self" p1) f p2] (.Name f p3) p4]/\∀ env:Env,swapsWith (.Name f p3) (some (.Attribute (.Name "self" p1) f p2)) p4.line env=pure false
 bn:∀ (x q:Str) (kV doc pm:Value) (an:Option Addr) (Ac ct:Value) (us:List Value),us.length=2->bindArgs (PySem.W.fnOf x q (vj st) (xo st) (zB st) .none kV doc pm an Ac ct) ⟨us,[]⟩=pure ((["self",f]:List Str).zip us)
def cJ {f:Str}(h:f∈sf):(f == ("__debug__":Str))=false/\(f == ("__classdict__":Str))=false:=by
 simp only[Aj,AK,or_false] at h
 rcases h with rfl | rfl | rfl | rfl | rfl | rfl | rfl <;> exact⟨by decide,by decide⟩
def TU {P:Program}{w:World}{K:Aa}{mg:Str->Option Value}{base:Heap}{c f:Str}{st:Stmt}{fI:Addr}{fd:FuncData}(hf:f∈sf) (F:wI K "__init__" (c++".__init__") st fI fd) (S:rS f st):
  xg P w K mg base xv 1 fI fd ["self",f] (Ym K f):=by
 obtain⟨p1,p2,p3,p4,hb,hs⟩:=S.bd
 refine F.ok (k:=0) S.sc (λ vs H Q E ⟨e,C,va,v,c,h,_⟩=>by rw[h];rfl) λ Ac A outer s H vs Q E hr h=>?_
 rw[hb]
 obtain⟨e,C,va,v,c',h1,h2,h3,h4⟩:=h
 subst h1
 have vis:∀ x∈(["self",f]:List Str),oB (zB st) x:=λ x m=>(S.sc.par x m).elim .inl (λ z=>.inr (.inl z))
 exact⟨_,kQ (Xn hf (pv 0 rfl (vis _ (by simp))) (pv 1 rfl (vis _ (by simp)) (cJ hf).1 (cJ hf).2) (hs _)),e,C,va,v,c',rfl,rfl,h2,h3,h4⟩
def UA {K:Aa}{h:Heap}{N:Addr}{mg:Str->Option Value}{n:Str}{v:Value}(X:K.In h) (G:h.Ns N mg) (e:PySem.W.nsIn K N n=some (some v)):mg n=some v:=by
 obtain⟨o,es,ep,ho,hd,_,hf⟩:=G
 unfold PySem.W.nsIn at e
 split at e
 ·rename_i c d es' n' sl q
  have:=X _ _ q
  rw[ho] at this
  cases this
  cases hd
  split at e
  ·rename_i en he
   cases e
   rw[<- hf]
   unfold nsFind findBy
   rw[<- Array.find?_toList,he]
   rfl
  ·split at e <;> cases e
 ·cases e
def XP (X:Cx) (pins:List (Addr×Obj)) (fl:Bool) (Y:St) (Q:Addr->Hp->Prop) (v:Value) (s':Shared):Prop:=
 ∃ e pins' Y' H',v=.ref e/\(fl=true->pins'=pins/\Y'=Y)/\Inv X pins' Y' H' s'/\oK H' e/\((fl=false/\ak s'.heap e)\/rV s'.heap H' e)/\Q e H'
def iO (K:Aa) (c f:Str) (x:V) (e:Addr) (H':Hp):Prop:=∃ C dx,uk K c C/\H' e=some (wz e C dx)/\H' dx=some (.xd [(f,x)])
def wp_raise {X:Cx}{c f:Str}{st:Stmt}{e:Expr}{te:TE}{p pos rpos:Pos}{pins:List (Addr×Obj)}{Y:St}{H:Hp}{s:Shared}{Q:Addr->Hp->Prop}{R:Flow->Shared->Prop}
  (G:rT X.K X.mg c f st) (S:rS f st) (hr:ye 2 X.A) (hc:X.calm=true) (hn:∀ v s,¬ X.xe v s) (hg:Gl X c) (AQ:(c == ("__debug__":Str))=false) (he:PE X e te)
  (hs:starEach [e] X.env=(false,eval e X.env)::starEach [] X.env) (Ag:(backTo pos (starEach [] X.env)).any (·.1)=false)
  {W:Value->Shared->Prop}(hW:∀ v s',XP X pins false Y Q v s'->W v s') (I:Inv X pins Y H s) (h:te Y H λ x H1=>∀ a H',oE H1 H'->iO X.K c f x a H'->Q a H'):
  wpAny (model X.prog X.w) X.A (exec (.Raise (some (.Call (.Name c p) [e] [] pos)) none rpos) X.env) R W s:=by
 obtain⟨C,P,N,NP,fI,fd,hE,hm,hk,hi,BP,F⟩:=G.ex
 obtain⟨⟨q,bs,sn,sub,ab,col,dd,k0,k1,k2,k3,k5,lk⟩,_,_⟩:=id hE.own
 rw[arm_exec_Raise]
 refine za0 (wpAny_standAt (Ze (C:=C) (nm:=c) (q:=q) (N:=N) (bs:=bs) (bm:=.ref P::vn) (hdct:=true) (sn:=sn) (sub:=sub) (ab:=ab) (col:=col) (dd:=dd) (k0:=k0) (k1:=k1) (k2:=k2) (k3:=k3) (k5:=k5) (newId:="ValueError.__new__")
  (by rw[A4,show vn.contains (.type "BaseException")=true from by decide,Ca]) (I.ok.hd hc) (za0 (za3 ?_ (λ v s₃ h₃=>za0 (wpAny_standAt (Ab h₃))) λ _ _ x=>x))))
 refine zaN (oh I hg hm ?_ AQ)
 have ha:PA X [e] (lT te lR):=tW he qx hs
 refine PySem.W.callWith_K (h₀:=X.base) I.ok.mod.qC hk (za3 (ha pos pins s Y H (λ vs H1=>match vs with
  | [x]=>∀ a H',oE H1 H'->iO X.K c f x a H'->Q a H'
  | _=>False) I h) (λ us s1 ⟨vs,H1,I1,r,q⟩=>⟨I1.y8,?_⟩) λ _ _ z=>(hn _ _ z).elim) hs Ag
 obtain⟨x,rfl,q⟩:∃ x,vs=[x]/\∀ a H',oE H1 H'->iO X.K c f x a H'->Q a H':=by
  match vs,q with
  | [x],q=>exact⟨x,rfl,q⟩
 obtain⟨u,rfl,r1⟩:∃ u,us=[u]/\RelV x u:=by
  cases r with
  | cons r1 r2=>
   cases r2
   exact⟨_,rfl,r1⟩
 obtain⟨hh,g,d,t,os⟩:=s1
 have hC:=I1.y8 _ _ lk
 obtain⟨_,hN,hnn⟩:=hE.own.at I1.y8
 obtain⟨⟨q',bs',sn',sub',ab',col',dd',l0,l1,l2,l3,l5,hP⟩,hN',hn'⟩:=hE.par.at I1.y8
 have hfI:∃ oI,hh.get? fI=some oI/\oI.cls=.type "function":=by
  obtain⟨oc,od,_,_,_,_,_,_,osl,_,lf,_⟩:=F.ex
  have z:=beq_iff_eq.mp BP
  simp only[PySem.W.typeIn,lf,Option.map_some] at z
  exact⟨_,I1.y8 _ _ lf,AY z⟩
 obtain⟨oI,hfI,CU⟩:=hfI
 have T:OwnTail hh vn (.ref P::vn):=.own hP hN' (PySem.W.ns_none_of I1.y8 hN' hE.Xw) .base
 refine Zn PySem.F.excBase_ValueError T hC hN (UA I1.y8 hN hi) hfI CU (λ h' e hle M=>?_) (by show 1<=sizeLine;decide)
 obtain⟨va,m1,m2,m3⟩:=M.there
 have I2:Inv X pins Y (upd H1 e (oS e C va)) ⟨h',g,d,t,os⟩:=I1.laid (t':=t) M.keeps hle ⟨m1,⟨_,m1⟩,λ h1 h2 a b=>b _ a⟩
 have en:H1 e=none:=I1.zu.fresh hle
 have r2:Vals [V.ref e,x] [Value.ref e,u]:=.cons rfl (.cons r1 .nil)
 have F2:=TU (P:=X.prog) (w:=X.w) (mg:=X.mg) (base:=X.base) G.fl F S
 refine wpAny_call (codeAny_mono (F2.run _ X.stack _ _ ⟨[.ref e,u],[]⟩ [.ref e,u] [.ref e,x] (λ v H2=>v=.zg/\∃ dx,upd H1 e (oS e C va) dx=none/\dx≠e/\H2=upd (upd (upd H1 e (oS e C va)) dx (.xd [(f,x)])) e (iZ e C dx va)) E0 ((hr.make C [u] []).mono (by decide)) (I2.ic.make C [u] [])
  (F.binds (ps:=["self",f]) (S.bn _ _) _ _ I2.y8 rfl) r2 ⟨e,C,va,x,c,rfl,yq,⟨P,N,NP,hE⟩,λ dx n ne=>⟨rfl,dx,n,ne,rfl⟩⟩) λ r s' hq'=>?_)
 cases r with
 | error e=>exact hq'.elim
 | ok fl=>
  cases fl with
  | ret u'=>
   obtain⟨v,H',I3,rv,ev,dx,n,ne,eH⟩:=I2.after hq'
   subst ev eH
   have g3:=(I3.zu e _ yq).1
   obtain⟨u3,ok3⟩:=Z6 (fs:=X.fs) (ψ:=λ h=>∃ oe vs,h.get? e=some oe/\oe.cls=.ref C/\oe.dict=some dx/\oe.data=.fields vs) I3.zu yq ⟨_,_,g3,rfl,rfl,rfl⟩ (λ h1 h2 ⟨oe,vs,a,b⟩ k=>⟨oe,vs,k _ a,b⟩)
   have I4:=I3.un (t':=s'.toks) u3 ok3
   refine⟨rv,e,some dx,va,_,rfl,I3.y8 _ _ lk,g3,hW _ _ ⟨e,pins,Y,_,rfl,nofun,I4,⟨C,dx,yq⟩,.inl ⟨rfl,_,_,_,g3,rfl,rfl,rfl⟩,q e _ (λ b o z=>?_) ⟨C,dx,⟨P,N,NP,hE⟩,yq,by rw[zN ne,zN ne,yq]⟩⟩⟩
   have b1:b≠e:=λ y=>by rw[y,en] at z;cases z
   have b2:b≠dx:=λ y=>by rw[<- y,zN b1,z] at n;cases n
   rw[zN b1,zN b1,zN b2,zN b1];exact z
  | _=>exact False.elim hq'
def Un.out {fs:List Addr}{L:Addr}{H H1 H2:Hp}{h h1 h2:Heap}(a:Un fs [] H H1 h h1) (b:Un (L::fs) [] H1 H2 h1 h2) (hL:h.get? L=none):Un fs [] H H2 h h2 where
 keep:=λ c o q n hc hx=>b.keep c o (a.keep c o q n hc hx) (a.free c o q n hx) (λ z=>(Aj.mp z).elim (λ y=>by rw[y,hL] at q;cases q) hc) hx
 slot:=λ c o q n hc hx=>by
  obtain⟨sl,e⟩:=a.slot c o q n hc hx
  obtain⟨sl',e'⟩:=b.slot c _ e (a.free c o q n hx) (Av _ hc) hx
  exact⟨sl',e'⟩
 free:=λ c o q n hx=>by
  obtain⟨o',e⟩:=a.there c o q hx
  exact b.free c o' e (a.free c o q n hx) hx
 there:=λ c o q hx=>by
  obtain⟨o',e⟩:=a.there c o q hx
  exact b.there c o' e hx
 wK:=λ c xs q=>b.wK c xs (a.wK c xs q)
 vi:=λ c o xs q=>b.vi c o xs (a.vi c o xs q)
 vz:=λ c ps q=>by
  obtain⟨m1,e1⟩:=a.vz c ps q
  obtain⟨m2,e2⟩:=b.vz c _ e1
  exact⟨m1++m2,by rw[e2,Dz]⟩
def pz (P:Program) (w:World):vx:=λ outer H s E v s'=>∃ e H',v=.ref e/\s'.os=s.os/\AllBare s'.gens/\Un (yK outer) [] H H' s.heap s'.heap/\yn P w H' s'.heap/\oK H' e/\rV s'.heap H' e/\E v none H'
def xg.never {P:Program}{w:World}{K:Aa}{mg:Str->Option Value}{base:Heap}{k:Nat}{f:Addr}{fd:FuncData}{ps:List Str}{sp:Sp}(F:xg P w K mg base (pz P w) k f fd ps sp):
  xg P w K mg base xv k f fd ps (λ vs H Q _=>sp vs H Q λ _ _ _=>False):=
 ⟨λ vs H Q E h=>F.len _ _ _ _ h,λ A outer s H args us vs Q E hr he hb hv hs=>codeAny_mono (F.run A outer s H args us vs Q _ hr he hb hv hs) λ r s' hq=>by
  cases r with
  | error e=>
   obtain⟨_,_,_,_,_,_,_,_,_,z⟩:=hq
   exact z.elim
  | ok fl=>cases fl <;> exact hq⟩
section
variable {X:Cx}{k:Nat}{f:Addr}{fd:FuncData}{ps:List Str}{sp:Sp}{x:Str}{p pos:Pos}{e:Expr}{es:List Expr}{t:TA}{pins:List (Addr×Obj)}{Y:St}{H:Hp}{s:Shared}{Q:VK}{Qx:Addr->Hp->Prop}{fl:Bool}
def Zp (F:xg X.prog X.w X.K X.mg X.base (pz X.prog X.w) k f fd ps sp) (hr:ye k X.A) (hg:Gl X x) (hm:X.mg x=some (.ref f)) (hk:PySem.W.keepIn X.K (.ref f)=true) (hb:Binds X.K fd ps []) (hn:∀ v s,¬ X.xe v s)
  (ha:PA X (e::es) t) (AQ:(x == ("__debug__":Str))=false) (he:starEach (e::es) X.env=(false,eval e X.env)::starEach es X.env) (Ag:(backTo pos (starEach es X.env)).any (·.1)=false)
  {W:Value->Shared->Prop}(hW:∀ v s',XP X pins fl Y Qx v s'->W v s') (I:Inv X pins Y H s) (h:t Y H λ vs H1=>sp vs H1 Q λ v _ H'=>∃ a,v=.ref a/\Qx a H'):
  wpAny (model X.prog X.w) X.A (eval (.Call (.Name x p) (e::es) [] pos) X.env) (EP X pins Y Q) W s:=by
 refine zaN (oh I hg hm ?_ AQ)
 refine PySem.W.callWith_K (h₀:=X.base) I.ok.mod.qC hk (za3 (ha pos pins s Y H _ I h) (λ us s1 ⟨vs,H1,I1,r,q⟩=>⟨I1.y8,?_⟩) λ _ _ z=>(hn _ _ z).elim) he Ag
 have hl:us.length=ps.length:=by rw[<- r.length];exact F.len _ _ _ _ q
 have Bh:=hb s1 us I1.y8 (by rw[BC];exact hl)
 rw[BC] at Bh
 refine wpAny_call (codeAny_mono (F.run X.A X.stack s1 H1 ⟨us,[]⟩ us vs Q _ hr I1.ic Bh r q) λ r s' hq=>?_)
 cases r with
 | error v=>
  obtain⟨a,H',rfl,os,bare,un,zu,ie,f1,a',ea,z⟩:=hq
  cases ea
  exact hW _ _ ⟨a,pins,Y,H',rfl,λ _=>⟨rfl,rfl⟩,I1.bH (ch:=[]) os un zu bare (λ b z=>absurd z (by simp)),ie,.inr f1,z⟩
 | ok fl=>
  cases fl with
  | ret u=>exact I1.after hq
  | _=>exact False.elim hq
end
abbrev p_ (X:Cx) (e:Addr):Cx:={ X with A:=X.A.mark (some (.ref e)),calm:=false }
section
variable {X:Cx}{pins:List (Addr×Obj)}{Y Y':St}{H H':Hp}{s s':Shared}{e:Addr}
def cg (I:Inv X pins Y H s) (e:Addr):Inv (p_ X e) pins Y H s:=
 ⟨⟨I.ok.mod,I.ok.kind,I.ok.glob,I.ok.blt,I.ok.above,I.ok.inj,I.ok.has,I.ok.rF,nofun,I.ok.frames,I.ok.qh,I.ok.ou,I.ok.bs,I.ok.uE,I.ok.rm,I.ok.rA,I.ok.wU,I.ok.tj⟩,I.os,I.bare,I.base,I.loc,I.cell,I.free,I.wG,I.pin,I.zu,I.len⟩
def TF (I:Inv X pins Y H s) (J:Inv (p_ X e) pins Y' H' s'):Inv X pins Y' H' s':=⟨I.ok,J.os,J.bare,J.base,J.loc,J.cell,J.free,J.wG,J.pin,J.zu,J.len⟩
def Zo {i j:Nat}{n c:Str}{body:List Stmt}{p1 p2 p3 p4 B7 pos:Pos}{D:Ends}{Qx:Addr->Hp->Prop}(hn:∀ v s,¬ X.xe v s) (Aw:X.stack=X.env::X.outer) (AI:X.env.frame=some X.env.locals)
  (hg:Gl X "PurseError") (hN:X.N.Nodup) (hi:X.N[i]?=some n) (Bm:X.env.kindOf n=some .local) (hj:X.N[j]?=some c) (DC:Loc X.env.scope c) (DY:X.fn c=true\/X.env.scope.names.lookup c=some .local) (AV:i≠j)
  (Bs:(n == ("__debug__":Str))=false) (Bx:(n == ("__classdict__":Str))=false) (B5:swapsWith (.Name n p3) (some (.Name c p2)) p4.line X.env=pure false)
  (I:Inv X pins Y H s) (hb:wpAny (model X.prog X.w) X.A (execs body X.env) (SP X pins D) (XP X pins true Y Qx) s)
  (hx:∀ a H',Qx a H'->(∃ cn C dx,uk X.K cn C/\H' a=some (wz a C dx))/\∀ T,H' T=none->D.nx (((Y.set i (some (.ref a))).set j (some (.ref a))).set i none) (upd H' T (xQ T))):
  wpAny (model X.prog X.w) X.A (exec (.Try body [.ExceptHandler (some (.Name "PurseError" p1)) (some n) [.Assign [.Name c p2] (.Name n p3) p4] B7] [] [] pos) X.env) (SP X pins D) X.xe s:=by
 refine wpAny_Try_except (za3 hb (λ f s₁ q=>?_) λ v s₁ ⟨a,pins',Y',H1,ev,es,I1,ie,fly,q⟩=>?_)
 ·cases f with
  | next=>exact zaI q
  | _=>exact q
 subst ev
 obtain⟨rfl,rfl⟩:=es rfl
 obtain⟨⟨cn,C,dx,⟨P,N,NP,hE⟩,hEo⟩,q⟩:=hx a H1 q
 have f1:=fly.resolve_left (λ z=>by cases z.1)
 refine UB I1 Aw AI ie f1 λ h' T hT un zu f2=>?_
 have I2:Inv X pins' Y' (upd H1 T (xQ T)) { s₁ with heap:=h' }:=I1.call (g':=s₁.gens) (d':=s₁.drawn) (t':=s₁.toks) (ch:=[]) un zu I1.bare (λ b z=>absurd z (by simp))
 have hEo2:upd H1 T (xQ T) a=some (wz a C dx):=by rw[zN (xm hEo hT)];exact hEo
 obtain⟨⟨qn,bs,sn,sub,ab,col,dd,k0,k1,k2,k3,k5,lk⟩,_,_⟩:=id hE.own
 obtain⟨⟨q',bs',sn',sub',ab',col',dd',l0,l1,l2,l3,l5,lp⟩,_,_⟩:=id hE.par
 have mP:X.mg "PurseError"=some (.ref P):=PySem.W.mg_of I.ok.mod.qC I.ok.mod.glob hE.nS
 have aoe:∃ oe,h'.get? a=some oe/\oe.cls=.ref C:=by
  obtain⟨⟨oe,vs,z1,z2,_⟩,_⟩:=I2.zu a _ hEo2
  exact⟨oe,z1,z2⟩
 refine aZ (bm:=.ref P::vn) (bm':=vn) (by decide) (by rw[A4];simp) (oh (X:=p_ X a) (cg I2 a) hg mP ⟨rfl,I2.y8 _ _ lk,I2.y8 _ _ lp,aoe,?_⟩)
 refine Tp I2 ⟨C,dx,hEo2⟩ f2 λ h2 un2 hok2=>?_
 have I3:Inv X pins' Y' (upd H1 T (xQ T)) { s₁ with heap:=h2 }:=Inv.call (s:={ s₁ with heap:=h' }) (g':=s₁.gens) (d':=s₁.drawn) (t':=s₁.toks) (ch:=[]) I2 un2 hok2 I1.bare (λ b z=>absurd z (by simp))
 refine pE I3 hN hi (.inl Bm) (v:=.ref a) rfl (λ s4 I4=>?_) (.inr Bm)
 have st:=kQ (ez (X:=p_ X a) (i:=j) (pos:=p4) (pos':=p2) hN hj DC (pv (X:=p_ X a) i (pos:=p3) hi (.inl Bm) Bs Bx) B5 DY)
 have hl:i < Y'.length:=by rw[I1.len];exact (Az.mp hi).1
 refine za3 (st pins' s4 _ _ { nx:=fun Y2 H2=>Y2=(Y'.set i (some (.ref a))).set j (some (.ref a))/\H2=upd H1 T (xQ T),rt:=λ _ _=>False } (cg I4 a) ⟨.ref a,by rw[Dy hl],rfl,rfl⟩) (λ fl s5 q5=>?_) λ _ _ z=>(hn _ _ z).elim
 cases fl with
 | next=>
  obtain⟨Y5,H5,I5,rfl,rfl⟩:=q5
  exact Sy (TF I I5) hN hi Bm λ s6 I6=>⟨_,_,I6,q T hT⟩
 | ret _=>obtain⟨_,_,_,_,_,z⟩:=q5;exact z.elim
 | _=>obtain⟨_,_,_,z⟩:=q5;exact z.elim
end
noncomputable def wF:D->Bool
 | .err _ _ _=>true
 | _=>false
def v_ (K:Aa) (H:Hp) (R:VK) (Q:Addr->Hp->Prop):DK:=λ d S'=>(wF d=false->xO K H R d S')/\(wF d=true->∀ a H',zi K H' d (.ref a)->Ext H H'->zE K H' S'->Q a H')
theorem v_.ext {K:Aa}{H H':Hp}{R:VK}{Q:Addr->Hp->Prop}(e:Ext H H') {d:D}{S:SS}(h:v_ K H R Q d S):v_ K H' R Q d S:=⟨λ z=>xO.ext e (h.1 z),λ z a H2 r x q=>h.2 z a H2 r (e.trans x) q⟩
def uA (K:Aa) (H:Hp) (D:Ends) (Q:Addr->Hp->Prop):sG:=⟨xn K H D.nx,v_ K H D.rt Q,xn K H D.bk,xn K H D.ct⟩
theorem uA.ext {K:Aa}{H H':Hp}{D:Ends}{Q:Addr->Hp->Prop}(e:Ext H H'):(uA K H D Q).Le (uA K H' D Q):=⟨λ _ _ h=>xn.ext e h,λ _ _ h=>v_.ext e h,λ _ _ h=>xn.ext e h,λ _ _ h=>xn.ext e h⟩
def qg (K:Aa) (t:yk) (Q:Addr->Hp->Prop):TS:=λ D Y H=>∃ L S,yp K H L Y/\zE K H S/\t (uA K H D Q) L S
structure qT (X:Cx) (pins:List (Addr×Obj)) (Y:St) (fl:Bool) (Q:Addr->Hp->Prop) (W:Value->Shared->Prop):Prop where
 xp:∀ v s',XP X pins fl Y Q v s'->W v s'
 own:fl=false->PassesOwn (model X.prog X.w) X.A X.env W
def qT.any {X:Cx}{pins pins':List (Addr×Obj)}{Y Y':St}{Q:Addr->Hp->Prop}{W:Value->Shared->Prop}(h:qT X pins Y false Q W):qT X pins' Y' false Q W:=
 ⟨λ v s' ⟨e,p,q,H',h1,_,h3⟩=>h.xp v s' ⟨e,p,q,H',h1,nofun,h3⟩,h.own⟩
structure tB (X:Cx) (fl:Bool) (st:Stmt) (t:yk):Prop where
 mo:uL t
 px:∀ pins s Y H D Q W,qT X pins Y fl Q W->Inv X pins Y H s->qg X.K t Q D Y H->wpAny (model X.prog X.w) X.A (exec st X.env) (SP X pins D) W s
structure uI (X:Cx) (fl:Bool) (sts:List Stmt) (t:yk):Prop where
 mo:uL t
 px:∀ pins s Y H D Q W,qT X pins Y fl Q W->Inv X pins Y H s->qg X.K t Q D Y H->wpAny (model X.prog X.w) X.A (execs sts X.env) (SP X pins D) W s
section
variable {X:Cx}{fl:Bool}{st:Stmt}{rest:List Stmt}{t u:yk}{pos:Pos}{e:Expr}{te:zx}
def tQ (h:w_ X st t) (ht:∀ E L S,t E L S->t { E with rt:=λ _ _=>False } L S:=by exact λ _ _ _ h=>h) (hn:∀ v s,¬ X.xe v s:=by exact λ _ _ z=>z):tB X fl st t:=by
 refine⟨h.mo,λ pins s Y H D Q W hW I ⟨L,S,r1,r2,z⟩=>za3 (h.ps pins s Y H D I ⟨L,S,r1,r2,h.mo { uA X.K H D Q with rt:=λ _ _=>False } _ L S ⟨λ _ _ q=>q,λ _ _ q=>q.elim,λ _ _ q=>q,λ _ _ q=>q⟩ (ht _ L S z)⟩) (λ _ _ q=>q) λ _ _ z=>(hn _ _ z).elim⟩
def sV:uI X fl [] ip:=⟨λ _ _ _ _ hE h=>hE.nx _ _ h,λ pins s Y H D Q W hW I ⟨L,S,r1,r2,z⟩=>zaI ⟨Y,H,I,z Y H r1 (.refl H) r2⟩⟩
def wB (h:tB X fl st t):uI X fl [st] t:=⟨h.mo,λ pins s Y H D Q W hW I hu=>by
 refine wpAny_execs_cons (zH (h.px pins s Y H D Q W hW I hu) λ f s1 q=>?_)
 cases f with
 | next=>exact zaI q
 | ret v=>exact q
 | brk=>exact q
 | cont=>exact q⟩
def wt (h:tB X false st t) (h':uI X false rest u):uI X false (st::rest) (rC t u):=⟨rC.mo h.mo h'.mo,λ pins s Y H D Q W hW I ⟨L,S,r1,r2,z⟩=>by
 refine wpAny_execs_cons (zH (h.px pins s Y H { D with nx:=qg X.K u Q D } Q W hW I ⟨L,S,r1,r2,h.mo { uA X.K H D Q with nx:=u (uA X.K H D Q) } _ L S ⟨fun L' S' q Y' H' q1 q2 q3=>⟨L',S',q1,q3,h'.mo _ _ L' S' (uA.ext q2) q⟩,λ _ _ q=>q,λ _ _ q=>q,λ _ _ q=>q⟩ z⟩) λ f s1 q=>?_)
 cases f with
 | next=>
  obtain⟨Y',H',I',q⟩:=q
  exact h'.px pins s1 Y' H' D Q W hW.any I' q
 | ret v=>exact q
 | brk=>exact q
 | cont=>exact q⟩
def sW {c:Expr}{p q:List Stmt}{tc:yL}(hc:x9 X c tc) (h:uI X fl p t) (h':uI X fl q u) (hn:∀ v s,¬ X.xe v s:=by exact λ _ _ z=>z):tB X fl (.If c p q pos) (iq tc t u):=by
 refine⟨λ E E' L S hE z=>hc.mo L S _ _ (λ k S1 z=>vh (h.mo _ _ L S1 hE) (h'.mo _ _ L S1 hE) z) z,λ pins s Y H D Q W hW I ⟨L,S,r1,r2,z⟩=>?_⟩
 refine wpAny_If (za3 (hc.pt pins s Y H (λ k H1=>if k=true then qg X.K t Q D Y H1 else qg X.K u Q D Y H1) I (x_.go hc.mo r1 r2 z λ k S1 H1 h1 e1 p1=>vh (λ z=>?_) (λ z=>?_) h1)) (λ k s1 ⟨H1,I1,q1⟩=>?_) λ _ _ z=>(hn _ _ z).elim)
 ·exact⟨L,S1,r1.ext e1,p1,h.mo _ _ L S1 (uA.ext e1) z⟩
 ·exact⟨L,S1,r1.ext e1,p1,h'.mo _ _ L S1 (uA.ext e1) z⟩
 ·cases k with
  | true=>exact h.px pins s1 Y H1 D Q W hW I1 q1
  | false=>exact h'.px pins s1 Y H1 D Q W hW I1 q1
def ij (te:zx):yk:=λ E L S=>te L S λ d S1=>wF d=false/\E.rt d S1
def nV (he:PD X e te) (hn:∀ v s,¬ X.xe v s:=by exact λ _ _ z=>z):tB X fl (.Return (some e) pos) (ij te):=by
 refine⟨λ E E' L S hE z=>he.mo L S _ _ (λ _ _ q=>⟨q.1,hE.rt _ _ q.2⟩) z,λ pins s Y H D Q W hW I ⟨L,S,r1,r2,z⟩=>?_⟩
 exact wpAny_Return_some (za3 (he.pe pins s Y H D.rt I (zU.go he.mo r1 r2 z λ x S1 v H1 h1 q1 e1 p1=>h1.2.1 h1.1 v H1 q1 e1 p1)) (λ v s1 ⟨x,H1,I1,r1,q1⟩=>⟨x,Y,H1,I1,r1,q1⟩) λ _ _ z=>(hn _ _ z).elim)
def Ext.same {H H':Hp}(e:oE H H'):Ext H H':=⟨λ b xs q=>e _ _ q,λ b o u q=>e _ _ q,λ b u q=>e _ _ q,λ b u q=>e _ _ q⟩
def bt (c f:Str) (te:zx):yk:=λ E L S=>te L S λ d S1=>E.rt (.err c f d) S1
def pT {c f:Str}{si:Stmt}{p Ah:Pos}{k:Nat}(G:rT X.K X.mg c f si) (Sh:rS f si) (hr:ye k X.A) (he:PD X e te) (hk:2<=k:=by decide) (hg:Gl X c:=by rfl) (hc:X.calm=true:=by rfl) (AQ:(c == ("__debug__":Str))=false:=by decide)
  (hs:starEach [e] X.env=(false,eval e X.env)::starEach [] X.env:=by rfl) (Ag:(backTo Ah (starEach [] X.env)).any (·.1)=false:=by rfl) (hn:∀ v s,¬ X.xe v s:=by exact λ _ _ z=>z):
  tB X false (.Raise (some (.Call (.Name c p) [e] [] Ah)) none pos) (bt c f te):=by
 refine⟨λ E E' L S hE z=>he.mo L S _ _ (λ _ _ q=>hE.rt _ _ q) z,λ pins s Y H D Q W hW I ⟨L,S,r1,r2,z⟩=>?_⟩
 refine wp_raise G Sh (hr.mono hk) hc hn hg AQ he.pe hs Ag hW.xp I (zU.go he.mo r1 r2 z λ x S1 v H1 h1 q1 e1 p1 a H' sm ⟨C,dx,hE,h2,h3⟩=>?_)
 refine h1.2 rfl a H' ?_ (e1.trans (.same sm)) (p1.same sm)
 simp only[zi]
 exact⟨a,C,dx,v,rfl,⟨hE,h2,h3⟩,zi.ext (.same sm) x q1⟩
end
def gI (K:Aa) (sp:xE):Sp:=λ vs H Q E=>∃ ds S,zm K H ds vs/\zE K H S/\sp ds S (v_ K H Q λ a H'=>E (.ref a) none H')
structure wJ (P:Program) (w:World) (K:Aa) (mg:Str->Option Value) (base:Heap) (x:Str) (k:Nat) (ps:List Str) (sp:xE):Prop where
 ex:∃ (f:Addr) (fd:FuncData),xg P w K mg base (pz P w) k f fd ps (gI K sp)/\mg x=some (.ref f)/\PySem.W.keepIn K (.ref f)=true/\Binds K fd ps []
 mo:qX sp
def md (sp:xE):xE:=λ ds S Q=>sp ds S λ d S'=>wF d=false/\Q d S'
def md.mo {sp:xE}(h:qX sp):qX (md sp):=λ ds S Q Q' hq z=>h ds S _ _ (λ d S' q=>⟨q.1,hq _ _ q.2⟩) z
theorem wJ.fd {P:Program}{w:World}{K:Aa}{mg:Str->Option Value}{base:Heap}{x:Str}{k:Nat}{ps:List Str}{sp:xE}(F:wJ P w K mg base x k ps sp):FD P w K mg base x k ps (md sp):=by
 obtain⟨⟨f,fd,h1,h2⟩,hm⟩:=F
 refine⟨⟨f,fd,(xg.never h1).imp λ vs H Q E ⟨ds,S,r1,r2,z⟩=>⟨ds,S,r1,r2,hm ds S _ _ (λ d S' q=>⟨λ _=>q.2,λ z=>?_⟩) z⟩,h2⟩,md.mo hm⟩
 rw[q.1] at z;cases z
section
variable {X:Cx}{fl:Bool}{pos Ah p:Pos}{e:Expr}{es:List Expr}{tA:yb}{x:Str}{k:Nat}{ps:List Str}{sp:xE}
def g9 {pins:List (Addr×Obj)}{s:Shared}{Y:St}{H:Hp}{Q:Addr->Hp->Prop}{W:Value->Shared->Prop}{R:DK}{RV:VK}{L:yc}{S:SS}(F:wJ X.prog X.w X.K X.mg X.base x k ps sp) (hr:ye k X.A) (ha:xA X (e::es) tA) (hg:Gl X x) (AQ:(x == ("__debug__":Str))=false)
  (he:starEach (e::es) X.env=(false,eval e X.env)::starEach es X.env) (Ag:(backTo Ah (starEach es X.env)).any (·.1)=false) (hn:∀ v s,¬ X.xe v s) (hW:qT X pins Y fl Q W) (I:Inv X pins Y H s) (r1:yp X.K H L Y) (r2:zE X.K H S)
  (z:tA L S λ ds S1=>sp ds S1 R) (hR:∀ d S',R d S'->v_ X.K H RV Q d S'):
  wpAny (model X.prog X.w) X.A (eval (.Call (.Name x p) (e::es) [] Ah) X.env) (EP X pins Y RV) W s:=by
 obtain⟨⟨f,fd,h1,h2,h3,h4⟩,hm⟩:=F
 refine Zp (Qx:=Q) h1 hr hg h2 h3 h4 hn ha.pa AQ he Ag hW.xp I (xJ.go ha.mo r1 r2 z λ ds S1 xs H1 z1 q1 e1 p1=>⟨ds,S1,q1,p1,hm ds S1 _ _ (λ d S' q=>?_) z1⟩)
 have q':=v_.ext e1 (hR d S' q)
 exact⟨q'.1,λ y a H' c1 c2 c3=>⟨a,rfl,q'.2 y a H' c1 c2 c3⟩⟩
def bh (sp:xE) (tA:yb):yk:=λ E L S=>tA L S λ ds S1=>sp ds S1 λ d S2=>(wF d=true->E.rt d S2)/\(wF d=false->E.nx L S2)
def bj (i:Nat) (sp:xE) (tA:yb):yk:=λ E L S=>tA L S λ ds S1=>sp ds S1 λ d S2=>(wF d=true->E.rt d S2)/\(wF d=false->E.nx (L.set i (some d)) S2)
variable (F:wJ X.prog X.w X.K X.mg X.base x k ps sp)
include F
theorem kW {k':Nat}(hr:ye k' X.A) (ha:xA X (e::es) tA) (hk:k<=k':=by decide) (hg:Gl X x:=by rfl) (AQ:(x == ("__debug__":Str))=false:=by decide)
  (he:starEach (e::es) X.env=(false,eval e X.env)::starEach es X.env:=by rfl) (Ag:(backTo Ah (starEach es X.env)).any (·.1)=false:=by rfl) (hn:∀ v s,¬ X.xe v s:=by exact λ _ _ z=>z) (hs:swapsWith (.Call (.Name x p) (e::es) [] Ah) none pos.line X.env=pure false:=by rfl):
  tB X fl (.Expr (.Call (.Name x p) (e::es) [] Ah) pos) (bh sp tA):=by
 refine⟨λ E E' L S hE z=>ha.mo L S _ _ (λ ds S1 z=>F.mo ds S1 _ _ (λ d S2 q=>⟨λ y=>hE.rt _ _ (q.1 y),λ y=>hE.nx _ _ (q.2 y)⟩) z) z,λ pins s Y H D Q W hW I ⟨L,S,r1,r2,z⟩=>?_⟩
 refine wpAny_Expr_any (zH (g9 (RV:=λ _ H'=>D.nx Y H') F (hr.mono hk) ha hg AQ he Ag hn hW I r1 r2 z λ d S' q=>⟨λ y v H' a1 a2 a3=>q.2 y Y H' (r1.ext a2) a2 a3,λ y=>(q.1 y).2 y⟩) λ v s1 ⟨x,H1,I1,_,q1⟩=>⟨Y,H1,I1,q1⟩) I.quiet hs
theorem kX {k' i:Nat}{y:Str}{py:Pos}(hN:X.N.Nodup) (hr:ye k' X.A) (ha:xA X (e::es) tA) (hi:X.N[i]?=some y:=by rfl) (hx:Loc X.env.scope y:=by first | exact Or.inl rfl | exact Or.inr rfl) (hf:X.fn y=true\/X.env.scope.names.lookup y=some .local:=by first | exact .inl rfl | exact .inr rfl | assumption) (hk:k<=k':=by decide) (hg:Gl X x:=by rfl) (AQ:(x == ("__debug__":Str))=false:=by decide)
  (he:starEach (e::es) X.env=(false,eval e X.env)::starEach es X.env:=by rfl) (Ag:(backTo Ah (starEach es X.env)).any (·.1)=false:=by rfl) (hn:∀ v s,¬ X.xe v s:=by exact λ _ _ z=>z) (hs:swapsWith (.Call (.Name x p) (e::es) [] Ah) (some (.Name y py)) pos.line X.env=pure false:=by rfl):
  tB X fl (.Assign [.Name y py] (.Call (.Name x p) (e::es) [] Ah) pos) (bj i sp tA):=by
 refine⟨λ E E' L S hE z=>ha.mo L S _ _ (λ ds S1 z=>F.mo ds S1 _ _ (λ d S2 q=>⟨λ y=>hE.rt _ _ (q.1 y),λ y=>hE.nx _ _ (q.2 y)⟩) z) z,λ pins s Y H D Q W hW I ⟨L,S,r1,r2,z⟩=>?_⟩
 refine wpAny_Assign_Name (zH (g9 (RV:=λ v H'=>D.nx (Y.set i (some v)) H') F (hr.mono hk) ha hg AQ he Ag hn hW I r1 r2 z λ d S' q=>⟨λ y v H' a1 a2 a3=>q.2 y _ H' ((r1.ext a2).set i a1) a2 a3,λ y=>(q.1 y).2 y⟩) λ v s1 ⟨x,H1,I1,r,q1⟩=>?_) hs
 exact pE I1 hN hi hx r (λ s2 I2=>⟨_,H1,I2,q1⟩) hf
end
section
variable {P:Program}{w:World}{K:Aa}{mg:Str->Option Value}{base:Heap}
def fnX {x qual:Str}{st:Stmt}{f:Addr}{fd:FuncData}{N ps:List Str}{k:Nat}{sp:xE}(F:wI K x qual st f fd) (Sc:yd N ps (zB st)) (len:∀ ds S Q,sp ds S Q->ds.length=ps.length)
  (hbody:∀ (Ac:Value) (A:Around) (outer:List Env) (s:Shared) (H:Hp) (E:XK),ye k (A.deeper (envOfC qual (zB st) s.heap.objs.size f Ac))->
   ∃ t,uI (xX xv P w K mg base N qual (zB st) f Ac A outer s H E).ve false (xo st) t/\∀ ds S Q,sp ds S Q->t { nx:=λ _ S'=>Q .zg S',rt:=Q } (vO N ds) S):
  xg P w K mg base (pz P w) (k+1) f fd ps (gI K sp):=by
 obtain⟨oc,od,kV,doc,pm,an,Ac,ct,osl,rfl,lk,AR⟩:=F.ex
 refine cG lk AR Sc (λ vs H Q E ⟨ds,S,r1,_,z⟩=>by rw[<- r1.length];exact len _ _ _ z) λ A outer s H vs Q E hr BE=>⟨λ D Y H'=>D={ nx:=λ _ H'=>Q .zg H',rt:=Q }/\Y=start N vs/\H'=H,λ pins s1 Y H' D I ⟨e1,e2,e3⟩=>?_,rfl,rfl,rfl⟩
 subst e1 e2 e3
 obtain⟨t,hp,ht⟩:=hbody Ac A outer s H' E hr
 obtain⟨ds,S,r1,r2,z⟩:=BE
 have cv:∀ {pins:List (Addr×Obj)}{Y':St}{H'':Hp}{s':Shared},Inv (xX xv P w K mg base N qual (zB st) f Ac A outer s H' E).ve pins Y' H'' s'->Inv (xX (pz P w) P w K mg base N qual (zB st) f Ac A outer s H' E) pins Y' H'' s':=λ J=>
  ⟨I.ok,J.os,J.bare,J.base,J.loc,J.cell,J.free,J.wG,J.pin,J.zu,J.len⟩
 have ok0:(xX xv P w K mg base N qual (zB st) f Ac A outer s H' E).ve.Ok:=⟨I.ok.mod,I.ok.kind,I.ok.glob,I.ok.blt,I.ok.above,I.ok.inj,I.ok.has,I.ok.rF,I.ok.hd,I.ok.frames,I.ok.qh,I.ok.ou,I.ok.bs,I.ok.uE,I.ok.rm,I.ok.rA,I.ok.wU,I.ok.tj⟩
 have I0:Inv (xX xv P w K mg base N qual (zB st) f Ac A outer s H' E).ve pins (start N vs) H' s1:=⟨ok0,I.os,I.bare,I.base,I.loc,I.cell,I.free,I.wG,I.pin,I.zu,I.len⟩
 refine za3 (hp.px pins s1 (start N vs) H' { nx:=λ _ H'=>Q .zg H',rt:=Q } (λ e H2=>∀ T,H2 T=none->E (.ref e) none (upd H2 T (xQ T))) (xX (pz P w) P w K mg base N qual (zB st) f Ac A outer s H' E).xe ⟨λ v s' ⟨e,pins',Y',H2,ev,_,J,ie,hf,q⟩=>?_,λ _=>PassesOwn.leaving⟩ I0
  ⟨vO N ds,S,yp.init r1,r2,hp.mo { nx:=λ _ S'=>v_ K H' Q (λ a H2=>E (.ref a) none H2) .zg S',rt:=v_ K H' Q λ a H2=>E (.ref a) none H2 } _ _ S ⟨fun L S' q Y2 H2 a1 a2 a3=>q.1 rfl .zg H2 (by simp only[zi]) a2 a3,λ d S' q=>⟨q.1,λ y a H2 a1 a2 a3 T hT=>?_⟩,λ _ _ q=>q.elim,λ _ _ q=>q.elim⟩ (ht ds S _ z)⟩) (λ fl s' q=>?_) λ _ _ z=>z
 ·subst ev
  have J':=cv J
  refine Td J' rfl rfl ie (hf.imp And.right id) λ h' T hT un zu f1=>?_
  obtain⟨C,dx,hE⟩:=ie
  exact⟨e,_,rfl,J'.os,J'.bare,Un.out J'.base un (zaQ (Ad _)),zu,⟨C,dx,by rw[zN (xm hE hT)];exact hE⟩,f1,q T hT⟩
 ·have xT:Ext H2 (upd H2 T (xQ T)):=.new hT _
  exact q.2 y a _ (zi.ext xT d a1) (a2.trans xT) (a3.keep xT λ b u o _ c=>by rw[zN (xm c hT)];exact c)
 ·cases fl with
  | ret u=>obtain⟨v,Y',H',J,r,q⟩:=q;exact⟨v,Y',H',cv J,r,q⟩
  | _=>obtain⟨Y',H',J,q⟩:=q;exact⟨Y',H',cv J,q⟩
end
def yp.hole {K:Aa}{H:Hp}{L:yc}{Y:St}(i:Nat) (r:yp K H L Y):yp K H (L.set i none) (Y.set i none):=by
 refine⟨by rw[Ce,Ce];exact r.1,λ j c hc=>?_⟩
 rw[Cd] at hc ⊢
 by_cases hj:i=j
 ·subst hj
  rw[if_pos rfl] at hc
  split at hc <;> cases hc
 ·rw[if_neg hj] at hc ⊢
  exact r.2 j c hc
def bp (i j:Nat) (t:yk):yk:=λ E L S=>t ⟨E.nx,λ d S'=>wF d=true/\E.nx (((L.set i (some d)).set j (some d)).set i none) S',λ _ _=>False,λ _ _=>False⟩ L S
def We {X:Cx}{t:yk}(i j:Nat) {n c:Str}{body:List Stmt}{p1 p2 p3 p4 B7 pos:Pos}(hN:X.N.Nodup) (hb:uI X true body t) (AV:i≠j:=by decide) (hi:X.N[i]?=some n:=by rfl) (hj:X.N[j]?=some c:=by rfl)
  (hg:Gl X "PurseError":=by rfl) (Bm:X.env.kindOf n=some .local:=by rfl) (DC:Loc X.env.scope c:=by first | exact Or.inl rfl | exact Or.inr rfl) (DY:X.fn c=true\/X.env.scope.names.lookup c=some .local:=by first | exact .inl rfl | exact .inr rfl)
  (Bs:(n == ("__debug__":Str))=false:=by decide) (Bx:(n == ("__classdict__":Str))=false:=by decide) (B5:swapsWith (.Name n p3) (some (.Name c p2)) p4.line X.env=pure false:=by rfl)
  (Aw:X.stack=X.env::X.outer:=by rfl) (AI:X.env.frame=some X.env.locals:=by rfl) (hn:∀ v s,¬ X.xe v s:=by exact λ _ _ z=>z):
  w_ X (.Try body [.ExceptHandler (some (.Name "PurseError" p1)) (some n) [.Assign [.Name c p2] (.Name n p3) p4] B7] [] [] pos) (bp i j t):=by
 refine⟨λ E E' L S hE z=>hb.mo ⟨E.nx,λ d S'=>wF d=true/\E.nx (((L.set i (some d)).set j (some d)).set i none) S',λ _ _=>False,λ _ _=>False⟩ ⟨E'.nx,λ d S'=>wF d=true/\E'.nx (((L.set i (some d)).set j (some d)).set i none) S',λ _ _=>False,λ _ _=>False⟩ L S ⟨hE.nx,λ d S' q=>⟨q.1,hE.nx _ _ q.2⟩,λ _ _ q=>q,λ _ _ q=>q⟩ z,λ pins s Y H D I ⟨L,S,r1,r2,z⟩=>?_⟩
 refine Zo (Qx:=λ a H'=>∃ d S',wF d=true/\zi X.K H' d (.ref a)/\Ext H H'/\zE X.K H' S'/\(vH X.K H D).nx (((L.set i (some d)).set j (some d)).set i none) S') hn Aw AI hg hN hi Bm hj DC DY AV Bs Bx B5 I
  (hb.px pins s Y H D _ _ ⟨λ _ _ q=>q,nofun⟩ I ⟨L,S,r1,r2,hb.mo ⟨(vH X.K H D).nx,λ d S'=>wF d=true/\(vH X.K H D).nx (((L.set i (some d)).set j (some d)).set i none) S',λ _ _=>False,λ _ _=>False⟩ _ L S ⟨λ _ _ q=>q,λ d S' q=>⟨λ y=>?_,λ y a H' a1 a2 a3=>⟨d,S',y,a1,a2,a3,q.2⟩⟩,λ _ _ q=>q.elim,λ _ _ q=>q.elim⟩ z⟩) λ a H' ⟨d,S',hd,a1,a2,a3,q⟩=>⟨?_,λ T hT=>?_⟩
 ·rw[q.1] at y;cases y
 ·cases d with
  | err cn f x=>
   simp only[zi] at a1
   obtain⟨e,C,dx,w,e1,⟨h1,h2,h3⟩,_⟩:=a1
   cases e1
   exact⟨cn,C,dx,h1,h2⟩
  | _=>cases hd
 ·have xT:Ext H' (upd H' T (xQ T)):=.new hT _
  have rd:=zi.ext xT d a1
  exact q _ _ ((((r1.ext (a2.trans xT)).set i rd).set j rd).hole i) (a2.trans xT) (a3.keep xT λ b u o _ c=>by rw[zN (xm c hT)];exact c)
end L3
namespace L5
open PySem PySem.Spec L2 L3
open PyProof.Rows hiding St
noncomputable def yC:T->Bool
 | .err _ _ _=>true
 | _=>false
@[simp] theorem zai (c f:Str) (t:T):yC (.err c f t)=true:=rfl
@[simp] theorem zaf:yC .zg=false:=rfl
@[simp] theorem zak (b:Bool):yC (.bl b)=false:=rfl
@[simp] theorem zah (b:Int):yC (.int b)=false:=rfl
@[simp] theorem zae (b:Str):yC (.str b)=false:=rfl
@[simp] theorem zad (b:List T):yC (.tup b)=false:=rfl
@[simp] theorem zag (b:List T):yC (.lst b)=false:=rfl
@[simp] theorem zaj:yC .yP=false:=rfl
def sM {S:SS}{y:T}{d:D}(h:Sn S y d):wF d=yC y:=by
 cases y with
 | tup _=>simp only[Sn] at h;obtain⟨_,h,_⟩:=h;subst h;rfl
 | lst _=>
  simp only[Sn] at h
  obtain⟨_,h | ⟨_,h,_⟩,_⟩:=h
  ·rw[h.1];rfl
  ·subst h;rfl
 | yP=>simp only[Sn] at h;obtain⟨_,_,⟨h,_⟩,_⟩:=h;subst h;rfl
 | err _ _ _=>simp only[Sn] at h;obtain⟨_,h,_⟩:=h;subst h;rfl
 | _=>simp only[Sn] at h;subst h;rfl
def Rb {y:T}(h:yC y=true):∀ ts,y≠.lst ts:=λ ts e=>by subst e;cases h
@[simp] noncomputable def ql (c f:Str) (g:Ev->Option T):Sm:=fun J=>(g J).map λ y=>.rt (.err c f y)
@[simp] def nP (g:Ev->Option T):Sm:=fun J=>(g J).bind λ y=>if yC y=true then none else some (.rt y)
@[simp] def oY (F:List T->Option T) (g:Ev->Option (List T)):Sm:=fun J=>(g J).bind λ ys=>(F ys).map λ y=>if yC y=true then .rt y else .nx J
@[simp] def oZ (i:Nat) (F:List T->Option T) (g:Ev->Option (List T)):Sm:=fun J=>(g J).bind λ ys=>(F ys).map λ y=>if yC y=true then .rt y else .nx (J.set i (some (.im y)))
@[simp] def gP (i j:Nat) (g:Sm):Sm:=fun J=>(g J).bind λ o=>match o with
 | .nx J'=>some (.nx J')
 | .rt y=>if yC y=true then some (.nx (((J.set i none).set j (some (.im y))).set i none)) else none
 | _=>none
@[simp] def js (F:List T->Option T):List T->Option T:=λ ys=>(F ys).bind λ y=>if yC y=true then none else some y
section
variable {R:Rk}{g h:Sm}{t:yk}{f:Ev->Option T}{te:zx}{S0 S:SS}{Z0 Z:Addr->Prop}{L:yc}{J:Ev}
def W_ [Cl R] {c x:Str}(hf:vL f te):ym R (ql c x f) (bt c x te):=λ S0 Z0 S Z L J o E F e P=>by
 obtain⟨y,e1,rfl⟩:=Au.mp e
 refine hf S Z L J y _ F.er e1 λ d S1 s1 r1=>P _ S1 (F.sx.trans s1) (Cl.of (λ _=>nofun) ?_)
 simp only[Sn]
 exact⟨d,rfl,Sn.sx (vV F.zz) y r1⟩
def Va [Sr R] (hf:xB R f te):ym R (nP f) (ij te):=λ S0 Z0 S Z L J o E F e P=>by
 obtain⟨y,e1,e2⟩:=Af.mp e
 split at e2
 ·cases e2
 ·rename_i hy
  cases e2
  exact hf S Z L J y _ F.er e1 λ d S1 s1 r1=>⟨by rw[sM (Sr.sn r1)];simpa using hy,P d S1 (F.sx.trans s1) (Lo.lo F.sx F.zz r1)⟩
def de (i:Nat):ym zK (pP i) (ij (xk i)):=λ S0 Z0 S Z L J o E F e P=>by
 have q:=jk i S0 Z0 S Z L J o E F e P
 unfold pP at e
 split at e
 ·rename_i ts h
  obtain⟨p,ob,h1,_⟩:=F.er.ow i _ h
  have q':xk i L S E.rt:=q
  show xk i L S λ d S1=>wF d=false/\E.rt d S1
  unfold xk at q' ⊢
  rw[h1] at q' ⊢
  exact⟨rfl,q'⟩
 ·cases e
def Qj (S0:SS) (Z0:Addr->Prop) (S:SS) (Z:Addr->Prop) (o:Out) (E:sG):Prop:=match o with
 | .nx J'=>∀ S' Z' L',FR S0 Z0 S' Z' L' J'->E.nx L' S'
 | .rt y=>yC y=true->∀ d S',Sx S S'->Sn (zQ S' Z) y d->E.rt d S'
 | _=>True
def qW (g:Sm) (t:yk):Prop:=∀ S0 Z0 S Z L J o E,FR S0 Z0 S Z L J->g J=some o->Qj S0 Z0 S Z o E->t E L S
theorem qW.s [Cl R] (h:qW g t):ym R g t:=λ S0 Z0 S Z L J o E F e P=>by
 refine h S0 Z0 S Z L J o E F e ?_
 cases o with
 | nx J'=>exact P
 | rt y=>exact λ hy d S' s r=>P d S' (F.sx.trans s) (Cl.of (Rb hy) (Sn.sx (vV F.zz) y r))
 | _=>trivial
def df [Sr R] {F:List T->Option T}{ga:Ev->Option (List T)}{ua:yb}(h:sA ga ua):qW (oY F ga) (bh (zO R F) ua):=λ S0 Z0 S Z L J o E Fr e P=>by
 obtain⟨ys,e1,e2⟩:=Af.mp e
 obtain⟨y,e3,rfl⟩:=Au.mp e2
 refine h S Z L J ys _ Fr.er e1 λ ds S1 s1 r1=>⟨Z,ys,y,(Fr.er.grow s1).zd,r1,e3,λ d S2 s2 r2=>⟨λ he=>?_,λ he=>?_⟩⟩
 ·rw[sM (Sr.sn r2)] at he
  rw[if_pos he] at P
  exact P he d S2 (s1.trans s2) (Sr.sn r2)
 ·rw[sM (Sr.sn r2)] at he
  rw[if_neg (by rw[he];decide)] at P
  exact P S2 Z L (Fr.grow (s1.trans s2))
def dg [Sr R] (i:Nat) {F:List T->Option T}{ga:Ev->Option (List T)}{ua:yb}(h:sA ga ua):qW (oZ i F ga) (bj i (zO R F) ua):=λ S0 Z0 S Z L J o E Fr e P=>by
 obtain⟨ys,e1,e2⟩:=Af.mp e
 obtain⟨y,e3,rfl⟩:=Au.mp e2
 refine h S Z L J ys _ Fr.er e1 λ ds S1 s1 r1=>⟨Z,ys,y,(Fr.er.grow s1).zd,r1,e3,λ d S2 s2 r2=>⟨λ he=>?_,λ he=>?_⟩⟩
 ·rw[sM (Sr.sn r2)] at he
  rw[if_pos he] at P
  exact P he d S2 (s1.trans s2) (Sr.sn r2)
 ·rw[sM (Sr.sn r2)] at he
  rw[if_neg (by rw[he];decide)] at P
  exact P S2 Z _ ((Fr.grow (s1.trans s2)).sN i (Sr.sn r2))
def FR.hole (h:FR S0 Z0 S Z L J) (i:Nat) (v:Option D):FR S0 Z0 S Z (L.set i v) (J.set i none):=by
 refine⟨⟨h.er.zd,λ j t e=>?_,λ j ts e=>?_⟩,by simp[h.len],h.sx,h.z0,h.zz,h.zn,λ j ts p e e'=>?_,λ j k ts us p n e1 e2 e3 e4=>?_⟩
 ·rcases yt e with ⟨rfl,hl,e⟩ | ⟨n,e⟩
  ·cases e
  ·rw[xy n];exact h.er.im j t e
 ·rcases yt e with ⟨rfl,hl,e⟩ | ⟨n,e⟩
  ·cases e
  ·rw[xy n];exact h.er.ow j ts e
 ·rcases yt e with ⟨rfl,hl,e⟩ | ⟨n,e⟩
  ·cases e
  ·rw[xy n] at e';exact h.fr j ts p e e'
 ·rcases yt e1 with ⟨rfl,hl,e⟩ | ⟨n1,e1⟩
  ·cases e
  rcases yt e2 with ⟨rfl,hl,e⟩ | ⟨n2,e2⟩
  ·cases e
  rw[xy n1] at e3;rw[xy n2] at e4
  exact h.dj j k ts us p n e1 e2 e3 e4
def WW (i j:Nat) (hg:qW g t):ym R (gP i j g) (bp i j t):=λ S0 Z0 S Z L J o E F e P=>by
 obtain⟨o1,e1,e2⟩:=Af.mp e
 refine hg S0 Z0 S Z L J o1 _ F e1 ?_
 cases o1 with
 | nx J'=>cases e2;exact P
 | rt y=>
  dsimp only at e2 ⊢
  split at e2
  ·rename_i hy
   cases e2
   exact λ _ d S' s r=>⟨by rw[sM r];exact hy,P S' Z _ ((((F.grow s).hole i (some d)).sN j r).hole i none)⟩
  ·cases e2
 | _=>trivial
end
section
variable {P:Program}{w:World}{K:Aa}{mg:Str->Option Value}{base:Heap}{x:Str}{st:Stmt}
def qM {R:Rk} [Lo R] {N ps:List Str}{k n:Nat}{g:Sm}(F:Fy K mg x st) (Sc:yd N ps (zB st)) (hn:n=ps.length)
  (hb:∀ (kV doc pm:Value) (an:Option Addr) (Ac ct:Value) (us:List Value),us.length=ps.length->bindArgs (PySem.W.fnOf x x (vj st) (xo st) (zB st) .none kV doc pm an Ac ct) ⟨us,[]⟩=pure (ps.zip us))
  (hbody:∀ (f:Addr) (Ac:Value) (A:Around) (outer:List Env) (s:Shared) (H:Hp) (E:XK),ye k (A.deeper (envOfC x (zB st) s.heap.objs.size f Ac))->
   ∃ t,uI (xX xv P w K mg base N x (zB st) f Ac A outer s H E).ve false (xo st) t/\ym R g t):wJ P w K mg base x (k+1) ps (zO R (ya N n g)):=by
 obtain⟨f,fd,F,hm⟩:=F
 refine⟨⟨f,fd,fnX F Sc (λ ds S Q h=>by rw[h.len,hn]) λ Ac A outer s H E hr=>?_,hm,F.kp,F.binds hb⟩,zO.mo⟩
 obtain⟨t,h1,h2⟩:=hbody f Ac A outer s H E hr
 exact⟨t,h1,λ ds S Q h=>bJ h2 h⟩
def wJ.no {R:Rk} [Sr R] {k:Nat}{ps:List Str}{F:List T->Option T}(G:wJ P w K mg base x k ps (zO R F)):FD P w K mg base x k ps (zO R (js F)):=by
 obtain⟨⟨f,fd,h1,h2⟩,hm⟩:=G.fd
 refine⟨⟨f,fd,h1.imp λ vs H Q E ⟨ds,S,r1,r2,Z,ys,y,a1,a2,a3,a4⟩=>⟨ds,S,r1,r2,?_⟩,h2⟩,zO.mo⟩
 obtain⟨z,b1,b2⟩:=Af.mp a3
 split at b2
 ·cases b2
 ·rename_i hy
  cases b2
  exact⟨Z,ys,y,a1,a2,b1,λ d S' s r=>⟨by rw[sM (Sr.sn r)];simpa using hy,a4 d S' s r⟩⟩
end
end L5
namespace L3
open PySem PySem.Spec L2
open PyProof.Rows hiding St
def SP.Zq {X:Cx}{pins:List (Addr×Obj)}{W:Value->Shared->Prop}{D:Ends}{f:Flow}{s':Shared}(h:SP X pins D f s'):SP (X.xI W) pins D f s':=by
 cases f with
 | ret u=>obtain⟨v,Y',H',I,r,q⟩:=h;exact⟨v,Y',H',I.xI _,r,q⟩
 | _=>obtain⟨Y',H',I,q⟩:=h;exact⟨Y',H',I.xI _,q⟩
def Wb {X:Cx}{tg iter:Expr}{body:List Stmt}{ti:xY}{g:yU}{tb:yk}{pos:Pos}(hc:X.calm=true) (hi:∀ W,uJ (X.xI W) tg iter ti) (hg:∀ W,uK (X.xI W) tg g) (hb:uI X false body tb)
  (hs:∀ x,foldedSetIterable iter X.env x=pure x:=by intro _;rfl):tB X false (.For tg iter body [] pos) (rE ti g tb):=by
 refine⟨rE.mo (hi X.xe).mo (hg X.xe).mo hb.mo,λ pins s Y H D Q W hW I ⟨L,S,r1,r2,z⟩=>?_⟩
 have bs:xF (X.xI W) body (qg X.K tb Q):=λ pins s Y H D I hu=>za3 (hb.px pins s Y H D Q W hW.any I.tK hu) (λ _ _ q=>SP.Zq q) λ _ _ z=>z
 refine za3 (e9 (X:=X.xI W) (hW.own rfl) hc (hi W).pi (hg W).pg bs hs pins s Y H D (I.xI W) ?_) (λ _ _ q=>SP.tK q) λ _ _ z=>z
 refine⟨L,S,r1,r2,(hi W).mo L S _ _ (λ I S1 hW J H1 e1 p1 rep=>?_) z⟩
 obtain⟨W,w0,wk,ws,wd⟩:=hW
 refine⟨λ i m Y H2=>m=I.items.length-i/\i<=I.items.length/\Ext H1 H2/\∃ L S,yp X.K H2 L Y/\zE X.K H2 S/\W i L S,⟨_,rfl,AM _,.refl _,L,S1,r1.ext e1,p1,w0⟩,?_⟩
 rintro i m Y2 H2 ⟨rfl,hi',x2,L2,S2,q1,q2,w2⟩
 obtain⟨g1,g2⟩:=rep i H2 S2 x2 q2 (wk i L2 S2 w2)
 by_cases hl:i<I.items.length
 ·have hd:I.items[i]?=some I.items[i]:=by simp[hl]
  obtain⟨go,yl⟩:=g1 _ hd
  refine .inr ⟨go,fun Y' H'=>Ext H1 H'/\∃ L S,yp X.K H' L Y'/\zE X.K H' S/\W (i+1) L S,fun Y' H' q=>⟨_,by lia,rfl,hl,q⟩,λ x H3 hy=>?_⟩
  obtain⟨x3,p3,d3⟩:=yl x H3 hy
  refine⟨_,L2,S2,d3,q1.ext x3,p3,(hg X.xe).mo _ L2 S2 _ _ (fun L4 S4 z4 Y4 H4 a1 a2 a3=>?_) (ws i _ L2 S2 hd w2)⟩
  refine⟨L4,S4,a1,a3,hb.mo _ _ L4 S4 ⟨fun L5 S5 w5 Y5 H5 b1 b2 b3=>⟨((x2.trans x3).trans a2).trans b2,L5,S5,b1,b3,w5⟩,λ _ _ q=>v_.ext (((e1.trans x2).trans x3).trans a2) q,λ _ _ q=>xn.ext (((e1.trans x2).trans x3).trans a2) q,fun L5 S5 w5 Y5 H5 b1 b2 b3=>⟨((x2.trans x3).trans a2).trans b2,L5,S5,b1,b3,w5⟩⟩ z4⟩
 ·have e:i=I.items.length:=by lia
  subst e
  exact .inl ⟨g2 (Ad _),wd L2 S2 w2 Y2 H2 q1 (e1.trans x2) q2⟩
structure iL (K:Aa) (cn:Str) (D:Addr):Prop where
 top:PySem.W.nsIn K mainGlobals cn=some (some (.ref D))
 own:∃ bm N,sy K cn D bm N
noncomputable def UH (o:Obj):Option Str:=match o.data with
 | .cls cd=>some cd.name
 | _=>none
def sy.nm {K:Aa}{c:Str}{C N:Addr}{bm:List Value}(h:sy K c C bm N):(K.lookup C).bind UH=some c:=by
 obtain⟨⟨q,bs,sn,sub,ab,col,dd,k0,k1,k2,k3,k5,e⟩,_⟩:=h
 rw[e];rfl
def TC {K:Aa}{c cn:Str}{C P N NP D:Addr}(E:sF K c C P N NP) (G:iL K cn D):(Value.ref C::.ref P::vn).contains (.ref D)=(decide (cn=c)||decide (cn="PurseError")):=by
 obtain⟨bm,N',g⟩:=G.own
 by_cases h1:cn=c
 ·subst h1
  have:=G.top.symm.trans E.top
  cases this
  simp
 ·by_cases h2:cn="PurseError"
  ·subst h2
   have:=G.top.symm.trans E.nS
   cases this
   simp
  ·have d1:D≠C:=λ z=>by
    subst z
    have:=g.nm.symm.trans E.own.nm
    cases this;exact h1 rfl
   have d2:D≠P:=λ z=>by
    subst z
    have:=g.nm.symm.trans E.par.nm
    cases this;exact h2 rfl
   have b1:(Value.ref D == Value.ref C)=false:=by simpa using d1
   have b2:(Value.ref D == Value.ref P)=false:=by simpa using d2
   rw[A4,A4,b1,b2,za7 h1,za7 h2]
   rfl
inductive la (K:Aa) (c:Str):V->Bool->Prop where
 | own {cn:Str}{D:Addr}(g:iL K cn D):la K c (.ref D) (decide (cn=c)||decide (cn="PurseError"))
 | val:la K c (.ty "ValueError") true
def RI {X:Cx}:yW X (.builtin "isinstance") (λ xs H Q=>∃ e C dx c k b,xs=[.ref e,k]/\H e=some (wz e C dx)/\uk X.K c C/\la X.K c k b/\Q (.bl b) H):=by
 intro pins s Y H xs us Q I r h
 obtain⟨e,C,dx,c,k,b,rfl,h1,⟨P,N,NP,h2⟩,h3,q⟩:=h
 cases r with
 | cons ra rb=>
 cases rb with
 | cons rb rc=>
 cases rc
 rename_i u1 u2
 obtain rfl:u1=Value.ref e:=ra
 obtain⟨hh,g,d,t,os⟩:=s
 obtain⟨⟨oe,vs,he,hc,Cp,Cq⟩,_⟩:=I.zu e _ h1
 cases h3 with
 | @own cn D G=>
  obtain rfl:u2=Value.ref D:=rb
  obtain⟨bm,N',o⟩:=id G.own
  obtain⟨⟨q1,bs,sn,sub,ab,col,dd,k0,k1,k2,k3,k5,hD⟩,_⟩:=o.at I.y8
  refine gw (b:=(Value.ref C::.ref P::vn).contains (.ref D)) (λ prog w A Q' E hq=>Zh (h2.gu I.y8) he hc hD rfl rfl hq) λ t'=>⟨.bl _,H,I.tok t',rfl,?_⟩
  rw[TC h2 G];exact q
 | val=>
  obtain rfl:u2=Value.type "ValueError":=rb
  exact gw (b:=true) (λ prog w A Q' E hq=>Zg (T:="ValueError") (h2.gu I.y8) he hc (by kernel_rfl) hq) λ t'=>⟨.bl _,H,I.tok t',rfl,q⟩
def mE (k:Str->Bool) (te:zx):zx:=fun L S Q=>te L S λ x S1=>match x with
 | .err c _ _=>Q (.bl (k c)) S1
 | _=>False
def bz (f:Str) (te:zx):zx:=fun L S Q=>te L S λ x S1=>match x with
 | .err _ f' d=>f'=f/\Q d S1
 | _=>False
section
variable {X:Cx}{e:Expr}{te:zx}{p q pos:Pos}
def eO {cn:Str}{V0:V}{k:Str->Bool}(hk:∀ c,la X.K c V0 (k c)) (hp:PE X (.Name cn q) (tC V0)) (T:Bt X.mg) (he:PD X e te) (hg:Gl X "isinstance":=by rfl) (h1:starEach (e::[.Name cn q]) X.env=(false,eval e X.env)::starEach [.Name cn q] X.env:=by rfl) (h2:(backTo pos (starEach [.Name cn q] X.env)).any (·.1)=false:=by rfl) (h3:starEach [.Name cn q] X.env=(false,eval (.Name cn q) X.env)::starEach [] X.env:=by rfl):
  PD X (.Call (.Name "isinstance" p) [e,.Name cn q] [] pos) (mE k te):=by
 refine⟨fun L S Q Q' hq z=>he.mo L S _ _ (λ y S1 z=>?_) z,PE.imp (qq RI hg T.isinstance boot_isinstance (tW he.pe (tW hp qx h3) h1) (by decide) (by decide) h1 h2) fun Y H Q hu=>?_⟩
 ·split at z
  ·exact hq _ _ z
  ·exact z.elim
 ·obtain⟨L,S,r1,r2,z⟩:=hu
  refine zU.go he.mo r1 r2 z λ x S1 v H1 h1 q1 e1 p1=>?_
  cases x with
  | err c f d=>
   simp only[zi] at q1
   obtain⟨a,C,dx,w,rfl,⟨hE,h2,h3⟩,_⟩:=q1
   exact⟨a,C,dx,c,V0,k c,rfl,h2,hE,hk c,h1 _ H1 (by simp only[zi]) e1 p1⟩
  | _=>exact h1.elim
def eP {f:Str}(he:PD X e te) (hf:f∈sf:=by simp) (hb:attributeBase e f X.env (eval e X.env)=eval e X.env:=by rfl):PD X (.Attribute e f pos) (bz f te):=by
 refine⟨fun L S Q Q' hq z=>he.mo L S _ _ (λ y S1 z=>?_) z,λ pins s Y H Q I hu=>?_⟩
 ·split at z
  ·exact⟨z.1,hq _ _ z.2⟩
  ·exact z.elim
 obtain⟨L,S,r1,r2,z⟩:=hu
 refine RY hb (zH (he.pe pins s Y H (λ x H1=>∃ a C dx c w,x=.ref a/\uk X.K c C/\H1 a=some (wz a C dx)/\H1 dx=some (.xd [(f,w)])/\Q w H1) I (zU.go he.mo r1 r2 z λ x S1 v H1 h1 q1 e1 p1=>?_)) λ u s1 ⟨x,H1,I1,rx,a,C,dx,c,w,ex,⟨P,N,NP,hE⟩,h1,h2,q⟩=>?_)
 ·cases x with
  | err c f' d=>
   simp only[zi] at q1
   obtain⟨a,C,dx,w,rfl,⟨hE,h2,h3⟩,h4⟩:=q1
   obtain⟨rfl,h1⟩:=h1
   exact⟨a,C,dx,c,w,rfl,hE,h2,h3,h1 w H1 h4 e1 p1⟩
  | _=>exact h1.elim
 ·subst ex
  obtain rfl:u=Value.ref a:=rx
  obtain⟨hh,g,d,t,os⟩:=s1
  obtain⟨⟨oe,vs,he,hc,Cp,Cq⟩,_⟩:=I1.zu a _ h1
  obtain⟨mA,Bf,hr⟩:=I1.zu dx _ h2
  have hv:=hr f
  simp only[A5,beq_self_eq_true,if_true] at hv
  obtain⟨u',hu',ru⟩:∃ u',mA f=some u'/\RelV w u':=by
   cases z:mA f with
   | none=>rw[z] at hv;exact hv.elim
   | some u'=>rw[z] at hv;exact⟨u',rfl,hv⟩
  obtain⟨⟨q1,bs,sn,sub,ab,col,dd,k0,k1,k2,k3,k5,hC⟩,hN,hn⟩:=hE.own.at I1.y8
  obtain⟨⟨q',bs',sn',sub',ab',col',dd',l0,l1,l2,l3,l5,hP⟩,hN',hn'⟩:=hE.par.at I1.y8
  have m1:("__getattribute__":Str)∈tX:=by simp
  have m2:("__getattr__":Str)∈tX:=by simp
  exact Zi PySem.F.attrBase_ValueError hC hN ⟨⟨_,_,_,_,hP,hN'⟩⟩ (hn _ m1) (hn' _ m1) (hn _ m2) (hn' _ m2) (hn _ (m7 hf)) (hn' _ (m7 hf)) (gE hf) he hc (λ c z=>by rw[Cq] at z;cases z) Cp Bf hu' (PySem.W.handedOut_of (Sd ru)) ⟨w,H1,I1.tok _,ru,q⟩
end
end L3
namespace L5
open PySem PySem.Spec L2 L3
open PyProof.Rows hiding St
@[simp] noncomputable def v9 (k:Str->Bool) (g:Ev->Option T):Ev->Option T:=fun J=>(g J).bind λ x=>match x with
 | .err c _ _=>some (.bl (k c))
 | _=>none
@[simp] noncomputable def jZ (f:Str) (g:Ev->Option T):Ev->Option T:=fun J=>(g J).bind λ x=>match x with
 | .err _ f' t=>if f'=f then some t else none
 | _=>none
def Um {k:Str->Bool}{g:Ev->Option T}{te:zx}(hf:yy g te):xt (v9 k g) (mE k te):=λ S Z L J y Q hE e hq=>by
 obtain⟨x,e1,e2⟩:=Af.mp e
 refine hf S Z L J x _ hE e1 λ d S1 s1 r1=>?_
 split at e2
 ·cases e2
  obtain⟨d',rfl,_⟩:=Vw.err r1
  exact hq _ S1 s1 (Cl.of (λ _=>nofun) wc)
 ·cases e2
def di {f:Str}{g:Ev->Option T}{te:zx}(hf:yy g te):vL (jZ f g) (bz f te):=λ S Z L J y Q hE e hq=>by
 obtain⟨x,e1,e2⟩:=Af.mp e
 refine hf S Z L J x _ hE e1 λ d S1 s1 r1=>?_
 split at e2
 ·split at e2
  ·rename_i h
   cases e2
   obtain⟨d',rfl,h2⟩:=Vw.err r1
   exact⟨h,hq _ S1 s1 h2⟩
  ·cases e2
 ·cases e2
end L5
namespace L3
open PySem PySem.Spec L2
open PyProof.Rows hiding St
def Ec (K:Aa) (c:Str):Prop:=∃ C P N NP,sF K c C P N NP
def Ec.i {K:Aa}{c:Str}{C P:Addr}{o1 o2:Value}{d1 d2:Option Addr}{c1 c2:ClassData}{s1 s2:Array (Option Value)}(_:PySem.W.nsIn K mainGlobals c=some (some (.ref C))) (_:PySem.W.nsIn K mainGlobals "PurseError"=some (some (.ref P))) (_:K.lookup C=some ⟨o1,d1,.cls c1,s1⟩) (_:K.lookup P=some ⟨o2,d2,.cls c2,s2⟩)
  (h:m9 K c=some (C,P,c1.ns,c2.ns)):Ec K c:=⟨C,P,_,_,cT h⟩
def Ei (K:Aa) (c f:Str) (st:Stmt):Prop:=∃ (C P N NP fI:Addr) (fd:FuncData),sF K c C P N NP/\PySem.W.keepIn K (.ref C)=true/\PySem.W.nsIn K N "__init__"=some (some (.ref fI))/\PySem.W.isFn K (.ref fI)=true/\wI K "__init__" (c++".__init__") st fI fd
def Ei.i {K:Aa}{c f:Str}{st:Stmt}{C P fI:Addr}{o1 o2:Value}{d1 d2:Option Addr}{c1 c2:ClassData}{s1 s2:Array (Option Value)}(_:PySem.W.nsIn K mainGlobals c=some (some (.ref C))) (_:PySem.W.nsIn K mainGlobals "PurseError"=some (some (.ref P))) (_:K.lookup C=some ⟨o1,d1,.cls c1,s1⟩) (_:K.lookup P=some ⟨o2,d2,.cls c2,s2⟩)
  (h:m9 K c=some (C,P,c1.ns,c2.ns)) (k:PySem.W.keepIn K (.ref C)=true) (n:PySem.W.nsIn K c1.ns "__init__"=some (some (.ref fI))) (g:PySem.W.isFn K (.ref fI)=true)
  {oc:Value}{od an:Option Addr}{osl:Array (Option Value)}{kV doc pm Ac ct:Value}(l:K.lookup fI=some ⟨oc,od,.func (PySem.W.fnOf "__init__" (c++".__init__") (vj st) (xo st) (zB st) .none kV doc pm an Ac ct),osl⟩)
  (cd:PySem.W.codeIn K Ac (c++".__init__")=true) (k2:PySem.W.keepIn K (.ref fI)=true):Ei K c f st:=⟨C,P,_,_,fI,_,cT h,k,n,g,jU l cd k2⟩
def Og (K:Aa) (mg:Str->Option Value) (cn:Str):Prop:=∃ D,iL K cn D/\mg cn=some (.ref D)
section
variable {K:Aa}{mg:Str->Option Value}{h:Heap}{c f:Str}{st:Stmt}
def Ei.mk (H:Ei K c f st) (X:K.In h) (G:h.Ns mainGlobals mg) (hf:f∈sf:=by simp):rT K mg c f st:=by
 obtain⟨C,P,N,NP,fI,fd,e,k,n,g,F⟩:=H
 exact⟨hf,C,P,N,NP,fI,fd,e,PySem.W.mg_of X G e.top,k,n,g,F⟩
def Ec.mk (H:Ec K c) (X:K.In h) (G:h.Ns mainGlobals mg):Og K mg c:=by
 obtain⟨C,P,N,NP,e⟩:=H
 exact⟨C,⟨e.top,_,_,e.own⟩,PySem.W.mg_of X G e.top⟩
theorem Ec.par (H:Ec K c) (X:K.In h) (G:h.Ns mainGlobals mg):Og K mg "PurseError":=by
 obtain⟨C,P,N,NP,e⟩:=H
 exact⟨P,⟨e.nS,_,_,e.par⟩,PySem.W.mg_of X G e.nS⟩
end
noncomputable def yA (cn:Str) (c:Str):Bool:=decide (cn=c)||decide (cn="PurseError")
section
variable {X:Cx}{e:Expr}{te:zx}{p q pos:Pos}
def ur {cn:Str}(O:Og X.K X.mg cn) (T:Bt X.mg) (he:PD X e te) (hd:(cn == ("__debug__":Str))=false:=by decide) (hg2:Gl X cn:=by rfl) (hg:Gl X "isinstance":=by rfl) (h1:starEach (e::[.Name cn q]) X.env=(false,eval e X.env)::starEach [.Name cn q] X.env:=by rfl) (h2:(backTo pos (starEach [.Name cn q] X.env)).any (·.1)=false:=by rfl) (h3:starEach [.Name cn q] X.env=(false,eval (.Name cn q) X.env)::starEach [] X.env:=by rfl):
  PD X (.Call (.Name "isinstance" p) [e,.Name cn q] [] pos) (mE (yA cn) te):=by
 obtain⟨D,o,hm⟩:=O
 exact eO (V0:=.ref D) (λ c=>.own o) (XU hg2 hm rfl hd) T he hg h1 h2 h3
def RM:bootBuiltins "ValueError"=some (.type "ValueError"):=by decide +kernel
def nX (hm:X.mg "ValueError"=none) (T:Bt X.mg) (he:PD X e te) (hg2:Gl X "ValueError":=by rfl) (hg:Gl X "isinstance":=by rfl) (h1:starEach (e::[.Name "ValueError" q]) X.env=(false,eval e X.env)::starEach [.Name "ValueError" q] X.env:=by rfl) (h2:(backTo pos (starEach [.Name "ValueError" q] X.env)).any (·.1)=false:=by rfl) (h3:starEach [.Name "ValueError" q] X.env=(false,eval (.Name "ValueError" q) X.env)::starEach [] X.env:=by rfl):
  PD X (.Call (.Name "isinstance" p) [e,.Name "ValueError" q] [] pos) (mE (λ _=>true) te):=
 eO (V0:=.ty "ValueError") (λ c=>.val) (eG hg2 hm RM rfl (by decide) (by decide)) T he hg h1 h2 h3
end
end L3
namespace L5
open PySem PySem.Spec L2 L3
open PyProof.Rows hiding St
noncomputable def mG:Stmt->List Stmt
 | .ClassDef _ _ _ b _ _ _ _ _ _ _=>b
 | _=>[]
def SR {P:Program}{w:World}{K:Aa}{mg:Str->Option Value}{base:Heap}{x:Str}{st:Stmt}{R:Rk}{ps:List Str}{k:Nat}(F:Fy K mg x st)
  (hb:∀ (kV doc pm:Value) (an:Option Addr) (Ac ct:Value) (us:List Value),us.length=ps.length->bindArgs (PySem.W.fnOf x x (vj st) (xo st) (zB st) .none kV doc pm an Ac ct) ⟨us,[]⟩=pure (ps.zip us)):FD P w K mg base x k ps (zO R λ _=>none):=by
 obtain⟨f,fd,F,hm⟩:=F
 exact⟨⟨f,fd,⟨λ vs H Q E ⟨ds,S,r1,r2,Z,ys,y,_,_,e,_⟩=>(nomatch e),λ A outer s H args us vs Q E _ _ _ _ ⟨ds,S,_,_,Z,ys,y,_,_,e,_⟩=>(nomatch e)⟩,hm,F.kp,F.binds hb⟩,zO.mo⟩
end L5
namespace L3
open PySem PySem.Spec L2
open PyProof.Rows hiding St
section
variable {X:Cx}{e:Expr}{es:List Expr}{tA:yb}{pos p:Pos}
def za (i:Nat) {x:Str}(hN:X.N[i]?=some x:=by rfl) (hv:oB X.env.scope x:=by first | exact Or.inl rfl | exact Or.inr (Or.inl rfl) | exact Or.inr (Or.inr rfl)) (hd:(x == ("__debug__":Str))=false:=by decide) (AR:(x == ("__classdict__":Str))=false:=by decide):PD X (.Name x pos) (xk i):=Wq i (pv i hN hv hd AR)
def yi {x:Str}{k k':Nat}{ps:List Str}{sp:xE}(F:FD X.prog X.w X.K X.mg X.base x k ps sp) (hr:ye k' X.A) (ha:xA X (e::es) tA) (hk:k<=k':=by decide) (hg:Gl X x:=by rfl) (AQ:(x == ("__debug__":Str))=false:=by decide)
  (he:starEach (e::es) X.env=(false,eval e X.env)::starEach es X.env:=by rfl) (Ag:(backTo pos (starEach es X.env)).any (·.1)=false:=by rfl):PD X (.Call (.Name x p) (e::es) [] pos) (mF sp tA):=eQ F (hr.mono hk) ha hg AQ he Ag
end
def yr {N P:List Str}{sc:Scope}(h1:sc.kind=.function:=by rfl) (h2:sc.isCoroutine=false:=by rfl) (h3:sc.isGenerator=false:=by rfl) (h4:N.Nodup:=by decide +kernel) (h5:N.take P.length=P:=by rfl) (h6:∀ x∈P,sc.names.lookup x=some .local\/sc.names.lookup x=some .cell:=by decide +kernel) (h7:∀ y∈sc.names,y.2≠.free:=by decide +kernel):yd N P sc:=⟨h1,h2,h3,h4,h5,h6,h7⟩
def qz (l:List Str) (h:l.Nodup:=by decide +kernel):l.Nodup:=h
end L3
namespace L5
open L2 L3
def y9 {R:Rk}{g:Sm}{t:yk}(h:ym R g t:=by
 repeat' first
  | (with_reducible first | exact V6 _ | apply U6 | apply VM)
  | (with_reducible first | exact dh _ | refine uZ (R:=vq) c7 ?_ ?_ | refine jl (R:=vq) ?_ | apply di)
  | ((try first | refine xB.fr ?_ | refine xB.fe ?_);with_reducible first | exact Uo _ | refine uZ (R:=zK) (by with_reducible first | exact good_add | exact jK | exact Su | exact Sq | exact So | exact jL | exact jM | exact jN | exact Si) ?_ ?_ | refine jl (R:=zK) ?_ | refine U1 (R:=zK) (by with_reducible first | exact Sl | exact Se | exact Sk | exact Sj | exact Sw | exact Sf | exact good_int) ?_ | apply V7 | apply VC | apply VP | apply Ur | apply VR | exact U3 _ | exact VD _ | exact VN | apply VS | apply Uq | apply VO | refine U0 (by with_reducible first | exact jK | exact jL | exact jM | exact jN) (by with_reducible first | exact jK | exact jL | exact jM | exact jN) ?_ ?_ ?_ | apply VJ | apply VG | apply VH | apply U5 | apply Um)
  | (refine xB.er ?_;with_reducible first | exact dh _ | refine uZ (R:=vq) c7 ?_ ?_ | refine jl (R:=vq) ?_ | apply di)
  | (with_reducible first | apply WZ | apply Vj | apply Vd | exact WY | apply Vb | apply Vk | apply Vi | apply Vf | exact jk _ | apply Vg | exact Vh | apply Ve | apply WX | apply Vc | apply W_ | apply Va | apply WW | apply df | apply dg)
  | (refine qW.s ?_;with_reducible first | apply df | apply dg)
  | exact de _
  | (with_reducible first | exact V4 | apply V5 | exact V2 | apply V3 | apply V8 | apply VA | apply Ut | apply Us | apply Uu | exact V9 | exact Vt _ | exact Vq | apply Vr | exact Vu | apply Vv | apply Vp | apply Vo | apply Vm | apply Vn | apply Vl | exact V1 | apply Vz)
  | (first | exact Vy _ | apply Vs | apply Vx)
  | exact ym.fv (jk _)
  | exact ym.fv (de _)
  | exact Bool.false):ym R g t:=h
end L5
namespace yG
open PySem L2 L3 L5
def gj:Sm:=
 (retS (vJ (instS "int" (ze 0)) (dk (instS "bool" (ze 0)))))
def oO:List T->Option T:=ya ["thing"] 1 gj
def gc:Sm:=
 (retS (zA yT (zc (zb zj (ze 0) (cS (.int 1))) zl)))
def lj:List T->Option T:=ya ["floor"] 1 gc
def hZ:Sm:=
 (zt (zG 3 (fy (zb zj (zb zj (ze 0) (cS (.int 2))) (ze 2)) (some (cS (.int 2))) none))
 (zt (zG 4 (zb yB (zb zj (ze 1) (cS (.int 0))) (zb zj (ze 3) (cS (.int 0)))))
 (zt (zG 5 (zb yB (zb zj (ze 1) (cS (.int 1))) (zb zj (ze 3) (cS (.int 1)))))
 (zt (zW (wu (zL (zb zX (ze 4) (cS (.int 0)))) (zL (zb zX (ze 5) (cS (.int 0))))) (retS (cS .zg)) zV)
 (retS (tupS (zc (zA tY (zc (ze 4) (zc (zb zj (zb zj (ze 0) (cS (.int 0))) (cS (.int 0))) zl))) (zc (zA tY (zc (ze 5) (zc (zb zj (zb zj (ze 0) (cS (.int 0))) (cS (.int 1))) zl))) zl))))))))
def lg:List T->Option T:=ya ["floor","pair","way","coins","first","second"] 3 hZ
def lH:Sm:=
 (zt (zG 4 (zb zj (ze 1) (cS (.int 1))))
 (zt (zG 5 (zb xS (zb zj (ze 2) (ze 4)) (zb yw (ze 3) (zb zj (ze 1) (cS (.int 2))))))
 (zt (zW (zL (zb zX (ze 5) (cS (.int 0)))) (retS (cS .zg)) zV)
 (zt (zG 6 (zA tY (zc (zb yB (zb zj (ze 2) (zb xS (cS (.int 1)) (ze 4))) (zb yw (ze 3) (zb zj (ze 1) (cS (.int 3))))) (zc (zb zj (ze 0) (zb xS (cS (.int 1)) (ze 4))) zl))))
 (zt (zW (zL (zb (zC false) (ze 4) (cS (.int 0)))) (retS (tupS (zc (zo 5) (zc (zo 6) zl)))) zV)
 (retS (tupS (zc (zo 6) (zc (zo 5) zl)))))))))
def pj:List T->Option T:=ya ["brims","stall","pair","times","purse","left","got"] 4 lH
def aU:Sm:=
 (zt (zG 2 (cS (.int 0)))
 (zt (zW (zL (zb zX (ze 1) (zA yT (zc (ze 0) zl)))) (zG 2 (zb zS (zb zj (ze 0) (ze 1)) (zb sU (cS (.int 2)) (cS (.int 64))))) zV)
 (retS (zb yg (zb zS (zb yB (zb yB (zb yw (ze 2) (cS (.int 46337))) (zb yw (zb yw (cS (.int 2741)) (ze 1)) (ze 1))) (zb yw (cS (.int 59)) (ze 1))) (cS (.int 2147483629))) (cS (.int 2))))))
def vM:List T->Option T:=ya ["_law_script","_law_k","_law_cell"] 2 aU
def o8:Sm:=
 (zt (zW (vG (zL (zb (zC false) (zb zj (ze 1) (ze 3)) (cS (.str "keeper")))) (zL (zb (zC false) (zb zS (ze 0) (cS (.int 2))) (cS (.int 1))))) (ug 2 (tupS (zc (zo 3) (zc (zb zS (zb yg (ze 0) (cS (.int 2))) (cS (.int 2))) (zc (zb yB (cS (.int 1)) (zb zS (zb yg (ze 0) (cS (.int 4))) (cS (.int 12)))) (zc (zb zS (zb yg (ze 0) (cS (.int 48))) (cS (.int 13))) zl)))))) zV)
 (zG 0 (zb yg (ze 0) (cS (.int 624)))))
def gg:Sm:=
 (zt (t6 2 (yI zl))
 (zt (vW [3] (wR wN (zc (zA yT (zc (ze 1) zl)) zl)) (zI 3) o8)
 (retS (zA pA (zc (ze 2) zl)))))
def lq:List T->Option T:=ya ["_law_cell","_law_owners","_law_found","_law_place"] 2 gg
def gh:Sm:=
 (retS (tupS (zc (zb zS (ze 0) (zb yB (zb zj (ze 1) (cS (.int 0))) (cS (.int 1)))) (zc (zb zS (zb yg (ze 0) (cS (.int 13))) (zb yB (zb zj (ze 1) (cS (.int 1))) (cS (.int 1)))) zl))))
def lr:List T->Option T:=ya ["_law_number","_law_brims"] 2 gh
def gf:Sm:=
 (zt (zG 3 (zb yB (zb zj (ze 1) (cS (.int 0))) (zb zj (zb zj (zb zj (ze 0) (cS (.int 2))) (ze 2)) (cS (.int 2)))))
 (zt (zG 4 (zb yB (zb zj (ze 1) (cS (.int 1))) (zb zj (zb zj (zb zj (ze 0) (cS (.int 2))) (ze 2)) (cS (.int 3)))))
 (zt (zW (wu (zL (zb zX (ze 3) (cS (.int 0)))) (zL (zb zX (ze 4) (cS (.int 0))))) (retS (cS .zg)) zV)
 (retS (tupS (zc (zA tY (zc (ze 3) (zc (zb zj (zb zj (ze 0) (cS (.int 0))) (cS (.int 0))) zl))) (zc (zA tY (zc (ze 4) (zc (zb zj (zb zj (ze 0) (cS (.int 0))) (cS (.int 1))) zl))) zl)))))))
def sE:List T->Option T:=ya ["_law_floor_here","_law_pair_here","_law_way","_law_first","_law_second"] 3 gf
def vI:Ev->Option T:=
 vg [none,some 1] (qD (zb zj (ze 0) (cS (.int 3)))) (zI 0) (zL (zb (zC false) (zb zj (ze 0) (cS (.int 0))) (ze 1))) (zo 0)
def xc:Sm:=
 (zt (zW (wu (zL (zb (zC false) (ze 5) (yI zl))) (zL (zb zX (zb zj (ze 4) (zb zj (zb zj (ze 5) (cS (.int 0))) (cS (.int 1)))) (zb zj (zb zj (ze 5) (cS (.int 0))) (cS (.int 2)))))) (retS (cS .zg)) zV)
 (zt (zG 7 (zb zj (zb zj (ze 5) (cS (.int 0))) (cS (.int 1))))
 (zt (mh 4 (ze 7) (zb xS (zb zj (ze 4) (ze 7)) (zb zj (zb zj (ze 5) (cS (.int 0))) (cS (.int 2)))))
 (mh 4 (zb xS (cS (.int 1)) (ze 7)) (zA tY (zc (zb yB (zb zj (ze 4) (zb xS (cS (.int 1)) (ze 7))) (zb zj (zb zj (ze 5) (cS (.int 0))) (cS (.int 3)))) (zc (zb zj (zb zj (ze 0) (cS (.int 0))) (zb xS (cS (.int 1)) (ze 7))) zl)))))))
def uQ:Sm:=
 (zt (t6 4 (zA listS (zc (ze 2) zl)))
 (zt (zG 5 vI)
 (zt (vW [6,7] (wR wN (zc (zA tY (zc (ze 3) (zc (cS (.int 14)) zl))) zl)) (zI 6) xc)
 (retS (tupS (zc (zb zj (ze 4) (cS (.int 0))) (zc (zb zj (ze 4) (cS (.int 1))) zl)))))))
def yQ:List T->Option T:=ya ["_law_floor_here","_law_place","_law_pair_here","_law_times","_law_held","_law_stalls_here","_law_k","_law_purse"] 4 uQ
def uD:Ev->Option T:=
 vg [none,some 1] (wR wN (zc (cS (.int 11)) zl)) (zI 0) (xl (zb zj (ze 1) (ze 0))) (zo 0)
def lC:Sm:=
 (zt (zG 1 (yI (zc (v9 (yA "NoFloor") (ze 0)) (zc (v9 (yA "NoMore") (ze 0)) (zc (v9 (yA "NoPlace") (ze 0)) zl)))))
 (zt (zG 1 (zb yB (ze 1) (yI (zc (v9 (yA "NoPair") (ze 0)) (zc (v9 (yA "NoWay") (ze 0)) (zc (v9 (yA "NoChange") (ze 0)) zl))))))
 (zt (zG 1 (zb yB (ze 1) (yI (zc (v9 (yA "NoCount") (ze 0)) (zc (v9 (yA "NoName") (ze 0)) (zc (v9 (yA "NoRow") (ze 0)) zl))))))
 (zt (zG 1 (zb yB (ze 1) (yI (zc (v9 (yA "PurseError") (ze 0)) (zc (v9 (λ _=>true) (ze 0)) zl)))))
 (retS uD)))))
def q_:List T->Option T:=ya ["_law_caught","_law_some"] 1 lC
def gi:Sm:=
 (zt (zW (wu (zL (zb (zC true) (instS "bool" (ze 0)) (instS "bool" (ze 1)))) (zL (zb (zC true) (instS "int" (ze 0)) (instS "int" (ze 1))))) (retS (cS (.bl false))) zV)
 (retS (zb (zC false) (ze 0) (ze 1))))
def qZ:List T->Option T:=ya ["_law_one","_law_other"] 2 gi
def lF:Sm:=
 (retS (vJ (zA oO (zc (zo 0) zl)) (bF j6 j6 (ze 1) (ze 0) (ze 2))))
def rY:List T->Option T:=ya ["thing","least","most"] 3 lF
def gm:Sm:=
 (retS (vJ (zA oO (zc (zo 0) zl)) (zb jS (ze 0) (cS (.int 0)))))
def lx:List T->Option T:=ya ["thing"] 1 gm
def qR:Sm:=
 (zt (zG 7 (zA vM (zc (zo 0) (zc (zb yB (ze 1) (ze 6)) zl))))
 (zt (zG 8 (zb zS (ze 7) (ze 2)))
 (zt (zW (zL (zb zX (ze 6) (ze 2))) (zG 8 (zo 6)) zV)
 (zt (t6 9 (yI (zc (zb xS (zb zS (zb yg (ze 7) (cS (.int 64))) (zb yB (zb yw (cS (.int 2)) (ze 4)) (cS (.int 1)))) (ze 4)) (zc (zb xS (zb zS (zb yg (ze 7) (cS (.int 2048))) (zb yB (zb yw (cS (.int 2)) (ze 4)) (cS (.int 1)))) (ze 4)) zl))))
 (zt (zW (zL (zb (zC false) (zb zS (zb yg (ze 7) (cS (.int 65536))) (cS (.int 5))) (cS (.int 0)))) (mh 9 (zb zS (zb yg (ze 7) (cS (.int 327680))) (cS (.int 2))) (cS (.int 0))) zV)
 (ug 5 (tupS (zc (zo 8) (zc (zb zS (zb yg (ze 7) (cS (.int 8))) (ze 2)) (zc (zb zj (ze 9) (cS (.int 0))) (zc (zb zj (ze 9) (cS (.int 1))) zl)))))))))))
def gd:Sm:=
 (zt (t6 5 (yI zl))
 (zt (vW [6,7,8,9] (wR wN (zc (zb yB (ze 2) (ze 3)) zl)) (zI 6) qR)
 (retS (zA pA (zc (zA nv (zc (ze 5) zl)) zl)))))
def ll:List T->Option T:=ya ["_law_script","_law_at","_law_many","_law_more","_law_span","_law_found","_law_k","_law_number","_law_start","_law_coins"] 5 gd
def aR:Sm:=
 (zt (zW (vG (xl (ze 2)) (zL (zb zX (ze 1) (zA yT (zc (ze 0) zl))))) (retS (zb zS (zb zj (ze 0) (ze 1)) (zb sU (cS (.int 10)) (cS (.int 64))))) zV)
 (zt (zG 3 (zA vM (zc (zo 0) (zc (zo 1) zl))))
 (retS (zb yB (zb yw (zb yw (ze 3) (ze 3)) (ze 3)) (zb yw (cS (.int 104729)) (ze 3))))))
def iW:List T->Option T:=ya ["_law_script","_law_at","_law_digits","_law_mixed_here"] 3 aR
def qQ:Ev->Option T:=
 vg [none,some 0,some 1] (wR wN (zc (zA yT (zc (zb zj (ze 0) (cS (.int 2))) zl)) zl)) (zI 0) (zL (zb (zC false) (zb zj (zb zj (zb zj (ze 1) (cS (.int 2))) (ze 0)) (cS (.int 0))) (ze 2))) (zo 0)
def lE:Sm:=
 (zt (zG 5 qQ)
 (zt (zG 6 (zb zj (ze 5) (zb zS (ze 3) (zA yT (zc (ze 5) zl)))))
 (zt (zG 7 (cS (.int 0)))
 (zt (zW (vG (zL (zb (zC false) (zb zS (zb yg (ze 3) (cS (.int 24))) (cS (.int 3))) (cS (.int 1)))) (zL (zb (yf true) (zA yQ (zc (zo 0) (zc (zo 1) (zc (zo 2) (zc (cS (.int 1)) zl))))) (cS .zg)))) (zG 7 (zb yB (cS (.int 1)) (zA ml (zc (vJ (zb (zC false) (zb zS (zb yg (ze 3) (cS (.int 72))) (cS (.int 2))) (cS (.int 1))) (zb (yf true) (zA yQ (zc (zo 0) (zc (zo 1) (zc (zo 2) (zc (cS (.int 2)) zl))))) (cS .zg))) zl)))) zV)
 (zt (zW (vG (xl (ze 4)) (zL (zb (sd false) (zb zS (zb yg (ze 3) (cS (.int 144))) (cS (.int 8))) (yI (zc (cS (.int 1)) (zc (cS (.int 3)) zl)))))) (zG 6 (zb zj (yI (zc (zb zS (zb yg (ze 3) (cS (.int 1152))) (zA yT (zc (zb zj (ze 0) (cS (.int 2))) zl))) (zc (zA yT (zc (zb zj (ze 0) (cS (.int 2))) zl)) (zc (zb xS (cS (.int 0)) (cS (.int 1))) (zc (cS .zg) (zc (cS (.bl true)) (zc (cS (.str "0")) zl))))))) (zb zS (zb yg (ze 3) (cS (.int 30000))) (cS (.int 6))))) zV)
 (zt (zW (vG (xl (ze 4)) (zL (zb (sd false) (zb zS (zb yg (ze 3) (cS (.int 144))) (cS (.int 8))) (yI (zc (cS (.int 2)) (zc (cS (.int 3)) zl)))))) (zG 7 (zb zj (yI (zc (cS (.int 13)) (zc (cS (.int 1)) (zc (cS (.int 2)) (zc (zb xS (cS (.int 0)) (cS (.int 1))) (zc (cS .zg) (zc (cS (.bl true)) (zc (cS (.str "1")) (zc (zb sU (cS (.int 10)) (cS (.int 30))) zl))))))))) (zb zS (zb yg (ze 3) (cS (.int 30000))) (cS (.int 8))))) zV)
 (retS (tupS (zc (zo 7) (zc (zo 6) zl))))))))))
def rX:List T->Option T:=ya ["_law_floor_here","_law_place","_law_pair_here","_law_number","_law_wild","_law_some","_law_way","_law_times"] 5 lE
def qb:Sm:=
 (zt (lQ (zo 3) (sJ 2 (t4 (zI 4) (t4 (zI 5) pZ))))
 (zt (zW (wu (tu (xl (instS "int" (ze 5)))) (wu (xl (instS "bool" (ze 5))) (wu (zL (zb zX (ze 5) (cS (.int 0)))) (zL (zb jS (ze 5) (zA yT (zc (zb zj (ze 0) (cS (.int 2))) zl))))))) (retS (cS (.int 4))) zV)
 (zt (zW (zL (zb (zC true) (zb zj (zb zj (zb zj (ze 0) (cS (.int 2))) (ze 5)) (cS (.int 0))) (ze 1))) (retS (cS (.int 4))) zV)
 (zt (zW (wu (tu (xl (instS "int" (ze 4)))) (wu (xl (instS "bool" (ze 4))) (zL (zb zX (ze 4) (cS (.int 0)))))) (retS (cS (.int 5))) zV)
 (zt (zW (wu (zL (zb (yf false) (zA yQ (zc (zo 0) (zc (zo 1) (zc (zo 2) (zc (zo 4) zl))))) (cS .zg))) (vG (zL (zb c6 (ze 4) (cS (.int 0)))) (zL (zb (zC false) (zb zj (zb zj (ze 0) (cS (.int 1))) (ze 1)) (cS (.str "taker")))))) (retS (cS (.int 5))) zV)
 (retS (cS .zg)))))))
def xR:List T->Option T:=ya ["_law_floor_here","_law_place","_law_pair_here","_law_deed_here","_law_times","_law_way"] 4 qb
def mH:Ev->Option T:=
 vg [none,none] (wR lI (zc (ze 0) (zc (ze 1) zl))) (sJ 2 (t4 (zI 0) (t4 (zI 1) pZ))) i3 (zA rY (zc (zo 0) (zc (zb zj (ze 1) (cS (.int 0))) (zc (zb zj (ze 1) (cS (.int 1))) zl))))
def lG:Sm:=
 (zt (zW (wu (tu (xl (instS "tuple" (ze 0)))) (zL (zb (zC true) (zA yT (zc (ze 0) zl)) (zA yT (zc (ze 1) zl))))) (retS (cS (.bl false))) zV)
 (retS (zA (mI λ bs=>bs.all id) (zc mH zl))))
def oP:List T->Option T:=ya ["thing","bounds"] 2 lG
def gn:Sm:=
 (zW (tu (xl (zA rY (zc (zo 1) (zc (cS (.int 0)) (zc (zb xS (zA lj (zc (zo 0) zl)) (cS (.int 1))) zl)))))) (ql "NoPlace" "place" (zo 1)) zV)
def oQ:List T->Option T:=ya ["floor","place"] 2 gn
def gk:Sm:=
 (retS (zA rY (zc (zo 1) (zc (cS (.int 0)) (zc (zb xS (zA yT (zc (zb zj (ze 0) (cS (.int 2))) zl)) (cS (.int 1))) zl)))))
def lu:List T->Option T:=ya ["floor","thing"] 2 gk
def qS:Sm:=
 (ug 6 (zb zj (yI (zc (cS (.str "keeper")) (zc (cS (.str "taker")) zl))) (zb i7 (zb lY (ze 5) (ze 7)) (cS (.int 1)))))
def lD:Sm:=
 (zt (zG 5 (zA vM (zc (zo 0) (zc (zo 1) zl))))
 (zt (t6 6 (yI zl))
 (zt (vW [7] (wR wN (zc (ze 2) zl)) (zI 7) qS)
 (zt (zG 8 (zb zj (yI (zc (cS (.int 1)) (zc (cS (.int 2)) (zc (cS (.int 3)) (zc (cS (.int 12)) zl))))) (zb zS (zb yg (ze 5) (cS (.int 256))) (cS (.int 4)))))
 (zt (zG 9 (tupS zl))
 (zt (zW (zL (zb (zC false) (zb zS (zb yg (ze 5) (cS (.int 1024))) (cS (.int 3))) (cS (.int 1)))) (qL 6 (zG 9 (zA lq (zc (zA iW (zc (zo 0) (zc (zb yB (ze 1) (cS (.int 1))) (zc (zb (zC false) (zb zS (zb yg (ze 5) (cS (.int 3072))) (cS (.int 2))) (cS (.int 1))) zl)))) (zc (zo 6) zl))))) zV)
 (retS (tupS (zc (zo 3) (zc (zA pA (zc (ze 6) zl)) (zc (zA ll (zc (zo 0) (zc (zb yB (ze 1) (cS (.int 2))) (zc (zo 2) (zc (zo 4) (zc (zo 8) zl)))))) (zc (zo 9) zl))))))))))))
def ph:List T->Option T:=ya ["_law_script","_law_at","_law_many","_law_brims","_law_more","_law_number","_law_owners","_law_place","_law_span","_law_stalls_here"] 5 lD
def xr:Sm:=
 (zt (zG 8 (zA rX (zc (zo 1) (zc (zo 2) (zc (zo 3) (zc (zA vM (zc (zo 0) (zc (zo 7) zl))) (zc (zo 4) zl)))))))
 (zt (ug 5 (zo 8))
 (zt (zG 9 (zA xR (zc (zo 1) (zc (zo 2) (zc (zo 3) (zc (zo 8) zl))))))
 (zt (zW (zL (zb (yf true) (ze 9) (cS .zg))) (qL 5 (retS (tupS (zc (zo 5) (zc (cS .zg) (zc (zo 9) zl)))))) zV)
 (zt (zG 3 (zA sE (zc (zo 1) (zc (zA yQ (zc (zo 1) (zc (zo 2) (zc (zo 3) (zc (zb zj (ze 8) (cS (.int 0))) zl))))) (zc (zb zj (ze 8) (cS (.int 1))) zl)))))
 (zt (zW (zL (zb (yf false) (ze 3) (cS .zg))) (zt (ug 6 (cS .zg))
 (qL 6 (retS (tupS (zc (zb yB (ze 5) (yI (zc (tupS (zc (cS (.int 0)) (zc (zb xS (cS (.int 0)) (cS (.int 1))) zl))) (zc (tupS (zc (cS .zg) (zc (cS .zg) zl))) zl)))) (zc (zo 6) (zc (cS (.int 0)) zl))))))) zV)
 (zt (zG 2 (zb zj (zb zj (zb zj (ze 1) (cS (.int 2))) (zb zj (ze 8) (cS (.int 1)))) (cS (.int 1))))
 (ug 6 (tupS (zc (zo 2) (zc (zo 3) zl)))))))))))
def oW:Sm:=
 (zt (t6 5 (yI zl))
 (zt (t6 6 (yI zl))
 (zt (vW [7,8,9] (wR nN (zc (cS (.int 30)) (zc (cS (.int 62)) zl))) (zI 7) xr)
 (qL 5 (qL 6 (retS (tupS (zc (zo 5) (zc (zo 6) (zc (cS (.int 0)) zl))))))))))
def rW:List T->Option T:=ya ["_law_script","_law_floor_here","_law_place","_law_pair_here","_law_wild","_law_deeds","_law_due","_law_k","_law_deed_here","_law_fault_here"] 5 oW
def gp:Sm:=
 (zW (tu (xl (zA oP (zc (zo 1) (zc (tupS (zc (tupS (zc (cS (.int 0)) (zc (zb zj (zb zj (ze 0) (cS (.int 0))) (cS (.int 0))) zl))) (zc (tupS (zc (cS (.int 0)) (zc (zb zj (zb zj (ze 0) (cS (.int 0))) (cS (.int 1))) zl))) zl))) zl))))) (ql "NoPair" "pair" (zo 1)) zV)
def ly:List T->Option T:=ya ["floor","pair"] 2 gp
def rG:Sm:=
 (zW (zL (zb (zC false) (zb zj (ze 2) (cS (.int 0))) (ze 1))) (retS (zo 2)) zV)
def h_:Sm:=
 (zt (cZ (zA (js oQ) (zc (zo 0) (zc (zo 1) zl))))
 (zt (vW [2] (qD (zb zj (ze 0) (cS (.int 3)))) (zI 2) rG)
 (retS (cS .zg))))
def lh:List T->Option T:=ya ["floor","place","stall"] 2 h_
def qc:Sm:=
 (zW (wu (tu (xl (zA lu (zc (zo 0) (zc (zo 2) zl))))) (zL (zb (zC true) (zb zj (zb zj (zb zj (ze 0) (cS (.int 2))) (ze 2)) (cS (.int 0))) (ze 1)))) (ql "NoWay" "way" (zo 2)) zV)
def vN:List T->Option T:=ya ["floor","place","way"] 3 qc
def qd:Sm:=
 (zt (zW (zL (zb (zC false) (ze 3) (cS (.int 0)))) (retS (tupS (zc (zb zj (ze 2) (cS (.int 0))) (zc (zb zj (ze 2) (cS (.int 1))) zl)))) zV)
 (zt (zG 4 (zA lh (zc (zo 0) (zc (zo 1) zl))))
 (zt (zW (zL (zb (yf false) (ze 4) (cS .zg))) (retS (cS .zg)) zV)
 (retS (zA pj (zc (zb zj (ze 0) (cS (.int 0))) (zc (zo 4) (zc (zo 2) (zc (zo 3) zl)))))))))
def vw:List T->Option T:=ya ["floor","place","pair","times","stall"] 4 qd
def oV:Sm:=
 (zt (zW (tu (xl (zA lx (zc (zo 3) zl)))) (ql "NoChange" "times" (zo 3)) zV)
 (zt (zG 4 (zA vw (zc (zo 0) (zc (zo 1) (zc (zo 2) (zc (zo 3) zl))))))
 (zt (zW (zL (zb (yf false) (ze 4) (cS .zg))) (ql "NoChange" "times" (zo 3)) zV)
 (nP (zo 4)))))
def sD:List T->Option T:=ya ["floor","place","pair","times","ready"] 4 oV
def qe:Sm:=
 (zt (zG 4 (zb zj (ze 3) (cS (.int 0))))
 (zt (zG 5 (zb zj (ze 3) (cS (.int 1))))
 (zt (oY vN (zc (zo 0) (zc (zo 1) (zc (zo 5) zl))))
 (zt (oZ 6 sD (zc (zo 0) (zc (zo 1) (zc (zo 2) (zc (zo 4) zl)))))
 (zt (zG 7 (zA lg (zc (zo 0) (zc (zo 6) (zc (zo 5) zl)))))
 (zt (zW (zL (zb (yf false) (ze 7) (cS .zg))) (nP (cS .zg)) zV)
 (nP (tupS (zc (zb zj (zb zj (zb zj (ze 0) (cS (.int 2))) (ze 5)) (cS (.int 1))) (zc (zo 7) zl))))))))))
def xH:List T->Option T:=ya ["floor","place","pair","deed","times","way","ready","behind"] 4 qe
def su (yV:List T->Option T):Ev->Option T:=
 vg [none,some 0,some 1] (wR wN (zc (zA yT (zc (ze 1) zl)) zl)) (zI 0) i3 (zA yV (zc (zb zj (ze 1) (ze 0)) (zc (zb zj (ze 2) (ze 0)) zl)))
def qa (yV:List T->Option T):Sm:=
 (zt (zW (wu (xl (instS "tuple" (ze 1))) (xl (instS "list" (ze 1)))) (zt (zW (wu (zL (zb (zC true) (instS "tuple" (ze 0)) (instS "tuple" (ze 1)))) (zL (zb (zC true) (instS "list" (ze 0)) (instS "list" (ze 1))))) (retS (cS (.bl false))) zV)
 (retS (vJ (zb (zC false) (zA yT (zc (ze 0) zl)) (zA yT (zc (ze 1) zl))) (zA (mI λ bs=>bs.all id) (zc (su yV) zl))))) zV)
 (zt (zW (zL (zb (yf false) (ze 1) (cS .zg))) (retS (zb (yf false) (ze 0) (cS .zg))) zV)
 (zt (zW (wu (xl (instS "bool" (ze 1))) (xl (instS "int" (ze 1)))) (retS (vJ (instS "int" (ze 0)) (vJ (zb (zC false) (instS "bool" (ze 0)) (instS "bool" (ze 1))) (zb (zC false) (ze 0) (ze 1))))) zV)
 (retS (vJ (instS "str" (ze 0)) (zb (zC false) (ze 0) (ze 1)))))))
def yV:Nat->List T->Option T
 | 0=>λ _=>none
 | n+1=>ya ["_law_found","_law_due"] 2 (qa (yV n))
def xq:Sm:=
 (zt (oZ 5 xH (zc (zo 0) (zc (zb zj (ze 5) (cS (.int 0))) (zc (zb zj (ze 5) (cS (.int 1))) (zc (zo 6) zl)))))
 (zt (ug 4 (zo 5))
 (zW (zL (zb (yf false) (ze 5) (cS .zg))) bI zV)))
def lB:Sm:=
 (zt (oY oQ (zc (zo 0) (zc (zo 1) zl)))
 (zt (oY ly (zc (zo 0) (zc (zo 2) zl)))
 (zt (t6 4 (yI zl))
 (zt (zG 5 (tupS (zc (zo 1) (zc (zo 2) zl))))
 (zt (vW [6] (qD (zo 3)) (zI 6) xq)
 (pP 4))))))
def uO:List T->Option T:=ya ["floor","place","pair","deeds","told","stand","deed"] 4 lB
def oX:Sm:=
 (zt (zG 1 (zA vM (zc (zo 0) (zc (cS (.int 0)) zl))))
 (zt (zG 2 (zb yB (cS (.int 1)) (zb zS (ze 1) (cS (.int 8)))))
 (zt (zG 3 (zA ph (zc (zo 0) (zc (cS (.int 2)) (zc (zo 2) (zc (tupS (zc (zb zS (zb yg (ze 1) (cS (.int 8))) (cS (.int 13))) (zc (zb zS (zb yg (ze 1) (cS (.int 104))) (cS (.int 13))) zl))) (zc (zb zS (zb yg (ze 1) (cS (.int 1352))) (cS (.int 9))) zl)))))))
 (zt (zG 4 (zA vM (zc (zo 0) (zc (cS (.int 29)) zl))))
 (zt (zG 5 (zb zS (ze 4) (ze 2)))
 (zt (zG 6 (zA lr (zc (zb yg (ze 4) (cS (.int 8))) (zc (zb zj (ze 3) (cS (.int 0))) zl))))
 (zt (zW (zL (zb (zC false) (zb zS (zb yg (ze 4) (cS (.int 2000))) (cS (.int 2))) (cS (.int 1)))) (zG 6 (zb zj (ze 3) (cS (.int 0)))) zV)
 (zt (lQ (zA rW (zc (zo 0) (zc (zo 3) (zc (zo 5) (zc (zo 6) (zc (zb (zC false) (zb zS (zb yg (ze 1) (cS (.int 50000))) (cS (.int 2))) (cS (.int 1))) zl)))))) (sJ 3 (t4 (zI 7) (t4 (zI 8) (t4 (zI 9) pZ)))))
 (zt (zG 10 (zA listS (zc (ze 7) zl)))
 (zt (zG 11 (cS .zg))
 (zt (zG 12 (cS .zg))
 (zt (gP 13 12 (oZ 11 uO (zc (zo 3) (zc (zo 5) (zc (zo 6) (zc (zo 10) zl))))))
 (zt (zW (zL (zb (zC true) (ze 10) (ze 7))) (retS (cS (.bl false))) zV)
 (zt (zW (zL (zb (yf true) (ze 8) (cS .zg))) (retS (vJ (zb (yf false) (ze 12) (cS .zg)) (vJ (zA (yV 6) (zc (zo 11) (zc (zo 8) zl))) (zb (zC false) (zA (js uO) (zc (zo 3) (zc (zo 5) (zc (zo 6) (zc (yI zl) zl))))) (yI zl))))) zV)
 (zt (zW (zL (zb (zC true) (zA q_ (zc (zo 12) zl)) (yI (zc (zo 9) (zc (cS (.int 9)) (zc (cS (.int 10)) zl)))))) (retS (cS (.bl false))) zV)
 (zt (zW (zL (zb (zC false) (ze 9) (cS (.int 4)))) (retS (zA qZ (zc (jZ "way" (ze 12)) (zc (zb zj (zb zj (ze 7) (jt (cS (.int 1)))) (cS (.int 1))) zl)))) zV)
 (retS (zA qZ (zc (jZ "times" (ze 12)) (zc (zb zj (zb zj (ze 7) (jt (cS (.int 1)))) (cS (.int 0))) zl))))))))))))))))))))
def tF:List T->Option T:=ya ["_law_script","_law_number","_law_many","_law_floor_here","_law_mixed_here","_law_place","_law_pair_here","_law_deeds","_law_due","_law_fault_here","_law_handed","_law_found","_law_caught","e"] 1 oX
def uv (t:T):Bool:=!yC t&&(match t with | .tup ts=>ts.all (λ u=>!yC u) | _=>true)
def uv.top {t:T}(h:uv t=true):yC t=false:=by
 unfold uv at h
 simp only[AU,Dt] at h
 exact h.1
def uv.mem {ts:List T}(h:uv (.tup ts)=true) {u:T}(hu:u∈ts):yC u=false:=by
 simp only[uv,AU,AW,Dt] at h
 exact h.2 u hu
noncomputable def wh (t:T) (a b:Int):Bool:=match t with
 | .int i=>decide (a<=i)&&decide (i<=b)
 | _=>false
def iT (t:T) (he:yC t=false):oO [t]=some (.bl (match t with | .int _=>true | _=>false)):=by
 cases t with
 | err _ _ _=>cases he
 | _=>simp[oO,gj,yJ]
def iR (t:T) (a b:Int) (he:yC t=false):rY [t,.int a,.int b]=some (.bl (wh t a b)):=by
 cases t with
 | int i=>
  unfold rY lF wh
  by_cases h1:a<=i <;> by_cases h2:i<=b <;> simp[iT _ he,h1,h2]
 | err _ _ _=>cases he
 | _=>simp[rY,lF,wh,iT _ he]
def eq_int (i j:Int) (neg:Bool):zC neg (.int i) (.int j)=some (.bl (cond neg (!decide (i=j)) (decide (i=j)))):=by
 have:eqT (.int i) (.int j)=decide (i=j):=by simp[eqT,Bool.beq_eq_decide_eq]
 simp[zC,dep,this]
theorem gq {α:Type}(enc:α->T):∀ (ts:List T) (bs:List α),List.zipWith (λ a b=>T.tup [a,b]) ts (bs.map enc)=(ts.zip bs).map λ p=>T.tup [p.1,enc p.2]
 | [],bs=>by simp
 | t::ts,[]=>by simp
 | t::ts,b::bs=>by simp[gq enc ts bs]
def RO {α:Type}(g:α->Bool) (xs:List α):t5 (xs.map λ x=>T.bl (g x))=some (xs.map g):=by
 have:=bM (xs.map g)
 rw[Bp] at this
 exact this
def Qc {α:Type}(g:α->Bool) (xs:List α):(xs.map g).all id=xs.all g:=by
 rw[List.all_map];rfl
def wg (t:T) (bs:List (Int×Int)):Bool:=match t with
 | .tup ts=>decide (ts.length=bs.length)&&(ts.zip bs).all λ p=>wh p.1 p.2.1 p.2.2
 | _=>false
def Qs (t:T) (bs:List (Int×Int)) (hl:bs.length<=100) (he:uv t=true):oP [t,.tup (bs.map zp)]=some (.bl (wg t bs)):=by
 cases t with
 | tup ts=>
  unfold oP lG wg
  by_cases h:ts.length=bs.length
  ·have hc:mH [some (.im (.tup ts)),some (.im (.tup (bs.map zp)))]=some (.lst ((ts.zip bs).map λ p=>T.bl (wh p.1 p.2.1 p.2.2))):=by
    unfold mH
    refine dG (λ p:T×(Int×Int)=>T.tup [p.1,zp p.2]) _ (ts.zip bs) ?_ ?_ λ p hp=>?_
    ·simp[gq]
    ·simp;lia
    ·simp[qB,zp,iR _ _ _ (uv.mem he (De hp).1)]
   simp[yJ,eq_int,h,hc,RO,Qc]
  ·have h':¬ (ts.length:Int)=bs.length:=by lia
   simp[yJ,eq_int,h,h']
 | err _ _ _=>cases uv.top he
 | _=>simp[oP,lG,wg,yJ]
def YQ {t:T}{bs:List (Int×Int)}(h:wg t bs=true):∃ r:List Int,t=zw r/\r.length=bs.length/\∀ (i:Nat) x b,r[i]?=some x->bs[i]?=some b->b.1<=x/\x<=b.2:=by
 cases t with
 | tup ts=>
  simp only[wg,AU,decide_eq_true_eq] at h
  obtain⟨hl,ha⟩:=h
  have key:∀ (ts:List T) (bs:List (Int×Int)),ts.length=bs.length->((ts.zip bs).all λ p=>wh p.1 p.2.1 p.2.2)=true->∃ r:List Int,ts=r.map T.int/\r.length=bs.length/\∀ (i:Nat) x b,r[i]?=some x->bs[i]?=some b->b.1<=x/\x<=b.2:=by
   intro ts
   induction ts with
   | nil=>intro bs hl _;exact⟨[],rfl,by simpa using hl,λ i x b hx=>by simp at hx⟩
   | cons t ts ih=>
    intro bs hl ha
    cases bs with
    | nil=>simp at hl
    | cons b bs=>
     simp only[Dv,List.all_cons,AU] at ha
     obtain⟨r,r1,r2,r3⟩:=ih bs (by simpa using hl) ha.2
     cases t with
     | int i=>
      have h1:=ha.1
      simp only[wh,AU,decide_eq_true_eq] at h1
      refine⟨i::r,by rw[r1];rfl,by simp[r2],λ j x c hx hc=>?_⟩
      cases j with
      | zero=>simp at hx hc;subst hx hc;exact h1
      | succ j=>exact r3 j x c (by simpa using hx) (by simpa using hc)
     | _=>simp[wh] at ha
  obtain⟨r,r1,r2,r3⟩:=key ts bs hl ha
  exact⟨r,by rw[r1];rfl,r2,r3⟩
 | _=>simp[wg] at h
noncomputable def o_:List (List Int)->Bool
 | a::b::l=>HT.lexLt a b&&o_ (b::l)
 | _=>true
noncomputable def uo:List Int->Bool
 | a::b::l=>decide (a<b)&&uo (b::l)
 | _=>true
noncomputable def eT (k l:Str) (t:T):Bool:=match t with
 | .str x=>k == x||l == x
 | _=>false
def rl (t:T):Bool:=eT "keeper" "taker" t
def rowOf (t:T):List Int:=match t with
 | .tup xs=>(vA xs).getD []
 | _=>[]
def sS (r:List Int):rowOf (zw r)=r:=by simp[rowOf,zw,cx]
def nL (rs:List (List Int)):(rs.map zw).map rowOf=rs:=by
 rw[Bp]
 conv=>rhs;rw[<- List.map_id rs]
 exact Dj λ r _=>sS r
noncomputable def wb (n:Int):List (Int×Int):=[(0,n-1),(0,n-1),(-12,12),(-12,12)]
noncomputable def sb (n:Int):List (Int×Int):=[(0,n-1),(0,1),(1,12),(0,12)]
noncomputable def fst (r:List Int):Int:=r.getD 0 0
def p7 (t:T) (n:Nat):Bool:=match t with
 | .tup ts=>(ts.all λ r=>wg r (wb n))&&(decide (ts.length<=24)&&(o_ (ts.map rowOf)&&(List.range n).all λ(k:Nat)=>((ts.map rowOf).map fst).any λ i=>decide (i=(k:Int))))
 | _=>false
def Rf (a k:Int):eqT (.int a) (.int k)=decide (a=k):=by simp only[eqT,Bool.beq_eq_decide_eq]
def nM {r:List Int}(h:r.length=4):∃ a b c d,r=[a,b,c,d]:=by
 match r,h with
 | [a,b,c,d],_=>exact⟨a,b,c,d,rfl⟩
noncomputable def keeps (os:List T) (p:Int):Bool:=match os[p.toNat]? with
 | some (.str x)=>x == "keeper"
 | _=>false
def tM (t:T) (os:List T):Bool:=match t with
 | .tup ts=>(ts.all λ r=>wg r (sb os.length))&&(uo ((ts.map rowOf).map fst)&&((ts.map rowOf).map fst).all (keeps os))
 | _=>false
def eq_str (x y:Str) (neg:Bool):zC neg (.str x) (.str y)=some (.bl (cond neg (!(x == y)) (x == y))):=by
 simp[zC,dep,eqT]
def dS {os:List T}{p:Int}(h0:0<=p) (h1:p<os.length) (ho:os.all rl=true) (k:Str):∃ x:Str,L2.zD os p=some (.str x)/\os[p.toNat]?=some (.str x):=by
 have hl:p.toNat<os.length:=by lia
 have e:os[p.toNat]?=some os[p.toNat]:=BL hl
 have ha:L2.zD os p=some os[p.toNat]:=by
  have:=x8 (k:=p.toNat) e
  rw[Int.toNat_of_nonneg h0] at this
  exact this
 have hw:=AW.mp ho os[p.toNat] (BW hl)
 generalize hq:os[p.toNat]=q at *
 cases q with
 | str x=>exact⟨x,ha,e⟩
 | _=>simp[rl,eT] at hw
def fO (x y z v:T) (p q r s:Int×Int):wg (.tup [x,y,z,v]) [p,q,r,s]=(wh x p.1 p.2&&(wh y q.1 q.2&&(wh z r.1 r.2&&wh v s.1 s.2))):=by simp[wg]
noncomputable def iz (m:Int) (ns:List Int) (k:Nat):Int:=if k<ns.length then ns.getD k 0%m else 0
def d0 (m a b c d e:T):Sm:=
 (zt (zG 2 (cS (.int 0)))
 (zt (zW (zL (zb zX (ze 1) (zA yT (zc (ze 0) zl)))) (zG 2 (zb zS (zb zj (ze 0) (ze 1)) (zb sU (cS (.int 2)) (cS m)))) zV)
 (retS (zb yg (zb zS (zb yB (zb yB (zb yw (ze 2) (cS a)) (zb yw (zb yw (cS b) (ze 1)) (ze 1))) (zb yw (cS c) (ze 1))) (cS d)) (cS e)))))
def UL (m a b c d e:Int) (ns:List Int) (k:Nat) (hp:tG 2 m) (hm:0<(2:Int) ^ m.toNat) (h1:∀ i,xh i a) (h2:∀ i,xh b i) (h3:∀ i,xh i (k:Int)) (h4:∀ i,xh c i) (h5:0<d) (h6:y6 0 e):
  uX (d0 (.int m) (.int a) (.int b) (.int c) (.int d) (.int e) [some (.im (yH ns)),some (.im (.int k)),none])=some (.int ((iz (2 ^ m.toNat) ns k*a+b*(k:Int)*(k:Int)+c*(k:Int))%d/e)):=by
 have h6':∀ i,y6 i e:=λ i=>h6
 unfold d0 yH iz
 by_cases h:k<ns.length
 ·have q:L2.zD (ns.map T.int) (k:Int)=some (.int (ns.getD k 0)):=x8 (by simp[h])
  have h':(k:Int)<(ns.length:Int):=by lia
  simp[h,h',q,zX,hp,hm,yw,h1,h2,h3,h4,h5,h6',uX]
 ·have h':¬ (k:Int)<(ns.length:Int):=by lia
  simp[h,h',zX,yw,h1,h2,h3,h4,h5,h6',uX]
def mixed (ns:List Int) (k:Nat):Int:=(iz (2 ^ (64:Int).toNat) ns k*46337+2741*(k:Int)*(k:Int)+59*(k:Int))%2147483629/2
def half_lt (x d:Int) (h:0<d):0<=x%d/2/\x%d/2<d:=by
 have h1:=BK x (b:=d) (by lia)
 have h2:=BJ x h
 lia
def q8 (ns:List Int) (k:Nat):0<=mixed ns k/\mixed ns k<2147483629:=half_lt _ _ (by decide)
def qY (ns:List Int) (k:Nat) (hk:k<=1000):vM [yH ns,.int (k:Int)]=some (.int (mixed ns k)):=
 UL 64 46337 2741 59 2147483629 2 ns k ⟨by decide,by decide,by decide⟩ (by decide) (λ i=>.inr ⟨by decide,by decide⟩) (λ i=>.inl ⟨by decide,by decide⟩) (λ i=>.inr ⟨by lia,by lia⟩) (λ i=>.inl ⟨by decide,by decide⟩) (by decide) ⟨by decide,by decide⟩
def tJ (n:Nat) (r:List Int):Prop:=∃ a b c d:Int,r=[a,b,c,d]/\(0<=a/\a<n)/\(0<=b/\b<n)/\(-12<=c/\c<=12)/\(-12<=d/\d<=12)
def b9 (x s:Int) (h1:1<=s) (h2:s<=12):-12<=x%(2*s+1)-s/\x%(2*s+1)-s<=12:=by
 have a:=BK x (b:=2*s+1) (by lia)
 have b:=BJ x (b:=2*s+1) (by lia)
 lia
def two (x:Int):x%2=0\/x%2=1:=by lia
def Zr (ns:List Int) (at' many k:Nat) (more span:Int) (rows:List T) (ha:at' + k<=1000) (hm:1<=many) (hs1:1<=span) (hs2:span<=12) (hl:rows.length<=1000):
  ∃ a b c d m:Int,tJ many [a,b,c,d]/\(k<many->a=k)/\turn (zI 6) qR (.int (0+(k:Int))) [some (.im (yH ns)),some (.im (.int at')),some (.im (.int many)),some (.im (.int more)),some (.im (.int span)),some (.own (.lst rows)),none,none,none,none] =
   some (.nx [some (.im (yH ns)),some (.im (.int at')),some (.im (.int many)),some (.im (.int more)),some (.im (.int span)),some (.own (.lst (rows++[zw [a,b,c,d]]))),some (.im (.int (0+(k:Int)))),some (.im (.int m)),some (.im (.int a)),some (.own (.lst [.int c,.int d]))]):=by
 have Bk:=qY ns (at' + k) ha
 have hca:((at':Int)+(k:Int))=((at' + k:Nat):Int):=by lia
 obtain⟨m0,_⟩:=q8 ns (at' + k)
 generalize mixed ns (at' + k)=m at *
 have pm:(0:Int)<many:=by lia
 have pN:0<many:=hm
 have ps:0<2*span+1:=by lia
 have cm:xh 2 span:=.inl ⟨by decide,by decide⟩
 have e1:=BK m (b:=(many:Int)) (by lia)
 have e2:=BJ m pm
 have e3:=BK (m/8) (b:=(many:Int)) (by lia)
 have e4:=BJ (m/8) pm
 have c1:=b9 (m/64) span hs1 hs2
 have c2:=b9 (m/2048) span hs1 hs2
 have hl':rows.length<16777216:=by lia
 have d64:y6 m 64:=⟨by decide,by decide⟩
 have d2048:y6 m 2048:=⟨by decide,by decide⟩
 have d65536:y6 m 65536:=⟨by decide,by decide⟩
 have d327680:y6 m 327680:=⟨by decide,by decide⟩
 have d8:y6 m 8:=⟨by decide,by decide⟩
 have z2:xV 2 0=some 0:=rfl
 have o2:xV 2 1=some 1:=rfl
 have cc:(0:Int)+(k:Int)=(k:Int):=by lia
 rw[hca.symm] at Bk
 have st:∃ a:Int,(0<=a/\a<many)/\(k<many->a=k)/\(if (k:Int)<(many:Int) then (k:Int) else m%many)=a:=by
  by_cases hk:k<many
  ·exact⟨k,by lia,λ _=>rfl,by rw[if_pos (by lia)]⟩
  ·exact⟨m%many,⟨e1,e2⟩,λ h=>absurd h hk,by rw[if_neg (by lia)]⟩
 obtain⟨a,a1,a2,a3⟩:=st
 have fin:∀ c d:Int,(-12<=c/\c<=12)->(-12<=d/\d<=12)->tJ many [a,m/8%many,c,d]:=λ c d h1 h2=>⟨_,_,_,_,rfl,a1,⟨e3,e4⟩,h1,h2⟩
 have zz:(-12:Int)<=0/\(0:Int)<=12:=⟨by decide,by decide⟩
 rw[cc]
 unfold turn qR
 by_cases h5:m/65536%5=0
 ·rcases two (m/327680) with h2 | h2
  ·refine⟨a,m/8%many,0,m/2048%(2*span+1)-span,m,fin _ _ zz c2,a2,?_⟩
   by_cases hk:(k:Int)<(many:Int)
   ·rw[if_pos hk] at a3
    subst a3
    have hN:k<many:=by lia
    simp[Bk,zX,hk,hN,pN,yw,cm,pm,ps,d64,d2048,d65536,d327680,d8,eq_int,h5,h2,z2,zw,hl']
   ·rw[if_neg hk] at a3
    subst a3
    have hN:¬ k<many:=by lia
    simp[Bk,zX,hk,hN,pN,yw,cm,pm,ps,d64,d2048,d65536,d327680,d8,eq_int,h5,h2,z2,zw,hl']
  ·refine⟨a,m/8%many,m/64%(2*span+1)-span,0,m,fin _ _ c1 zz,a2,?_⟩
   by_cases hk:(k:Int)<(many:Int)
   ·rw[if_pos hk] at a3
    subst a3
    have hN:k<many:=by lia
    simp[Bk,zX,hk,hN,pN,yw,cm,pm,ps,d64,d2048,d65536,d327680,d8,eq_int,h5,h2,o2,zw,hl']
   ·rw[if_neg hk] at a3
    subst a3
    have hN:¬ k<many:=by lia
    simp[Bk,zX,hk,hN,pN,yw,cm,pm,ps,d64,d2048,d65536,d327680,d8,eq_int,h5,h2,o2,zw,hl']
 ·refine⟨a,m/8%many,m/64%(2*span+1)-span,m/2048%(2*span+1)-span,m,fin _ _ c1 c2,a2,?_⟩
  by_cases hk:(k:Int)<(many:Int)
  ·rw[if_pos hk] at a3
   subst a3
   have hN:k<many:=by lia
   simp[Bk,zX,hk,hN,pN,yw,cm,pm,ps,d64,d2048,d65536,d8,eq_int,h5,zw,hl']
  ·rw[if_neg hk] at a3
   subst a3
   have hN:¬ k<many:=by lia
   simp[Bk,zX,hk,hN,pN,yw,cm,pm,ps,d64,d2048,d65536,d8,eq_int,h5,zw,hl']
def tJ.row {n:Nat}{r:List Int}(h:tJ n r):wg (zw r) (wb n)=true:=by
 obtain⟨a,b,c,d,rfl,h1,h2,h3,h4⟩:=h
 have e:zw [a,b,c,d]=.tup [.int a,.int b,.int c,.int d]:=rfl
 rw[e]
 unfold wb
 rw[fO]
 simp only[wh,AU,decide_eq_true_eq]
 lia
theorem gH:∀ {rs:List (List Int)},rs.Pairwise (λ a b=>HT.lexLt b a=false)->rs.Nodup->o_ rs=true
 | [],_,_=>rfl
 | [a],_,_=>rfl
 | a::b::l,h,nd=>by
  have h1:=BZ.mp h
  have n1:=A2.mp nd
  rw[o_,gH h1.2 n1.2,Bool.and_true]
  cases q:HT.lexLt a b with
  | true=>rfl
  | false=>exact absurd (L4.j5 a b q (h1.1 b Ap)▸Ap) n1.1
def TQ {r:List Int}{rs:List (List Int)}:vA ((r::rs).map zw)=none:=rfl
def Yn (rs:List (List Int)) (h0:rs≠[]) (hl:rs.length<64) (hn:∀ r∈rs,r≠[]):nv [.lst (rs.map zw)]=some (.lst ((L4.vP (xM rs)).map zw)):=by
 cases rs with
 | nil=>exact absurd rfl h0
 | cons r rs=>
  show (match vA ((r::rs).map zw) with
   | some ns=>if ns.length<64 then some (T.lst ((vy ns).map T.int)) else none
   | none=>ny [T.lst ((r::rs).map zw)])=_
  rw[TQ]
  show (tP ((r::rs).map zw)).bind _=_
  rw[YO,B4,if_pos ⟨hl,hn⟩]
def Qt (ns:List Int) (at' many more:Nat) (span:Int) (ha:at'<=100) (hm:1<=many) (hm8:many<=8) (Co:more<=16) (hs1:1<=span) (hs2:span<=12):
  ∃ rs:List (List Int),ll [yH ns,.int at',.int many,.int more,.int span]=some (.tup (rs.map zw))/\p7 (.tup (rs.map zw)) many=true/\rs≠[]/\rs.length<=24/\∀ r∈rs,tJ many r:=by
 obtain⟨J',h1,rows,h2,h3,h4,h5⟩:=jy (is:=[6,7,8,9]) (g:=zI 6) (b:=qR) (λ k:Nat=>T.int (0+(k:Int))) (λ p J=>∃ rows:List (List Int),J=[some (.im (yH ns)),some (.im (.int at')),some (.im (.int many)),some (.im (.int more)),some (.im (.int span)),some (.own (.lst (rows.map zw))),none,none,none,none]/\
   rows.length=p.length/\(∀ r∈rows,tJ many r)/\∀ k∈p,k<many->(k:Int)∈rows.map fst) (List.range (many+more)) [some (.im (yH ns)),some (.im (.int at')),some (.im (.int many)),some (.im (.int more)),some (.im (.int span)),some (.own (.lst [])),none,none,none,none]
   ⟨[],rfl,rfl,nofun,nofun⟩ (by
  rintro p k q e J ⟨rows,rfl,r1,r2,r3⟩
  have hp:p.length+1<=many+more:=by
   have:=congrArg List.length e
   simp at this;lia
  have hk:k<many+more:=by
   have:k∈List.range (many+more):=by rw[e];simp
   simpa using this
  obtain⟨a,b,c,d,m,w1,w2,w3⟩:=Zr ns at' many k more span (rows.map zw) (by lia) hm hs1 hs2 (by simp;lia)
  refine⟨_,w3,rows++[[a,b,c,d]],by simp,by simp[r1],λ r hr=>?_,λ j hj hjm=>?_⟩
  ·rcases A1.mp hr with z | z
   ·exact r2 r z
   ·cases AF.mp z;exact w1
  ·rw[B2]
   rcases A1.mp hj with z | z
   ·exact Cg _ (r3 j z hjm)
   ·cases AF.mp z
    exact AN _ (by rw[<- w2 hjm];exact Ap))
 subst h2
 have hlen:rows.length=many+more:=by rw[h3];simp
 have An:rows≠[]:=λ z=>by rw[z] at hlen;simp at hlen;lia
 have DL:∀ r∈rows,r≠[]:=λ r hr=>by obtain⟨a,b,c,d,rfl,_⟩:=h4 r hr;simp
 have hss:=Yn rows An (by lia) DL
 have A_:∀ r,r∈L4.vP (xM rows)↔r∈rows:=λ r=>by rw[(L4.nA _).mem_iff,oa]
 have hl24:(L4.vP (xM rows)).length<=24:=by rw[(L4.nA _).length_eq];have:=jo rows;lia
 refine⟨L4.vP (xM rows),?_,?_,?_,hl24,λ r hr=>h4 r ((A_ r).mp hr)⟩
 ·obtain⟨N,hN⟩:∃ N,N=many+more:=⟨_,rfl⟩
  have hr:=wM N (by lia)
  have ee:((many:Int)+(more:Int))=(N:Int):=by lia
  rw[<- hN] at h1
  simp only[Ct] at h1 hr
  unfold ll gd
  generalize qR=bb at h1 ⊢
  simp[ee,hr,h1,hss]
 ·simp only[p7,nL,AU,decide_eq_true_eq,Aq]
  refine⟨AW.mpr λ t ht=>?_,hl24,gH (L4.fh _) ((L4.nA _).nodup_iff.mpr (ma rows)),AW.mpr λ k hk=>?_⟩
  ·obtain⟨r,hr,rfl⟩:=AE.mp ht
   exact (h4 r ((A_ r).mp hr)).row
  ·have hk':k<many:=by simpa using hk
   have:=h5 k (by simp;lia) hk'
   obtain⟨r,hr,e⟩:=AE.mp this
   exact CG.mpr ⟨fst r,AE.mpr ⟨r,(A_ r).mpr hr,rfl⟩,by simp[e]⟩
 ·intro z
  cases hr:rows with
  | nil=>exact An hr
  | cons r l=>
   have:r∈L4.vP (xM rows):=(A_ r).mpr (by rw[hr];exact Ap)
   rw[z] at this;cases this
def lX (os:List T) (r:List Int):Prop:=∃ a b c d:Int,r=[a,b,c,d]/\(0<=a/\a<os.length)/\(0<=b/\b<=1)/\(1<=c/\c<=12)/\(0<=d/\d<=12)/\keeps os a=true
def lX.row {os:List T}{r:List Int}(h:lX os r):wg (zw r) (sb os.length)=true:=by
 obtain⟨a,b,c,d,rfl,h1,h2,h3,h4,_⟩:=h
 have e:zw [a,b,c,d]=.tup [.int a,.int b,.int c,.int d]:=rfl
 rw[e]
 unfold sb
 rw[fO]
 simp only[wh,AU,decide_eq_true_eq]
 lia
theorem gJ:∀ (ns:List Int) (x:Int),uo ns=true->(∀ n∈ns,n<x)->uo (ns++[x])=true
 | [],x,_,_=>rfl
 | [a],x,_,h=>by simp[uo];exact h a Ap
 | a::b::l,x,h,hx=>by
  have h':decide (a<b)=true/\uo (b::l)=true:=by simpa [uo] using h
  have ih:=gJ (b::l) x h'.2 λ n hn=>hx n (Av _ hn)
  show (decide (a<b)&&uo ((b::l)++[x]))=true
  rw[h'.1,ih];rfl
def Yi (os:List T) (k:Nat) (hk:k<os.length) (s kk:Str) (hs:L2.zD os (k:Int)=some (.str s)) (cell:Int) (rows:List T) (hl:rows.length<=1000) (bb:Sm)
  (hb:bb=(zt (zW (vG (zL (zb (zC false) (zb zj (ze 1) (ze 3)) (cS (.str kk)))) (zL (zb (zC false) (zb zS (ze 0) (cS (.int 2))) (cS (.int 1))))) (ug 2 (tupS (zc (zo 3) (zc (zb zS (zb yg (ze 0) (cS (.int 2))) (cS (.int 2))) (zc (zb yB (cS (.int 1)) (zb zS (zb yg (ze 0) (cS (.int 4))) (cS (.int 12)))) (zc (zb zS (zb yg (ze 0) (cS (.int 48))) (cS (.int 13))) zl)))))) zV)
 (zG 0 (zb yg (ze 0) (cS (.int 624)))))):
  turn (zI 3) bb (.int (0+(k:Int))) [some (.im (.int cell)),some (.im (.lst os)),some (.own (.lst rows)),none]=some (.nx [some (.im (.int (cell/624))),some (.im (.lst os)),some (.own (.lst (rows++(if (s == kk)=true/\cell%2=1 then [zw [(k:Int),cell/2%2,1+cell/4%12,cell/48%13]] else [])))),some (.im (.int (k:Int)))]):=by
 have hl':rows.length<16777216:=by lia
 have d624:y6 cell 624:=⟨by decide,by decide⟩
 have d2:y6 cell 2:=⟨by decide,by decide⟩
 have d4:y6 cell 4:=⟨by decide,by decide⟩
 have d48:y6 cell 48:=⟨by decide,by decide⟩
 have cc:(0:Int)+(k:Int)=(k:Int):=by lia
 rw[cc]
 subst hb
 unfold turn
 cases hq:(s == kk)
 ·simp[hs,eq_str,hq,d624]
 ·by_cases h2:cell%2=1
  ·simp[hs,eq_str,hq,eq_int,h2,d624,d2,d4,d48,hl',zw]
  ·simp[hs,eq_str,hq,eq_int,h2,d624]
def Qv (cell:Int) (os:List T) (ho:os.all rl=true) (h8:os.length<=8):∃ qs:List (List Int),lq [.int cell,.lst os]=some (.tup (qs.map zw))/\tM (.tup (qs.map zw)) os=true/\qs.length<=8:=by
 obtain⟨J',h1,c',qs,h2,h3,h4,h5,h6⟩:=jy (is:=[3]) (g:=zI 3) (b:=o8) (λ k:Nat=>T.int (0+(k:Int))) (λ p J=>∃ (c:Int) (qs:List (List Int)),J=[some (.im (.int c)),some (.im (.lst os)),some (.own (.lst (qs.map zw))),none]/\qs.length<=p.length/\(∀ r∈qs,lX os r)/\uo (qs.map fst)=true/\∀ n∈qs.map fst,n<(p.length:Int))
   (List.range os.length) [some (.im (.int cell)),some (.im (.lst os)),some (.own (.lst [])),none] ⟨cell,[],rfl,Ad _,nofun,rfl,nofun⟩ (by
  rintro p k q e J ⟨c,qs,rfl,r1,r2,r3,r4⟩
  have hpk:p.length=k:=by
   have h:=congrArg (λ l=>l[p.length]?) e
   have hp:p.length<os.length:=by have:=congrArg List.length e;simp at this;lia
   simp[hp] at h
   exact h
  have hk:k<os.length:=by
   have:k∈List.range os.length:=by rw[e];simp
   simpa using this
  obtain⟨s,s1,s2⟩:=dS (os:=os) (p:=(k:Int)) (by lia) (by lia) ho "keeper"
  have tn:=Yi os k hk s "keeper" s1 c (qs.map zw) (by simp;lia) o8 rfl
  have ek:keeps os (k:Int)=(s == "keeper"):=by unfold keeps;rw[s2]
  by_cases hc:(s == "keeper")=true/\c%2=1
  ·rw[if_pos hc] at tn
   refine⟨_,tn,c/624,qs++[[(k:Int),c/2%2,1+c/4%12,c/48%13]],by simp,by simp;lia,λ r hr=>?_,?_,λ n hn=>?_⟩
   ·rcases A1.mp hr with z | z
    ·exact r2 r z
    ·cases AF.mp z
     exact⟨_,_,_,_,rfl,by lia,by lia,by lia,by lia,by rw[ek];exact hc.1⟩
   ·rw[B2]
    refine gJ _ _ r3 λ n hn=>?_
    have:=r4 n hn
    show n<(k:Int)
    lia
   ·rw[B2] at hn
    rcases A1.mp hn with z | z
    ·have:=r4 n z;simp;lia
    ·have:n=(k:Int):=by simpa [fst] using z
     simp;lia
  ·rw[if_neg hc,BC] at tn
   exact⟨_,tn,c/624,qs,by simp,by simp;lia,r2,r3,λ n hn=>by have:=r4 n hn;simp;lia⟩)
 subst h2
 refine⟨qs,?_,?_,by simp at h3;lia⟩
 ·have hr:=wM os.length (by lia)
  simp only[Ct] at h1 hr
  unfold lq gg
  generalize o8=bb at h1 ⊢
  simp[hr,h1]
 ·simp only[tM,nL,h5,Bool.true_and,AU]
  refine⟨AW.mpr λ t ht=>?_,AW.mpr λ n hn=>?_⟩
  ·obtain⟨r,hr,rfl⟩:=AE.mp ht
   exact (h4 r hr).row
  ·obtain⟨r,hr,rfl⟩:=AE.mp hn
   obtain⟨a,b,c,d,rfl,_,_,_,_,h⟩:=h4 r hr
   exact h
def fJ (b m e:T):Sm:=
 (zt (zW (vG (xl (ze 2)) (zL (zb zX (ze 1) (zA yT (zc (ze 0) zl))))) (retS (zb zS (zb zj (ze 0) (ze 1)) (zb sU (cS b) (cS m)))) zV)
 (zt (zG 3 (zA vM (zc (zo 0) (zc (zo 1) zl))))
 (retS (zb yB (zb yw (zb yw (ze 3) (ze 3)) (ze 3)) (zb yw (cS e) (ze 3))))))
def YD (b m e:Int) (ns:List Int) (k:Nat) (d:Bool) (hk:k<=1000) (hp:tG b m) (hm:0<b ^ m.toNat) (he:∀ i,xh e i) (hx:∀ i j:Int,0<=i->i<2147483629->xh j i):
  ∃ c,uX (fJ (.int b) (.int m) (.int e) [some (.im (yH ns)),some (.im (.int k)),some (.im (.bl d)),none])=some (.int c):=by
 have Bk:=qY ns k hk
 obtain⟨m0,m1⟩:=q8 ns k
 generalize mixed ns k=q at *
 have x1:=hx q q m0 m1
 have x2:=hx q (q*q) m0 m1
 unfold fJ yH at *
 cases d
 ·exact⟨_,by simp[Bk,yw,x1,x2,he,uX];rfl⟩
 ·by_cases h:k<ns.length
  ·have z:L2.zD (ns.map T.int) (k:Int)=some (.int (ns.getD k 0)):=x8 (by simp[h])
   have h':(k:Int)<(ns.length:Int):=by lia
   exact⟨_,by simp[h,h',z,zX,hp,hm,uX];rfl⟩
  ·have h':¬ (k:Int)<(ns.length:Int):=by lia
   exact⟨_,by simp[h,h',zX,Bk,yw,x1,x2,he,uX];rfl⟩
def Qp (ns:List Int) (k:Nat) (d:Bool) (hk:k<=1000):∃ c,iW [yH ns,.int (k:Int),.bl d]=some (.int c):=
 YD 10 64 104729 ns k d hk ⟨by decide,by decide,by decide⟩ (by decide) (λ i=>.inl ⟨by decide,by decide⟩) (λ i j h1 h2=>.inr ⟨by lia,by lia⟩)
def Qb (x:Int) (h:0<=x):Builtin.bitAnd x 1=0\/Builtin.bitAnd x 1=1:=by
 have e:Builtin.bitAnd x 1=((x.toNat &&& 1:Nat):Int):=by
  unfold Builtin.bitAnd
  simp[h]
 rw[e,Nat.and_one_is_mod]
 lia
noncomputable def kt (b:Bool):T:=cond b (.str "keeper") (.str "taker")
def dN (b:Bool):rl (kt b)=true:=by cases b <;> decide
def W5 (k l:Str) (s a m b e x:T) (p:Nat) (num:Int) (h0:0<=num) (rows:List T) (hl:rows.length<=1000) (u v:Option W) (bb:Sm)
  (hb:bb=(ug 6 (zb zj (yI (zc (cS (.str k)) (zc (cS (.str l)) zl))) (zb i7 (zb lY (ze 5) (ze 7)) (cS (.int 1)))))):
  ∃ y,(y=.str k\/y=.str l)/\turn (zI 7) bb (.int (0+(p:Int))) [some (.im s),some (.im a),some (.im m),some (.im b),some (.im e),some (.im (.int num)),some (.own (.lst rows)),none,u,v] =
   some (.nx [some (.im s),some (.im a),some (.im m),some (.im b),some (.im e),some (.im (.int num)),some (.own (.lst (rows++[y]))),some (.im (.int (p:Int))),u,v]):=by
 have hl':rows.length<16777216:=by lia
 have cc:(0:Int)+(p:Int)=(p:Int):=by lia
 have hq:0<=num/2 ^ (p:Int).toNat:=Int.ediv_nonneg h0 (Int.pow_nonneg (by decide))
 rw[cc]
 subst hb
 unfold turn
 have tn:(p:Int).toNat=p:=by simp
 rw[tn] at hq
 rcases Qb _ hq with h | h
 ·exact⟨.str k,.inl rfl,by simp[h,hl']⟩
 ·exact⟨.str l,.inr rfl,by simp[h,hl']⟩
def four (x:Int):x%4=0\/x%4=1\/x%4=2\/x%4=3:=by lia
def Qz (ns:List Int) (at' many more:Nat) (br:T) (ha:at'<=50) (hm:1<=many) (hm8:many<=8) (Co:more<=16):
  ∃ (os:List T) (rs qs:List (List Int)),ph [yH ns,.int at',.int many,br,.int more]=some (.tup [br,.tup os,.tup (rs.map zw),.tup (qs.map zw)])/\os.length=many/\os.all rl=true/\
   p7 (.tup (rs.map zw)) many=true/\tM (.tup (qs.map zw)) os=true/\rs≠[]/\rs.length<=24/\qs.length<=8/\∀ r∈rs,tJ many r:=by
 have Bk:=qY ns at' (by lia)
 obtain⟨m0,m1⟩:=q8 ns at'
 generalize mixed ns at'=num at *
 obtain⟨J',h1,os,h2,h3,h4⟩:=jy (is:=[7]) (g:=zI 7) (b:=qS) (λ k:Nat=>T.int (0+(k:Int))) (λ p J=>∃ os:List T,J=[some (.im (yH ns)),some (.im (.int at')),some (.im (.int many)),some (.im br),some (.im (.int more)),some (.im (.int num)),some (.own (.lst os)),none,none,none]/\os.length=p.length/\os.all rl=true)
   (List.range many) [some (.im (yH ns)),some (.im (.int at')),some (.im (.int many)),some (.im br),some (.im (.int more)),some (.im (.int num)),some (.own (.lst [])),none,none,none] ⟨[],rfl,rfl,rfl⟩ (by
  rintro p k q e J ⟨os,rfl,r1,r2⟩
  have hp:p.length<many:=by have:=congrArg List.length e;simp at this;lia
  obtain⟨y,y1,y2⟩:=W5 "keeper" "taker" (yH ns) (.int at') (.int many) br (.int more) (.int 0) k num m0 os (by lia) none none qS rfl
  refine⟨_,y2,os++[y],rfl,by simp[r1],?_⟩
  rw[List.all_append,r2]
  rcases y1 with z | z
  ·subst z;exact dN true
  ·subst z;exact dN false)
 subst h2
 have BG:os.length=many:=by simpa using h3
 have d256:y6 num 256:=⟨by decide,by decide⟩
 have d1024:y6 num 1024:=⟨by decide,by decide⟩
 have d3072:y6 num 3072:=⟨by decide,by decide⟩
 obtain⟨span,s1,s2,s3⟩:∃ span:Int,1<=span/\span<=12/\L2.zD [T.int 1,.int 2,.int 3,.int 12] (num/256%4)=some (.int span):=by
  rcases four (num/256) with h | h | h | h <;> rw[h]
  ·exact⟨1,by decide,by decide,rfl⟩
  ·exact⟨2,by decide,by decide,rfl⟩
  ·exact⟨3,by decide,by decide,rfl⟩
  ·exact⟨12,by decide,by decide,rfl⟩
 obtain⟨rs,w1,w2,w3,w4,w5⟩:=Qt ns (at' + 2) many more span (by lia) hm hm8 Co s1 s2
 obtain⟨cell,c1⟩:=Qp ns (at' + 1) (decide (num/3072%2=1)) (by lia)
 obtain⟨qs,q1,q2,q3⟩:=Qv cell os h4 (by lia)
 have hr:=wM many (by lia)
 simp only[Ct] at h1 hr
 have e1:((at' + 1:Nat):Int)=(at':Int)+1:=by lia
 have e2:((at' + 2:Nat):Int)=(at':Int)+2:=by lia
 rw[e1] at c1
 rw[e2] at w1
 by_cases Aw:num/1024%3=1
 ·refine⟨os,rs,qs,?_,BG,h4,w2,q2,w3,w4,q3,w5⟩
  unfold ph lD
  generalize qS=bb at h1 ⊢
  simp[Bk,hr,h1,d256,d1024,d3072,s3,eq_int,Aw,c1,q1,w1]
 ·refine⟨os,rs,[],?_,BG,h4,w2,?_,w3,w4,by simp,w5⟩
  ·unfold ph lD
   generalize qS=bb at h1 ⊢
   simp[Bk,hr,h1,d256,d1024,s3,eq_int,Aw,w1]
  ·simp[tM,uo]
abbrev zr (b0 b1:Int) (os:List T) (rs qs:List (List Int)):T:=.tup [zp (b0,b1),.tup os,.tup (rs.map zw),.tup (qs.map zw)]
section
variable (b0 b1:Int)(os:List T)(rs qs:List (List Int))
def iY (y:T) (he:yC y=false):oQ [zr b0 b1 os rs qs,y]=some (if wh y 0 ((os.length:Int)-1)=true then .zg else .err "NoPlace" "place" y):=by
 have h:=iR y 0 ((os.length:Int)-1) he
 have w1:zj (zr b0 b1 os rs qs) (.int 1)=some (.tup os):=rfl
 have hp:lj [zr b0 b1 os rs qs]=some (.int (os.length:Int)):=by
  unfold lj gc
  generalize zr b0 b1 os rs qs=fl at *
  simp only[zj] at w1
  simp[w1]
 unfold oQ gn
 generalize zr b0 b1 os rs qs=fl at *
 cases q:wh y 0 ((os.length:Int)-1) <;> simp[hp,h,q]
end
noncomputable def xi (p:Int):List (List Int)->T
 | []=>.zg
 | r::rs=>if fst r=p then zw r else xi p rs
theorem g_ (p:Int):∀ qs:List (List Int),yC (xi p qs)=false
 | []=>rfl
 | r::rs=>by unfold xi;split;rfl;exact g_ p rs
noncomputable def nB:T->Bool
 | .zg=>true
 | _=>false
def UI (r:List Int):nB (zw r)=false:=rfl
def ao (n:Nat) (u:Int):yV (n+1) [.int u,.int u]=some (.bl true):=by
 have e:zC false (.int u) (.int u)=some (.bl true):=by unfold zC;rw[rB];rfl
 have e2:zC false (.bl false) (.bl false)=some (.bl true):=rfl
 have i1:yf false (.int u) .zg=some (.bl false):=rfl
 unfold yV qa
 simp[yJ,e,e2,i1]
def Qr (n:Nat):yV (n+1) [.zg,.zg]=some (.bl true):=by
 have i1:yf false .zg .zg=some (.bl true):=rfl
 unfold yV qa
 simp[yJ,i1]
section
variable (b0 b1:Int)(os:List T)(rs qs:List (List Int))
def aq (y:T) (he:uv y=true):ly [zr b0 b1 os rs qs,y]=some (if wg y [(0,b0),(0,b1)]=true then .zg else .err "NoPair" "pair" y):=by
 have h:=Qs y [(0,b0),(0,b1)] (by show 2<=100;decide) he
 simp only[Ax,Bc,zp] at h
 unfold ly gp
 cases q:wg y [(0,b0),(0,b1)] <;> simp[zp,h,q]
end
def Qy (y:T) (h:dep y<=60) (hd:(nh y).isSome=true):qZ [y,y]=some (.bl true):=by
 obtain⟨t,ht⟩:=Dd.mp hd
 have e:zC false y y=some (.bl true):=by unfold zC;rw[if_pos ⟨h,h⟩,rB];rfl
 have e2:∀ b:Bool,zC true (.bl b) (.bl b)=some (.bl false):=λ b=>by cases b <;> rfl
 unfold qZ gi
 simp[-nh,ht,e,e2]
def Qq (n:Nat) (u v:Int):yV (n+2) [.tup [.int u,.int v],.tup [.int u,.int v]]=some (.bl true):=by
 have h:=ao n
 have e0:zC true (.bl true) (.bl true)=some (.bl false):=rfl
 have e1:zC true (.bl false) (.bl false)=some (.bl false):=rfl
 have e2:zC false (.int 2) (.int 2)=some (.bl true):=rfl
 have hc:su (yV (n+1)) [some (.im (.tup [.int u,.int v])),some (.im (.tup [.int u,.int v]))]=some (.lst [.bl true,.bl true]):=by
  unfold su vg
  have r:=wM 2 (by decide)
  rw[show List.range 2=[0,1] from rfl,show ((2:Nat):Int)=2 from rfl] at r
  simp[r,uC,h]
 unfold yV qa
 simp[yJ,e0,e1,e2,hc,t5]
def Qw (m b0 b1:Int) (h0:0<=b0) (h1:0<=b1):lr [.int m,zp (b0,b1)]=some (zp (m%(b0+1),m/13%(b1+1))):=by
 have d13:y6 m 13:=⟨by decide,by decide⟩
 have e0:0<b0+1:=by lia
 have e1:0<b1+1:=by lia
 unfold lr gh
 simp[zp,d13,e0,e1]
def Tx (a:Option W):uD [a,some (.im (.lst [.bl false,.bl false,.bl false,.bl false,.bl true,.bl false,.bl false,.bl false,.bl false,.bl true,.bl true]))]=some (.lst [.int 4,.int 9,.int 10]):=by
 have r:=wM 11 (by decide)
 rw[show List.range 11=[0,1,2,3,4,5,6,7,8,9,10] from rfl,show ((11:Nat):Int)=11 from rfl] at r
 unfold uD vg
 simp[r,uC]
 rfl
def Q1 (y:T):q_ [.err "NoWay" "way" y]=some (.lst [.int 4,.int 9,.int 10]):=by
 have k0:yA "NoFloor" "NoWay"=false:=by decide
 have k1:yA "NoMore" "NoWay"=false:=by decide
 have k2:yA "NoPlace" "NoWay"=false:=by decide
 have k3:yA "NoPair" "NoWay"=false:=by decide
 have k4:yA "NoWay" "NoWay"=true:=by decide
 have k5:yA "NoChange" "NoWay"=false:=by decide
 have k6:yA "NoCount" "NoWay"=false:=by decide
 have k7:yA "NoName" "NoWay"=false:=by decide
 have k8:yA "NoRow" "NoWay"=false:=by decide
 have k9:yA "PurseError" "NoWay"=true:=by decide
 have hc:∀ a:Option W,uD [a,some (.im (.lst [.bl false,.bl false,.bl false,.bl false,.bl true,.bl false,.bl false,.bl false,.bl false,.bl true,.bl true]))]=some (.lst [.int 4,.int 9,.int 10]):=Tx
 unfold q_ lC
 generalize uD=cc at *
 simp[k0,k1,k2,k3,k4,k5,k6,k7,k8,k9,hc]
def Tw (a:Option W):uD [a,some (.im (.lst [.bl false,.bl false,.bl false,.bl false,.bl false,.bl true,.bl false,.bl false,.bl false,.bl true,.bl true]))]=some (.lst [.int 5,.int 9,.int 10]):=by
 have r:=wM 11 (by decide)
 rw[show List.range 11=[0,1,2,3,4,5,6,7,8,9,10] from rfl,show ((11:Nat):Int)=11 from rfl] at r
 unfold uD vg
 simp[r,uC]
 rfl
def Q0 (y:T):q_ [.err "NoChange" "times" y]=some (.lst [.int 5,.int 9,.int 10]):=by
 have k0:yA "NoFloor" "NoChange"=false:=by decide
 have k1:yA "NoMore" "NoChange"=false:=by decide
 have k2:yA "NoPlace" "NoChange"=false:=by decide
 have k3:yA "NoPair" "NoChange"=false:=by decide
 have k4:yA "NoWay" "NoChange"=false:=by decide
 have k5:yA "NoChange" "NoChange"=true:=by decide
 have k6:yA "NoCount" "NoChange"=false:=by decide
 have k7:yA "NoName" "NoChange"=false:=by decide
 have k8:yA "NoRow" "NoChange"=false:=by decide
 have k9:yA "PurseError" "NoChange"=true:=by decide
 have hc:∀ a:Option W,uD [a,some (.im (.lst [.bl false,.bl false,.bl false,.bl false,.bl false,.bl true,.bl false,.bl false,.bl false,.bl true,.bl true]))]=some (.lst [.int 5,.int 9,.int 10]):=Tw
 unfold q_ lC
 generalize uD=cc at *
 simp[k0,k1,k2,k3,k4,k5,k6,k7,k8,k9,hc]
noncomputable def xP (B z:Int):Int:=if B<z then B else z
noncomputable def r9 (gv gt B:Int):Nat->Int->Int->Option (Int×Int)
 | 0,a,b=>some (a,b)
 | j+1,a,b=>if a<gv then none else r9 gv gt B j (a-gv) (xP B (b+gt))
theorem jB (gv gt B:Int) (h1:1<=gv) (h2:0<=gt):∀ (j:Nat) (a b:Int),b<=B->r9 gv gt B j a b=if j=0 then some (a,b) else if a-(j:Int)*gv<0 then none else some (a-(j:Int)*gv,xP B (b+(j:Int)*gt))
 | 0,a,b,h=>rfl
 | j+1,a,b,h=>by
  have hc:xP B (b+gt)<=B:=by unfold xP;split <;> lia
  have ih:=jB gv gt B h1 h2 j (a-gv) (xP B (b+gt)) hc
  have e:((j+1:Nat):Int)*gv=(j:Int)*gv+gv:=by rw[Int.natCast_add,Int.add_mul];simp
  have e':((j+1:Nat):Int)*gt=(j:Int)*gt+gt:=by rw[Int.natCast_add,Int.add_mul];simp
  have n1:0<=(j:Int)*gv:=Int.mul_nonneg (by lia) (by lia)
  have n2:0<=(j:Int)*gt:=Int.mul_nonneg (by lia) h2
  rw[r9,ih,if_neg (by lia:¬ j+1=0),e,e']
  by_cases q:a<gv
  ·rw[if_pos q,if_pos (by lia)]
  ·rw[if_neg q]
   by_cases z:j=0
   ·subst z
    rw[if_pos rfl,if_neg (by simp;lia)]
    simp
   ·rw[if_neg z]
    by_cases y:a-gv-(j:Int)*gv<0
    ·rw[if_pos y,if_pos (by lia)]
    ·rw[if_neg y,if_neg (by lia)]
     have:a-gv-(j:Int)*gv=a-((j:Int)*gv+gv):=by lia
     rw[this]
     congr 2
     unfold xP
     split <;> split <;> (try split) <;> lia
def R1 (b0 b1 a b gv gt pp:Int) (f p q t x:T) (L:List T) (w0:zj f (.int 0)=some (zp (b0,b1))) (he:zC false (.lst L) (.lst [])=some (.bl false)) (h0:L2.zD L 0=some (.tup [.int pp,.int 0,.int gv,.int gt])):turn (zI 6) xc x [some (.im f),some (.im p),some (.im q),some (.im t),some (.own (.lst [.int a,.int b])),some (.im (.lst L)),none,none] =
  some (if a<gv then .rt .zg else .nx [some (.im f),some (.im p),some (.im q),some (.im t),some (.own (.lst [.int (a-gv),.int (xP b1 (b+gt))])),some (.im (.lst L)),some (.im x),some (.im (.int 0))]):=by
 simp only[zj,zp] at w0
 unfold turn xc xP
 by_cases c:a<gv
 ·simp[c,zX,he,h0]
 ·have i0:L2.xV 2 0=some 0:=rfl
  have i1:L2.xV 2 1=some 1:=rfl
  simp[c,zX,he,h0,w0,i0,i1]
theorem bE (b0 b1 gv gt pp:Int) (f p q t:T) (L:List T) (w0:zj f (.int 0)=some (zp (b0,b1))) (he:zC false (.lst L) (.lst [])=some (.bl false)) (h0:L2.zD L 0=some (.tup [.int pp,.int 0,.int gv,.int gt])):∀ (xs:List T) (a b:Int) (u v:Option W),
  yj [6,7] (zI 6) xc xs [some (.im f),some (.im p),some (.im q),some (.im t),some (.own (.lst [.int a,.int b])),some (.im (.lst L)),u,v]=some (match r9 gv gt b1 xs.length a b with
   | none=>.rt .zg
   | some (a',b')=>.nx [some (.im f),some (.im p),some (.im q),some (.im t),some (.own (.lst [.int a',.int b'])),some (.im (.lst L)),none,none])
 | [],a,b,u,v=>by rw[yj];rfl
 | x::xs,a,b,u,v=>by
  have tn:=R1 b0 b1 a b gv gt pp f p q t x L w0 he h0
  rw[uz]
  show (turn (zI 6) xc x [some (.im f),some (.im p),some (.im q),some (.im t),some (.own (.lst [.int a,.int b])),some (.im (.lst L)),none,none]).bind _=_
  rw[tn,A0,r9]
  by_cases c:a<gv
  ·rw[if_pos c,if_pos c];rfl
  ·rw[if_neg c,if_neg c]
   exact bE b0 b1 gv gt pp f p q t L w0 he h0 xs (a-gv) (xP b1 (b+gt)) _ _
def R0 (b0 b1 a b gv gt pp:Int) (f p q t x:T) (L:List T) (w0:zj f (.int 0)=some (zp (b0,b1))) (he:zC false (.lst L) (.lst [])=some (.bl false)) (h0:L2.zD L 0=some (.tup [.int pp,.int 1,.int gv,.int gt])):turn (zI 6) xc x [some (.im f),some (.im p),some (.im q),some (.im t),some (.own (.lst [.int b,.int a])),some (.im (.lst L)),none,none] =
  some (if a<gv then .rt .zg else .nx [some (.im f),some (.im p),some (.im q),some (.im t),some (.own (.lst [.int (xP b0 (b+gt)),.int (a-gv)])),some (.im (.lst L)),some (.im x),some (.im (.int 1))]):=by
 simp only[zj,zp] at w0
 unfold turn xc xP
 by_cases c:a<gv
 ·simp[c,zX,he,h0]
 ·have i0:L2.xV 2 0=some 0:=rfl
  have i1:L2.xV 2 1=some 1:=rfl
  simp[c,zX,he,h0,w0,i0,i1]
theorem bD (b0 b1 gv gt pp:Int) (f p q t:T) (L:List T) (w0:zj f (.int 0)=some (zp (b0,b1))) (he:zC false (.lst L) (.lst [])=some (.bl false)) (h0:L2.zD L 0=some (.tup [.int pp,.int 1,.int gv,.int gt])):∀ (xs:List T) (a b:Int) (u v:Option W),
  yj [6,7] (zI 6) xc xs [some (.im f),some (.im p),some (.im q),some (.im t),some (.own (.lst [.int b,.int a])),some (.im (.lst L)),u,v]=some (match r9 gv gt b0 xs.length a b with
   | none=>.rt .zg
   | some (a',b')=>.nx [some (.im f),some (.im p),some (.im q),some (.im t),some (.own (.lst [.int b',.int a'])),some (.im (.lst L)),none,none])
 | [],a,b,u,v=>by rw[yj];rfl
 | x::xs,a,b,u,v=>by
  have tn:=R0 b0 b1 a b gv gt pp f p q t x L w0 he h0
  rw[uz]
  show (turn (zI 6) xc x [some (.im f),some (.im p),some (.im q),some (.im t),some (.own (.lst [.int b,.int a])),some (.im (.lst L)),none,none]).bind _=_
  rw[tn,A0,r9]
  by_cases c:a<gv
  ·rw[if_pos c,if_pos c];rfl
  ·rw[if_neg c,if_neg c]
   exact bD b0 b1 gv gt pp f p q t L w0 he h0 xs (a-gv) (xP b0 (b+gt)) _ _
def Yj (f:T) (p a b c d:Int):turn (zI 2) rG (zw [a,b,c,d]) [some (.im f),some (.im (.int p)),none]=some (if a=p then .rt (zw [a,b,c,d]) else .nx [some (.im f),some (.im (.int p)),some (.im (zw [a,b,c,d]))]):=by
 unfold turn
 by_cases q:a=p
 ·simp[rG,zw,eq_int,q]
 ·simp[rG,zw,eq_int,q]
theorem gX (f:T) (p:Int):∀ (qs:List (List Int)) (x:Option W),(∀ r∈qs,r.length=4)->yj [2] (zI 2) rG (qs.map zw) [some (.im f),some (.im (.int p)),x]=some (if nB (xi p qs)=true then .nx [some (.im f),some (.im (.int p)),none] else .rt (xi p qs))
 | [],x,_=>by rw[Bc,yj];rfl
 | r::qs,x,h4=>by
  obtain⟨a,b,c,d,rfl⟩:=nM (h4 r Ap)
  have ih:=gX f p qs (some (.im (zw [a,b,c,d]))) λ r hr=>h4 r (Av _ hr)
  have t:=Yj f p a b c d
  rw[Ax,uz]
  have e:xD [2] [some (W.im f),some (.im (.int p)),x]=[some (.im f),some (.im (.int p)),none]:=rfl
  rw[e,t]
  have ef:fst [a,b,c,d]=a:=rfl
  by_cases q:a=p
  ·rw[if_pos q,xi,ef,if_pos q,UI];rfl
  ·rw[if_neg q,xi,ef,if_neg q]
   exact ih
section
variable (b0 b1:Int)(os:List T)(rs qs:List (List Int))
def iU (p:Int) (g4:∀ r∈qs,r.length=4) (hp:wh (.int p) 0 ((os.length:Int)-1)=true):lh [zr b0 b1 os rs qs,.int p]=some (xi p qs):=by
 have h1:=iY b0 b1 os rs qs (.int p) rfl
 rw[if_pos hp] at h1
 have w3:zj (zr b0 b1 os rs qs) (.int 3)=some (.tup (qs.map zw)):=rfl
 have hl:=gX (zr b0 b1 os rs qs) p qs none g4
 have he:=g_ p qs
 unfold lh h_
 generalize zr b0 b1 os rs qs=fl at *
 generalize rG=bb at *
 simp only[zj] at w3
 by_cases q:nB (xi p qs)=true
 ·rw[if_pos q] at hl
  have q':xi p qs=.zg:=by
   revert q
   cases xi p qs <;> simp[nB]
  simp[h1,w3,hl,q']
 ·rw[if_neg q] at hl
  simp[h1,w3,hl]
end
def Q3 (b0 b1 a b n gv gt pp:Int) (h1:xh n gv) (h2:xh n gt):pj [zp (b0,b1),.tup [.int pp,.int 0,.int gv,.int gt],.tup [.int a,.int b],.int n]=some (if a-n*gv<0 then .zg else .tup [.int (a-n*gv),.int (xP b1 (b+n*gt))]):=by
 unfold pj lH xP zp
 by_cases c:a-n*gv<0
 ·simp[h1,yw,zX,c]
 ·simp[h1,h2,yw,zX,c,eq_int]
def Q2 (b0 b1 a b n gv gt pp:Int) (h1:xh n gv) (h2:xh n gt):pj [zp (b0,b1),.tup [.int pp,.int 1,.int gv,.int gt],.tup [.int b,.int a],.int n]=some (if a-n*gv<0 then .zg else .tup [.int (xP b0 (b+n*gt)),.int (a-n*gv)]):=by
 unfold pj lH xP zp
 by_cases c:a-n*gv<0
 ·simp[h1,yw,zX,c]
 ·simp[h1,h2,yw,zX,c,eq_int]
def hV (f:T) (qs:List (List Int)) (p:Int) (w3:zj f (.int 3)=some (.tup (qs.map zw))) (g4:∀ r∈qs,r.length=4) (hl:qs.length<=60) (a b c d e g:Option W):∃ L:List (List Int),vI [some (.im f),some (.im (.int p)),a,b,c,d,e,g]=some (.lst (L.map zw))/\((L=[]/\xi p qs=.zg)\/∃ r L',L=r::L'/\r∈qs/\xi p qs=zw r):=by
 have:=dH zw (λ r=>if fst r=p then some (zw r) else none) (pick:=[none,some 1]) (it:=qD (zb zj (ze 0) (cS (.int 3)))) (g:=zI 0) (c:=zL (zb (zC false) (zb zj (ze 0) (cS (.int 0))) (ze 1))) (f:=zo 0) (J:=[some (.im f),some (.im (.int p)),a,b,c,d,e,g]) qs (by
   simp only[zj] at w3
   simp[w3]) (by lia) (λ r hr=>by
   obtain⟨a,b,c,d,rfl⟩:=nM (g4 r hr)
   by_cases q:a=p
   ·simp[zw,eq_int,fst,q]
   ·simp[zw,eq_int,fst,q])
 refine⟨qs.filter λ r=>decide (fst r=p),?_,?_⟩
 ·unfold vI
  rw[this]
  congr 2
  clear this hl w3 g4
  induction qs with
  | nil=>rfl
  | cons r qs ih=>by_cases c:fst r=p <;> simp[Ci,C0,c,ih]
 ·clear this hl w3 g4
  induction qs with
  | nil=>exact .inl ⟨rfl,rfl⟩
  | cons r qs ih=>
   by_cases c:fst r=p
   ·exact .inr ⟨r,qs.filter λ r=>decide (fst r=p),by simp[C0,c],Ap,by rw[xi,if_pos c]⟩
   ·rcases ih with ⟨h1,h2⟩ | ⟨r',L',h1,h2,h3⟩
    ·exact .inl ⟨by simp only[C0,c,decide_false];exact h1,by rw[xi,if_neg c];exact h2⟩
    ·exact .inr ⟨r',L',by simp only[C0,c,decide_false];exact h1,Av _ h2,by rw[xi,if_neg c];exact h3⟩
theorem bf:∀ l:List (List Int),xb (l.map zw)<=1
 | []=>by simp[xb]
 | r::l=>by
  have ih:=bf l
  have:∀ us:List Int,xb (us.map T.int)=0:=λ us=>by
   induction us with
   | nil=>rfl
   | cons a us ih=>simp[xb,dep,ih]
  have e:dep (zw r)=1:=by unfold zw;rw[dep,this]
  rw[Ax,xb,e]
  lia
def eq_nil (L:List (List Int)):zC false (.lst (L.map zw)) (.lst [])=some (.bl L.isEmpty):=by
 have h:=bf L
 have hd:dep (.lst (L.map zw))<=60:=by rw[dep];lia
 unfold zC
 rw[if_pos ⟨hd,by simp[dep,xb]⟩]
 cases L with
 | nil=>rfl
 | cons r L=>rfl
def turns (n:Int) (h:0<=n):∃ N:Nat,(N:Int)=(if 14<n then 14 else n)/\N<=14:=by
 split
 ·exact⟨14,rfl,by lia⟩
 ·exact⟨n.toNat,by lia,by lia⟩
section
variable (b0 b1:Int)(os:List T)(rs qs:List (List Int))
def R5 (p x y n:Int) (hn:0<=n) (hp:wh (.int p) 0 ((os.length:Int)-1)=true) (g4:∀ r∈qs,r.length=4) (hl:qs.length<=60) (hs:xi p qs=.zg):
  vw [zr b0 b1 os rs qs,.int p,zp (x,y),.int n]=some (if n=0 then zp (x,y) else .zg)/\yQ [zr b0 b1 os rs qs,.int p,zp (x,y),.int n]=some (if n=0 then zp (x,y) else .zg):=by
 have f1:=iU b0 b1 os rs qs p g4 hp
 rw[hs] at f1
 have w3:zj (zr b0 b1 os rs qs) (.int 3)=some (.tup (qs.map zw)):=rfl
 obtain⟨L,c1,c2⟩:=hV (zr b0 b1 os rs qs) qs p w3 g4 hl (some (.im (zp (x,y)))) (some (.im (.int n))) (some (.own (.lst [.int x,.int y]))) none none none
 have hL:L=[]:=by
  rcases c2 with h | ⟨r,L',h1,h2,h3⟩
  ·exact h.1
  ·rw[hs] at h3;cases h3
 subst hL
 have i1:yf false .zg .zg=some (.bl true):=rfl
 obtain⟨N,hN,hN14⟩:=turns n hn
 have hr:=wM N (by lia)
 rw[hN] at hr
 have e1:=eq_nil []
 constructor
 ·generalize zr b0 b1 os rs qs=fl at *
  unfold vw qd
  by_cases c:n=0
  ·simp[c,eq_int,zp]
  ·simp[c,eq_int,f1,i1]
 ·generalize zr b0 b1 os rs qs=fl at *
  by_cases c:n=0
  ·subst c
   have hr0:wN [.int 0]=some []:=wM 0 (by decide)
   have lp0:yj [6,7] (zI 6) xc [] [some (.im fl),some (.im (.int p)),some (.im (zp (x,y))),some (.im (.int 0)),some (.own (.lst [.int x,.int y])),some (.im (.lst [])),none,none]=some (.nx [some (.im fl),some (.im (.int p)),some (.im (zp (x,y))),some (.im (.int 0)),some (.own (.lst [.int x,.int y])),some (.im (.lst [])),none,none]):=by rw[yj];rfl
   have ls:wA (zp (x,y))=some [.int x,.int y]:=rfl
   have lt:T.tup [.int x,.int y]=zp (x,y):=rfl
   unfold yQ uQ
   generalize xc=bb at *
   generalize vI=cc at *
   generalize zp (x,y)=pr at *
   simp[hr0,ls,c1,lp0,lt]
  ·obtain⟨M,hM⟩:∃ M,N=M+1:=⟨N-1,by split at hN <;> lia⟩
   subst hM
   rw[Cw,Ax] at hr
   have tn:∀ v,turn (zI 6) xc v [some (.im fl),some (.im (.int p)),some (.im (zp (x,y))),some (.im (.int n)),some (.own (.lst [.int x,.int y])),some (.im (.lst [])),none,none]=some (.rt .zg):=λ v=>by
    unfold turn xc
    simp at e1
    simp[e1]
   have lp:∀ v xs,yj [6,7] (zI 6) xc (v::xs) [some (.im fl),some (.im (.int p)),some (.im (zp (x,y))),some (.im (.int n)),some (.own (.lst [.int x,.int y])),some (.im (.lst [])),none,none]=some (.rt .zg):=λ v xs=>by
    rw[uz]
    show (turn (zI 6) xc v [some (.im fl),some (.im (.int p)),some (.im (zp (x,y))),some (.im (.int n)),some (.own (.lst [.int x,.int y])),some (.im (.lst [])),none,none]).bind _=_
    rw[tn];rfl
   have ls:wA (zp (x,y))=some [.int x,.int y]:=rfl
   unfold yQ uQ
   generalize xc=bb at *
   generalize vI=cc at *
   generalize zp (x,y)=pr at *
   generalize List.map (λ(k:Nat)=>T.int (0+(k:Int))) (List.map Nat.succ (List.range M))=XS at *
   simp[hr,ls,c1,lp,c]
def R4 (p a b n gv gt pp:Int) (hn:0<=n) (hp:wh (.int p) 0 ((os.length:Int)-1)=true) (g4:∀ r∈qs,r.length=4) (hl:qs.length<=60) (hs:xi p qs=zw [pp,0,gv,gt]) (hg:1<=gv/\gv<=12) (ht:0<=gt/\gt<=12) (ha:0<=a/\a<=12) (hb:b<=b1):
  ∃ z,vw [zr b0 b1 os rs qs,.int p,.tup [.int a,.int b],.int n]=some z/\yQ [zr b0 b1 os rs qs,.int p,.tup [.int a,.int b],.int n]=some z/\(z=.zg\/∃ u v,z=.tup [.int u,.int v]):=by
 have f1:=iU b0 b1 os rs qs p g4 hp
 rw[hs] at f1
 have w3:zj (zr b0 b1 os rs qs) (.int 3)=some (.tup (qs.map zw)):=rfl
 have w0:zj (zr b0 b1 os rs qs) (.int 0)=some (zp (b0,b1)):=rfl
 obtain⟨L,c1,c2⟩:=hV (zr b0 b1 os rs qs) qs p w3 g4 hl (some (.im (.tup [.int a,.int b]))) (some (.im (.int n))) (some (.own (.lst [.int a,.int b]))) none none none
 obtain⟨L',hL⟩:∃ L',L=[pp,0,gv,gt]::L':=by
  rcases c2 with h | ⟨r,L',h1,h2,h3⟩
  ·rw[hs] at h;cases h.2
  ·rw[hs] at h3
   have:=congrArg rowOf h3
   rw[sS,sS] at this
   exact⟨L',by rw[h1,this]⟩
 have he:=eq_nil L
 have he':zC false (.lst (L.map zw)) (.lst [])=some (.bl false):=by rw[he,hL];rfl
 have h0:L2.zD (L.map zw) 0=some (.tup [.int pp,.int 0,.int gv,.int gt]):=by rw[hL];exact x8 (k:=0) rfl
 have hm1:xh n gv:=.inr ⟨by lia,by lia⟩
 have hm2:xh n gt:=.inr ⟨by lia,by lia⟩
 have fb:=Q3 b0 b1 a b n gv gt pp hm1 hm2
 obtain⟨N,hN,hN14⟩:=turns n hn
 have hr:=wM N (by lia)
 rw[hN] at hr
 have lp:=bE b0 b1 gv gt pp (zr b0 b1 os rs qs) (.int p) (.tup [.int a,.int b]) (.int n) (L.map zw) w0 he' h0 ((List.range N).map λ(k:Nat)=>T.int (0+(k:Int))) a b none none
 rw[Aq,CH,jB gv gt b1 hg.1 ht.1 N a b hb] at lp
 have i1:yf false (zw [pp,0,gv,gt]) .zg=some (.bl false):=rfl
 have rt:zw [pp,0,gv,gt]=.tup [.int pp,.int 0,.int gv,.int gt]:=rfl
 by_cases c:n=0
 ·subst c
  have z:N=0:=by simp at hN;lia
  subst z
  rw[if_pos rfl] at lp
  refine⟨.tup [.int a,.int b],?_,?_,.inr ⟨_,_,rfl⟩⟩
  ·generalize zr b0 b1 os rs qs=fl at *
   unfold vw qd
   simp[eq_int]
  ·generalize zr b0 b1 os rs qs=fl at *
   have hr0:wN [.int 0]=some []:=wM 0 (by decide)
   simp only[List.range_zero,Bc] at lp
   unfold yQ uQ
   generalize xc=bb at *
   generalize vI=cc at *
   simp[hr0,c1,lp]
 ·have hNz:N≠0:=by intro z;subst z;split at hN <;> lia
  rw[if_neg hNz] at lp
  have key:a-n*gv<0↔a-(N:Int)*gv<0:=by
   by_cases q:14<n
   ·rw[if_pos q] at hN
    have e1:14*gv<=n*gv:=CZ (by lia) (by lia)
    rw[hN];lia
   ·rw[if_neg q] at hN
    rw[hN]
  have key2:¬ a-n*gv<0->(N:Int)=n:=by
   intro h
   by_cases q:14<n
   ·have e1:14*gv<=n*gv:=CZ (by lia) (by lia)
    lia
   ·rw[if_neg q] at hN;exact hN
  refine⟨if a-n*gv<0 then .zg else .tup [.int (a-n*gv),.int (xP b1 (b+n*gt))],?_,?_,?_⟩
  ·generalize zr b0 b1 os rs qs=fl at *
   simp only[zj] at w0
   rw[rt] at f1 i1
   unfold vw qd
   simp[eq_int,c,f1,i1,w0,fb]
  ·generalize zr b0 b1 os rs qs=fl at *
   generalize List.map (λ(k:Nat)=>T.int (0+(k:Int))) (List.range N)=XS at *
   by_cases q:a-n*gv<0
   ·rw[if_pos (key.mp q)] at lp
    rw[if_pos q]
    unfold yQ uQ
    generalize xc=bb at *
    generalize vI=cc at *
    simp[hr,c1,lp]
   ·rw[if_neg (λ h=>q (key.mpr h)),key2 q] at lp
    rw[if_neg q]
    unfold yQ uQ
    generalize xc=bb at *
    generalize vI=cc at *
    simp[hr,c1,lp]
  ·split
   ·exact .inl rfl
   ·exact .inr ⟨_,_,rfl⟩
def R3 (p a b n gv gt pp:Int) (hn:0<=n) (hp:wh (.int p) 0 ((os.length:Int)-1)=true) (g4:∀ r∈qs,r.length=4) (hl:qs.length<=60) (hs:xi p qs=zw [pp,1,gv,gt]) (hg:1<=gv/\gv<=12) (ht:0<=gt/\gt<=12) (ha:0<=a/\a<=12) (hb:b<=b0):
  ∃ z,vw [zr b0 b1 os rs qs,.int p,.tup [.int b,.int a],.int n]=some z/\yQ [zr b0 b1 os rs qs,.int p,.tup [.int b,.int a],.int n]=some z/\(z=.zg\/∃ u v,z=.tup [.int u,.int v]):=by
 have f1:=iU b0 b1 os rs qs p g4 hp
 rw[hs] at f1
 have w3:zj (zr b0 b1 os rs qs) (.int 3)=some (.tup (qs.map zw)):=rfl
 have w0:zj (zr b0 b1 os rs qs) (.int 0)=some (zp (b0,b1)):=rfl
 obtain⟨L,c1,c2⟩:=hV (zr b0 b1 os rs qs) qs p w3 g4 hl (some (.im (.tup [.int b,.int a]))) (some (.im (.int n))) (some (.own (.lst [.int b,.int a]))) none none none
 obtain⟨L',hL⟩:∃ L',L=[pp,1,gv,gt]::L':=by
  rcases c2 with h | ⟨r,L',h1,h2,h3⟩
  ·rw[hs] at h;cases h.2
  ·rw[hs] at h3
   have:=congrArg rowOf h3
   rw[sS,sS] at this
   exact⟨L',by rw[h1,this]⟩
 have he:=eq_nil L
 have he':zC false (.lst (L.map zw)) (.lst [])=some (.bl false):=by rw[he,hL];rfl
 have h0:L2.zD (L.map zw) 0=some (.tup [.int pp,.int 1,.int gv,.int gt]):=by rw[hL];exact x8 (k:=0) rfl
 have hm1:xh n gv:=.inr ⟨by lia,by lia⟩
 have hm2:xh n gt:=.inr ⟨by lia,by lia⟩
 have fb:=Q2 b0 b1 a b n gv gt pp hm1 hm2
 obtain⟨N,hN,hN14⟩:=turns n hn
 have hr:=wM N (by lia)
 rw[hN] at hr
 have lp:=bD b0 b1 gv gt pp (zr b0 b1 os rs qs) (.int p) (.tup [.int b,.int a]) (.int n) (L.map zw) w0 he' h0 ((List.range N).map λ(k:Nat)=>T.int (0+(k:Int))) a b none none
 rw[Aq,CH,jB gv gt b0 hg.1 ht.1 N a b hb] at lp
 have i1:yf false (zw [pp,1,gv,gt]) .zg=some (.bl false):=rfl
 have rt:zw [pp,1,gv,gt]=.tup [.int pp,.int 1,.int gv,.int gt]:=rfl
 by_cases c:n=0
 ·subst c
  have z:N=0:=by simp at hN;lia
  subst z
  rw[if_pos rfl] at lp
  refine⟨.tup [.int b,.int a],?_,?_,.inr ⟨_,_,rfl⟩⟩
  ·generalize zr b0 b1 os rs qs=fl at *
   unfold vw qd
   simp[eq_int]
  ·generalize zr b0 b1 os rs qs=fl at *
   have hr0:wN [.int 0]=some []:=wM 0 (by decide)
   simp only[List.range_zero,Bc] at lp
   unfold yQ uQ
   generalize xc=bb at *
   generalize vI=cc at *
   simp[hr0,c1,lp]
 ·have hNz:N≠0:=by intro z;subst z;split at hN <;> lia
  rw[if_neg hNz] at lp
  have key:a-n*gv<0↔a-(N:Int)*gv<0:=by
   by_cases q:14<n
   ·rw[if_pos q] at hN
    have e1:14*gv<=n*gv:=CZ (by lia) (by lia)
    rw[hN];lia
   ·rw[if_neg q] at hN
    rw[hN]
  have key2:¬ a-n*gv<0->(N:Int)=n:=by
   intro h
   by_cases q:14<n
   ·have e1:14*gv<=n*gv:=CZ (by lia) (by lia)
    lia
   ·rw[if_neg q] at hN;exact hN
  refine⟨if a-n*gv<0 then .zg else .tup [.int (xP b0 (b+n*gt)),.int (a-n*gv)],?_,?_,?_⟩
  ·generalize zr b0 b1 os rs qs=fl at *
   simp only[zj] at w0
   rw[rt] at f1 i1
   unfold vw qd
   simp[eq_int,c,f1,i1,w0,fb]
  ·generalize zr b0 b1 os rs qs=fl at *
   generalize List.map (λ(k:Nat)=>T.int (0+(k:Int))) (List.range N)=XS at *
   by_cases q:a-n*gv<0
   ·rw[if_pos (key.mp q)] at lp
    rw[if_pos q]
    unfold yQ uQ
    generalize xc=bb at *
    generalize vI=cc at *
    simp[hr,c1,lp]
   ·rw[if_neg (λ h=>q (key.mpr h)),key2 q] at lp
    rw[if_neg q]
    unfold yQ uQ
    generalize xc=bb at *
    generalize vI=cc at *
    simp[hr,c1,lp]
  ·split
   ·exact .inl rfl
   ·exact .inr ⟨_,_,rfl⟩
def oM (y:T) (he:yC y=false):lu [zr b0 b1 os rs qs,y]=some (.bl (wh y 0 ((rs.length:Int)-1))):=by
 have w2:zj (zr b0 b1 os rs qs) (.int 2)=some (.tup (rs.map zw)):=rfl
 unfold lu gk
 generalize zr b0 b1 os rs qs=fl at *
 simp only[zj] at w2
 simp[w2,iR _ _ _ he]
noncomputable def stepT (b0 b1 x y c d:Int):T:=if x+c<0\/y+d<0 then .zg else .tup [.int (if b0<x+c then b0 else x+c),.int (if b1<y+d then b1 else y+d)]
def Yg (b0 b1 x y c d:Int):yC (stepT b0 b1 x y c d)=false:=by
 unfold stepT;split <;> rfl
def cL:zj (zr b0 b1 os rs qs) (.int 0)=some (.tup [.int b0,.int b1]):=rfl
def tm:zj (zr b0 b1 os rs qs) (.int 2)=some (.tup (rs.map zw)):=rfl
def Qo (x y a b c d:Int) (i:Nat) (hi:rs[i]?=some [a,b,c,d]):lg [zr b0 b1 os rs qs,zp (x,y),.int (i:Int)]=some (stepT b0 b1 x y c d):=by
 have e:L2.zD (rs.map zw) (i:Int)=some (.tup [.int a,.int b,.int c,.int d]):=x8 (by simp[hi,zw])
 have e2:ud [T.int a,.int b,.int c,.int d] (some 2) none=[.int c,.int d]:=rfl
 have w0:=cL b0 b1 os rs qs
 have w2:=tm b0 b1 os rs qs
 unfold lg hZ stepT zp
 generalize rs.map zw=RS at *
 generalize zr b0 b1 os rs qs=fl at *
 simp only[zj] at w0 w2
 by_cases h1:x+c<0
 ·simp[h1,zX,w2,e,e2]
 ·by_cases h2:y+d<0
  ·simp[h1,h2,zX,w2,e,e2]
  ·simp[h1,h2,zX,w0,w2,e,e2]
def Qu (x y a b c d:Int) (i:Nat) (hi:rs[i]?=some [a,b,c,d]):sE [zr b0 b1 os rs qs,zp (x,y),.int (i:Int)]=some (stepT b0 b1 x y c d):=by
 have e:L2.zD (rs.map zw) (i:Int)=some (.tup [.int a,.int b,.int c,.int d]):=x8 (by simp[hi,zw])
 have w0:=cL b0 b1 os rs qs
 have w2:=tm b0 b1 os rs qs
 unfold sE gf stepT zp
 generalize rs.map zw=RS at *
 generalize zr b0 b1 os rs qs=fl at *
 simp only[zj] at w0 w2
 by_cases h1:x+c<0
 ·simp[h1,zX,w2,e]
 ·by_cases h2:y+d<0
  ·simp[h1,h2,zX,w2,e]
  ·simp[h1,h2,zX,w0,w2,e]
end
def gY (r:List Int):Prop:=∃ a b c d:Int,r=[a,b,c,d]/\(0<=b/\b<=1)/\(1<=c/\c<=12)/\(0<=d/\d<=12)
def Yk {qs:List (List Int)}{os:List T}(h:tM (.tup (qs.map zw)) os=true):∀ r∈qs,gY r:=λ r hr=>by
 simp only[tM,AU,AW] at h
 have:=h.1 (zw r) (List.mem_map_of_mem hr)
 obtain⟨r',e1,e2,e3⟩:=YQ this
 have:r=r':=by have:=congrArg rowOf e1;rwa [sS,sS] at this
 subst this
 have e2':r.length=4:=e2
 obtain⟨a,b,c,d,rfl⟩:=nM e2'
 have h1:=e3 1 b (0,1) rfl rfl
 have h2:=e3 2 c (1,12) rfl rfl
 have h3:=e3 3 d (0,12) rfl rfl
 exact⟨a,b,c,d,rfl,h1,h2,h3⟩
noncomputable def vX:T->Bool
 | .int i=>decide (0<=i)
 | _=>false
def iX (y:T) (he:yC y=false):lx [y]=some (.bl (vX y)):=by
 have h:=iT y he
 unfold lx gm
 cases y with
 | int i=>simp[h,vX]
 | err _ _ _=>cases he
 | _=>simp[h,vX]
noncomputable def yZ:T->Bool
 | .int _=>true
 | .zg=>true
 | .bl _=>true
 | .str _=>true
 | _=>false
def cK {y:T}(h:yZ y=true):yC y=false:=by cases y <;> first | rfl | cases h
section
variable (b0 b1:Int)(os:List T)(rs qs:List (List Int))
def RU (p:Int) (pr t w:T) (fw:yZ w=true) (h:wh w 0 ((rs.length:Int)-1)=false):
  xR [zr b0 b1 os rs qs,.int p,pr,.tup [t,w]]=some (.int 4)/\xH [zr b0 b1 os rs qs,.int p,pr,.tup [t,w]]=some (.err "NoWay" "way" w):=by
 have f3:=oM b0 b1 os rs qs w (cK fw)
 rw[h] at f3
 have w2:=tm b0 b1 os rs qs
 constructor
 ·generalize zr b0 b1 os rs qs=fl at *
  simp only[zj] at w2
  unfold xR qb
  cases w with
  | int i=>
   by_cases c:i<0
   ·simp[yJ,zX,c]
   ·have c2:(rs.length:Int)<=i:=by simp[wh] at h;lia
    simp[yJ,zX,c,w2,c2]
  | zg=>simp[yJ]
  | bl b=>simp[yJ]
  | str x=>simp[yJ]
  | _=>cases fw
 ·generalize zr b0 b1 os rs qs=fl at *
  have f4:vN [fl,.int p,w]=some (.err "NoWay" "way" w):=by
   unfold vN qc
   simp[f3]
  unfold xH qe
  simp[f4]
def SU (p a b c d:Int) (pr t:T) (i:Nat) (hi:rs[i]?=some [a,b,c,d]) (h:a≠p):
  xR [zr b0 b1 os rs qs,.int p,pr,.tup [t,.int (i:Int)]]=some (.int 4)/\xH [zr b0 b1 os rs qs,.int p,pr,.tup [t,.int (i:Int)]]=some (.err "NoWay" "way" (.int (i:Int))):=by
 have hl:i<rs.length:=(Az.mp hi).1
 have f3:=oM b0 b1 os rs qs (.int (i:Int)) rfl
 rw[show wh (.int (i:Int)) 0 ((rs.length:Int)-1)=true from by simp[wh];lia] at f3
 have w2:=tm b0 b1 os rs qs
 have ea:L2.zD (rs.map zw) (i:Int)=some (.tup [.int a,.int b,.int c,.int d]):=x8 (by simp[hi,zw])
 have n1:¬ (i:Int)<0:=by lia
 have n2:¬ (rs.length:Int)<=(i:Int):=by lia
 have n3:¬ rs.length<=i:=by lia
 generalize zr b0 b1 os rs qs=fl at *
 simp only[zj] at w2
 constructor
 ·unfold xR qb
  simp[yJ,zX,w2,n1,n2,n3,ea,eq_int,h]
 ·have f4:vN [fl,.int p,.int (i:Int)]=some (.err "NoWay" "way" (.int (i:Int))):=by
   unfold vN qc
   simp[f3,w2,ea,eq_int,h]
  unfold xH qe
  simp[f4]
def RW (p b c d:Int) (pr t:T) (ft:yZ t=true) (i:Nat) (hi:rs[i]?=some [p,b,c,d]) (h:vX t=false):
  xR [zr b0 b1 os rs qs,.int p,pr,.tup [t,.int (i:Int)]]=some (.int 5)/\xH [zr b0 b1 os rs qs,.int p,pr,.tup [t,.int (i:Int)]]=some (.err "NoChange" "times" t):=by
 have hl:i<rs.length:=(Az.mp hi).1
 have f3:=oM b0 b1 os rs qs (.int (i:Int)) rfl
 rw[show wh (.int (i:Int)) 0 ((rs.length:Int)-1)=true from by simp[wh];lia] at f3
 have f5:=iX t (cK ft)
 rw[h] at f5
 have w2:=tm b0 b1 os rs qs
 have ea:L2.zD (rs.map zw) (i:Int)=some (.tup [.int p,.int b,.int c,.int d]):=x8 (by simp[hi,zw])
 have n1:¬ (i:Int)<0:=by lia
 have n2:¬ (rs.length:Int)<=(i:Int):=by lia
 have n3:¬ rs.length<=i:=by lia
 generalize zr b0 b1 os rs qs=fl at *
 simp only[zj] at w2
 constructor
 ·unfold xR qb
  cases t with
  | int n=>
   have c:n<0:=by simp[vX] at h;lia
   simp[yJ,zX,w2,n1,n2,n3,ea,eq_int,c]
  | tup _=>cases ft
  | lst _=>cases ft
  | yP=>cases ft
  | err _ _ _=>cases ft
  | _=>simp[yJ,zX,w2,n1,n2,n3,ea,eq_int]
 ·have f4:vN [fl,.int p,.int (i:Int)]=some .zg:=by
   unfold vN qc
   simp[f3,w2,ea,eq_int]
  have f6:sD [fl,.int p,pr,t]=some (.err "NoChange" "times" t):=by
   unfold sD oV
   simp[f5]
  unfold xH qe
  simp[f4,f6]
def RX (p b c d n:Int) (hn:0<=n) (pr:T) (i:Nat) (hi:rs[i]?=some [p,b,c,d]) (h1:vw [zr b0 b1 os rs qs,.int p,pr,.int n]=some .zg) (h2:yQ [zr b0 b1 os rs qs,.int p,pr,.int n]=some .zg):
  xR [zr b0 b1 os rs qs,.int p,pr,.tup [.int n,.int (i:Int)]]=some (.int 5)/\xH [zr b0 b1 os rs qs,.int p,pr,.tup [.int n,.int (i:Int)]]=some (.err "NoChange" "times" (.int n)):=by
 have hl:i<rs.length:=(Az.mp hi).1
 have f3:=oM b0 b1 os rs qs (.int (i:Int)) rfl
 rw[show wh (.int (i:Int)) 0 ((rs.length:Int)-1)=true from by simp[wh];lia] at f3
 have f5:=iX (.int n) rfl
 rw[show vX (.int n)=true from by simp[vX];lia] at f5
 have w2:=tm b0 b1 os rs qs
 have ea:L2.zD (rs.map zw) (i:Int)=some (.tup [.int p,.int b,.int c,.int d]):=x8 (by simp[hi,zw])
 have n1:¬ (i:Int)<0:=by lia
 have n2:¬ (rs.length:Int)<=(i:Int):=by lia
 have n3:¬ rs.length<=i:=by lia
 have n4:¬ n<0:=by lia
 have i1:yf false .zg .zg=some (.bl true):=rfl
 generalize zr b0 b1 os rs qs=fl at *
 simp only[zj] at w2
 constructor
 ·unfold xR qb
  simp[yJ,zX,w2,n1,n2,n3,n4,ea,eq_int,h2,i1]
 ·have f4:vN [fl,.int p,.int (i:Int)]=some .zg:=by
   unfold vN qc
   simp[f3,w2,ea,eq_int]
  have f6:sD [fl,.int p,pr,.int n]=some (.err "NoChange" "times" (.int n)):=by
   unfold sD oV
   simp[f5,h1,i1]
  unfold xH qe
  simp[f4,f6]
def Sv (p q c d n u v:Int) (hn:0<=n) (hp:0<=p/\p<os.length) (pr:T) (i:Nat) (hi:rs[i]?=some [p,q,c,d]) (h1:vw [zr b0 b1 os rs qs,.int p,pr,.int n]=some (zp (u,v))) (h2:yQ [zr b0 b1 os rs qs,.int p,pr,.int n]=some (zp (u,v)))
  (ho:0<n->L2.zD os p=some (.str "keeper")) (BG:∃ s,L2.zD os p=some (.str s)):
  xR [zr b0 b1 os rs qs,.int p,pr,.tup [.int n,.int (i:Int)]]=some .zg/\sE [zr b0 b1 os rs qs,zp (u,v),.int (i:Int)]=some (stepT b0 b1 u v c d)/\
   xH [zr b0 b1 os rs qs,.int p,pr,.tup [.int n,.int (i:Int)]]=some (if u+c<0\/v+d<0 then .zg else .tup [.int q,stepT b0 b1 u v c d]):=by
 have hl:i<rs.length:=(Az.mp hi).1
 have f3:=oM b0 b1 os rs qs (.int (i:Int)) rfl
 rw[show wh (.int (i:Int)) 0 ((rs.length:Int)-1)=true from by simp[wh];lia] at f3
 have f5:=iX (.int n) rfl
 rw[show vX (.int n)=true from by simp[vX];lia] at f5
 have s1:=Qu b0 b1 os rs qs u v p q c d i hi
 have s2:=Qo b0 b1 os rs qs u v p q c d i hi
 have se:=Yg b0 b1 u v c d
 have w2:=tm b0 b1 os rs qs
 have w1:zj (zr b0 b1 os rs qs) (.int 1)=some (.tup os):=rfl
 have ea:L2.zD (rs.map zw) (i:Int)=some (.tup [.int p,.int q,.int c,.int d]):=x8 (by simp[hi,zw])
 have n1:¬ (i:Int)<0:=by lia
 have n2:¬ (rs.length:Int)<=(i:Int):=by lia
 have n3:¬ rs.length<=i:=by lia
 have n4:¬ n<0:=by lia
 have i1:yf false (zp (u,v)) .zg=some (.bl false):=rfl
 have i2:yf false .zg .zg=some (.bl true):=rfl
 have kt:zC false (.str "keeper") (.str "taker")=some (.bl false):=by rw[eq_str,show (("keeper":Str) == "taker")=false from by decide];rfl
 refine⟨?_,s1,?_⟩
 ·generalize zr b0 b1 os rs qs=fl at *
  simp only[zj] at w2 w1
  obtain⟨s,hs⟩:=BG
  unfold xR qb
  by_cases c0:0<n
  ·rw[ho c0] at hs
   cases hs
   simp[yJ,zX,w2,w1,n1,n2,n3,n4,ea,eq_int,h2,i1,c0,ho c0,kt]
  ·simp[yJ,zX,w2,n1,n2,n3,n4,ea,eq_int,h2,i1,c0]
 ·have f4:vN [zr b0 b1 os rs qs,.int p,.int (i:Int)]=some .zg:=by
   generalize zr b0 b1 os rs qs=fl at *
   simp only[zj] at w2
   unfold vN qc
   simp[f3,w2,ea,eq_int]
  have pe:yC (zp (u,v))=false:=rfl
  have f6:sD [zr b0 b1 os rs qs,.int p,pr,.int n]=some (zp (u,v)):=by
   generalize zr b0 b1 os rs qs=fl at *
   unfold sD oV
   simp[f5,h1,i1,pe]
  unfold xH qe
  by_cases z:u+c<0\/v+d<0
  ·have e:stepT b0 b1 u v c d=.zg:=by unfold stepT;rw[if_pos z]
   rw[e] at s2
   rw[if_pos z]
   generalize zr b0 b1 os rs qs=fl at *
   simp[f4,f6,s2,i2,pe]
  ·have e:yf false (stepT b0 b1 u v c d) .zg=some (.bl false):=by unfold stepT;rw[if_neg z];rfl
   rw[if_neg z]
   generalize zr b0 b1 os rs qs=fl at *
   generalize stepT b0 b1 u v c d=st at *
   simp only[zj] at w2
   simp[f4,f6,s2,e,pe,w2,ea]
end
noncomputable def tI (p:Int):Nat->List (List Int)->List Nat
 | _,[]=>[]
 | k,r::rs=>if fst r=p then k::tI p (k+1) rs else tI p (k+1) rs
theorem gA (p:Int) (all:List (List Int)):∀ (rs:List (List Int)) (k:Nat),(∀ i:Nat,rs[i]?=all[k+i]?)->(List.range' k rs.length).filterMap (λ j=>if fst (all.getD j [])=p then some (T.int (j:Int)) else none)=(tI p k rs).map λ(n:Nat)=>T.int (n:Int)
 | [],k,_=>rfl
 | r::rs,k,h=>by
  have h0:all.getD k []=r:=by
   have:=h 0
   simp at this
   simp[List.getD,<- this]
  rw[A0,List.range'_succ,Ci,tI,h0]
  have ih:=gA p all rs (k+1) λ i=>by
   have:=h (i+1)
   simp at this
   rw[this]
   congr 1;lia
  by_cases q:fst r=p
  ·simp only[q,if_true,Ax];rw[ih]
  ·simp only[q,if_false];rw[ih]
theorem gB (p:Int):∀ (rs:List (List Int)) (k:Nat),(∃ r∈rs,fst r=p)->tI p k rs≠[]
 | [],k,h=>by obtain⟨r,hr,_⟩:=h;cases hr
 | r::rs,k,h=>by
  unfold tI
  by_cases q:fst r=p
  ·rw[if_pos q];nofun
  ·rw[if_neg q]
   refine gB p rs (k+1) ?_
   obtain⟨r',hr,e⟩:=h
   rcases Aj.mp hr with z | z
   ·subst z;exact absurd e q
   ·exact⟨r',z,e⟩
section
variable (b0 b1:Int)(os:List T)(rs qs:List (List Int))
def Q5 (p:Int) (pr mm wl:Option W) (h4:∀ r∈rs,r.length=4) (hl:rs.length<=60):qQ [some (.im (zr b0 b1 os rs qs)),some (.im (.int p)),pr,mm,wl,none,none,none]=some (.lst ((tI p 0 rs).map λ(n:Nat)=>T.int (n:Int))):=by
 have w2:zj (zr b0 b1 os rs qs) (.int 2)=some (.tup (rs.map zw)):=rfl
 have hr:=wM rs.length (by lia)
 simp only[Ct] at hr
 have:=dH (λ k:Nat=>T.int (k:Int)) (λ k=>if fst (rs.getD k [])=p then some (T.int (k:Int)) else none) (pick:=[none,some 0,some 1]) (it:=wR wN (zc (zA yT (zc (zb zj (ze 0) (cS (.int 2))) zl)) zl)) (g:=zI 0) (c:=zL (zb (zC false) (zb zj (zb zj (zb zj (ze 1) (cS (.int 2))) (ze 0)) (cS (.int 0))) (ze 2))) (f:=zo 0) (J:=[some (.im (zr b0 b1 os rs qs)),some (.im (.int p)),pr,mm,wl,none,none,none]) (List.range rs.length) (by
   generalize zr b0 b1 os rs qs=fl at *
   simp only[zj] at w2
   simp[w2,hr]) (by simp;lia) (λ k hk=>by
   have hk':k<rs.length:=by simpa using hk
   obtain⟨a,b,c,d,e⟩:=nM (h4 rs[k] (BW hk'))
   have ea:L2.zD (rs.map zw) (k:Int)=some (.tup [.int a,.int b,.int c,.int d]):=x8 (by simp[hk',e,zw])
   have eg:rs.getD k []=[a,b,c,d]:=by simp[List.getD,hk',e]
   rw[eg]
   generalize zr b0 b1 os rs qs=fl at *
   simp only[zj] at w2
   by_cases q:a=p
   ·simp[w2,ea,eq_int,fst,q]
   ·simp[w2,ea,eq_int,fst,q])
 unfold qQ
 rw[this,List.range_eq_range',gA p rs rs 0 λ i=>by simp]
def i8 {L:List T}{i:Int}(h0:0<=i) (h1:i<L.length):∃ w∈L,L2.zD L i=some w:=by
 obtain⟨j,rfl⟩:∃ j:Nat,(j:Int)=i:=⟨i.toNat,by lia⟩
 have hj:j<L.length:=by lia
 exact⟨L[j],BW hj,x8 (by simp[hj])⟩
def qF (a b c:Int):sd false (.int a) (.lst [.int b,.int c])=some (.bl (decide (b=a)||decide (c=a))):=by
 simp[sd,dep,xb,Rf]
def qk {g k:Sm}{J J':Ev}(h:g J=some (.nx J')):zt g k J=k J':=by simp[h]
def D4:Sm:=(zW (vG (zL (zb (zC false) (zb zS (zb yg (ze 3) (cS (.int 24))) (cS (.int 3))) (cS (.int 1)))) (zL (zb (yf true) (zA yQ (zc (zo 0) (zc (zo 1) (zc (zo 2) (zc (cS (.int 1)) zl))))) (cS .zg)))) (zG 7 (zb yB (cS (.int 1)) (zA ml (zc (vJ (zb (zC false) (zb zS (zb yg (ze 3) (cS (.int 72))) (cS (.int 2))) (cS (.int 1))) (zb (yf true) (zA yQ (zc (zo 0) (zc (zo 1) (zc (zo 2) (zc (cS (.int 2)) zl))))) (cS .zg))) zl)))) zV)
def D5:Sm:=(zW (vG (xl (ze 4)) (zL (zb (sd false) (zb zS (zb yg (ze 3) (cS (.int 144))) (cS (.int 8))) (yI (zc (cS (.int 1)) (zc (cS (.int 3)) zl)))))) (zG 6 (zb zj (yI (zc (zb zS (zb yg (ze 3) (cS (.int 1152))) (zA yT (zc (zb zj (ze 0) (cS (.int 2))) zl))) (zc (zA yT (zc (zb zj (ze 0) (cS (.int 2))) zl)) (zc (zb xS (cS (.int 0)) (cS (.int 1))) (zc (cS .zg) (zc (cS (.bl true)) (zc (cS (.str "0")) zl))))))) (zb zS (zb yg (ze 3) (cS (.int 30000))) (cS (.int 6))))) zV)
def D6:Sm:=(zW (vG (xl (ze 4)) (zL (zb (sd false) (zb zS (zb yg (ze 3) (cS (.int 144))) (cS (.int 8))) (yI (zc (cS (.int 2)) (zc (cS (.int 3)) zl)))))) (zG 7 (zb zj (yI (zc (cS (.int 13)) (zc (cS (.int 1)) (zc (cS (.int 2)) (zc (zb xS (cS (.int 0)) (cS (.int 1))) (zc (cS .zg) (zc (cS (.bl true)) (zc (cS (.str "1")) (zc (zb sU (cS (.int 10)) (cS (.int 30))) zl))))))))) (zb zS (zb yg (ze 3) (cS (.int 30000))) (cS (.int 8))))) zV)
def Rp:lE=zt (zG 5 qQ) (zt (zG 6 (zb zj (ze 5) (zb zS (ze 3) (zA yT (zc (ze 5) zl))))) (zt (zG 7 (cS (.int 0))) (zt D4 (zt D5 (zt D6 (retS (tupS (zc (zo 7) (zc (zo 6) zl))))))))):=rfl
def d4 (f pr w0 wl LN z1 z2:T) (p m:Int) (e1:yQ [f,.int p,pr,.int 1]=some z1) (e2:yQ [f,.int p,pr,.int 2]=some z2) (is1:yf true z1 .zg=some (.bl (!nB z1))) (is2:yf true z2 .zg=some (.bl (!nB z2))):
  ∃ t1,yZ t1=true/\D4 [some (.im f),some (.im (.int p)),some (.im pr),some (.im (.int m)),some (.im wl),some (.im LN),some (.im w0),some (.im (.int 0))]=some (.nx [some (.im f),some (.im (.int p)),some (.im pr),some (.im (.int m)),some (.im wl),some (.im LN),some (.im w0),some (.im t1)]):=by
 have d24:y6 m 24:=⟨by decide,by decide⟩
 have d72:y6 m 72:=⟨by decide,by decide⟩
 unfold D4
 by_cases c24:m/24%3=1
 ·cases b1:nB z1
  ·by_cases c72:m/72%2=1
   ·cases b2:nB z2
    ·exact⟨.int 2,rfl,by simp[d24,d72,eq_int,c24,e1,is1,b1,c72,e2,is2,b2]⟩
    ·exact⟨.int 1,rfl,by simp[d24,d72,eq_int,c24,e1,is1,b1,c72,e2,is2,b2]⟩
   ·exact⟨.int 1,rfl,by simp[d24,d72,eq_int,c24,e1,is1,b1,c72]⟩
  ·exact⟨.int 0,rfl,by simp[d24,eq_int,c24,e1,is1,b1]⟩
 ·exact⟨.int 0,rfl,by simp[d24,eq_int,c24]⟩
def d5 (f pr w0 t1 LN:T) (rows:List T) (wild:Bool) (p m:Int) (hm:0<=m) (w2:zj f (.int 2)=some (.tup rows)) (rpos:0<(rows.length:Int)) (hw0:yZ w0=true):
  ∃ w1,yZ w1=true/\D5 [some (.im f),some (.im (.int p)),some (.im pr),some (.im (.int m)),some (.im (.bl wild)),some (.im LN),some (.im w0),some (.im t1)]=some (.nx [some (.im f),some (.im (.int p)),some (.im pr),some (.im (.int m)),some (.im (.bl wild)),some (.im LN),some (.im w1),some (.im t1)]):=by
 have d144:y6 m 144:=⟨by decide,by decide⟩
 have d1152:y6 m 1152:=⟨by decide,by decide⟩
 have d3e4:y6 m 30000:=⟨by decide,by decide⟩
 have rpos2:0<rows.length:=by lia
 obtain⟨wv,hwv,awv⟩:∃ w,yZ w=true/\L2.zD [T.int (m/1152%(rows.length:Int)),.int (rows.length:Int),.int (-1),.zg,.bl true,.str "0"] (m/30000%6)=some w:=by
  obtain⟨w,h1,h2⟩:=i8 (L:=[T.int (m/1152%(rows.length:Int)),.int (rows.length:Int),.int (-1),.zg,.bl true,.str "0"]) (i:=m/30000%6) (by lia) (by show _<(6:Int);lia)
  simp only[Aj,AK,or_false] at h1
  refine⟨w,?_,h2⟩
  rcases h1 with rfl | rfl | rfl | rfl | rfl | rfl <;> rfl
 generalize hW6:[T.int (m/1152%(rows.length:Int)),.int (rows.length:Int),.int (-1),.zg,.bl true,.str "0"]=W6 at *
 have l6:W6.length<=16777216:=by rw[<- hW6];simp
 simp only[zj] at w2
 unfold D5
 cases wild with
 | false=>exact⟨w0,hw0,by simp⟩
 | true=>
  by_cases c1:m/144%8=1
  ·exact⟨wv,hwv,by simp[d144,d1152,d3e4,qF,c1,w2,rpos,rpos2,hW6,l6,awv]⟩
  ·have c1':¬ ((1:Int)=m/144%8):=λ h=>c1 h.symm
   by_cases c3:m/144%8=3
   ·exact⟨wv,hwv,by simp[d144,d1152,d3e4,qF,c3,w2,rpos,rpos2,hW6,l6,awv]⟩
   ·have c3':¬ ((3:Int)=m/144%8):=λ h=>c3 h.symm
    exact⟨w0,hw0,by simp[d144,qF,c1,c3,c1',c3']⟩
def d6 (f pr w1 t1 LN:T) (wild:Bool) (p m:Int) (hm:0<=m) (ht1:yZ t1=true):
  ∃ t2,yZ t2=true/\D6 [some (.im f),some (.im (.int p)),some (.im pr),some (.im (.int m)),some (.im (.bl wild)),some (.im LN),some (.im w1),some (.im t1)]=some (.nx [some (.im f),some (.im (.int p)),some (.im pr),some (.im (.int m)),some (.im (.bl wild)),some (.im LN),some (.im w1),some (.im t2)]):=by
 have d144:y6 m 144:=⟨by decide,by decide⟩
 have d3e4:y6 m 30000:=⟨by decide,by decide⟩
 have p30:tG 10 30:=⟨by decide,by decide,by decide⟩
 obtain⟨tv,htv,atv⟩:∃ w,yZ w=true/\L2.zD [T.int 13,.int 1,.int 2,.int (-1),.zg,.bl true,.str "1",.int (10 ^ 30)] (m/30000%8)=some w:=by
  obtain⟨w,h1,h2⟩:=i8 (L:=[T.int 13,.int 1,.int 2,.int (-1),.zg,.bl true,.str "1",.int (10 ^ 30)]) (i:=m/30000%8) (by lia) (by show _<(8:Int);lia)
  simp only[Aj,AK,or_false] at h1
  refine⟨w,?_,h2⟩
  rcases h1 with rfl | rfl | rfl | rfl | rfl | rfl | rfl | rfl <;> rfl
 generalize hW8:[T.int 13,.int 1,.int 2,.int (-1),.zg,.bl true,.str "1",.int (10 ^ 30)]=W8 at *
 have l8:W8.length<=16777216:=by rw[<- hW8];simp
 unfold D6
 cases wild with
 | false=>exact⟨t1,ht1,by simp⟩
 | true=>
  by_cases c1:m/144%8=2
  ·exact⟨tv,htv,by simp[-Int.reducePow,d144,d3e4,qF,c1,p30,hW8,l8,atv]⟩
  ·have c1':¬ ((2:Int)=m/144%8):=λ h=>c1 h.symm
   by_cases c3:m/144%8=3
   ·exact⟨tv,htv,by simp[-Int.reducePow,d144,d3e4,qF,c3,p30,hW8,l8,atv]⟩
   ·have c3':¬ ((3:Int)=m/144%8):=λ h=>c3 h.symm
    exact⟨t1,ht1,by simp[d144,qF,c1,c3,c1',c3']⟩
def Rq (p x y m:Int) (wild:Bool) (hm:0<=m) (h4:∀ r∈rs,r.length=4) (hl:rs.length<=60) (An:∃ r∈rs,fst r=p)
  (Bn:∀ n:Int,0<=n->∃ z,yQ [zr b0 b1 os rs qs,.int p,zp (x,y),.int n]=some z/\(z=.zg\/∃ u v,z=zp (u,v))):
  ∃ t w,rX [zr b0 b1 os rs qs,.int p,zp (x,y),.int m,.bl wild]=some (.tup [t,w])/\yZ t=true/\yZ w=true:=by
 have c1:=Q5 b0 b1 os rs qs p (some (.im (zp (x,y)))) (some (.im (.int m))) (some (.im (.bl wild))) h4 hl
 have ne:=gB p rs 0 An
 generalize tI p 0 rs=N at c1 ne
 have lpos:0<N.length:=List.length_pos_iff.mpr ne
 obtain⟨w0,hw0,aw0⟩:∃ w0,yZ w0=true/\L2.zD (N.map λ(n:Nat)=>T.int (n:Int)) (m%(N.length:Int))=some w0:=by
  obtain⟨w,h1,h2⟩:=i8 (L:=N.map λ(n:Nat)=>T.int (n:Int)) (i:=m%(N.length:Int)) (BK _ (by lia)) (by rw[Aq];exact BJ _ (by lia))
  obtain⟨n,_,rfl⟩:=AE.mp h1
  exact⟨_,rfl,h2⟩
 obtain⟨z1,e1,f1⟩:=Bn 1 (by lia)
 obtain⟨z2,e2,f2⟩:=Bn 2 (by lia)
 have is1:yf true z1 .zg=some (.bl (!nB z1)):=by rcases f1 with h | ⟨u,v,h⟩ <;> rw[h] <;> rfl
 have is2:yf true z2 .zg=some (.bl (!nB z2)):=by rcases f2 with h | ⟨u,v,h⟩ <;> rw[h] <;> rfl
 have rpos:0<((rs.map zw).length:Int):=by obtain⟨r,hr,_⟩:=An;have:=C6 hr;rw[Aq];lia
 have w2:=tm b0 b1 os rs qs
 generalize hLN:(N.map λ(n:Nat)=>T.int (n:Int))=LN at *
 have lLN:LN.length=N.length:=by rw[<- hLN,Aq]
 generalize zr b0 b1 os rs qs=fl at *
 generalize zp (x,y)=pr at *
 obtain⟨t1,ht1,s4⟩:=d4 fl pr w0 (.bl wild) (.lst LN) z1 z2 p m e1 e2 is1 is2
 obtain⟨w1,hw1,s5⟩:=d5 fl pr w0 t1 (.lst LN) (rs.map zw) wild p m hm w2 rpos hw0
 obtain⟨t2,ht2,s6⟩:=d6 fl pr w1 t1 (.lst LN) wild p m hm ht1
 refine⟨t2,w1,?_,ht2,hw1⟩
 have s1:zG 5 qQ [some (.im fl),some (.im (.int p)),some (.im pr),some (.im (.int m)),some (.im (.bl wild)),none,none,none]=some (.nx [some (.im fl),some (.im (.int p)),some (.im pr),some (.im (.int m)),some (.im (.bl wild)),some (.im (.lst LN)),none,none]):=by
  simp[c1]
 have s2:zG 6 (zb zj (ze 5) (zb zS (ze 3) (zA yT (zc (ze 5) zl)))) [some (.im fl),some (.im (.int p)),some (.im pr),some (.im (.int m)),some (.im (.bl wild)),some (.im (.lst LN)),none,none]=some (.nx [some (.im fl),some (.im (.int p)),some (.im pr),some (.im (.int m)),some (.im (.bl wild)),some (.im (.lst LN)),some (.im w0),none]):=by
  have lp1:0<(N.length:Int):=by lia
  simp[lLN,lp1,lpos,aw0]
 have s3:zG 7 (cS (.int 0)) [some (.im fl),some (.im (.int p)),some (.im pr),some (.im (.int m)),some (.im (.bl wild)),some (.im (.lst LN)),some (.im w0),none]=some (.nx [some (.im fl),some (.im (.int p)),some (.im pr),some (.im (.int m)),some (.im (.bl wild)),some (.im (.lst LN)),some (.im w0),some (.im (.int 0))]):=by simp
 have key:lE [some (.im fl),some (.im (.int p)),some (.im pr),some (.im (.int m)),some (.im (.bl wild)),none,none,none]=some (.rt (.tup [t2,w1])):=by
  rw[Rp,qk s1,qk s2,qk s3,qk s4,qk s5,qk s6]
  simp
 unfold rX
 simp[key]
end
theorem gZ (p:Int):∀ qs:List (List Int),xi p qs=.zg\/∃ r∈qs,xi p qs=zw r/\fst r=p
 | []=>.inl rfl
 | r::rs=>by
  unfold xi
  by_cases h:fst r=p
  ·rw[if_pos h];exact .inr ⟨r,Ap,rfl,h⟩
  ·rw[if_neg h]
   rcases gZ p rs with h | ⟨q,h1,h2,h3⟩
   ·exact .inl h
   ·exact .inr ⟨q,Av _ h1,h2,h3⟩
structure GF (b0 b1:Int) (os:List T) (rs qs:List (List Int)):Prop where
 mz:0<=b0/\b0<=12
 my:0<=b1/\b1<=12
 own:os.all rl=true
 gC:∀ r∈rs,tJ os.length r
 wl:rs.length<=24
 iu:∀ p:Nat,p<os.length->∃ r∈rs,fst r=(p:Int)
 st:∀ r∈qs,gY r
 sl:qs.length<=60
 sk:∀ r∈qs,keeps os (fst r)=true
section
variable {b0 b1:Int}{os:List T}{rs qs:List (List Int)}(G:GF b0 b1 os rs qs)
include G
theorem GF.ch {p:Nat}(hp:p<os.length) {x y:Int}(hx:0<=x/\x<=b0) (hy:0<=y/\y<=b1) (n:Int) (hn:0<=n):
  ∃ z,vw [zr b0 b1 os rs qs,.int (p:Int),zp (x,y),.int n]=some z/\yQ [zr b0 b1 os rs qs,.int (p:Int),zp (x,y),.int n]=some z/\(z=.zg\/∃ u v,z=zp (u,v))/\(z≠.zg->0<n->L2.zD os (p:Int)=some (.str "keeper")):=by
 have hw:wh (.int (p:Int)) 0 ((os.length:Int)-1)=true:=by simp[wh];lia
 have g4:∀ r∈qs,r.length=4:=λ r hr=>by obtain⟨a,b,c,d,rfl,_⟩:=G.st r hr;rfl
 rcases gZ (p:Int) qs with h | ⟨r,h2,h3,h5⟩
 ·obtain⟨k1,k2⟩:=R5 b0 b1 os rs qs p x y n hn hw g4 G.sl h
  refine⟨_,k1,k2,?_,λ hz hn'=>?_⟩
  ·split
   ·exact .inr ⟨_,_,rfl⟩
   ·exact .inl rfl
  ·rw[if_neg (by lia)] at hz;exact absurd rfl hz
 ·have hk:=G.sk r h2
  rw[h5] at hk
  have Cr:L2.zD os (p:Int)=some (.str "keeper"):=by
   unfold keeps at hk
   split at hk
   ·rename_i s hs
    have:s="keeper":=by simpa using hk
    subst this
    exact x8 (by simpa using hs)
   ·cases hk
  obtain⟨a,b,c,d,rfl,hb,hc,hd⟩:=G.st r h2
  have hb':b=0\/b=1:=by lia
  have a0:=G.mz
  have a1:=G.my
  rcases hb' with rfl | rfl
  ·obtain⟨z,k1,k2,k3⟩:=R4 b0 b1 os rs qs p x y n c d a hn hw g4 G.sl h3 hc hd (by lia) (by lia)
   exact⟨z,k1,k2,k3,λ _ _=>Cr⟩
  ·obtain⟨z,k1,k2,k3⟩:=R3 b0 b1 os rs qs p y x n c d a hn hw g4 G.sl h3 hc hd (by lia) (by lia)
   exact⟨z,k1,k2,k3,λ _ _=>Cr⟩
theorem GF.one {p:Nat}(hp:p<os.length) {x y:Int}(hx:0<=x/\x<=b0) (hy:0<=y/\y<=b1) {t w:T}(ft:yZ t=true) (fw:yZ w=true):
  (xR [zr b0 b1 os rs qs,.int (p:Int),zp (x,y),.tup [t,w]]=some (.int 4)/\xH [zr b0 b1 os rs qs,.int (p:Int),zp (x,y),.tup [t,w]]=some (.err "NoWay" "way" w))\/
  (xR [zr b0 b1 os rs qs,.int (p:Int),zp (x,y),.tup [t,w]]=some (.int 5)/\xH [zr b0 b1 os rs qs,.int (p:Int),zp (x,y),.tup [t,w]]=some (.err "NoChange" "times" t))\/
  (xR [zr b0 b1 os rs qs,.int (p:Int),zp (x,y),.tup [t,w]]=some .zg/\∃ (z s:T) (i:Nat) (q:Nat) (c d:Int),w=.int (i:Int)/\L2.zD (rs.map zw) (i:Int)=some (.tup [.int (p:Int),.int (q:Int),.int c,.int d])/\q<os.length/\
   yQ [zr b0 b1 os rs qs,.int (p:Int),zp (x,y),t]=some z/\sE [zr b0 b1 os rs qs,z,w]=some s/\
   ((s=.zg/\xH [zr b0 b1 os rs qs,.int (p:Int),zp (x,y),.tup [t,w]]=some .zg)\/
    ∃ x' y',(0<=x'/\x'<=b0)/\(0<=y'/\y'<=b1)/\s=zp (x',y')/\xH [zr b0 b1 os rs qs,.int (p:Int),zp (x,y),.tup [t,w]]=some (.tup [.int (q:Int),s]))):=by
 by_cases hw:wh w 0 ((rs.length:Int)-1)=true
 ·cases w with
  | int j=>
   obtain⟨i,rfl⟩:∃ i:Nat,(i:Int)=j:=⟨j.toNat,by simp[wh] at hw;lia⟩
   have B9:i<rs.length:=by simp[wh] at hw;lia
   obtain⟨a,b,c,d,e,ha,hb,_,_⟩:=G.gC rs[i] (BW B9)
   have hi:rs[i]?=some [a,b,c,d]:=by rw[<- e];simp[B9]
   by_cases hap:a=(p:Int)
   ·subst hap
    by_cases hf:vX t=true
    ·cases t with
     | int n=>
      have hn:0<=n:=by simpa [vX] using hf
      obtain⟨z,k1,k2,k3,k4⟩:=G.ch hp hx hy n hn
      rcases k3 with rfl | ⟨u,v,rfl⟩
      ·exact .inr (.inl (RX b0 b1 os rs qs p b c d n hn _ i hi k1 k2))
      ·obtain⟨s,s1,s2⟩:=dS (os:=os) (p:=(p:Int)) (by lia) (by lia) G.own "keeper"
       obtain⟨q1,q2,q3⟩:=Sv b0 b1 os rs qs p b c d n u v hn (by lia) _ i hi k1 k2 (k4 nofun) ⟨s,s1⟩
       obtain⟨q,rfl⟩:∃ q:Nat,(q:Int)=b:=⟨b.toNat,by lia⟩
       refine .inr (.inr ⟨q1,zp (u,v),stepT b0 b1 u v c d,i,q,c,d,rfl,x8 (by simp[hi,zw]),by lia,k2,q2,?_⟩)
       have a0:=G.mz
       have a1:=G.my
       by_cases zz:u+c<0\/v+d<0
       ·rw[if_pos zz] at q3
        exact .inl ⟨by unfold stepT;rw[if_pos zz],q3⟩
       ·rw[if_neg zz] at q3
        refine .inr ⟨if b0<u+c then b0 else u+c,if b1<v+d then b1 else v+d,?_,?_,by unfold stepT;rw[if_neg zz];rfl,q3⟩
        ·split <;> lia
        ·split <;> lia
     | zg=>cases hf
     | bl _=>cases hf
     | str _=>cases hf
     | _=>cases ft
    ·exact .inr (.inl (RW b0 b1 os rs qs p b c d _ t ft i hi (by simpa using hf)))
   ·exact .inl (SU b0 b1 os rs qs p a b c d _ t i hi hap)
  | zg=>cases hw
  | bl _=>cases hw
  | str _=>cases hw
  | _=>cases fw
 ·exact .inl (RU b0 b1 os rs qs p _ t w fw (by simpa using hw))
end
section
variable {f scr:T}{p m j:Int}{pr t w:T}{wild:Bool}{ds U:List T}
def cB {c:Int}(fm:vM [scr,.int j]=some (.int m)) (fd:rX [f,.int p,pr,.int m,.bl wild]=some (.tup [t,w])) (ff:xR [f,.int p,pr,.tup [t,w]]=some (.int c)) (hl:ds.length<16777216):
  turn (zI 7) xr (.int j) [some (.im scr),some (.im f),some (.im (.int p)),some (.im pr),some (.im (.bl wild)),some (.own (.lst ds)),some (.own (.lst U)),none,none,none]=some (.rt (.tup [.lst (ds++[.tup [t,w]]),.zg,.int c])):=by
 have i1:yf true (.int c) .zg=some (.bl true):=rfl
 unfold turn xr
 simp[fm,fd,ff,hl,i1]
def S7 {z:T}(fm:vM [scr,.int j]=some (.int m)) (fd:rX [f,.int p,pr,.int m,.bl wild]=some (.tup [t,w])) (ff:xR [f,.int p,pr,.tup [t,w]]=some .zg) (fc:yQ [f,.int p,pr,t]=some z) (fs:sE [f,z,w]=some .zg) (hl:ds.length<10000) (hu:U.length<10000):
  turn (zI 7) xr (.int j) [some (.im scr),some (.im f),some (.im (.int p)),some (.im pr),some (.im (.bl wild)),some (.own (.lst ds)),some (.own (.lst U)),none,none,none]=some (.rt (.tup [.lst ((ds++[.tup [t,w]])++[.tup [.int 0,.int (-1)],.tup [.zg,.zg]]),.lst (U++[.zg]),.int 0])):=by
 have i1:yf true .zg .zg=some (.bl false):=rfl
 have i2:yf false .zg .zg=some (.bl true):=rfl
 have a0:L2.zD [t,w] 0=some t:=rfl
 have a1:L2.zD [t,w] 1=some w:=rfl
 have l1:ds.length<16777216:=by lia
 have l2:U.length<16777216:=by lia
 have l3:ds.length+1+2<=16777216:=by lia
 have l4:ds.length+(1+2)<=16777216:=by lia
 unfold turn xr
 simp[fm,fd,ff,fc,fs,l1,l2,l3,l4,i1,i2,a0,a1]
def S8 {z:T}{i q:Nat}{c d x' y':Int}{rows:List T}(fm:vM [scr,.int j]=some (.int m)) (fd:rX [f,.int p,pr,.int m,.bl wild]=some (.tup [t,.int (i:Int)])) (ff:xR [f,.int p,pr,.tup [t,.int (i:Int)]]=some .zg) (fc:yQ [f,.int p,pr,t]=some z) (fs:sE [f,z,.int (i:Int)]=some (zp (x',y'))) (hl:ds.length<10000) (hu:U.length<10000)
  (w2:zj f (.int 2)=some (.tup rows)) (ha:L2.zD rows (i:Int)=some (.tup [.int p,.int (q:Int),.int c,.int d])):
  turn (zI 7) xr (.int j) [some (.im scr),some (.im f),some (.im (.int p)),some (.im pr),some (.im (.bl wild)),some (.own (.lst ds)),some (.own (.lst U)),none,none,none]=some (.nx [some (.im scr),some (.im f),some (.im (.int (q:Int))),some (.im (zp (x',y'))),some (.im (.bl wild)),some (.own (.lst (ds++[.tup [t,.int (i:Int)]]))),some (.own (.lst (U++[.tup [.int (q:Int),zp (x',y')]]))),some (.im (.int j)),some (.im (.tup [t,.int (i:Int)])),some (.im .zg)]):=by
 have i1:yf true .zg .zg=some (.bl false):=rfl
 have i2:yf false (zp (x',y')) .zg=some (.bl false):=rfl
 have a0:L2.zD [t,T.int (i:Int)] 0=some t:=rfl
 have a1:L2.zD [t,T.int (i:Int)] 1=some (.int (i:Int)):=rfl
 have l1:ds.length<16777216:=by lia
 have l2:U.length<16777216:=by lia
 simp only[zj] at w2
 unfold turn xr
 generalize zp (x',y')=s at *
 simp[fm,fd,ff,fc,fs,l1,l2,i1,i2,a0,a1,w2,ha]
variable {p0 pr0 D0 dd:T}
def fR {c g:Str}{e:T}(fb:xH [f,.int p,pr,dd]=some (.err c g e)):
  turn (zI 6) xq dd [some (.im f),some (.im p0),some (.im pr0),some (.im D0),some (.own (.lst U)),some (.im (.tup [.int p,pr])),none]=some (.rt (.err c g e)):=by
 have a0:L2.zD [T.int p,pr] 0=some (.int p):=rfl
 have a1:L2.zD [T.int p,pr] 1=some pr:=rfl
 unfold turn xq
 simp[fb,a0,a1]
def YZ (fb:xH [f,.int p,pr,dd]=some .zg) (hu:U.length<10000):
  turn (zI 6) xq dd [some (.im f),some (.im p0),some (.im pr0),some (.im D0),some (.own (.lst U)),some (.im (.tup [.int p,pr])),none]=some (.bk [some (.im f),some (.im p0),some (.im pr0),some (.im D0),some (.own (.lst (U++[.zg]))),some (.im .zg),some (.im dd)]):=by
 have a0:L2.zD [T.int p,pr] 0=some (.int p):=rfl
 have a1:L2.zD [T.int p,pr] 1=some pr:=rfl
 have i2:yf false .zg .zg=some (.bl true):=rfl
 have l2:U.length<16777216:=by lia
 unfold turn xq
 simp[fb,a0,a1,i2,l2]
def Y_ {q:Int}{s:T}(fb:xH [f,.int p,pr,dd]=some (.tup [.int q,s])) (hu:U.length<10000):
  turn (zI 6) xq dd [some (.im f),some (.im p0),some (.im pr0),some (.im D0),some (.own (.lst U)),some (.im (.tup [.int p,pr])),none]=some (.nx [some (.im f),some (.im p0),some (.im pr0),some (.im D0),some (.own (.lst (U++[.tup [.int q,s]]))),some (.im (.tup [.int q,s])),some (.im dd)]):=by
 have a0:L2.zD [T.int p,pr] 0=some (.int p):=rfl
 have a1:L2.zD [T.int p,pr] 1=some pr:=rfl
 have i2:yf false (.tup [.int q,s]) .zg=some (.bl false):=rfl
 have l2:U.length<16777216:=by lia
 unfold turn xq
 simp[fb,a0,a1,i2,l2]
end
def pY (d:T):Prop:=∃ t w,d=.tup [t,w]/\yZ t=true/\yZ w=true
def jm (v:T):Prop:=v=.zg\/∃ q x y:Int,v=.tup [.int q,zp (x,y)]
abbrev lw (scr f p pr:T) (wild:Bool) (ds U:List T) (a b c:Option W):Ev:=[some (.im scr),some (.im f),some (.im p),some (.im pr),some (.im (.bl wild)),some (.own (.lst ds)),some (.own (.lst U)),a,b,c]
abbrev xw (f p0 pr0 D0:T) (U:List T) (st:T) (a:Option W):Ev:=[some (.im f),some (.im p0),some (.im pr0),some (.im D0),some (.own (.lst U)),some (.im st),a]
abbrev tailD:List T:=[.tup [.int 0,.int (-1)],.tup [.zg,.zg]]
section
variable {b0 b1:Int}{os:List T}{rs qs:List (List Int)}(G:GF b0 b1 os rs qs)
include G
theorem GF.both (ns:List Int) (wild:Bool) (p0 pr0:T):∀ (ks:List Nat) (p:Nat) (x y:Int) (ds U:List T) (a b c e:Option W),(∀ k∈ks,k<=100)->ds.length+ks.length<=100->U.length+ks.length<=100->p<os.length->(0<=x/\x<=b0)->(0<=y/\y<=b1)->
  ∃ E V:List T,(∀ d∈E,pY d)/\(∀ v∈V,jm v)/\E.length<=ks.length/\V.length<=ks.length/\
   ((∃ E' t w c' e',E=E'++[.tup [t,w]]/\yZ t=true/\yZ w=true/\yj [7,8,9] (zI 7) xr (ks.map λ(k:Nat)=>T.int (30+(k:Int))) (lw (yH ns) (zr b0 b1 os rs qs) (.int (p:Int)) (zp (x,y)) wild ds U a b c)=some (.rt (.tup [.lst (ds++E),.zg,.int c']))/\
     (∀ D0,yj [6] (zI 6) xq E (xw (zr b0 b1 os rs qs) p0 pr0 D0 U (.tup [.int (p:Int),zp (x,y)]) e)=some (.rt e'))/\((c'=4/\e'=.err "NoWay" "way" w)\/(c'=5/\e'=.err "NoChange" "times" t)))\/
     (yj [7,8,9] (zI 7) xr (ks.map λ(k:Nat)=>T.int (30+(k:Int))) (lw (yH ns) (zr b0 b1 os rs qs) (.int (p:Int)) (zp (x,y)) wild ds U a b c)=some (.rt (.tup [.lst ((ds++E)++tailD),.lst (U++V),.int 0]))/\
     ∃ st,∀ D0,yj [6] (zI 6) xq (E++tailD) (xw (zr b0 b1 os rs qs) p0 pr0 D0 U (.tup [.int (p:Int),zp (x,y)]) e)=some (.nx (xw (zr b0 b1 os rs qs) p0 pr0 D0 (U++V) st none)))\/
     ((∃ p' pr',yj [7,8,9] (zI 7) xr (ks.map λ(k:Nat)=>T.int (30+(k:Int))) (lw (yH ns) (zr b0 b1 os rs qs) (.int (p:Int)) (zp (x,y)) wild ds U a b c)=some (.nx (lw (yH ns) (zr b0 b1 os rs qs) p' pr' wild (ds++E) (U++V) none none none)))/\
     ∃ st,∀ D0,yj [6] (zI 6) xq E (xw (zr b0 b1 os rs qs) p0 pr0 D0 U (.tup [.int (p:Int),zp (x,y)]) e)=some (.nx (xw (zr b0 b1 os rs qs) p0 pr0 D0 (U++V) st none)))):=by
 intro ks
 induction ks with
 | nil=>
  intro p x y ds U a b c e _ _ _ _ _ _
  refine⟨[],[],nofun,nofun,Ad _,Ad _,.inr (.inr ⟨⟨.int (p:Int),zp (x,y),?_⟩,.tup [.int (p:Int),zp (x,y)],?_⟩)⟩
  ·rw[Bc,yj,BC,BC];rfl
  ·intro D0;rw[yj,BC];rfl
 | cons k ks ih=>
  intro p x y ds U a b c e hk hd hu hp hx hy
  simp only[A0] at hd hu
  have k0:=hk k Ap
  have fm:=qY ns (30+k) (by lia)
  rw[show ((30+k:Nat):Int)=30+(k:Int) by lia] at fm
  obtain⟨m0,m1⟩:=q8 ns (30+k)
  generalize mixed ns (30+k)=m at *
  obtain⟨t,w,fd,ht,hw⟩:=Rq (b0:=b0) (b1:=b1) (os:=os) (rs:=rs) (qs:=qs) (p:Int) x y m wild m0 (λ r hr=>by obtain⟨_,_,_,_,rfl,_⟩:=G.gC r hr;rfl) (by have:=G.wl;lia) (G.iu p hp) (λ n hn=>by
   obtain⟨z,_,h2,h3,_⟩:=G.ch hp hx hy n hn
   exact⟨z,h2,h3⟩)
  have l1:ds.length<16777216:=by lia
  have l2:ds.length<10000:=by lia
  have l3:U.length<10000:=by lia
  rw[Ax,uz]
  rcases G.one hp hx hy ht hw with ⟨f1,f2⟩ | ⟨f1,f2⟩ | ⟨f1,z,s,i,q,c',d',rfl,ha,hq,fc,fs,h⟩
  ·have tn:=cB (U:=U) fm fd f1 l1
   have rn:=λ D0=>fR (U:=U) (p0:=p0) (pr0:=pr0) (D0:=D0) f2
   refine⟨[.tup [t,w]],[],?_,nofun,by simp,by simp,.inl ⟨[],t,w,4,_,rfl,ht,hw,?_,?_,.inl ⟨rfl,rfl⟩⟩⟩
   ·intro d hd
    rw[AF] at hd
    exact⟨t,w,hd,ht,hw⟩
   ·show (turn (zI 7) xr (.int (30+(k:Int))) (lw (yH ns) (zr b0 b1 os rs qs) (.int (p:Int)) (zp (x,y)) wild ds U none none none)).bind _=_
    rw[tn];rfl
   ·intro D0
    rw[uz]
    show (turn (zI 6) xq (.tup [t,w]) (xw (zr b0 b1 os rs qs) p0 pr0 D0 U (.tup [.int (p:Int),zp (x,y)]) none)).bind _=_
    rw[rn];rfl
  ·have tn:=cB (U:=U) fm fd f1 l1
   have rn:=λ D0=>fR (U:=U) (p0:=p0) (pr0:=pr0) (D0:=D0) f2
   refine⟨[.tup [t,w]],[],?_,nofun,by simp,by simp,.inl ⟨[],t,w,5,_,rfl,ht,hw,?_,?_,.inr ⟨rfl,rfl⟩⟩⟩
   ·intro d hd
    rw[AF] at hd
    exact⟨t,w,hd,ht,hw⟩
   ·show (turn (zI 7) xr (.int (30+(k:Int))) (lw (yH ns) (zr b0 b1 os rs qs) (.int (p:Int)) (zp (x,y)) wild ds U none none none)).bind _=_
    rw[tn];rfl
   ·intro D0
    rw[uz]
    show (turn (zI 6) xq (.tup [t,w]) (xw (zr b0 b1 os rs qs) p0 pr0 D0 U (.tup [.int (p:Int),zp (x,y)]) none)).bind _=_
    rw[rn];rfl
  ·rcases h with ⟨rfl,fb⟩ | ⟨x',y',hx',hy',rfl,fb⟩
   ·have tn:=S7 (U:=U) fm fd f1 fc fs l2 l3
    have rn:=λ D0=>YZ (p0:=p0) (pr0:=pr0) (D0:=D0) fb l3
    refine⟨[.tup [t,.int (i:Int)]],[.zg],?_,?_,by simp,by simp,.inr (.inl ⟨?_,.zg,?_⟩)⟩
    ·intro d hd
     rw[AF] at hd
     exact⟨t,_,hd,ht,hw⟩
    ·intro v hv
     rw[AF] at hv
     exact .inl hv
    ·show (turn (zI 7) xr (.int (30+(k:Int))) (lw (yH ns) (zr b0 b1 os rs qs) (.int (p:Int)) (zp (x,y)) wild ds U none none none)).bind _=_
     rw[tn];rfl
    ·intro D0
     rw[List.singleton_append,uz]
     show (turn (zI 6) xq (.tup [t,.int (i:Int)]) (xw (zr b0 b1 os rs qs) p0 pr0 D0 U (.tup [.int (p:Int),zp (x,y)]) none)).bind _=_
     rw[rn];rfl
   ·have tn:=S8 (U:=U) fm fd f1 fc fs l2 l3 (tm b0 b1 os rs qs) ha
    have rn:=λ D0=>Y_ (p0:=p0) (pr0:=pr0) (D0:=D0) fb l3
    obtain⟨E,V,e1,e2,e3,e4,h⟩:=ih q x' y' (ds++[.tup [t,.int (i:Int)]]) (U++[.tup [.int (q:Int),zp (x',y')]]) (some (.im (.int (30+(k:Int))))) (some (.im (.tup [t,.int (i:Int)]))) (some (.im .zg)) (some (.im (.tup [t,.int (i:Int)]))) (λ k hk'=>hk k (Av _ hk')) (by simp;lia) (by simp;lia) hq hx' hy'
    simp only[Dl,List.singleton_append] at h
    have lawE:∀ o,yj [7,8,9] (zI 7) xr (ks.map λ(k:Nat)=>T.int (30+(k:Int))) (lw (yH ns) (zr b0 b1 os rs qs) (.int (q:Int)) (zp (x',y')) wild (ds++[.tup [t,.int (i:Int)]]) (U++[.tup [.int (q:Int),zp (x',y')]]) (some (.im (.int (30+(k:Int))))) (some (.im (.tup [t,.int (i:Int)]))) (some (.im .zg)))=o->
      (turn (zI 7) xr (.int (30+(k:Int))) (lw (yH ns) (zr b0 b1 os rs qs) (.int (p:Int)) (zp (x,y)) wild ds U none none none)).bind (λ o=>match o with
       | .nx J2=>yj [7,8,9] (zI 7) xr (ks.map λ(k:Nat)=>T.int (30+(k:Int))) J2
       | .ct J2=>yj [7,8,9] (zI 7) xr (ks.map λ(k:Nat)=>T.int (30+(k:Int))) J2
       | .bk J2=>some (.nx (xD [7,8,9] J2))
       | .rt t=>some (.rt t))=o:=λ o h=>by rw[tn];exact h
    have runE:∀ (D0:T) (L:List T) o,yj [6] (zI 6) xq L (xw (zr b0 b1 os rs qs) p0 pr0 D0 (U++[.tup [.int (q:Int),zp (x',y')]]) (.tup [.int (q:Int),zp (x',y')]) (some (.im (.tup [t,.int (i:Int)]))))=o->
      yj [6] (zI 6) xq (.tup [t,.int (i:Int)]::L) (xw (zr b0 b1 os rs qs) p0 pr0 D0 U (.tup [.int (p:Int),zp (x,y)]) e)=o:=λ D0 L o h=>by
     rw[uz]
     show (turn (zI 6) xq (.tup [t,.int (i:Int)]) (xw (zr b0 b1 os rs qs) p0 pr0 D0 U (.tup [.int (p:Int),zp (x,y)]) none)).bind _=_
     rw[rn];exact h
    refine⟨.tup [t,.int (i:Int)]::E,.tup [.int (q:Int),zp (x',y')]::V,?_,?_,by simp;lia,by simp;lia,?_⟩
    ·intro d hd
     rcases Aj.mp hd with rfl | hd
     ·exact⟨t,_,rfl,ht,hw⟩
     ·exact e1 d hd
    ·intro v hv
     rcases Aj.mp hv with rfl | hv
     ·exact .inr ⟨_,_,_,rfl⟩
     ·exact e2 v hv
    ·rcases h with ⟨E',t',w',c2,e',g1,g2,g3,g4,g5,g6⟩ | ⟨g1,st,g2⟩ | ⟨⟨p',pr',g1⟩,st,g2⟩
     ·exact .inl ⟨.tup [t,.int (i:Int)]::E',t',w',c2,e',by rw[g1];rfl,g2,g3,lawE _ g4,λ D0=>runE D0 _ _ (g5 D0),g6⟩
     ·exact .inr (.inl ⟨by simp only[Dl,List.cons_append];exact lawE _ g1,st,λ D0=>runE D0 _ _ (g2 D0)⟩)
     ·exact .inr (.inr ⟨⟨p',pr',lawE _ g1⟩,st,λ D0=>runE D0 _ _ (g2 D0)⟩)
end
def fK (n:Nat) (x y:T) (L:List T) (hx:wA x=some L) (hy:wA y=some L) (hl:L.length<=100) (ln:∀ J:Ev,zA yT (zc (ze 1) zl) (some (.im x)::some (.im y)::J)=some (.int (L.length:Int)))
  (h:∀ u∈L,yV n [u,u]=some (.bl true)):su (yV n) [some (.im x),some (.im y)]=some (.lst (L.map λ _=>T.bl true)):=by
 have hr:=wM L.length (by lia)
 simp only[Ct] at hr
 have e:L.map (λ _=>T.bl true)=(List.range L.length).map (λ _=>T.bl true):=by
  apply Cc <;> simp
 rw[e]
 unfold su
 refine dG (λ k:Nat=>T.int (k:Int)) _ (List.range L.length) ?_ (by simp;lia) λ k hk=>?_
 ·have:=ln []
  unfold wR
  simp only[zc,zl] at this ⊢
  rw[this]
  simp[hr]
 ·have hk':k<L.length:=by simpa using hk
  have ea:L2.zD L (k:Int)=some L[k]:=x8 (by simp[hk'])
  have h':=h L[k] (BW hk')
  simp[hx,hy,ea,h']
def bK (L:List T):t5 (L.map λ _=>T.bl true)=some (L.map λ _=>true):=by
 have:=bM (L.map λ _=>true)
 rw[Bp] at this
 exact this
def all_true (L:List T):((L.map λ _=>true).all id)=true:=by
 rw[List.all_map];simp
def YI (n:Nat) (L:List T) (hl:L.length<=100) (h:∀ u∈L,yV n [u,u]=some (.bl true)):yV (n+1) [.lst L,.lst L]=some (.bl true):=by
 have e0:zC true (.bl true) (.bl true)=some (.bl false):=rfl
 have e1:zC true (.bl false) (.bl false)=some (.bl false):=rfl
 have e2:zC false (.int (L.length:Int)) (.int (L.length:Int))=some (.bl true):=by unfold zC;rw[rB];rfl
 have hc:=fK n (.lst L) (.lst L) L rfl rfl hl (fun J=>by simp) h
 have b1:=bK L
 have b2:=all_true L
 unfold yV qa
 generalize su (yV n)=cc at *
 simp[yJ,e0,e1,e2,hc,b1]
def YH (n:Nat) (L:List T) (hl:L.length<=100) (h:∀ u∈L,yV n [u,u]=some (.bl true)):yV (n+1) [.tup L,.tup L]=some (.bl true):=by
 have e0:zC true (.bl true) (.bl true)=some (.bl false):=rfl
 have e1:zC true (.bl false) (.bl false)=some (.bl false):=rfl
 have e2:zC false (.int (L.length:Int)) (.int (L.length:Int))=some (.bl true):=by unfold zC;rw[rB];rfl
 have hc:=fK n (.tup L) (.tup L) L rfl rfl hl (fun J=>by simp) h
 have b1:=bK L
 have b2:=all_true L
 unfold yV qa
 generalize su (yV n)=cc at *
 simp[yJ,e0,e1,e2,hc,b1]
def YJ (V:List T) (hl:V.length<=100) (h:∀ v∈V,jm v):yV 6 [.lst V,.lst V]=some (.bl true):=by
 refine YI 5 V hl λ v hv=>?_
 rcases h v hv with rfl | ⟨q,x,y,rfl⟩
 ·exact Qr 4
 ·refine YH 4 _ (by simp) λ u hu=>?_
  simp only[Aj,AK,or_false] at hu
  rcases hu with rfl | rfl
  ·exact ao 3 q
  ·exact Qq 2 x y
def ig {t:T}(h:yZ t=true):dep t=0:=by cases t <;> first | rfl | cases h
theorem bg:∀ L:List T,(∀ d∈L,pY d)->xb L<=1
 | [],_=>by simp[xb]
 | d::L,h=>by
  have ih:=bg L λ d hd=>h d (Av _ hd)
  obtain⟨t,w,rfl,h1,h2⟩:=h d Ap
  simp only[xb,dep,ig h1,ig h2]
  lia
def Rc (L:List T) (h:∀ d∈L,pY d):zC true (.lst L) (.lst L)=some (.bl false):=by
 have:=bg L h
 have h':dep (.lst L)<=60:=by simp only[dep];lia
 unfold zC
 rw[if_pos ⟨h',h'⟩,rB];rfl
def VB:∀ d∈tailD,pY d:=by
 intro d hd
 simp only[tailD,Aj,AK,or_false] at hd
 rcases hd with rfl | rfl
 ·exact⟨_,_,rfl,rfl,rfl⟩
 ·exact⟨_,_,rfl,rfl,rfl⟩
def SJ {t:T}(h:yZ t=true):(nh t).isSome=true:=by cases t <;> first | rfl | cases h
section
variable {b0 b1:Int}{os:List T}{rs qs:List (List Int)}
def kJ {p:Nat}(hp:p<os.length) {x y:Int}(hx:0<=x/\x<=b0) (hy:0<=y/\y<=b1) {D V:List T}{st:T}(h:yj [6] (zI 6) xq D (xw (zr b0 b1 os rs qs) (.int (p:Int)) (zp (x,y)) (.lst D) [] (.tup [.int (p:Int),zp (x,y)]) none)=some (.nx (xw (zr b0 b1 os rs qs) (.int (p:Int)) (zp (x,y)) (.lst D) V st none))):
  uO [zr b0 b1 os rs qs,.int (p:Int),zp (x,y),.lst D]=some (.lst V):=by
 have h1:=iY b0 b1 os rs qs (.int (p:Int)) rfl
 rw[if_pos (by simp[wh];lia)] at h1
 have h2:=aq b0 b1 os rs qs (zp (x,y)) rfl
 rw[if_pos (by simp[wg,wh,zp];lia)] at h2
 unfold uO lB
 generalize zr b0 b1 os rs qs=f at *
 generalize zp (x,y)=pr at *
 generalize xq=bb at *
 simp only[xw] at h
 simp[h1,h2,h]
def YM {p:Nat}(hp:p<os.length) {x y:Int}(hx:0<=x/\x<=b0) (hy:0<=y/\y<=b1) {D:List T}{e:T}(h:yj [6] (zI 6) xq D (xw (zr b0 b1 os rs qs) (.int (p:Int)) (zp (x,y)) (.lst D) [] (.tup [.int (p:Int),zp (x,y)]) none)=some (.rt e)):
  uO [zr b0 b1 os rs qs,.int (p:Int),zp (x,y),.lst D]=some e:=by
 have h1:=iY b0 b1 os rs qs (.int (p:Int)) rfl
 rw[if_pos (by simp[wh];lia)] at h1
 have h2:=aq b0 b1 os rs qs (zp (x,y)) rfl
 rw[if_pos (by simp[wg,wh,zp];lia)] at h2
 unfold uO lB
 generalize zr b0 b1 os rs qs=f at *
 generalize zp (x,y)=pr at *
 generalize xq=bb at *
 simp only[xw] at h
 simp[h1,h2,h]
def GF.all (G:GF b0 b1 os rs qs) (ns:List Int) (wild:Bool) {p:Nat}(hp:p<os.length) {x y:Int}(hx:0<=x/\x<=b0) (hy:0<=y/\y<=b1):
  ∃ D:List T,(∀ d∈D,pY d)/\
   ((∃ E' t w c' e',D=E'++[.tup [t,w]]/\yZ t=true/\yZ w=true/\rW [yH ns,zr b0 b1 os rs qs,.int (p:Int),zp (x,y),.bl wild]=some (.tup [.lst D,.zg,.int c'])/\uO [zr b0 b1 os rs qs,.int (p:Int),zp (x,y),.lst D]=some e'/\((c'=4/\e'=.err "NoWay" "way" w)\/(c'=5/\e'=.err "NoChange" "times" t)))\/
     ∃ V,V.length<=100/\(∀ v∈V,jm v)/\rW [yH ns,zr b0 b1 os rs qs,.int (p:Int),zp (x,y),.bl wild]=some (.tup [.lst D,.lst V,.int 0])/\uO [zr b0 b1 os rs qs,.int (p:Int),zp (x,y),.lst D]=some (.lst V)):=by
 have hr:=YS 30 62 (by decide) (by decide)
 rw[show ((30:Nat):Int)=30 from rfl,show ((62:Nat):Int)=62 from rfl] at hr
 have hk:∀ k∈List.range (62-30),k<=100:=by
  intro k hk
  have h:k<62-30:=by simpa using hk
  lia
 obtain⟨E,V,a1,a2,a3,a4,a5⟩:=G.both ns wild (.int (p:Int)) (zp (x,y)) (List.range (62-30)) p x y [] [] none none none none hk (by simp) (by simp) hp hx hy
 simp only[List.nil_append] at a5
 have lV:V.length<=100:=by simp at a4;lia
 rcases a5 with ⟨E',t,w,c',e',h1,h2,h3,h4,h5,h6⟩ | ⟨h1,st,h2⟩ | ⟨⟨p',pr',h1⟩,st,h2⟩
 ·refine⟨E,a1,.inl ⟨E',t,w,c',e',h1,h2,h3,?_,YM hp hx hy (h5 _),h6⟩⟩
  unfold rW oW
  generalize zr b0 b1 os rs qs=f at *
  generalize zp (x,y)=pr at *
  generalize xr=bb at *
  simp only[lw] at h4
  simp[hr,h4]
 ·refine⟨E++tailD,λ d hd=>(A1.mp hd).elim (a1 d) (VB d),.inr ⟨V,lV,a2,?_,kJ hp hx hy (h2 _)⟩⟩
  unfold rW oW
  generalize zr b0 b1 os rs qs=f at *
  generalize zp (x,y)=pr at *
  generalize xr=bb at *
  simp only[lw] at h1
  simp[hr,h1]
 ·refine⟨E,a1,.inr ⟨V,lV,a2,?_,kJ hp hx hy (h2 _)⟩⟩
  unfold rW oW
  generalize zr b0 b1 os rs qs=f at *
  generalize zp (x,y)=pr at *
  generalize xr=bb at *
  simp only[lw] at h1
  simp[hr,h1]
end
def dD {t:T}(h:yZ t=true):qZ [t,t]=some (.bl true):=Qy t (by rw[ig h];lia) (SJ h)
def Ru {rs:List (List Int)}{n:Nat}(h:p7 (.tup (rs.map zw)) n=true):∀ p:Nat,p<n->∃ r∈rs,fst r=(p:Int):=λ p hp=>by
 simp only[p7,AU] at h
 have h2:=AW.mp h.2.2.2 p (by simpa using hp)
 rw[nL,CG] at h2
 obtain⟨i,h3,h4⟩:=h2
 obtain⟨r,h5,rfl⟩:=AE.mp h3
 exact⟨r,h5,by simpa using h4⟩
def Yv {qs:List (List Int)}{os:List T}(h:tM (.tup (qs.map zw)) os=true):∀ r∈qs,keeps os (fst r)=true:=λ r hr=>by
 simp only[tM,AU] at h
 have h2:=h.2.2
 rw[nL,AW] at h2
 exact h2 _ (List.mem_map_of_mem hr)
def Ti:∀ ns:List Int,ns.length<=63->tF [.lst (ns.map T.int)]=some (.bl true):=λ ns _=>by
 show tF [yH ns]=_
 have fm:=qY ns 0 (by decide)
 have fm4:=qY ns 29 (by decide)
 obtain⟨m0,m1⟩:=q8 ns 0
 obtain⟨m2,m3⟩:=q8 ns 29
 generalize mixed ns 0=m at *
 generalize mixed ns 29=m4 at *
 have d8:y6 m 8:=⟨by decide,by decide⟩
 have d104:y6 m 104:=⟨by decide,by decide⟩
 have d1352:y6 m 1352:=⟨by decide,by decide⟩
 have d5:y6 m 50000:=⟨by decide,by decide⟩
 have d48:y6 m4 8:=⟨by decide,by decide⟩
 have d42:y6 m4 2000:=⟨by decide,by decide⟩
 obtain⟨many,hm⟩:∃ many:Nat,(many:Int)=1+m%8:=⟨(1+m%8).toNat,by lia⟩
 obtain⟨more,Co⟩:∃ more:Nat,(more:Int)=m/1352%9:=⟨(m/1352%9).toNat,by lia⟩
 obtain⟨b0,mz⟩:∃ b,b=m/8%13:=⟨_,rfl⟩
 obtain⟨b1,my⟩:∃ b,b=m/104%13:=⟨_,rfl⟩
 obtain⟨os,rs,qs,w1,w2,w3,w4,w5,w6,w7,w8,w9⟩:=Qz ns 2 many more (zp (b0,b1)) (by decide) (by lia) (by lia) (by lia)
 have hb0':0<=b0/\b0<=12:=by lia
 have hb1':0<=b1/\b1<=12:=by lia
 rw[<- w2] at w4 w9
 have G:GF b0 b1 os rs qs:=⟨hb0',hb1',w3,w9,w7,Ru w4,Yk w5,by lia,Yv w5⟩
 obtain⟨p,hp⟩:∃ p:Nat,(p:Int)=m4%(os.length:Int):=⟨(m4%(os.length:Int)).toNat,by have:=BK m4 (b:=(os.length:Int)) (by lia);lia⟩
 have Ag:p<os.length:=by have:=BJ m4 (b:=(os.length:Int)) (by lia);lia
 have f0:zj (zr b0 b1 os rs qs) (.int 0)=some (zp (b0,b1)):=rfl
 have fp:=Qw (m4/8) b0 b1 hb0'.1 hb1'.1
 obtain⟨x,y,hx,hy,DM⟩:∃ x y:Int,(0<=x/\x<=b0)/\(0<=y/\y<=b1)/\((m4/2000%2=1/\zp (b0,b1)=zp (x,y))\/(¬ m4/2000%2=1/\zp (m4/8%(b0+1),m4/8/13%(b1+1))=zp (x,y))):=by
  by_cases c:m4/2000%2=1
  ·exact⟨b0,b1,by lia,by lia,.inl ⟨c,rfl⟩⟩
  ·refine⟨m4/8%(b0+1),m4/8/13%(b1+1),?_,?_,.inr ⟨c,rfl⟩⟩
   ·have:=BK (m4/8) (b:=b0+1) (by lia)
    have:=BJ (m4/8) (b:=b0+1) (by lia)
    lia
   ·have:=BK (m4/8/13) (b:=b1+1) (by lia)
    have:=BJ (m4/8/13) (b:=b1+1) (by lia)
    lia
 obtain⟨D,hD,hG⟩:=G.all ns (decide (m/50000%2=1)) Ag hx hy
 have eD:=Rc D hD
 have hrn:uO [zr b0 b1 os rs qs,.int (p:Int),zp (x,y),.lst []]=some (.lst []):=kJ Ag hx hy (st:=.tup [.int (p:Int),zp (x,y)]) (by rw[yj];rfl)
 have w1':ph [yH ns,.int 2,.int (many:Int),zp (b0,b1),.int (more:Int)]=some (zr b0 b1 os rs qs):=w1
 rw[<- w2] at w1'
 have e1:(1:Int)+m%8=(os.length:Int):=by lia
 have opos:0<(os.length:Int):=by lia
 have opos2:0<os.length:=by lia
 rw[show ((0:Nat):Int)=0 from rfl] at fm
 rw[show ((29:Nat):Int)=29 from rfl] at fm4
 have tp:(T.tup [.int (m/8%13),.int (m/104%13)])=zp (b0,b1):=by rw[mz,my];rfl
 have en:zC false (.lst []) (.lst [])=some (.bl true):=rfl
 have i0:yf true .zg .zg=some (.bl false):=rfl
 have i1:yf false .zg .zg=some (.bl true):=rfl
 have k4:zC true (.lst [.int 4,.int 9,.int 10]) (.lst [.int 4,.int 9,.int 10])=some (.bl false):=rfl
 have k5:zC true (.lst [.int 5,.int 9,.int 10]) (.lst [.int 5,.int 9,.int 10])=some (.bl false):=rfl
 have fix:∀ z:T,zj (zr b0 b1 os rs qs) (.int 0)=some z->z=zp (b0,b1):=λ z hz=>by rw[f0] at hz;exact (AY hz).symm
 generalize zp (m4/8%(b0+1),m4/8/13%(b1+1))=pq at *
 generalize zp (b0,b1)=pb at *
 generalize zr b0 b1 os rs qs=f at *
 simp only[zj] at f0
 have er:∀ {a b c},yC (.err a b c)=true:=rfl
 have head:∀ (c:T->Prop),True:=λ _=>trivial
 rcases hG with ⟨E',t,w,c',e',h1,h2,h3,h4,h5,h6⟩ | ⟨V,h1,h2,h3,h4⟩
 ·have hlast:L2.zD D (-1)=some (.tup [t,w]):=by rw[h1];exact R_
  have a0:L2.zD [t,w] 0=some t:=rfl
  have a1:L2.zD [t,w] 1=some w:=rfl
  have lt:=dD h2
  have lw':=dD h3
  rcases h6 with ⟨rfl,rfl⟩ | ⟨rfl,rfl⟩
  ·have kk:=Q1 w
   unfold tF oX
   rcases DM with ⟨c,rfl⟩ | ⟨c,rfl⟩ <;> generalize zp (x,y)=pr at * <;>
   simp only[ya,zt,zG,vW,retS,uT] <;>
   simp[-Int.reducePow,fm,fm4,d8,d104,d1352,d5,d48,d42,e1,opos,opos2,tp,<- Co,<- hp,w1',f0,fp,c,eq_int,h4,h5,eD,i0,kk,k4,hlast,a0,a1,lw']
  ·have kk:=Q0 t
   unfold tF oX
   rcases DM with ⟨c,rfl⟩ | ⟨c,rfl⟩ <;> generalize zp (x,y)=pr at * <;>
   simp only[ya,zt,zG,vW,retS,uT] <;>
   simp[-Int.reducePow,fm,fm4,d8,d104,d1352,d5,d48,d42,e1,opos,opos2,tp,<- Co,<- hp,w1',f0,fp,c,eq_int,h4,h5,eD,i0,kk,k5,hlast,a0,a1,lt]
 ·have sm:=YJ V h1 h2
  have iV:yf true (.lst V) .zg=some (.bl true):=rfl
  unfold tF oX
  rcases DM with ⟨c,rfl⟩ | ⟨c,rfl⟩ <;> generalize zp (x,y)=pr at * <;>
  simp only[ya,zt,zG,vW,retS,uT] <;>
  simp[-Int.reducePow,fm,fm4,d8,d104,d1352,d5,d48,d42,e1,opos,opos2,tp,<- Co,<- hp,w1',f0,fp,c,eq_int,h3,h4,eD,i1,iV,sm,hrn,en]
end yG
namespace PySem.W.Fast
def tw13550999954203001820:=0
def te15514319203460162417:=0
def tw9353212881779822343:=0
def tw4351255248380307207:=0
def tw16938422280108415529:=0
def tw4605630144210183042:=0
def tw2158626214231899534:=0
def tw11343156425521525064:=0
def tw16829791588792564152:=0
def tw2322475639145388266:=0
def tw11069780802756366963:=0
def tw420164408820105051:=0
def tw12023650941808757705:=0
def tw6458658785508074144:=0
def tw8774217800688766656:=0
def tw13097566185239616365:=0
def tw8414888919435299692:=0
def tw11998870732164607057:=0
def tw11138590807134592216:=0
def tw3587176083248559106:=0
def tw11867121916017774026:=0
def tw10947922573158258123:=0
def tw12848196909591116609:=0
def tw15316310689338622698:=0
def tw13778095583633849875:=0
def tw5903508645799592483:=0
def tw11363277685513547709:=0
def tw752987804937545364:=0
def tw18082123748796414955:=0
def tw17050271477447143945:=0
def tw17885413273780292464:=0
def tw10037716839141383546:=0
def tw11822530557977050196:=0
def tw13661765764613354385:=0
def tw2654123905401883667:=0
def tw14329884940145819405:=0
def tw17424855741615195087:=0
def tw481965684847692616:=0
def tw16399259237925225237:=0
def tw13394518226129374079:=0
def tw16211956334615423151:=0
def tw15865640260496925210:=0
def tw10607723993744753489:=0
def tw9672142235717245677:=0
def tw7229555254170402946:=0
def tw15690570487216206818:=0
def tw10366758130044125749:=0
def tw11185808615873618704:=0
def tw13435139699063034219:=0
def tw5401417125155715166:=0
def tw7543023656717789378:=0
def tw12398435312645671089:=0
def tw4735547349988231171:=0
def tw11723650026509823812:=0
def tw3409887920453814441:=0
def tw4627743568799366192:=0
def tw10921757275710624117:=0
def tw195960501701669704:=0
def tw13437215668673290695:=0
def tw9030662004751193123:=0
def tw9619258642354761047:=0
def tw18262913420725004622:=0
def tw6379107072014375535:=0
def tw3530591664511039379:=0
def tw5607410739212568848:=0
def tw7784986952113026535:=0
def tw6957473107612049076:=0
def tw708695497907067074:=0
def tw15397680023336150833:=0
def tw18251930037864656968:=0
def tw4889272616598978289:=0
def tw75227892735142578:=0
def tw8424504404853954106:=0
def tw6336946908991580226:=0
def tw2760268548463657489:=0
def tw15187328711130894033:=0
def tw3691426306679406846:=0
def tw340558363444875245:=0
def tw1965263091570380360:=0
def tw17203171520973386748:=0
def tw1874069247989412488:=0
def tw12957334917298645980:=0
def tw15773992248787999164:=0
def tw17892704477086435881:=0
def tw9737608817087623950:=0
def tw17147515198362823286:=0
def tw3347900536507678964:=0
def tw8797357449229511571:=0
def tw17167078314961080512:=0
def tw345432794043233637:=0
def tw8896340747262121199:=0
def tw16936580657161104882:=0
def tw5778715430651408491:=0
def tw1454544953445888899:=0
def tw17759547036632109208:=0
def tw2376208691635800453:=0
def tw17648272485187201459:=0
def tw11687288092700361454:=0
def tw13901697014750032750:=0
def tw4946816557526078913:=0
def tw12911260944688717643:=0
def tw16043057786336952154:=0
def tw17269194289000339425:=0
def tw5438339208801900360:=0
def tw4426016409901597543:=0
def tw13606366890756137206:=0
def tw17904970803493608764:=0
def tw4781871199579530989:=0
def tw6956786239561675334:=0
def tw6263308771753200726:=0
def tw14179147118408601589:=0
def tw17953024942715886192:=0
def tw10126646765972649638:=0
def tw747310616869005122:=0
def tw16068800182772003578:=0
def tw10073263056746951610:=0
def tw2594505240913473396:=0
def tw13341304776535889053:=0
def tw10557440656219839460:=0
def tw6599152924429587124:=0
def tw16876905273185298728:=0
def tw17190227886717386042:=0
def tw17053691172568746058:=0
def tw13995414947332726013:=0
def tw914325436781584596:=0
def tw15011591741120415407:=0
def tw7148374942983778057:=0
def tw12009135538478625119:=0
def tw2189821159439045230:=0
def tw12033877140189579714:=0
def tw11191718752559891701:=0
def tw14291407565674934934:=0
def tw17094163051441964988:=0
def tw8814589481009743996:=0
def tw8206467993323000739:=0
def tw3527867766583208537:=0
def tw1888488977831969646:=0
def tw14174164631039563282:=0
def tw18315373605946326220:=0
def tw3033268836586544607:=0
def tw8117057858680638472:=0
def tw7742627364531735313:=0
def tw15481008908326125606:=0
def tw15923142435771019538:=0
def tw15431015565319997949:=0
def tw3081052706996755924:=0
def tw2997798394578935860:=0
def tw7409370225693770377:=0
def tw7611964043282689376:=0
def tw14447161405012376560:=0
def tw243049688175777768:=0
def tw13831502014961779500:=0
def tw18255424342026276637:=0
def tw11587472016577802884:=0
def tw11132967227543665570:=0
def tw5929693018434340129:=0
def tw1321753730717554290:=0
def tw5733964709420097448:=0
def tw7924835190571061720:=0
def tw11395177604284942827:=0
def tw12227562299811107765:=0
def tw1038336359565004462:=0
def tw17375887520118491616:=0
def tw262558286213192666:=0
def tw16212877124052368008:=0
def tw61966332454778265:=0
def tw13100391710721534373:=0
def tw12342998798263500165:=0
def tw4961116775455760766:=0
def tw16031189353467755058:=0
def tw7666738432259129204:=0
def tw5680237572980597198:=0
def tw17946278897363634320:=0
def tw5218845079772188935:=0
def tw7673755362506125122:=0
def tw1483063160161327415:=0
def tw9835716423419670407:=0
def tw15114663743123308140:=0
def tw13552718509545258573:=0
def tw2503752204347177416:=0
def tw16991147508350663302:=0
def tw6530256927482929793:=0
def tw4536628688148771931:=0
def tw546196456306327837:=0
def tw14968715964638766370:=0
def tw2950479045330282930:=0
def tw5065670541471984516:=0
def tw15882017618070037446:=0
def tw2204612569991369474:=0
def tw11487028224344975705:=0
def tw13379885028365330691:=0
def tw5039037151746091933:=0
def tw9322207007039290323:=0
def tw3903200372039835989:=0
def tw17813200833797434908:=0
def tw18148340046160469601:=0
def tw13608969078966849244:=0
def tw4888595553273506853:=0
def tw9207770160304194188:=0
def tw14416999218850875690:=0
def tw15384127320630600668:=0
def tw11964553888488149948:=0
def tw10452455712809904547:=0
def tw3186110488645982933:=0
def tw8857463373738351724:=0
def tw4562495176827407563:=0
def tw12838711855741841806:=0
def tw13717099456684633136:=0
def tw3420082936567901582:=0
def tw15696928996876592996:=0
def tw15814339447656319061:=0
def tw14518118510280361222:=0
def tw7460905570444389630:=0
def tw11293031776249181060:=0
def tw14488234780574343359:=0
def tw5492179911557490352:=0
def tw7590412038816890921:=0
def tw12132467500759342185:=0
def tw13534651237905182538:=0
def tw17250645136885193945:=0
def tw14271065262692508749:=0
def tw1019538433140503016:=0
def tw11496725367681005153:=0
def tw7308370089929696327:=0
def tw7746269486099842829:=0
def tw11756835889360685993:=0
def tw742658599393526724:=0
def tw2983276463909321206:=0
def tw15873576333767670462:=0
def tw6920776098795586972:=0
def tw14228755474704671239:=0
def tw15967505861234881273:=0
def tw1375061224123955123:=0
def tw15661820578304339449:=0
def tw14098531273638345050:=0
def tw5654505210193636910:=0
def tw10848466139435797145:=0
def tw5425411043735039522:=0
def tw5569461201859801363:=0
def tw3180725462073096113:=0
def tw4963348226123081281:=0
def tw6024260225547897503:=0
def tw7778930034192865745:=0
def tw4897052933755899354:=0
def tw3065436934901657051:=0
def tw3173438250354839644:=0
def tw16863149376177789948:=0
def tw11451678624065213809:=0
def tw10449495785383284027:=0
def tw3833460924946931023:=0
def tw7769523947108152491:=0
def tw12665564064107263527:=0
def tw18300545662424240801:=0
def tw1145593982017251198:=0
def tw530944698850979999:=0
def tw16183264129487420619:=0
def tw16469214797473979369:=0
def tw1784560193190483422:=0
def tw16269865402066451911:=0
def tw15002307721489796257:=0
def tw7459805843080568352:=0
def tw2465564538520096170:=0
def tw11131911142072667447:=0
def tw5965170953496906165:=0
def tw7423132843715488317:=0
def tw16324742806321735387:=0
def tw5995068403830668716:=0
def tw10409793034467645385:=0
def tw867243057451694623:=0
def tw2958835048360158013:=0
def tw3558395142948807007:=0
def tw11259738667667181027:=0
def tw2465754491731185451:=0
def tw8240483164852319217:=0
def tw13108834265488689787:=0
def tw10311752362757966886:=0
def tw9512881732787269668:=0
def tw2764347101389403911:=0
def tw13248491121612507297:=0
def tw17247856757772954153:=0
def tw16584161430818062740:=0
def tw1861374806271356178:=0
def tw15667057775778837797:=0
def tw12754507838541501223:=0
def tw3780030735066281943:=0
def tw8993683938546739901:=0
def tw16768519328073762628:=0
def tw16304041361773308758:=0
def tw16230504155720370561:=0
def tw11541678472954870293:=0
def tw5499000021336504291:=0
def tw6372697449214829543:=0
def tw11140322626799411767:=0
def tw16869256619150496275:=0
def tw11526247879175937469:=0
def tw7695572492849020968:=0
def tw10021479247054513613:=0
def tw9310579368302721788:=0
def tw9446205429611738391:=0
def tw5392246011323911845:=0
def tw9126549276633996367:=0
def tw1515653928639863292:=0
def tw10758959272221386762:=0
def tw14431784791134859214:=0
def tw14652400415931906334:=0
def tw11007942711908830607:=0
def tw10188229377167117703:=0
def tw15429764130957061050:=0
def tw15133134983293624221:=0
def tw6861435005453370934:=0
def tw4800539850835480040:=0
def tw13123440691417192167:=0
def tw7422166866993025886:=0
def tw14962076949917558179:=0
def tw3265738736988156244:=0
def tw2364035401979013029:=0
def tw5176675515996172348:=0
def tw10330309298467144177:=0
def tw1044467352970845815:=0
def tw2349003415803507292:=0
def tw705512226304842092:=0
def tw5208336426099985192:=0
def tw18129064733015002094:=0
def tw16494525298460571519:=0
def tw11046083535204113035:=0
def tw13320832278523757617:=0
def tw2080803601184010074:=0
def tw3648720709366869925:=0
def tw7310663650699336002:=0
def tw10558799761721947847:=0
def tw192011411973934501:=0
def tw13355123414924440493:=0
def tw13617438610108874309:=0
def tw15449648294249653391:=0
def tw5665266762964541253:=0
def tw14288687333373610294:=0
def tw11522812408884429195:=0
def tw8410736596109670940:=0
def tw12456595323483410321:=0
def tw5702718497525805276:=0
def tw3927861319487494661:=0
def tw12050447770811539452:=0
def tw1401094788535950089:=0
def tw5050271208875405839:=0
def tw14426063042703450372:=0
def tw12906070112102388707:=0
def tw1437422283059642854:=0
def tw4474651108890235904:=0
def tw436100906026653075:=0
def tw12865844237633197165:=0
def tw15319426433738640206:=0
def tw4197616231840908994:=0
def tw333785213333758372:=0
def tw4169622416121164723:=0
def tw5865733833004494884:=0
def tw2553121305985413516:=0
def tw7221481181709483468:=0
def tw16637989180337825316:=0
def tw7903284098543545927:=0
def tw6731195759861266311:=0
def tw2196851525198988826:=0
def tw12251888952150904450:=0
def tw7051670007785877159:=0
def tw15286531218863713764:=0
def tw14949124174095776322:=0
def tw12986672775275543793:=0
def tw11465083857181844344:=0
def tw6667845473304692482:=0
def tw1962496522266513666:=0
def tw17054366741951496133:=0
def tw9571359524917540828:=0
def tw17967744471686541269:=0
def tw11957541331021647149:=0
def tw168752634739567085:=0
def tw6038793881030459096:=0
def tw15360482011049589852:=0
def tw6942717628230760332:=0
def tw2425312379880008008:=0
def tw8925587217731794782:=0
def tw544887698607287830:=0
def tw8862518536229249653:=0
def tw9002124087862864082:=0
def tw4093948800620577443:=0
def tw14524161065347693884:=0
end PySem.W.Fast
namespace yG
open PySem L2 L3 L5
open PyProof.Rows hiding St
def top (i:Nat):Stmt:=PySem.Challenge.pw_purseborder_k23_runs.main.body.getD i (.Pass ⟨0,0,0,0⟩)
abbrev kz:Stmt:=top 12
abbrev ky:Stmt:=top 13
abbrev kB:Stmt:=top 14
abbrev nK:Stmt:=top 15
abbrev ke:Stmt:=top 16
abbrev kD:Stmt:=top 17
abbrev kE:Stmt:=top 18
abbrev kc:Stmt:=top 19
abbrev kA:Stmt:=top 21
abbrev kb:Stmt:=top 22
abbrev kF:Stmt:=top 23
abbrev kG:Stmt:=top 24
abbrev kC:Stmt:=top 25
abbrev kf:Stmt:=top 26
abbrev kH:Stmt:=top 27
abbrev kd:Stmt:=top 28
abbrev km:Stmt:=top 30
abbrev kg:Stmt:=top 31
abbrev ki:Stmt:=top 32
abbrev kj:Stmt:=top 33
abbrev kr:Stmt:=top 34
abbrev kl:Stmt:=top 35
abbrev kh:Stmt:=top 36
abbrev nJ:Stmt:=top 37
abbrev nH:Stmt:=top 38
abbrev pK:Stmt:=top 39
abbrev ko:Stmt:=top 40
abbrev nI:Stmt:=top 41
abbrev ku:Stmt:=top 42
abbrev kq:Stmt:=top 43
abbrev kx:Stmt:=top 44
abbrev jD:Stmt:=(mG (top 4)).getD 0 (.Pass ⟨0,0,0,0⟩)
abbrev jE:Stmt:=(mG (top 5)).getD 0 (.Pass ⟨0,0,0,0⟩)
abbrev jC:Stmt:=(mG (top 6)).getD 0 (.Pass ⟨0,0,0,0⟩)
abbrev jF:Stmt:=(mG (top 7)).getD 0 (.Pass ⟨0,0,0,0⟩)
def dX:rS "times" jF:=⟨yr,⟨_,_,_,_,rfl,λ _=>rfl⟩,λ _ _ _ _ _ _ _ _=>wH λ _ _=>rfl⟩
def T7:rS "pair" jE:=⟨yr,⟨_,_,_,_,rfl,λ _=>rfl⟩,λ _ _ _ _ _ _ _ _=>wH λ _ _=>rfl⟩
def T6:rS "place" jD:=⟨yr,⟨_,_,_,_,rfl,λ _=>rfl⟩,λ _ _ _ _ _ _ _ _=>wH λ _ _=>rfl⟩
def T5:rS "way" jC:=⟨yr,⟨_,_,_,_,rfl,λ _=>rfl⟩,λ _ _ _ _ _ _ _ _=>wH λ _ _=>rfl⟩
def Y9:yd ["thing"] ["thing"] (zB kz):=yr
def Y4:yd ["floor"] ["floor"] (zB ke):=yr
def nE:yd ["floor","pair","way","coins","first","second"] ["floor","pair","way"] (zB kb):=yr
def nG:yd ["brims","stall","pair","times","purse","left","got"] ["brims","stall","pair","times"] (zB kF):=yr
def l_:yd ["_law_script","_law_k","_law_cell"] ["_law_script","_law_k"] (zB km):=yr
def nF:yd ["_law_cell","_law_owners","_law_found","_law_place"] ["_law_cell","_law_owners"] (zB ki):=yr
def Y6:yd ["_law_number","_law_brims"] ["_law_number","_law_brims"] (zB kl):=yr
def lZ:yd ["_law_floor_here","_law_pair_here","_law_way","_law_first","_law_second"] ["_law_floor_here","_law_pair_here","_law_way"] (zB kh):=yr
def pH:yd ["_law_floor_here","_law_place","_law_pair_here","_law_times","_law_held","_law_stalls_here","_law_k","_law_purse"] ["_law_floor_here","_law_place","_law_pair_here","_law_times"] (zB nJ):=yr
def pG:yd ["_law_caught","_law_some"] ["_law_caught"] (zB nH):=yr
def Y7:yd ["_law_one","_law_other"] ["_law_one","_law_other"] (zB ko):=yr
def Y8:yd ["thing","least","most"] ["thing","least","most"] (zB ky):=yr
def YC:yd ["thing"] ["thing"] (zB kB):=yr
def sP:yd ["_law_script","_law_at","_law_many","_law_more","_law_span","_law_found","_law_k","_law_number","_law_start","_law_coins"] ["_law_script","_law_at","_law_many","_law_more","_law_span"] (zB kg):=yr
def fG:yd ["_law_script","_law_at","_law_digits","_law_mixed_here"] ["_law_script","_law_at","_law_digits"] (zB kj):=yr
def sR:yd ["_law_floor_here","_law_place","_law_pair_here","_law_number","_law_wild","_law_some","_law_way","_law_times"] ["_law_floor_here","_law_place","_law_pair_here","_law_number","_law_wild"] (zB nI):=yr
def ka:yd ["_law_floor_here","_law_place","_law_pair_here","_law_deed_here","_law_times","_law_way"] ["_law_floor_here","_law_place","_law_pair_here","_law_deed_here"] (zB ku):=yr
def YB:yd ["thing","bounds"] ["thing","bounds"] (zB nK):=yr
def YF:yd ["floor","place"] ["floor","place"] (zB kD):=yr
def YA:yd ["floor","thing"] ["floor","thing"] (zB kA):=yr
def sQ:yd ["_law_script","_law_at","_law_many","_law_brims","_law_more","_law_number","_law_owners","_law_place","_law_span","_law_stalls_here"] ["_law_script","_law_at","_law_many","_law_brims","_law_more"] (zB kr):=yr
def tN:yd ["_law_script","_law_floor_here","_law_place","_law_pair_here","_law_wild","_law_deeds","_law_due","_law_k","_law_deed_here","_law_fault_here"] ["_law_script","_law_floor_here","_law_place","_law_pair_here","_law_wild"] (zB kq):=yr
def YG:yd ["floor","pair"] ["floor","pair"] (zB kE):=yr
def fE:yd ["floor","place","stall"] ["floor","place"] (zB kc):=yr
def YE:yd ["floor","place","way"] ["floor","place","way"] (zB kC):=yr
def fH:yd ["floor","place","pair","times","stall"] ["floor","place","pair","times"] (zB kG):=yr
def fF:yd ["floor","place","pair","times","ready"] ["floor","place","pair","times"] (zB kf):=yr
def pJ:yd ["floor","place","pair","deed","times","way","ready","behind"] ["floor","place","pair","deed"] (zB kH):=yr
def Y5:yd ["_law_found","_law_due"] ["_law_found","_law_due"] (zB pK):=yr
def pF:yd ["floor","place","pair","deeds","told","stand","deed"] ["floor","place","pair","deeds"] (zB kd):=yr
def we:yd ["_law_script","_law_number","_law_many","_law_floor_here","_law_mixed_here","_law_place","_law_pair_here","_law_deeds","_law_due","_law_fault_here","_law_handed","_law_found","_law_caught","e"] ["_law_script"] (zB kx):=yr
section
variable (P:Program)(w:World)(K:Aa)(mg:Str->Option Value)(base:Heap)
abbrev i_:=FD P w K mg base "is_whole" 1 ["thing"] (zO zK oO)
abbrev aw:=FD P w K mg base "places_of" 1 ["floor"] (zO zK lj)
abbrev ar:=FD P w K mg base "step_by" 1 ["floor","pair","way"] (zO zK lg)
abbrev aO:=FD P w K mg base "change_by" 1 ["brims","stall","pair","times"] (zO zK pj)
abbrev pk:=FD P w K mg base "_law_mixed" 1 ["_law_script","_law_k"] (zO zK vM)
abbrev aA:=FD P w K mg base "_law_stalls" 1 ["_law_cell","_law_owners"] (zO zK lq)
abbrev aC:=FD P w K mg base "_law_pair" 1 ["_law_number","_law_brims"] (zO zK lr)
abbrev az:=FD P w K mg base "_law_step" 1 ["_law_floor_here","_law_pair_here","_law_way"] (zO zK sE)
abbrev l9:=FD P w K mg base "_law_changed" 1 ["_law_floor_here","_law_place","_law_pair_here","_law_times"] (zO zK yQ)
abbrev aE:=FD P w K mg base "_law_kinds" 1 ["_law_caught"] (zO zK q_)
abbrev aD:=FD P w K mg base "_law_like" 1 ["_law_one","_law_other"] (zO zK qZ)
abbrev lA:=FD P w K mg base "is_whole_within" 2 ["thing","least","most"] (zO zK rY)
abbrev aL:=FD P w K mg base "is_from_nought_on" 2 ["thing"] (zO zK lx)
abbrev ay:=FD P w K mg base "_law_ways" 2 ["_law_script","_law_at","_law_many","_law_more","_law_span"] (zO zK ll)
abbrev aB:=FD P w K mg base "_law_stall_cell" 2 ["_law_script","_law_at","_law_digits"] (zO zK iW)
abbrev aI:=FD P w K mg base "_law_deed" 2 ["_law_floor_here","_law_place","_law_pair_here","_law_number","_law_wild"] (zO zK rX)
abbrev aH:=FD P w K mg base "_law_fault" 2 ["_law_floor_here","_law_place","_law_pair_here","_law_deed_here"] (zO zK xR)
abbrev aK:=FD P w K mg base "is_row_within" 3 ["thing","bounds"] (zO zK oP)
abbrev hJ:=wJ P w K mg base "check_place" 3 ["floor","place"] (zO zK oQ)
abbrev aJ:=FD P w K mg base "is_way" 3 ["floor","thing"] (zO zK lu)
abbrev aG:=FD P w K mg base "_law_floor" 3 ["_law_script","_law_at","_law_many","_law_brims","_law_more"] (zO zK ph)
abbrev aF:=FD P w K mg base "_law_gone" 3 ["_law_script","_law_floor_here","_law_place","_law_pair_here","_law_wild"] (zO zK rW)
abbrev aN:=wJ P w K mg base "check_pair" 4 ["floor","pair"] (zO zK ly)
abbrev au:=FD P w K mg base "stall_at" 4 ["floor","place"] (zO vq lh)
abbrev aM:=wJ P w K mg base "check_way_from" 4 ["floor","place","way"] (zO zK vN)
abbrev aP:=FD P w K mg base "change_at" 5 ["floor","place","pair","times"] (zO zK vw)
abbrev ax:=wJ P w K mg base "made_ready" 6 ["floor","place","pair","times"] (zO vq sD)
abbrev aQ:=wJ P w K mg base "behind_deed" 7 ["floor","place","pair","deed"] (zO zK xH)
abbrev l7 (n:Nat):=FD P w K mg base "_law_same" (n+1) ["_law_found","_law_due"] (zO zK (yV n))
abbrev Q4:=l7 P w K mg base 6
abbrev av:=wJ P w K mg base "run" 8 ["floor","place","pair","deeds"] (zO zK uO)
variable {K mg}(T:Bt mg)(U:Bq mg)
include T U
theorem Ui (F:Fy K mg "is_whole" kz):i_ P w K mg base:=
 y_ (k:=0) F Y9 rfl (λ _ _ _ _ _ _=>mL λ _=>rfl) λ f Ac A outer s H E hr=>⟨_,
  (zJ (zR (uu (rh T (za 0)) (tU (Wu (tV T (za 0))))))),
  (by unfold gj;exact y9)⟩
theorem VL (F:Fy K mg "places_of" ke):aw P w K mg base:=
 y_ (k:=0) F Y4 rfl (λ _ _ _ _ _ _=>mL λ _=>rfl) λ f Ac A outer s H E hr=>⟨_,
  (zJ (zR (wD T.len (zf (zv (za 0) zh) zq)))),
  (by unfold gc;exact y9)⟩
theorem VE (F:Fy K mg "step_by" kb):ar P w K mg base:=
 y_ (k:=0) F nE rfl (λ _ _ _ _ _ _=>o9 λ _ _ _=>rfl) λ f Ac A outer s H E hr=>⟨_,
  (zy (zM 3 nE.nd (Ws (zv (zv (za 0) zh) (za 2)) (Wh zh) Wi))
  (zy (zM 4 nE.nd (yY (zv (za 1) zh) (zv (za 3) zh)))
  (zy (zM 5 nE.nd (yY (zv (za 1) zh) (zv (za 3) zh)))
  (zy (yv (yS.pt (wC (vR hr (za 4) zh) (v8 (vR hr (za 5) zh)))) (zJ (zR yE)) yu)
  (zJ (zR (yX (zf (rf T.min (zf (za 4) (zf (zv (zv (za 0) zh) zh) zq))) (zf (rf T.min (zf (za 5) (zf (zv (zv (za 0) zh) zh) zq))) zq))))))))),
  (by unfold hZ;exact y9)⟩
theorem Uy (F:Fy K mg "change_by" kF):aO P w K mg base:=
 y_ (k:=0) F nG rfl (λ _ _ _ _ _ _=>rH λ _ _ _ _=>rfl) λ f Ac A outer s H E hr=>⟨_,
  (zy (zM 4 nG.nd (zv (za 1) zh))
  (zy (zM 5 nG.nd (wQ (zv (za 2) (za 4)) (vS (za 3) (zv (za 1) zh))))
  (zy (yv (vR hr (za 5) zh) (zJ (zR yE)) yu)
  (zy (zM 6 nG.nd (rf T.min (zf (yY (zv (za 2) (wQ zh (za 4))) (vS (za 3) (zv (za 1) zh))) (zf (zv (za 0) (wQ zh (za 4))) zq))))
  (zy (yv (wO hr (za 4) zh) (zJ (zR (yX (zf (za 5) (zf (za 6) zq))))) yu)
  (zJ (zR (yX (zf (za 6) (zf (za 5) zq)))))))))),
  (by unfold lH;exact y9)⟩
theorem VY (F:Fy K mg "_law_mixed" km):pk P w K mg base:=
 y_ (k:=0) F l_ rfl (λ _ _ _ _ _ _=>wH λ _ _=>rfl) λ f Ac A outer s H E hr=>⟨_,
  (zy (zM 2 l_.nd zh)
  (zy (yv (vR hr (za 1) (wD T.len (zf (za 0) zq))) (zJ (zM 2 l_.nd (y7 (zv (za 0) (za 1)) (je zh zh)))) yu)
  (zJ (zR (yO (y7 (yY (yY (vS (za 2) zh) (vS (vS zh (za 1)) (za 1))) (vS zh (za 1))) zh) zh))))),
  (by unfold aU;exact y9)⟩
theorem VV (F:Fy K mg "_law_stalls" ki):aA P w K mg base:=
 y_ (k:=0) F nF rfl (λ _ _ _ _ _ _=>wH λ _ _=>rfl) λ f Ac A outer s H E hr=>⟨_,
  (zy (zM 2 nF.nd (xj zq))
  (zy (qu zaL rfl (sZ T.range (zf (wD T.len (zf (za 1) zq)) zq)) (xK 3 nF.nd) (zy (yv (yS.pt (qt (wO hr (zv (za 1) (za 3)) qv) (qr (wO hr (y7 (za 0) zh) zh)))) (zJ (tS (rg (za 2) (yX (zf (za 3) (zf (y7 (yO (za 0) zh) zh) (zf (yY zh (y7 (yO (za 0) zh) zh)) (zf (y7 (yO (za 0) zh) zh) zq)))))))) yu)
  (zJ (zM 0 nF.nd (yO (za 0) zh)))))
  (zJ (zR (jd T.tuple (zf (za 2) zq)))))),
  (by unfold gg o8;exact y9)⟩
theorem VX (F:Fy K mg "_law_pair" kl):aC P w K mg base:=
 y_ (k:=0) F Y6 rfl (λ _ _ _ _ _ _=>wH λ _ _=>rfl) λ f Ac A outer s H E hr=>⟨_,
  (zJ (zR (yX (zf (y7 (za 0) (yY (zv (za 1) zh) zh)) (zf (y7 (yO (za 0) zh) (yY (zv (za 1) zh) zh)) zq))))),
  (by unfold gh;exact y9)⟩
theorem VU (F:Fy K mg "_law_step" kh):az P w K mg base:=
 y_ (k:=0) F lZ rfl (λ _ _ _ _ _ _=>o9 λ _ _ _=>rfl) λ f Ac A outer s H E hr=>⟨_,
  (zy (zM 3 lZ.nd (yY (zv (za 1) zh) (zv (zv (zv (za 0) zh) (za 2)) zh)))
  (zy (zM 4 lZ.nd (yY (zv (za 1) zh) (zv (zv (zv (za 0) zh) (za 2)) zh)))
  (zy (yv (yS.pt (wC (vR hr (za 3) zh) (v8 (vR hr (za 4) zh)))) (zJ (zR yE)) yu)
  (zJ (zR (yX (zf (rf T.min (zf (za 3) (zf (zv (zv (za 0) zh) zh) zq))) (zf (rf T.min (zf (za 4) (zf (zv (zv (za 0) zh) zh) zq))) zq)))))))),
  (by unfold gf;exact y9)⟩
theorem Ue (F:Fy K mg "_law_changed" nJ):l9 P w K mg base:=
 y_ (k:=0) F pH rfl (λ _ _ _ _ _ _=>rH λ _ _ _ _=>rfl) λ f Ac A outer s H E hr=>⟨_,
  (zy (zM 4 pH.nd (eN T.list (zf (za 2) zq)))
  (zy (eJ (i:=5) (N':=["_law_stall","_law_place"]) (pick:=[none,some 1]) (o6 (N:=["_law_floor_here","_law_place","_law_pair_here","_law_times","_law_held","_law_stalls_here","_law_k","_law_purse"]) (esc:=zB nJ)) rfl (k_ (zv (za 0) zh)) (λ _ _ _ _ _=>(xK 0 (qz ["_law_stall","_law_place"]))) (λ _ _ _ _ _=>jc (wO hr (zv (za 0) zh) (za 1))) (λ _ _ _ _ _=>(za 0)) pH.nd rfl (by first | exact Or.inl rfl | exact Or.inr rfl))
  (zy (qu zaL rfl (sZ T.range (zf (rf T.min (zf (za 3) (zf zh zq))) zq)) (xK 6 pH.nd) (zy (yv (yS.pt (wC (wO hr (za 5) (xj zq)) (v8 (vR hr (zv (za 4) (zv (zv (za 5) zh) zh)) (zv (zv (za 5) zh) zh))))) (zJ (zR yE)) yu)
  (zy (zM 7 pH.nd (zv (zv (za 5) zh) zh))
  (zy (kZ (za 4) (za 7) (wQ (zv (za 4) (za 7)) (zv (zv (za 5) zh) zh)))
  (zJ (kZ (za 4) (wQ zh (za 7)) (rf T.min (zf (yY (zv (za 4) (wQ zh (za 7))) (zv (zv (za 5) zh) zh)) (zf (zv (zv (za 0) zh) (wQ zh (za 7))) zq)))))))))
  (zJ (zR (yX (zf (zv (za 4) zh) (zf (zv (za 4) zh) zq)))))))),
  (by unfold uQ xc vI;exact y9)⟩
theorem V_ (F:Fy K mg "_law_kinds" nH) (o_NoChange:Og K mg "NoChange") (o_NoCount:Og K mg "NoCount") (o_NoFloor:Og K mg "NoFloor") (o_NoMore:Og K mg "NoMore") (o_NoName:Og K mg "NoName") (o_NoPair:Og K mg "NoPair") (o_NoPlace:Og K mg "NoPlace") (o_NoRow:Og K mg "NoRow") (o_NoWay:Og K mg "NoWay") (o_PurseError:Og K mg "PurseError") (hVE:mg "ValueError"=none):aE P w K mg base:=
 y_ (k:=0) F pG rfl (λ _ _ _ _ _ _=>mL λ _=>rfl) λ f Ac A outer s H E hr=>⟨_,
  (zy (zM 1 pG.nd (xj (zf (ur o_NoFloor T (za 0)) (zf (ur o_NoMore T (za 0)) (zf (ur o_NoPlace T (za 0)) zq)))))
  (zy (zM 1 pG.nd (yY (za 1) (xj (zf (ur o_NoPair T (za 0)) (zf (ur o_NoWay T (za 0)) (zf (ur o_NoChange T (za 0)) zq))))))
  (zy (zM 1 pG.nd (yY (za 1) (xj (zf (ur o_NoCount T (za 0)) (zf (ur o_NoName T (za 0)) (zf (ur o_NoRow T (za 0)) zq))))))
  (zy (zM 1 pG.nd (yY (za 1) (xj (zf (ur o_PurseError T (za 0)) (zf (nX hVE T (za 0)) zq)))))
  (zJ (zR (jf (N':=["_law_k","_law_some"]) (pick:=[none,some 1]) (o6 (N:=["_law_caught","_law_some"]) (esc:=zB nH)) rfl (sZ T.range (zf zh zq)) (λ _ _ _ _ _=>(xK 0 (qz ["_law_k","_law_some"]))) (λ _ _ _ _ _=>jc (xU (zv (za 1) (za 0)))) (λ _ _ _ _ _=>(za 0))))))))),
  (by unfold lC uD;exact y9)⟩
theorem VZ (F:Fy K mg "_law_like" ko):aD P w K mg base:=
 y_ (k:=0) F Y7 rfl (λ _ _ _ _ _ _=>wH λ _ _=>rfl) λ f Ac A outer s H E hr=>⟨_,
  (zy (yv (yS.pt (wC (uV hr (tV T (za 0)) (tV T (za 1))) (v8 (uV hr (rh T (za 0)) (rh T (za 1)))))) (zJ (zR rj)) yu)
  (zJ (zR (uW hr (za 0) (za 1))))),
  (by unfold gi;exact y9)⟩
theorem Uh (F:Fy K mg "is_whole_within" ky) (G_is_whole:i_ P w K mg base):lA P w K mg base:=
 y_ (k:=1) F Y8 rfl (λ _ _ _ _ _ _=>o9 λ _ _ _=>rfl) λ f Ac A outer s H E hr=>⟨_,
  (zJ (zR (uu (yi G_is_whole hr (zf (za 0) zq)) (tU (Wz eX eX fit_le fit_le yR.mo yR.mo (za 1) (za 0) (za 2)))))),
  (by unfold lF;exact y9)⟩
theorem Ul (F:Fy K mg "is_from_nought_on" kB) (G_is_whole:i_ P w K mg base):aL P w K mg base:=
 y_ (k:=1) F YC rfl (λ _ _ _ _ _ _=>mL λ _=>rfl) λ f Ac A outer s H E hr=>⟨_,
  (zJ (zR (uu (yi G_is_whole hr (zf (za 0) zq)) (tU (Wy (za 0) zh))))),
  (by unfold gm;exact y9)⟩
theorem VT (F:Fy K mg "_law_ways" kg) (G_law_mixed:pk P w K mg base):ay P w K mg base:=
 y_ (k:=1) F sP rfl (λ _ _ _ _ _ _=>mK λ _ _ _ _ _=>rfl) λ f Ac A outer s H E hr=>⟨_,
  (zy (zM 5 sP.nd (xj zq))
  (zy (qu zaL rfl (sZ T.range (zf (yY (za 2) (za 3)) zq)) (xK 6 sP.nd) (zy (zM 7 sP.nd (yi G_law_mixed hr (zf (za 0) (zf (yY (za 1) (za 6)) zq))))
  (zy (zM 8 sP.nd (y7 (za 7) (za 2)))
  (zy (yv (vR hr (za 6) (za 2)) (zJ (zM 8 sP.nd (za 6))) yu)
  (zy (zM 9 sP.nd (xj (zf (wQ (y7 (yO (za 7) zh) (yY (vS zh (za 4)) zh)) (za 4)) (zf (wQ (y7 (yO (za 7) zh) (yY (vS zh (za 4)) zh)) (za 4)) zq))))
  (zy (yv (wO hr (y7 (yO (za 7) zh) zh) zh) (zJ (kZ (za 9) (y7 (yO (za 7) zh) zh) zh)) yu)
  (zJ (tS (rg (za 5) (yX (zf (za 8) (zf (y7 (yO (za 7) zh) (za 2)) (zf (zv (za 9) zh) (zf (zv (za 9) zh) zq))))))))))))))
  (zJ (zR (jd T.tuple (zf (Wr hr T.sorted U.set (zf (za 5) zq)) zq)))))),
  (by unfold gd qR;exact y9)⟩
theorem VW (F:Fy K mg "_law_stall_cell" kj) (G_law_mixed:pk P w K mg base):aB P w K mg base:=
 y_ (k:=1) F fG rfl (λ _ _ _ _ _ _=>o9 λ _ _ _=>rfl) λ f Ac A outer s H E hr=>⟨_,
  (zy (yv (yS.pt (qt (xU (za 2)) (qr (vR hr (za 1) (wD T.len (zf (za 0) zq)))))) (zJ (zR (y7 (zv (za 0) (za 1)) (je zh zh)))) yu)
  (zy (zM 3 fG.nd (yi G_law_mixed hr (zf (za 0) (zf (za 1) zq))))
  (zJ (zR (yY (vS (vS (za 3) (za 3)) (za 3)) (vS zh (za 3))))))),
  (by unfold aR;exact y9)⟩
theorem Ud (F:Fy K mg "_law_deed" nI) (G_law_changed:l9 P w K mg base):aI P w K mg base:=
 y_ (k:=1) F sR rfl (λ _ _ _ _ _ _=>mK λ _ _ _ _ _=>rfl) λ f Ac A outer s H E hr=>⟨_,
  (zy (eJ (i:=5) (N':=["_law_k","_law_floor_here","_law_place"]) (pick:=[none,some 0,some 1]) (o6 (N:=["_law_floor_here","_law_place","_law_pair_here","_law_number","_law_wild","_law_some","_law_way","_law_times"]) (esc:=zB nI)) rfl (sZ T.range (zf (wD T.len (zf (zv (za 0) zh) zq)) zq)) (λ _ _ _ _ _=>(xK 0 (qz ["_law_k","_law_floor_here","_law_place"]))) (λ _ _ _ _ _=>jc (wO hr (zv (zv (zv (za 1) zh) (za 0)) zh) (za 2))) (λ _ _ _ _ _=>(za 0)) sR.nd rfl (by first | exact Or.inl rfl | exact Or.inr rfl))
  (zy (zM 6 sR.nd (zv (za 5) (y7 (za 3) (wD T.len (zf (za 5) zq)))))
  (zy (zM 7 sR.nd zh)
  (zy (yv (yS.pt (qt (wO hr (y7 (yO (za 3) zh) zh) zh) (qr (kY (yi G_law_changed hr (zf (za 0) (zf (za 1) (zf (za 2) (zf zh zq))))) yE)))) (zJ (zM 7 sR.nd (yY zh (Wx T.int (zf (uu (uW hr (y7 (yO (za 3) zh) zh) zh) (tU (Wv (yi G_law_changed hr (zf (za 0) (zf (za 1) (zf (za 2) (zf zh zq))))) yE))) zq))))) yu)
  (zy (yv (yS.pt (qt (xU (za 4)) (qr (eI hr (y7 (yO (za 3) zh) zh) (xj (zf zh (zf zh zq))))))) (zJ (zM 6 sR.nd (zv (xj (zf (y7 (yO (za 3) zh) (wD T.len (zf (zv (za 0) zh) zq))) (zf (wD T.len (zf (zv (za 0) zh) zq)) (zf (wQ zh zh) (zf yE (zf rj (zf qv zq))))))) (y7 (yO (za 3) zh) zh)))) yu)
  (zy (yv (yS.pt (qt (xU (za 4)) (qr (eI hr (y7 (yO (za 3) zh) zh) (xj (zf zh (zf zh zq))))))) (zJ (zM 7 sR.nd (zv (xj (zf zh (zf zh (zf zh (zf (wQ zh zh) (zf yE (zf rj (zf qv (zf (je zh zh) zq))))))))) (y7 (yO (za 3) zh) zh)))) yu)
  (zJ (zR (yX (zf (za 7) (zf (za 6) zq))))))))))),
  (by unfold lE qQ;exact y9)⟩
theorem Uc (F:Fy K mg "_law_fault" ku) (G_law_changed:l9 P w K mg base):aH P w K mg base:=
 y_ (k:=1) F ka rfl (λ _ _ _ _ _ _=>rH λ _ _ _ _=>rfl) λ f Ac A outer s H E hr=>⟨_,
  (zy (eK (za 3) (jb (n:=2) (s_ (xK 4 ka.nd) (s_ (xK 5 ka.nd) ja))))
  (zy (yv (yS.pt (wC (sX (xU (rh T (za 5)))) (wC (xU (tV T (za 5))) (wC (vR hr (za 5) zh) (v8 (Wd (za 5) (wD T.len (zf (zv (za 0) zh) zq)))))))) (zJ (zR zh)) yu)
  (zy (yv (uV hr (zv (zv (zv (za 0) zh) (za 5)) zh) (za 1)) (zJ (zR zh)) yu)
  (zy (yv (yS.pt (wC (sX (xU (rh T (za 4)))) (wC (xU (tV T (za 4))) (v8 (vR hr (za 4) zh))))) (zJ (zR zh)) yu)
  (zy (yv (yS.pt (wC (sY (yi G_law_changed hr (zf (za 0) (zf (za 1) (zf (za 2) (zf (za 4) zq))))) yE) (v8 (yS.pt (qt (Wc (za 4) zh) (qr (wO hr (zv (zv (za 0) zh) (za 1)) qv))))))) (zJ (zR zh)) yu)
  (zJ (zR yE))))))),
  (by unfold qb;exact y9)⟩
theorem Uk (F:Fy K mg "is_row_within" nK) (G_is_whole_within:lA P w K mg base):aK P w K mg base:=
 y_ (k:=2) F YB rfl (λ _ _ _ _ _ _=>wH λ _ _=>rfl) λ f Ac A outer s H E hr=>⟨_,
  (zy (yv (yS.pt (wC (sX (xU (nW T (za 0)))) (v8 (uV hr (wD T.len (zf (za 0) zq)) (wD T.len (zf (za 1) zq)))))) (zJ (zR rj)) yu)
  (zJ (zR (eR T.all (zf (jf (N':=["number","bound"]) (pick:=[none,none]) (o6 (N:=["thing","bounds"]) (esc:=zB nK)) rfl (Wj U.zip (zf (za 0) (zf (za 1) zq))) (λ _ _ _ _ _=>(jb (n:=2) (s_ (xK 0 (qz ["number","bound"])) (s_ (xK 1 (qz ["number","bound"])) ja)))) (λ _ _ _ _ _=>eL) (λ _ _ _ _ _=>(yi G_is_whole_within hr (zf (za 0) (zf (zv (za 1) zh) (zf (zv (za 1) zh) zq)))))) zq))))),
  (by unfold lG mH;exact y9)⟩
theorem Uw (F:Fy K mg "check_place" kD) (i_NoPlace:rT K mg "NoPlace" "place" jD) (G_is_whole_within:lA P w K mg base) (G_places_of:aw P w K mg base):hJ P w K mg base:=
 qM (k:=2) F YF rfl (λ _ _ _ _ _ _=>wH λ _ _=>rfl) λ f Ac A outer s H E hr=>⟨_,
  (wB (sW (sX (xU (yi G_is_whole_within hr (zf (za 1) (zf zh (zf (wQ (yi G_places_of hr (zf (za 0) zq)) zh) zq)))))) (wB (pT i_NoPlace T6 hr (za 1))) sV)),
  (by unfold gn;exact y9)⟩
theorem Uj (F:Fy K mg "is_way" kA) (G_is_whole_within:lA P w K mg base):aJ P w K mg base:=
 y_ (k:=2) F YA rfl (λ _ _ _ _ _ _=>wH λ _ _=>rfl) λ f Ac A outer s H E hr=>⟨_,
  (zJ (zR (yi G_is_whole_within hr (zf (za 1) (zf zh (zf (wQ (wD T.len (zf (zv (za 0) zh) zq)) zh) zq)))))),
  (by unfold gk;exact y9)⟩
theorem Ub (F:Fy K mg "_law_floor" kr) (G_law_mixed:pk P w K mg base) (G_law_stalls:aA P w K mg base) (G_law_ways:ay P w K mg base) (G_law_stall_cell:aB P w K mg base):aG P w K mg base:=
 y_ (k:=2) F sQ rfl (λ _ _ _ _ _ _=>mK λ _ _ _ _ _=>rfl) λ f Ac A outer s H E hr=>⟨_,
  (zy (zM 5 sQ.nd (yi G_law_mixed hr (zf (za 0) (zf (za 1) zq))))
  (zy (zM 6 sQ.nd (xj zq))
  (zy (qu zaL rfl (sZ T.range (zf (za 2) zq)) (xK 7 sQ.nd) (zJ (tS (rg (za 6) (zv (xj (zf qv (zf qv zq))) (W2 (Wt (za 5) (za 7)) zh))))))
  (zy (zM 8 sQ.nd (zv (xj (zf zh (zf zh (zf zh (zf zh zq))))) (y7 (yO (za 5) zh) zh)))
  (zy (zM 9 sQ.nd (yX zq))
  (zy (yv (wO hr (y7 (yO (za 5) zh) zh) zh) (zJ (zM 9 sQ.nd (yi G_law_stalls hr (zf (yi G_law_stall_cell hr (zf (za 0) (zf (yY (za 1) zh) (zf (uW hr (y7 (yO (za 5) zh) zh) zh) zq)))) (zf (za 6) zq))))) yu)
  (zJ (zR (yX (zf (za 3) (zf (jd T.tuple (zf (za 6) zq)) (zf (yi G_law_ways hr (zf (za 0) (zf (yY (za 1) zh) (zf (za 2) (zf (za 4) (zf (za 8) zq)))))) (zf (za 9) zq))))))))))))),
  (by unfold lD qS;exact y9)⟩
theorem Ua (F:Fy K mg "_law_gone" kq) (G_law_deed:aI P w K mg base) (G_law_fault:aH P w K mg base) (G_law_step:az P w K mg base) (G_law_mixed:pk P w K mg base) (G_law_changed:l9 P w K mg base):aF P w K mg base:=
 y_ (k:=2) F tN rfl (λ _ _ _ _ _ _=>mK λ _ _ _ _ _=>rfl) λ f Ac A outer s H E hr=>⟨_,
  (zy (zM 5 tN.nd (xj zq))
  (zy (zM 6 tN.nd (xj zq))
  (zy (qu zaL rfl (Wk T.range (zf zh (zf zh zq))) (xK 7 tN.nd) (zy (zM 8 tN.nd (yi G_law_deed hr (zf (za 1) (zf (za 2) (zf (za 3) (zf (yi G_law_mixed hr (zf (za 0) (zf (za 7) zq))) (zf (za 4) zq)))))))
  (zy (tS (rg (za 5) (za 8)))
  (zy (zM 9 tN.nd (yi G_law_fault hr (zf (za 1) (zf (za 2) (zf (za 3) (zf (za 8) zq))))))
  (zy (yv (kY (za 9) yE) (zJ (zR (yX (zf (za 5) (zf yE (zf (za 9) zq)))))) yu)
  (zy (zM 3 tN.nd (yi G_law_step hr (zf (za 1) (zf (yi G_law_changed hr (zf (za 1) (zf (za 2) (zf (za 3) (zf (zv (za 8) zh) zq))))) (zf (zv (za 8) zh) zq)))))
  (zy (yv (sY (za 3) yE) (zy (tS (rg (za 6) yE))
  (zJ (zR (yX (zf (yY (za 5) (xj (zf (yX (zf zh (zf (wQ zh zh) zq))) (zf (yX (zf yE (zf yE zq))) zq)))) (zf (za 6) (zf zh zq))))))) yu)
  (zy (zM 2 tN.nd (zv (zv (zv (za 1) zh) (zv (za 8) zh)) zh))
  (zJ (tS (rg (za 6) (yX (zf (za 2) (zf (za 3) zq))))))))))))))
  (zJ (zR (yX (zf (za 5) (zf (za 6) (zf zh zq))))))))),
  (by unfold oW xr;exact y9)⟩
theorem Ux (F:Fy K mg "check_pair" kE) (i_NoPair:rT K mg "NoPair" "pair" jE) (G_is_row_within:aK P w K mg base):aN P w K mg base:=
 qM (k:=3) F YG rfl (λ _ _ _ _ _ _=>wH λ _ _=>rfl) λ f Ac A outer s H E hr=>⟨_,
  (wB (sW (sX (xU (yi G_is_row_within hr (zf (za 1) (zf (yX (zf (yX (zf zh (zf (zv (zv (za 0) zh) zh) zq))) (zf (yX (zf zh (zf (zv (zv (za 0) zh) zh) zq))) zq))) zq))))) (wB (pT i_NoPair T7 hr (za 1))) sV)),
  (by unfold gp;exact y9)⟩
theorem VF (F:Fy K mg "stall_at" kc) (G_check_place:hJ P w K mg base):au P w K mg base:=
 y_ (k:=3) F fE rfl (λ _ _ _ _ _ _=>wH λ _ _=>rfl) λ f Ac A outer s H E hr=>⟨_,
  (zy (tS (yi (wJ.no G_check_place) hr (zf (za 0) (zf (za 1) zq))))
  (zy (qu zaL rfl (k_ (zv (za 0) zh)) (xK 2 fE.nd) (zJ (yv (wO hr (zv (za 2) zh) (za 1)) (zJ (zR (za 2))) yu)))
  (zJ (zR yE)))),
  (by unfold h_ rG;exact y9)⟩
theorem Uv (F:Fy K mg "check_way_from" kC) (i_NoWay:rT K mg "NoWay" "way" jC) (G_is_way:aJ P w K mg base):aM P w K mg base:=
 qM (k:=3) F YE rfl (λ _ _ _ _ _ _=>o9 λ _ _ _=>rfl) λ f Ac A outer s H E hr=>⟨_,
  (wB (sW (yS.pt (wC (sX (xU (yi G_is_way hr (zf (za 0) (zf (za 2) zq))))) (v8 (uV hr (zv (zv (zv (za 0) zh) (za 2)) zh) (za 1))))) (wB (pT i_NoWay T5 hr (za 2))) sV)),
  (by unfold qc;exact y9)⟩
theorem Uz (F:Fy K mg "change_at" kG) (G_stall_at:au P w K mg base) (G_change_by:aO P w K mg base):aP P w K mg base:=
 y_ (k:=4) F fH rfl (λ _ _ _ _ _ _=>rH λ _ _ _ _=>rfl) λ f Ac A outer s H E hr=>⟨_,
  (zy (yv (wO hr (za 3) zh) (zJ (zR (yX (zf (zv (za 2) zh) (zf (zv (za 2) zh) zq))))) yu)
  (zy (zM 4 fH.nd (yi G_stall_at hr (zf (za 0) (zf (za 1) zq))))
  (zy (yv (sY (za 4) yE) (zJ (zR yE)) yu)
  (zJ (zR (yi G_change_by hr (zf (zv (za 0) zh) (zf (za 4) (zf (za 2) (zf (za 3) zq)))))))))),
  (by unfold qd;exact y9)⟩
theorem VQ (F:Fy K mg "made_ready" kf) (i_NoChange:rT K mg "NoChange" "times" jF) (G_change_at:aP P w K mg base) (G_is_from_nought_on:aL P w K mg base):ax P w K mg base:=
 qM (k:=5) F fF rfl (λ _ _ _ _ _ _=>rH λ _ _ _ _=>rfl) λ f Ac A outer s H E hr=>⟨_,
  (wt (sW (sX (xU (yi G_is_from_nought_on hr (zf (za 3) zq)))) (wB (pT i_NoChange dX hr (za 3))) sV)
  (wt (tQ (zM 4 fF.nd (yi G_change_at hr (zf (za 0) (zf (za 1) (zf (za 2) (zf (za 3) zq)))))))
  (wt (sW (sY (za 4) yE) (wB (pT i_NoChange dX hr (za 3))) sV)
  (wB (nV (za 4)))))),
  (by unfold oV;exact y9)⟩
theorem U4 (F:Fy K mg "behind_deed" kH) (G_check_way_from:aM P w K mg base) (G_made_ready:ax P w K mg base) (G_step_by:ar P w K mg base):aQ P w K mg base:=
 qM (k:=6) F pJ rfl (λ _ _ _ _ _ _=>rH λ _ _ _ _=>rfl) λ f Ac A outer s H E hr=>⟨_,
  (wt (tQ (zM 4 pJ.nd (zv (za 3) zh)))
  (wt (tQ (zM 5 pJ.nd (zv (za 3) zh)))
  (wt (kW G_check_way_from hr (zf (za 0) (zf (za 1) (zf (za 5) zq))))
  (wt (kX (i:=6) G_made_ready pJ.nd hr (zf (za 0) (zf (za 1) (zf (za 2) (zf (za 4) zq)))))
  (wt (tQ (zM 7 pJ.nd (yi G_step_by hr (zf (za 0) (zf (za 6) (zf (za 5) zq))))))
  (wt (sW (sY (za 7) yE) (wB (nV yE)) sV)
  (wB (nV (yX (zf (zv (zv (zv (za 0) zh) (za 5)) zh) (zf (za 7) zq))))))))))),
  (by unfold qe;exact y9)⟩
theorem qy {n:Nat}(F:Fy K mg "_law_same" pK) (G_law_same:l7 P w K mg base n):l7 P w K mg base (n+1):=by
 have hh:n+1+1=n+1+1:=by lia
 show FD P w K mg base _ (n+1+1) _ _
 rw[hh]
 exact y_ (k:=n+1) F Y5 rfl (λ _ _ _ _ _ _=>wH λ _ _=>rfl) λ f Ac A outer s H E hr=>⟨_,
  (zy (yv (yS.pt (wC (xU (nW T (za 1))) (v8 (xU (jg T (za 1)))))) (zy (yv (yS.pt (wC (uV hr (nW T (za 0)) (nW T (za 1))) (v8 (uV hr (jg T (za 0)) (jg T (za 1)))))) (zJ (zR rj)) yu)
  (zJ (zR (uu (uW hr (wD T.len (zf (za 0) zq)) (wD T.len (zf (za 1) zq))) (tU (eR T.all (zf (jf (N':=["_law_k","_law_found","_law_due"]) (pick:=[none,some 0,some 1]) (o6 (N:=["_law_found","_law_due"]) (esc:=zB pK)) rfl (sZ T.range (zf (wD T.len (zf (za 1) zq)) zq)) (λ _ _ _ _ _=>(xK 0 (qz ["_law_k","_law_found","_law_due"]))) (λ _ _ _ _ _=>eL) (λ _ _ _ _ _=>(eQ G_law_same hr (zf (zv (za 1) (za 0)) (zf (zv (za 2) (za 0)) zq))))) zq))))))) yu)
  (zy (yv (sY (za 1) yE) (zJ (zR (nX (za 0) yE))) yu)
  (zy (yv (yS.pt (wC (xU (tV T (za 1))) (v8 (xU (rh T (za 1)))))) (zJ (zR (uu (rh T (za 0)) (uu (uW hr (tV T (za 0)) (tV T (za 1))) (tU (uW hr (za 0) (za 1))))))) yu)
  (zJ (zR (uu (Ww T (za 0)) (tU (uW hr (za 0) (za 1))))))))),
  (by unfold qa su;exact y9)⟩
theorem U7 (F:Fy K mg "_law_same" pK):l7 P w K mg base 0:=SR F (λ _ _ _ _ _ _=>wH λ _ _=>rfl)
theorem VI (F:Fy K mg "run" kd) (G_check_place:hJ P w K mg base) (G_check_pair:aN P w K mg base) (G_behind_deed:aQ P w K mg base):av P w K mg base:=
 qM (k:=7) F pF rfl (λ _ _ _ _ _ _=>rH λ _ _ _ _=>rfl) λ f Ac A outer s H E hr=>⟨_,
  (wt (kW G_check_place hr (zf (za 0) (zf (za 1) zq)))
  (wt (kW G_check_pair hr (zf (za 0) (zf (za 2) zq)))
  (wt (tQ (zM 4 pF.nd (xj zq)))
  (wt (tQ (zM 5 pF.nd (yX (zf (za 1) (zf (za 2) zq)))))
  (wt (Wb rfl (λ _=>(k_ (za 3))) (λ _=>(xK 6 pF.nd)) (wt (kX (i:=5) G_behind_deed pF.nd hr (zf (za 0) (zf (zv (za 5) zh) (zf (zv (za 5) zh) (zf (za 6) zq)))))
  (wt (tQ (tS (rg (za 4) (za 5))))
  (wB (sW (sY (za 5) yE) (wB (tQ Wg)) sV)))))
  (wB (nV (za 4)))))))),
  (by unfold lB xq;exact y9)⟩
theorem Ug {f:Addr}{fd:FuncData}(F:wI K "law" "law" kx f fd) (G_law_mixed:pk P w K mg base) (G_law_floor:aG P w K mg base) (G_law_pair:aC P w K mg base) (G_law_gone:aF P w K mg base) (G_law_like:aD P w K mg base) (G_run:av P w K mg base) (G_law_kinds:aE P w K mg base) (G_law_same:Q4 P w K mg base):xg P w K mg base xv 9 f fd ["_law_script"] (uS K (zO zK tF)):=
 cH (k:=8) F we rfl λ Ac A outer s H E hr=>⟨_,
  (zy (zM 1 we.nd (yi G_law_mixed hr (zf (za 0) (zf zh zq))))
  (zy (zM 2 we.nd (yY zh (y7 (za 1) zh)))
  (zy (zM 3 we.nd (yi G_law_floor hr (zf (za 0) (zf zh (zf (za 2) (zf (yX (zf (y7 (yO (za 1) zh) zh) (zf (y7 (yO (za 1) zh) zh) zq))) (zf (y7 (yO (za 1) zh) zh) zq)))))))
  (zy (zM 4 we.nd (yi G_law_mixed hr (zf (za 0) (zf zh zq))))
  (zy (zM 5 we.nd (y7 (za 4) (za 2)))
  (zy (zM 6 we.nd (yi G_law_pair hr (zf (yO (za 4) zh) (zf (zv (za 3) zh) zq))))
  (zy (yv (wO hr (y7 (yO (za 4) zh) zh) zh) (zJ (zM 6 we.nd (zv (za 3) zh))) yu)
  (zy (eK (yi G_law_gone hr (zf (za 0) (zf (za 3) (zf (za 5) (zf (za 6) (zf (uW hr (y7 (yO (za 1) zh) zh) zh) zq)))))) (jb (n:=3) (s_ (xK 7 we.nd) (s_ (xK 8 we.nd) (s_ (xK 9 we.nd) ja)))))
  (zy (zM 10 we.nd (eN T.list (zf (za 7) zq)))
  (zy (zM 11 we.nd yE)
  (zy (zM 12 we.nd yE)
  (zy (We 13 12 we.nd (wB (kX (i:=11) G_run we.nd hr (zf (za 3) (zf (za 5) (zf (za 6) (zf (za 10) zq)))))))
  (zy (yv (uV hr (za 10) (za 7)) (zJ (zR rj)) yu)
  (zy (yv (kY (za 8) yE) (zJ (zR (uu (nX (za 12) yE) (uu (yi G_law_same hr (zf (za 11) (zf (za 8) zq))) (tU (uW hr (yi (wJ.no G_run) hr (zf (za 3) (zf (za 5) (zf (za 6) (zf (xj zq) zq))))) (xj zq))))))) yu)
  (zy (yv (uV hr (yi G_law_kinds hr (zf (za 12) zq)) (xj (zf (za 9) (zf zh (zf zh zq))))) (zJ (zR rj)) yu)
  (zy (yv (wO hr (za 9) zh) (zJ (zR (yi G_law_like hr (zf (eP (za 12)) (zf (zv (zv (za 7) (eM zh)) zh) zq))))) yu)
  (zJ (zR (yi G_law_like hr (zf (eP (za 12)) (zf (zv (zv (za 7) (eM zh)) zh) zq))))))))))))))))))))),
  (by unfold oX;exact y9)⟩
end
def all_mk {l:PySem.W.OpenLaw}{w:World}{K:Aa}{h:Heap}{mg:Str->Option Value}{fa:Addr}(X:K.In h) (G:h.Ns mainGlobals mg) (D1:mg "law"=some (.ref fa))
  (h0:Fx K "is_whole" kz) (h1:Fx K "is_whole_within" ky) (h2:Fx K "is_from_nought_on" kB) (h3:Fx K "is_row_within" nK) (h4:Fx K "places_of" ke) (h5:Fx K "check_place" kD) (h6:Fx K "check_pair" kE) (h7:Fx K "stall_at" kc) (h8:Fx K "is_way" kA) (h9:Fx K "step_by" kb) (h10:Fx K "change_by" kF) (h11:Fx K "change_at" kG) (h12:Fx K "check_way_from" kC) (h13:Fx K "made_ready" kf) (h14:Fx K "behind_deed" kH) (h15:Fx K "run" kd) (h16:Fx K "_law_mixed" km) (h17:Fx K "_law_ways" kg) (h18:Fx K "_law_stalls" ki) (h19:Fx K "_law_stall_cell" kj) (h20:Fx K "_law_floor" kr) (h21:Fx K "_law_pair" kl) (h22:Fx K "_law_step" kh) (h23:Fx K "_law_changed" nJ) (h24:Fx K "_law_kinds" nH) (h25:Fx K "_law_same" pK) (h26:Fx K "_law_like" ko) (h27:Fx K "_law_deed" nI) (h28:Fx K "_law_fault" ku) (h29:Fx K "_law_gone" kq) (h30:Fx K "law" kx)
  (i_NoChange:Ei K "NoChange" "times" jF)
  (i_NoPair:Ei K "NoPair" "pair" jE)
  (i_NoPlace:Ei K "NoPlace" "place" jD)
  (i_NoWay:Ei K "NoWay" "way" jC)
  (o_NoChange:Ec K "NoChange")
  (o_NoCount:Ec K "NoCount")
  (o_NoFloor:Ec K "NoFloor")
  (o_NoMore:Ec K "NoMore")
  (o_NoName:Ec K "NoName")
  (o_NoPair:Ec K "NoPair")
  (o_NoPlace:Ec K "NoPlace")
  (o_NoRow:Ec K "NoRow")
  (o_NoWay:Ec K "NoWay")
  (hVE:PySem.W.nsIn K mainGlobals "ValueError"=some none)
  (y0:PySem.W.nsIn K mainGlobals "set"=some none) (y1:PySem.W.nsIn K mainGlobals "zip"=some none) (y2:PySem.W.nsIn K mainGlobals "enumerate"=some none)
  (z0:PySem.W.nsIn K mainGlobals "len"=some none) (z1:PySem.W.nsIn K mainGlobals "range"=some none) (z2:PySem.W.nsIn K mainGlobals "any"=some none) (z3:PySem.W.nsIn K mainGlobals "all"=some none) (z4:PySem.W.nsIn K mainGlobals "sorted"=some none) (z5:PySem.W.nsIn K mainGlobals "isinstance"=some none) (z6:PySem.W.nsIn K mainGlobals "bool"=some none) (z7:PySem.W.nsIn K mainGlobals "int"=some none) (z8:PySem.W.nsIn K mainGlobals "str"=some none) (z9:PySem.W.nsIn K mainGlobals "list"=some none) (z10:PySem.W.nsIn K mainGlobals "tuple"=some none) (z11:PySem.W.nsIn K mainGlobals "max"=some none) (z12:PySem.W.nsIn K mainGlobals "min"=some none):
  ∃ fd:FuncData,(∀ (s:Shared) (v:Value),BindsTo s fd ⟨[v],[]⟩ [("_law_script",v)])/\∀ base:Heap,K.In base->base.Ns mainGlobals mg->xg l.prog w K mg base xv 9 fa fd ["_law_script"] (uS K (zO zK tF)):=by
 have T:Bt mg:=⟨AZ X G z0,AZ X G z1,AZ X G z2,AZ X G z3,AZ X G z4,AZ X G z5,AZ X G z6,AZ X G z7,AZ X G z8,AZ X G z9,AZ X G z10,AZ X G z11,AZ X G z12⟩
 have U:Bq mg:=⟨AZ X G y0,AZ X G y1,AZ X G y2⟩
 replace i_NoChange:=i_NoChange.mk X G
 replace i_NoPair:=i_NoPair.mk X G
 replace i_NoPlace:=i_NoPlace.mk X G
 replace i_NoWay:=i_NoWay.mk X G
 have o_PurseError:=o_NoChange.par X G
 replace o_NoChange:=o_NoChange.mk X G
 replace o_NoCount:=o_NoCount.mk X G
 replace o_NoFloor:=o_NoFloor.mk X G
 replace o_NoMore:=o_NoMore.mk X G
 replace o_NoName:=o_NoName.mk X G
 replace o_NoPair:=o_NoPair.mk X G
 replace o_NoPlace:=o_NoPlace.mk X G
 replace o_NoRow:=o_NoRow.mk X G
 replace o_NoWay:=o_NoWay.mk X G
 replace hVE:=AZ X G hVE
 obtain⟨fd,Fl,hb⟩:=h30.law X G D1 λ _ _ _ _ _ _ _ _=>.of_eq rfl
 refine⟨fd,hb,λ base _ _=>?_⟩
 have G_is_whole:=Ui l.prog w base T U (h0.mk X G)
 have G_places_of:=VL l.prog w base T U (h4.mk X G)
 have G_step_by:=VE l.prog w base T U (h9.mk X G)
 have G_change_by:=Uy l.prog w base T U (h10.mk X G)
 have G_law_mixed:=VY l.prog w base T U (h16.mk X G)
 have G_law_stalls:=VV l.prog w base T U (h18.mk X G)
 have G_law_pair:=VX l.prog w base T U (h21.mk X G)
 have G_law_step:=VU l.prog w base T U (h22.mk X G)
 have G_law_changed:=Ue l.prog w base T U (h23.mk X G)
 have G_law_kinds:=V_ l.prog w base T U (h24.mk X G) o_NoChange o_NoCount o_NoFloor o_NoMore o_NoName o_NoPair o_NoPlace o_NoRow o_NoWay o_PurseError hVE
 have G_law_like:=VZ l.prog w base T U (h26.mk X G)
 have G_is_whole_within:=Uh l.prog w base T U (h1.mk X G) G_is_whole
 have G_is_from_nought_on:=Ul l.prog w base T U (h2.mk X G) G_is_whole
 have G_law_ways:=VT l.prog w base T U (h17.mk X G) G_law_mixed
 have G_law_stall_cell:=VW l.prog w base T U (h19.mk X G) G_law_mixed
 have G_law_deed:=Ud l.prog w base T U (h27.mk X G) G_law_changed
 have G_law_fault:=Uc l.prog w base T U (h28.mk X G) G_law_changed
 have G_is_row_within:=Uk l.prog w base T U (h3.mk X G) G_is_whole_within
 have G_check_place:=Uw l.prog w base T U (h5.mk X G) i_NoPlace G_is_whole_within G_places_of
 have G_is_way:=Uj l.prog w base T U (h8.mk X G) G_is_whole_within
 have G_law_floor:=Ub l.prog w base T U (h20.mk X G) G_law_mixed G_law_stalls G_law_ways G_law_stall_cell
 have G_law_gone:=Ua l.prog w base T U (h29.mk X G) G_law_deed G_law_fault G_law_step G_law_mixed G_law_changed
 have G_check_pair:=Ux l.prog w base T U (h6.mk X G) i_NoPair G_is_row_within
 have G_stall_at:=VF l.prog w base T U (h7.mk X G) G_check_place
 have G_check_way_from:=Uv l.prog w base T U (h12.mk X G) i_NoWay G_is_way
 have G_change_at:=Uz l.prog w base T U (h11.mk X G) G_stall_at G_change_by
 have G_made_ready:=VQ l.prog w base T U (h13.mk X G) i_NoChange G_change_at G_is_from_nought_on
 have G_behind_deed:=U4 l.prog w base T U (h14.mk X G) G_check_way_from G_made_ready G_step_by
 have G_law_same:=U7 l.prog w base T U (h25.mk X G)
 replace G_law_same:=qy l.prog w base T U (h25.mk X G) G_law_same
 replace G_law_same:=qy l.prog w base T U (h25.mk X G) G_law_same
 replace G_law_same:=qy l.prog w base T U (h25.mk X G) G_law_same
 replace G_law_same:=qy l.prog w base T U (h25.mk X G) G_law_same
 replace G_law_same:=qy l.prog w base T U (h25.mk X G) G_law_same
 replace G_law_same:=qy l.prog w base T U (h25.mk X G) G_law_same
 have G_run:=VI l.prog w base T U (h15.mk X G) G_check_place G_check_pair G_behind_deed
 exact Ug l.prog w base T U Fl G_law_mixed G_law_floor G_law_pair G_law_gone G_law_like G_run G_law_kinds G_law_same
def walk {l:PySem.W.OpenLaw}{q:Program}{loose:List Str}{XP:(Str->Option Value)->Heap->Prop}{YP:World->Heap->Prop}{d:DefRec}{K:Params->Aa}(hn:l.most=some 63) (CW:d.params.defaults=[])
  (hY:∀ (w:World) (h:Heap),YP w h->(K w.params).In h)
  (F:∀ (w:World) (mg:Str->Option Value) (fa:Addr) (h:Heap),(K w.params).In h->h.Ns mainGlobals mg->mg d.name=some (.ref fa)->
   ∃ fd:FuncData,(∀ (s:Shared) (u:Value),BindsTo s fd ⟨[u],[]⟩ [("_law_script",u)])/\∀ base:Heap,(K w.params).In base->base.Ns mainGlobals mg->xg l.prog w (K w.params) mg base xv 9 fa fd ["_law_script"] (uS (K w.params) (zO zK tF))):
  PySem.W.WalkO q loose XP YP l.row.toRowW d [] (λ f vs=>PySem.call f vs):=
 L2.Zu (n:=63) (k:=9) (x:="_law_script") (CX:=λ _=>xv) (sp:=λ w=>uS (K w.params) (zO zK tF)) hn (by decide) CW ⟨rfl,by decide,by decide⟩ hY F (λ _ _ a ns hl hO hS=>Tn Ti hO hS hl) λ _ _ _ _ _ z=>z
end yG
open PySem PySem.W PyProof.Rows
set_option maxHeartbeats 0 in
theorem PySem.Challenge.cw_purseborder_k23_runs_holds : PySem.Challenge.rw_purseborder_k23_runs.Holds := by
 w_on;o_law;k_head;(case hw=>w_witness2)
 k_fill
 refine yG.walk (l:=PySem.Challenge.rw_purseborder_k23_runs) rfl rfl (λ w h Y=>PySem.W.kIn_of Y) ?F
 case F=>
  intro w mg fa h KX G CM
  refine' yG.all_mk KX G CM ?_ ?_ ?_ ?_ ?_ ?_ ?_ ?_ ?_ ?_ ?_ ?_ ?_ ?_ ?_ ?_ ?_ ?_ ?_ ?_ ?_ ?_ ?_ ?_ ?_ ?_ ?_ ?_ ?_ ?_ ?_ ?_ ?_ ?_ ?_ ?_ ?_ ?_ ?_ ?_ ?_ ?_ ?_ ?_ ?_ ?_ ?_ ?_ ?_ ?_ ?_ ?_ ?_ ?_ ?_ ?_ ?_ ?_ ?_ ?_ ?_
  all_goals first | exact L3.Ei.i (by k_is) (by k_is) (by k_is) (by k_is) (by kernel_rfl) (by k_is) (by k_is) (by k_is) (by k_is) (by k_is) (by k_is) | exact L3.Ec.i (by k_is) (by k_is) (by k_is) (by k_is) (by kernel_rfl) | exact L5.Fx.i (by k_is) (by k_is) (by k_is) (by k_is) | k_is | exact L5.Cn.i (by k_is) (by exact⟨_,rfl⟩)
