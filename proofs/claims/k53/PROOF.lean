import PyProof.Rows.All
import Wide.All
import OpenK.AllK
import Wide.FinOn
import Lean
import PyProof.EqAt
import PyProof.EqKinds
import PyProof.TupleCall
import PySem.SetOps
import PyProof.SetScanFacts
import PyProof.TupleKey
import PyProof.SetKind
import PyProof.SetRoads
import PyProof.IsRules
import PyProof.ZipIter
import PyProof.TupleIter
import PyProof.ListMulRoad
import PyProof.FactsAll.tuple
import PyProof.ListRange
import PyProof.Draws
import PyProof.EnumFor
import PyProof.Rows.ListMul
import PyProof.AutoListH
import PyProof.ExcInit
import PyProof.ExcClass2
import PyProof.InstStore
import PyProof.InstStoreFacts
import PyProof.ExcArgsOwn
import PyProof.IsInstance
import PyProof.IsInstanceH
import PyProof.StationsW
import PyProof.Rows.CatchOwn
import PyProof.FactsAll.dict_1
import PyProof.Rows.Range3
import PyProof.FitsBits
import PySem.Challenge.RW_purseborder_k53_no_such_purse
set_option Elab.async false
set_option linter.all false
set_option maxRecDepth 100000
set_option genSizeOf false
noncomputable section
def za0:=@PySem.wpAny_bind
def za1:=@PySem.Heap.get?_push_of_some
def za2:=@PySem.wpAny_loadPart_at
def za3:=@PySem.wpAny_mono
def za4:=@decide_eq_false
def za5:=@PySem.wpAny_holding
def za6:=@PySem.Heap.get?_update_self
def za7:=@PySem.PassesOwn.never
def za8:=@PySem.Heap.get?_update_other
def za9:=@PySem.wpAny_setState_of
def zaA:=@PySem.wpAny_field
def zaB:=@PySem.wpAny_setField
def zaC:=@PySem.wpAny_isSubtype_exc
def zaD:=@decide_eq_true
def zaE:=@PySem.wpAny_newObj_type
def zaF:=@PySem.wpAny_call_entry
def zaG:=@PySem.wpAny_truthy_bool
def zaH:=@PySem.wpAny_execs_nil
def zaI:=@PySem.wpAny_passesOwn
def zaJ:=@PySem.wpAny_Call_Name_kw
def zaK:=@PySem.Heap.get?_update_ne
def zaL:=@PySem.wpAny_askSetting
def zaM:=@PySem.wpAny_callSpecial?_slot
def zaN:=@PySem.Heap.get?_none_of_le
def Ag:=@Option.bind_eq_some_iff
def Am:=@List.mem_cons_self
def Ao:=@List.mem_cons_of_mem
def AA:=@Option.map_eq_some_iff
def A9:=@List.lookup_cons
def A8:=@List.contains_cons
def Bo:=@Nat.lt_or_ge
def Bn:=@List.pairwise_cons
def BB:=@Nat.ne_of_gt
def BA:=@List.map_nil
def Bz:=@Nat.lt_succ_of_lt
def Bx:=@List.any_cons
def BE:=@Bool.false_ne_true
def BD:=@List.ext_getElem
def BS:=@List.replicate_succ
def Cc:=@List.nodup_cons
def Cb:=@List.flatten_cons
def Ca:=@List.pairwise_map
def B_:=@List.not_mem_nil
def Cz:=@List.filterMap_cons
def Cy:=@List.mem_append_left
def Cw:=@List.append_nil
def Cv:=@List.getElem?_append_right
def Cu:=@List.getElem?_append_left
def Ct:=@List.length_nil
def Cs:=@List.pairwise_iff_getElem
def Cr:=@Nat.le_succ
def Cq:=@List.mem_iff_getElem
def Cp:=@List.find?_cons
def Co:=@Array.getElem_toList
def Cm:=@Int.toNat_natCast
def Ck:=@List.mem_flatMap
def CO:=@List.mem_filterMap
def CN:=@List.length_set
def CM:=@Bool.and_false
def CL:=@List.getElem?_set
def CK:=@List.map_congr_left
def CJ:=@Array.getElem?_eq_none
def CI:=@Bool.or_true
def C2:=@Nat.lt_trans
def C1:=@Array.size_map
def C0:=@List.range_succ_eq_map
def CZ:=@Nat.mod_lt
def CY:=@List.toList_toArray
def Dy:=@Option.isSome_iff_exists
def Dx:=@List.getElem?_replicate
def Dw:=@Array.getD_eq_getD_getElem?
def Dv:=@Bool.and_self
def Du:=@Nat.mul_comm
def Dt:=@Nat.lt_trichotomy
def Ds:=@Array.getElem?_setIfInBounds
def Dr:=@List.foldl_cons
def Dq:=@List.mem_iff_getElem?
def Dp:=@List.map_take
def Dn:=@List.map_drop
def Dm:=@Nat.le_add_right
def Dl:=@List.length_filter_le
def DV:=@Array.append_assoc
def DU:=@List.getElem?_set_self
def DT:=@List.getElem?_set_ne
def DS:=@List.of_mem_zip
def DR:=@List.length_take
def DQ:=@List.getElem_range
def DP:=@Nat.eq_zero_or_pos
def DN:=@List.mem_erase_of_ne
def DM:=@List.length_erase_of_mem
def DL:=@List.length_pos_of_mem
def DJ:=@List.nodup_range
def DI:=@List.getElem?_cons_succ
def DH:=@List.take_append_drop
def DG:=@List.perm_ext_iff_of_nodup
def zbZ:=@Array.getElem?_setIfInBounds_ne
def zc0:=@Int.mul_le_mul_of_nonneg_right
def Av:=@List.size_toArray
def A5:=@List.getElem?_eq_getElem
def AD:=@List.getElem?_eq_some_iff
def Ax:=@List.getElem?_map
def Af:=@Nat.le_refl
def Ak:=@List.mem_cons
def Aq:=@List.map_cons
def Au:=@List.length_map
def Ai:=@PySem.Heap.lt_size
def AE:=@PySem.Heap.get?_push_size
def An:=@List.mem_map
def Bk:=@List.getD_eq_getElem?_getD
def CQ:=@Bool.not_false
def Ap:=@Nat.ne_of_lt
def AN:=@List.mem_append_right
def CP:=@Bool.not_true
def AM:=@List.mem_singleton
def Bb:=@List.mem_of_getElem?
def Ba:=@Array.getElem?_eq_getElem
def AU:=@List.mem_append
def AR:=@List.length_cons
def AO:=@List.mem_range
def A3:=@PySem.W.mg_none_of
def AV:=@Nat.lt_of_lt_of_le
def A7:=@Bool.false_eq_true
def Cg:=@List.length_range
def AK:=@Int.le_refl
def BU:=@Bool.eq_iff_iff
def A_:=@List.mem_filter
def BJ:=@Option.bind_some
def Bj:=@List.any_eq_true
def Ac:=@PySem.wpAny_pure
def Br:=@Array.length_toList
def BC:=@Array.getElem?_toList
def AI:=@Nat.zero_le
def A4:=@Option.some.inj
def AQ:=@List.map_map
def B2:=@List.length_append
def C3:=@List.getElem_mem
def Bp:=@Nat.le_trans
def Cf:=@Nat.lt_irrefl
def Ce:=@Nat.lt_succ_self
def BI:=@Nat.le_of_lt
def Cd:=@List.all_eq_true
def BZ:=@Bool.and_eq_true
def BH:=@List.map_append
def BG:=@Int.emod_nonneg
def BF:=@Int.emod_lt_of_pos
def Dz:=@Int.toNat_of_nonneg
abbrev Ab:=PySem.W.Frag
namespace L2
open PySem PySem.Spec PyProof.Rows
abbrev Key:=Sum Int Str
noncomputable def p7:Key->Value->Bool
 | .inl k,v=>Value.isInt k v
 | .inr x,v=>Value.isStrOf x v
noncomputable def Qu (w:World):Key->Int
 | .inl k=>hashInt k
 | .inr x=>hashStr w x
theorem tV:∀ {k:Key}{v:Value},p7 k v=true->(∃ i t,k=Sum.inl i/\v=Value.int i t)\/(∃ x t,k=Sum.inr x/\v=Value.str x t)
 | .inl i,v,h=>by
  obtain⟨t,e⟩:=Value.isInt_shape (k:=i) (v:=v) h
  exact .inl ⟨i,t,rfl,e⟩
 | .inr x,v,h=>by
  obtain⟨t,e⟩:=Value.isStrOf_shape (x:=x) (v:=v) h
  exact .inr ⟨x,t,rfl,e⟩
def Qt (i:Int) (t:Tok):p7 (.inl i) (.int i t)=true:=by simp[p7,Value.isInt]
def Qs (x:Str) (t:Tok):p7 (.inr x) (.str x t)=true:=by simp[p7,Value.isStrOf]
def Qr (a b:Int):decide ((Sum.inl a:Key)=Sum.inl b)=(a == b):=by
 by_cases e:a=b
 ·subst e;simp
 ·have h:¬ (Sum.inl a:Key)=Sum.inl b:=λ q=>e (Sum.inl.inj q)
  rw[za4 h]
  exact (beq_eq_false_iff_ne.mpr e).symm
def Qo (a b:Str):decide ((Sum.inr a:Key)=Sum.inr b)=decide (a=b):=by
 by_cases e:a=b
 ·subst e;simp
 ·have h:¬ (Sum.inr a:Key)=Sum.inr b:=λ q=>e (Sum.inr.inj q)
  rw[za4 h,za4 e]
def Qq (a:Int) (b:Str):decide ((Sum.inl a:Key)=Sum.inr b)=false:=za4 (λ q=>nomatch q)
def Qp (a:Str) (b:Int):decide ((Sum.inr a:Key)=Sum.inl b)=false:=za4 (λ q=>nomatch q)
def wB (prog:Program) (w:World):PySem.KeyKind prog w Key where
 is:=p7
 hash:=Qu w
 inj:=λ v a b ha hb=>by
  rcases tV ha with ⟨i,t,rfl,rfl⟩ | ⟨x,t,rfl,rfl⟩
  ·rcases tV hb with ⟨j,u,rfl,e⟩ | ⟨y,u,rfl,e⟩
   ·injection e with e1 _;rw[e1]
   ·exact nomatch e
  ·rcases tV hb with ⟨j,u,rfl,e⟩ | ⟨y,u,rfl,e⟩
   ·exact nomatch e
   ·injection e with e1 _;rw[e1]
 byValue:=λ k v h=>by
  rcases tV h with ⟨i,t,rfl,rfl⟩ | ⟨x,t,rfl,rfl⟩ <;> rfl
 pyHash:=λ hv h=>by
  rcases tV hv with ⟨i,t,rfl,rfl⟩ | ⟨x,t,rfl,rfl⟩
  ·exact wpAny_pyHash_int h
  ·exact wpAny_pyHash_str h
 eqBool:=λ hu hv h=>by
  rcases tV hu with ⟨i,t,rfl,rfl⟩ | ⟨x,t,rfl,rfl⟩
  ·rcases tV hv with ⟨j,u,rfl,rfl⟩ | ⟨y,u,rfl,rfl⟩
   ·rw[Qr] at h;exact wpAny_eqBool_int h
   ·rw[Qq] at h;exact SeqAt.EqAt.int_str i t y u _ _ _ _ h
  ·rcases tV hv with ⟨j,u,rfl,rfl⟩ | ⟨y,u,rfl,rfl⟩
   ·rw[Qp] at h;exact SeqAt.EqAt.str_int x t j u _ _ _ _ h
   ·rw[Qo] at h;exact wpAny_eqBool_str h
 «strs»:=λ k x t v h=>by
  rcases tV h with ⟨i,u,rfl,e⟩ | ⟨y,u,rfl,e⟩
  ·exact nomatch e
  ·injection e with e1 _
   subst e1
   cases v <;> rfl
def RI (prog:Program) (w:World) (i:Int) (t:Tok):(wB prog w).is (.inl i) (.int i t)=true:=Qt i t
def RH (prog:Program) (w:World) (x:Str) (t:Tok):(wB prog w).is (.inr x) (.str x t)=true:=Qs x t
inductive V where
 | zj | bl (b:Bool) | int (i:Int) | str (x:Str) | mn (b:Array UInt8) | gU (b:UInt64) | ref (a:Addr) | ty (n:String)
 deriving DecidableEq
noncomputable def RelV:V->Value->Prop
 | .zj,u=>u=Value.none
 | .bl b,u=>u=Value.bool b
 | .int i,u=>∃ t,u=Value.int i t
 | .str x,u=>∃ t,u=Value.str x t
 | .mn b,u=>∃ t,u=Value.bytes b t
 | .gU b,u=>∃ t,u=Value.float b t
 | .ref a,u=>u=Value.ref a
 | .ty n,u=>u=Value.type n
abbrev Vals:List V->List Value->Prop:=Paired RelV
theorem Vals.length {xs:List V}{us:List Value}(r:Vals xs us):xs.length=us.length:=Paired.length r
theorem Vals.get:∀ {xs:List V}{us:List Value}{i:Nat}{x:V},Vals xs us->xs[i]?=some x->∃ u,us[i]?=some u/\RelV x u
 | _,_,_,_,.nil,e=>by simp at e
 | _,_,0,_,.cons r _,e=>by simp at e;subst e;exact⟨_,rfl,r⟩
 | _,_,i+1,x,.cons _ t,e=>by
  obtain⟨u,h1,h2⟩:=Vals.get (i:=i) (x:=x) t (by simpa using e)
  exact⟨u,by simpa using h1,h2⟩
theorem Vals.set {x:V}{u:Value}(r:RelV x u):∀ {xs:List V}{us:List Value}(i:Nat),Vals xs us->Vals (xs.set i x) (us.set i u)
 | _,_,_,.nil=>.nil
 | _,_,0,.cons _ t=>.cons r t
 | _,_,i+1,.cons q t=>.cons q (Vals.set r i t)
theorem Vals.append:∀ {xs ys:List V}{us ws:List Value},Vals xs us->Vals ys ws->Vals (xs++ys) (us++ws)
 | _,_,_,_,.nil,s=>s
 | _,_,_,_,.cons r t,s=>.cons r (Vals.append t s)
noncomputable def vI:Option V->Option Value->Prop
 | some v,some u=>RelV v u
 | none,none=>True
 | _,_=>False
def KV {κ:Type}:List (κ × V)->List (κ × Value)->Prop:=Paired λ(p:κ × V) (q:κ × Value)=>p.1=q.1/\RelV p.2 q.2
noncomputable def kV:Key->V
 | .inl i=>.int i
 | .inr x=>.str x
inductive HO where
 /-- a list -/
 | lst (xs:List V)
 /-- a tuple (never changes) -/
 | tup (xs:List V)
 /-- a dict whose keys are ints and texts;one whose keys are tuples of ints and texts (the empty one is both) -/
 | dK (Aa:List (Key×V)) | dT (Aa:List (List Key×V))
 /-- a set of ints: its members,its size -/
 | set (S:Int->Bool) (n:Nat)
 /-- an instance of the class at C,its dict at dx,its attributes -/
 | ins (C dx:Addr) (fs:List (Str×V))
 /-- the dict of the instance at x -/
 | own (x:Addr)
 /-- the dict of an exception -/
 | xd (fs:List (Str×V))
 /-- a bound method,f of x -/
 | met (f x:Addr)
 /-- a range object lo,lo+1,.. below hi -/
 | ib (lo hi:Int)
 /-- a thing that is known to the object (the script;a dict while a loop walks it): read,never written while it is so -/
 | xV (o:Obj) (u:HO)
 /-- a code object's table -/
 | rY (ps:Array Value)
 /-- any other thing,by what is true of its one object (a def of one's own: yF a S n:=HO.ext λ h=>..) -/
 | ext (φ:Heap->Prop)
abbrev Hp:=Addr->Option HO
noncomputable def upd (H:Hp) (a:Addr) (o:HO):Hp:=λ b=>if b=a then some o else H b
def yd {H:Hp}{a:Addr}{o:HO}:upd H a o a=some o:=by unfold upd;rw[if_pos rfl]
def zG {H:Hp}{a b:Addr}{o:HO}(h:b≠a):upd H a o b=H b:=by unfold upd;rw[if_neg h]
def vX {H:Hp}{a b:Addr}{o u:HO}(h:H a=some o) (h':H b=some u) (d:o≠u):a≠b:=by
 intro e;subst e;rw[h] at h';exact d (A4 h')
def xk {H:Hp}{a b:Addr}{o:HO}(h:H a=some o) (h':H b=none):a≠b:=by
 intro e;subst e;rw[h] at h';cases h'
section
variable (P:Program)(w:World)
noncomputable def yN (H:Hp) (h:Heap) (a:Addr):HO->Prop
 | .lst xs=>xs.length<=sizeLine/\∃ (its:List Value) (n:Nat),Vals xs its/\h.get? a=some { cls:=.type "list",data:=.seq its.toArray n }
 | .tup xs=>xs.length<=sizeLine/\∃ its:List Value,Vals xs its/\IsTup h a its.toArray
 | .dK Aa=>Aa.length<=sizeLine/\(a == sysModules)=false/\∃ vs,KV Aa vs/\h.DictOf (wB P w) a vs
 | .dT Aa=>Aa.length<=sizeLine/\(a == sysModules)=false/\∃ xs:List (List Key×Addr×Value),
   Paired (λ(p:List Key×V) (q:List Key×Addr×Value)=>p.1=q.1/\H q.2.1=some (.tup (p.1.map kV))/\RelV p.2 q.2.2) Aa xs/\
   ∃ o es ep,h.get? a=some o/\o.ExactDict/\o.data=.dict es ep/\es.toList=xs.map (entryOfKey (tupleKind (wB P w)))/\(xs.map (·.1)).Nodup
 | .set S n=>h.SetOf (intKind P w) a S n
 | .ins C dx fs=>H dx=some (.own a)/\fs.length<=1000/\dx≠a/\h.get? a=some (PySem.W.instObj C dx)/\
   ∃ mA,h.Ns1 dx mA/\(∀ f,vI (fs.lookup f) (mA f))/\PySem.Within mA (fs.map (·.1))
 | .own _=>∃ o,h.get? a=some o
 | .xd fs=>∃ mA,h.Ns1 a mA/\∀ f,vI (fs.lookup f) (mA f)
 | .ib lo hi=>∃ t u v,h.get? a=some { cls:=.type "range",data:=.fields #[.int lo t,.int hi u,.int 1 v] }
 | .xV o u=>h.get? a=some o/\yN H h a u
 | .rY ps=>h.get? a=some { cls:=.none,data:=.fields ps }
 | .met f x=>h.get? a=some (PySem.W.methodObj (.ref f) (.ref x))
 | .ext φ=>φ h/\(∃ o,h.get? a=some o)/\∀ h1 h2:Heap,φ h1->(∀ o,h1.get? a=some o->h2.get? a=some o)->φ h2
def zZ (H:Hp) (h:Heap):Prop:=∀ a o,H a=some o->yN P w H h a o
end
section
variable {P:Program}{w:World}{H H':Hp}{h h':Heap}{a:Addr}{o:HO}
theorem yN.lt (x:yN P w H h a o):a<h.objs.size:=by
 cases o with
 | lst xs=>obtain⟨_,_,_,_,e⟩:=x;exact Ai e
 | tup xs=>obtain⟨_,_,_,p⟩:=x;exact p.lt
 | dK Aa=>obtain⟨_,_,_,_,o,_,_,e,_⟩:=x;exact Ai e
 | dT Aa=>obtain⟨_,_,_,_,o,_,_,e,_⟩:=x;exact Ai e
 | set S n=>obtain⟨o,_,_,_,e,_⟩:=x;exact Ai e
 | ins C dx fs=>obtain⟨_,_,_,e,_⟩:=x;exact Ai e
 | own y=>obtain⟨_,e⟩:=x;exact Ai e
 | xd fs=>obtain⟨_,⟨_,_,_,e,_⟩,_⟩:=x;exact Ai e
 | ib lo hi=>obtain⟨_,_,_,e⟩:=x;exact Ai e
 | xV ob u=>obtain⟨e,_⟩:=x;exact Ai e
 | rY ps=>exact Ai (show h.get? a=some _ from x)
 | met f y=>exact Ai (show h.get? a=some _ from x)
 | ext φ=>obtain⟨_,⟨_,e⟩,_⟩:=x;exact Ai e
theorem Paired.kf {α β:Type}{F G:α->β->Prop}:∀ {l₁:List α}{l₂:List β},Paired F l₁ l₂->(∀ a b,F a b->G a b)->Paired G l₁ l₂
 | _,_,.nil,_=>.nil
 | _,_,.cons r t,f=>.cons (f _ _ r) (Paired.kf t f)
def yN.w_ (x:yN P w H h a o) (k:∀ b u,(b=a\/H b=some (.own a))->h.get? b=some u->h'.get? b=some u)
  (ho:∀ b,H b=some (.own a)->H' b=some (.own a)) (ht:∀ b xs,H b=some (.tup xs)->H' b=some (.tup xs)):yN P w H' h' a o:=by
 induction o with
 | lst xs=>obtain⟨z,its,n,r,e⟩:=x;exact⟨z,its,n,r,k _ _ (.inl rfl) e⟩
 | tup xs=>obtain⟨z,its,r,ob,e,c⟩:=x;exact⟨z,its,r,ob,k _ _ (.inl rfl) e,c⟩
 | dK Aa=>obtain⟨z,y,vs,r,ob,es,ep,e,c⟩:=x;exact⟨z,y,vs,r,ob,es,ep,k _ _ (.inl rfl) e,c⟩
 | dT Aa=>
  obtain⟨z,y,xs,r,ob,es,ep,e,c⟩:=x
  exact⟨z,y,xs,Paired.kf r λ p q z=>⟨z.1,ht _ _ z.2.1,z.2.2⟩,ob,es,ep,k _ _ (.inl rfl) e,c⟩
 | set S n=>obtain⟨ob,es,ep,t,e,c⟩:=x;exact⟨ob,es,ep,t,k _ _ (.inl rfl) e,c⟩
 | ins C dx fs=>
  obtain⟨d,z,ne,e,mA,⟨od,es,ep,e2,c⟩,r⟩:=x
  exact⟨ho _ d,z,ne,k _ _ (.inl rfl) e,mA,⟨od,es,ep,k _ _ (.inr d) e2,c⟩,r⟩
 | own y=>obtain⟨ob,e⟩:=x;exact⟨ob,k _ _ (.inl rfl) e⟩
 | xd fs=>obtain⟨mA,⟨od,es,ep,e,c⟩,r⟩:=x;exact⟨mA,⟨od,es,ep,k _ _ (.inl rfl) e,c⟩,r⟩
 | ib lo hi=>obtain⟨t,u,v,e⟩:=x;exact⟨t,u,v,k _ _ (.inl rfl) e⟩
 | xV ob u ih=>obtain⟨e,q⟩:=x;exact⟨k _ _ (.inl rfl) e,ih q⟩
 | rY ps=>
  have e:h.get? a=some { cls:=.none,data:=.fields ps }:=x
  show h'.get? a=some { cls:=.none,data:=.fields ps }
  exact k a _ (.inl rfl) e
 | met f y=>
  have e:h.get? a=some (PySem.W.methodObj (.ref f) (.ref y)):=x
  show h'.get? a=some (PySem.W.methodObj (.ref f) (.ref y))
  exact k a _ (.inl rfl) e
 | ext φ=>obtain⟨p,⟨o,e⟩,st⟩:=x;exact⟨st _ _ p λ o q=>k _ _ (.inl rfl) q,⟨o,k _ _ (.inl rfl) e⟩,st⟩
theorem zZ.lt (x:zZ P w H h) (e:H a=some o):a<h.objs.size:=(x a o e).lt
def zZ.fresh (x:zZ P w H h) (e:h.objs.size<=a):H a=none:=by
 cases q:H a with
 | none=>rfl
 | some u=>exact absurd (AV (x.lt q) e) (Cf _)
def zZ.kept (x:zZ P w H h) (k:∀ b u,h.get? b=some u->h'.get? b=some u):zZ P w H h':=λ a o e=>
 (x a o e).w_ (λ b u _ q=>k b u q) (λ _ q=>q) λ _ _ q=>q
def zZ.laid (x:zZ P w H h) (k:∀ b u,h.get? b=some u->h'.get? b=some u) (hp:h.objs.size<=a) (new:yN P w (upd H a o) h' a o):zZ P w (upd H a o) h':=λ b u e=>by
 have hn:=x.fresh hp
 by_cases hb:b=a
 ·subst hb;rw[yd] at e;cases e;exact new
 ·rw[zG hb] at e
  exact (x b u e).w_ (λ c v _ q=>k c v q) (λ c q=>by rw[zG (xk q hn)];exact q) λ c xs q=>by rw[zG (xk q hn)];exact q
end
def Rd (H:Hp) (a:Addr) (u:HO):Prop:=H a=some u\/∃ o,H a=some (.xV o u)
def Rd.ok {P:Program}{w:World}{H:Hp}{h:Heap}{a:Addr}{u:HO}(r:Rd H a u) (x:zZ P w H h):yN P w H h a u:=by
 rcases r with r | ⟨o,r⟩
 ·exact x a u r
 ·obtain⟨_,q⟩:=x a _ r
  exact q
noncomputable def mE:Option HO->Prop
 | some (.lst _)=>True
 | some (.dK _)=>True
 | some (.dT _)=>True
 | some (.set _ _)=>True
 | some (.ins _ _ _)=>True
 | some (.ext _)=>True
 | _=>False
section
variable {P:Program}{w:World}{H:Hp}{h h':Heap}{x e:Addr}{o':HO}
def zZ.write (ok:zZ P w H h) (mu:mE (H x)) (he:e=x\/H e=some (.own x)) (k:∀ b u,b≠e->h.get? b=some u->h'.get? b=some u) (B8:∃ u,h'.get? e=some u)
  (new:yN P w (upd H x o') h' x o'):zZ P w (upd H x o') h':=λ b u q=>by
 have nown:∀ c y,H c=some (.own y)->c≠x:=λ c y r z=>by subst z;rw[r] at mu;exact mu
 have ntup:∀ c xs,H c=some (.tup xs)->c≠x:=λ c xs r z=>by subst z;rw[r] at mu;exact mu
 by_cases hb:b=x
 ·subst hb;rw[yd] at q;cases q;exact new
 ·rw[zG hb] at q
  by_cases Bi:b=e
  ·have q':H b=some (.own x):=by
    rcases he with z | z
    ·exact absurd (Bi.trans z) hb
    ·rw[Bi];exact z
   rw[q] at q';cases q'
   obtain⟨v,hv⟩:=B8
   exact⟨v,by rw[Bi];exact hv⟩
  ·refine (ok b u q).w_ (λ c v hc r=>k c v ?_ r) (λ c r=>by rw[zG (nown c b r)];exact r) λ c xs r=>by rw[zG (ntup c xs r)];exact r
   rcases hc with rfl | hc
   ·exact Bi
   ·rintro rfl
    rcases he with z | z
    ·exact nown c b hc z
    ·rw[hc] at z;cases z;exact hb rfl
end
structure Un (fs ex:List Addr) (H H':Hp) (h h':Heap):Prop where
 keep:∀ b o,h.get? b=some o->H b=none->b∉fs->b∉ex->h'.get? b=some o
 slot:∀ b o,h.get? b=some o->H b=none->b∈fs->b∉ex->∃ sl,h'.get? b=some { o with slots:=sl }
 free:∀ b o,h.get? b=some o->H b=none->b∉ex->H' b=none
 there:∀ b o,h.get? b=some o->b∉ex->∃ o',h'.get? b=some o'
 wZ:∀ b xs,H b=some (.tup xs)->H' b=some (.tup xs)
 v9:∀ b o u,H b=some (.xV o u)->H' b=some (.xV o u)
 vP:∀ b ps,H b=some (.rY ps)->∃ more,H' b=some (.rY (ps++more))
section
variable {fs ex:List Addr}{H H1:Hp}{h h1 h':Heap}{a x e:Addr}{o:HO}
def Un.any (u:Un fs ex H H1 h h1) {b:Addr}{ob:Obj}(q:h.get? b=some ob) (n:H b=none) (hx:b∉ex):∃ sl,h1.get? b=some { ob with slots:=sl }:=by
 by_cases hb:b∈fs
 ·exact u.slot b ob q n hb hx
 ·exact⟨ob.slots,u.keep b ob q n hb hx⟩
def Un.kept (k:∀ b u,h.get? b=some u->h'.get? b=some u):Un fs ex H H h h':=
 ⟨λ b ob q _ _ _=>k b ob q,λ b ob q _ _ _=>⟨ob.slots,k b ob q⟩,λ _ _ _ n _=>n,λ b ob q _=>⟨ob,k b ob q⟩,λ _ _ q=>q,λ _ _ _ q=>q,λ _ ps q=>⟨#[],by rw[q];simp⟩⟩
def Un.refl:Un fs ex H H h h:=Un.kept λ _ _ q=>q
def Un.laid (k:∀ b u,h.get? b=some u->h'.get? b=some u) (hp:h.objs.size<=a) (hn:H a=none):Un fs ex H (upd H a o) h h' where
 keep:=λ b u q _ _ _=>k b u q
 slot:=λ b u q _ _ _=>⟨u.slots,k b u q⟩
 free:=λ b u q n _=>by rw[zG (Ap (AV (Ai q) hp))];exact n
 there:=λ b u q _=>⟨u,k b u q⟩
 wZ:=λ b xs q=>by rw[zG (xk q hn)];exact q
 v9:=λ b u xs q=>by rw[zG (xk q hn)];exact q
 vP:=λ b ps q=>⟨#[],by rw[zG (xk q hn),q];simp⟩
def Un.write (mu:mE (H x)) (he:e=x\/H e=some (.own x)) (k:∀ b u,b≠e->h.get? b=some u->h'.get? b=some u) (B8:∃ u,h'.get? e=some u):Un fs ex H (upd H x o) h h':=by
 have hx:∀ b,H b=none->b≠x:=λ b n z=>by subst z;rw[n] at mu;exact mu
 have hb:∀ b,H b=none->b≠e:=λ b n z=>by
  subst z
  rcases he with r | r
  ·exact hx b n r
  ·rw[n] at r;cases r
 have hm:∀ b u,H b=some u->¬ mE (some u)->b≠x:=λ b u q nm z=>by subst z;rw[q] at mu;exact nm mu
 refine⟨λ b u q n _ _=>k b u (hb b n) q,λ b u q n _ _=>⟨u.slots,k b u (hb b n) q⟩,λ b u q n _=>by rw[zG (hx b n)];exact n,λ b u q _=>?_,
  λ b xs q=>by rw[zG (hm b _ q λ z=>z)];exact q,λ b u xs q=>by rw[zG (hm b _ q λ z=>z)];exact q,λ b ps q=>⟨#[],by rw[zG (hm b _ q λ z=>z),q];simp⟩⟩
 by_cases Bi:b=e
 ·subst Bi;exact B8
 ·exact⟨u,k b u Bi q⟩
end
noncomputable def lx (h:Heap) (H:Hp):List Addr:=(List.range h.objs.size).filter λ a=>(H a).isSome
def tW (h:Heap) (H:Hp):Heap:=PySem.W.hideAll h (lx h H)
def QN (h:Heap) (H:Hp):(tW h H).objs.size=h.objs.size:=PySem.W.hideAll_size _ _
def QO {h:Heap}{H:Hp}{b:Addr}{o:Obj}(e:h.get? b=some o) (n:H b=none):(tW h H).get? b=some o:=
 PySem.W.hideAll_get _ e λ hm=>by
  have q:(H b).isSome=true:=(A_.mp hm).2
  rw[n] at q;simp at q
def Rt {h:Heap}{H:Hp}{b:Addr}{o:Obj}(e:(tW h H).get? b=some o):h.get? b=some o/\H b=none:=by
 have e':h.get? b=some o:=PySem.W.of_hideAll (lx h H) e
 refine⟨e',?_⟩
 cases q:H b with
 | none=>rfl
 | some x=>
  have hm:b∈lx h H:=A_.mpr ⟨AO.mpr (Ai e'),by simp[q]⟩
  have z:(tW h H).get? b=none:=PySem.W.hideAll_none (lx h H) hm
  rw[z] at e;cases e
structure Mod (K:Ab) (mg:Str->Option Value) (base:Heap):Prop where
 p0:K.In base
 glob:base.Ns mainGlobals mg
 blt:∃ mb,base.Ns builtinsNs mb/\∀ x:Str,x≠"__name__"->mb x=bootBuiltins x
 nolimit:base.NoLimit
structure Cx where
 prog:Program
 w:World
 K:Ab
 mg:Str->Option Value
 base:Heap
 A:Around
 N:List Str
 s₀:Shared
 H₀:Hp
 env:Env
 outer:List Env
 stack:List Env
 ex:List Addr
 fn:Str->Bool
 calm:Bool
 pn:List (Addr×Obj)
 xe:Value->Shared->Prop
noncomputable def yI (l:List Env):List Addr:=l.filterMap (·.frame)
abbrev Cx.fs (X:Cx):List Addr:=yI X.outer
def m7 (sc:Scope) (x:Str):Prop:=sc.names.lookup x=some .local\/sc.names.lookup x=some .cell\/sc.names.lookup x=some .free
def Loc (sc:Scope) (x:Str):Prop:=sc.names.lookup x=some .local\/sc.names.lookup x=some .cell
def Look (env:Env) (h:Heap) (m:Str->Option Value) (x:Str) (u:Value):Prop:=
 (env.kindOf x=some .local/\m x=some u)\/((env.kindOf x=some .cell\/env.kindOf x=some .free)/\∃ c,env.cells.lookup x=some c/\h.IsCell c (some u))
structure Cx.Ok (X:Cx):Prop where
 mod:Mod X.K X.mg X.base
 kind:X.env.scope.kind=.function
 glob:X.env.globals=mainGlobals
 blt:X.env.builtins=builtinsNs
 above:X.s₀.heap.objs.size<=X.env.locals
 inj:∀ x y c,X.env.cells.lookup x=some c->X.env.cells.lookup y=some c->x=y
 has:∀ x,(X.env.kindOf x=some .cell\/X.env.kindOf x=some .free)->∃ c,X.env.cells.lookup x=some c
 qq:∀ x c,X.fn x=true->X.env.cells.lookup x=some c->X.s₀.heap.objs.size<=c
 hd:X.calm=true->X.A.handled=none
 frames:X.A.frames=some X.stack
 qL:X.stack=X.outer\/(X.stack=X.env::X.outer/\X.env.frame=some X.env.locals)
 nP:∀ b∈X.ex,b≠X.env.locals/\∀ x c,X.env.cells.lookup x=some c->c≠b
 bs:∀ b o,X.base.get? b=some o->X.s₀.heap.get? b=some o/\X.H₀ b=none
 tp:X.base.objs.size<=X.s₀.heap.objs.size
 qe:∀ b o,X.base.get? b=some o->b∉X.ex
 qm:∀ b∈X.ex,b∉X.fs
 vf:X.s₀.heap.FunFrames X.base X.outer
 tY:∀ b∈X.fs,X.H₀ b=none
structure Inv (X:Cx) (pins:List (Addr×Obj)) (σ:List (Option V)) (H:Hp) (s:Shared):Prop where
 ok:X.Ok
 os:s.os=X.s₀.os
 bare:AllBare s.gens
 base:Un X.fs X.ex X.H₀ H X.s₀.heap s.heap
 loc:∃ m,s.heap.Ns X.env.locals m/\∀ (i:Nat) (x:Str) (v:V),X.N[i]?=some x->σ[i]?=some (some v)->m7 X.env.scope x->∃ u,RelV v u/\Look X.env s.heap m x u
 cell:∀ x c,X.env.cells.lookup x=some c->∃ v,s.heap.IsCell c v
 free:H X.env.locals=none
 wV:∀ x c,X.env.cells.lookup x=some c->H c=none
 pin:∀ p∈X.pn++pins,s.heap.get? p.1=some p.2/\H p.1=none/\p.1≠X.env.locals/\p.1∉X.fs/\∀ v,p.2.data≠.cell v
 zl:zZ X.prog X.w H s.heap
 len:σ.length=X.N.length
section
variable {X:Cx}{pins:List (Addr×Obj)}{σ:List (Option V)}{H H':Hp}{s:Shared}{h':Heap}
def Cx.Ok.R0 (ok:X.Ok) {b:Addr}{o:Obj}(e:X.base.get? b=some o):b∉X.fs:=λ hb=>by
 have:=(ok.vf.mem hb).1
 rw[e] at this;cases this
theorem Inv.bs (I:Inv X pins σ H s):∀ b o,X.base.get? b=some o->s.heap.get? b=some o/\H b=none:=λ b o e=>
 ⟨I.base.keep b o (I.ok.bs b o e).1 (I.ok.bs b o e).2 (I.ok.R0 e) (I.ok.qe b o e),I.base.free b o (I.ok.bs b o e).1 (I.ok.bs b o e).2 (I.ok.qe b o e)⟩
def Inv.bk (I:Inv X pins σ H s):∀ b o,X.base.get? b=some o->s.heap.get? b=some o:=λ b o e=>(I.bs b o e).1
theorem Inv.mod (I:Inv X pins σ H s):Mod X.K X.mg X.base:=I.ok.mod
def Inv.yz (I:Inv X pins σ H s):X.K.In s.heap:=I.ok.mod.p0.keeps I.bk
theorem Inv.lt (I:Inv X pins σ H s):X.env.locals<s.heap.objs.size:=let ⟨_,hn,_⟩:=I.loc;hn.lt
def Inv.sz (I:Inv X pins σ H s):X.s₀.heap.objs.size<=s.heap.objs.size:=Bp I.ok.above (BI I.lt)
def Inv.bU (I:Inv X pins σ H s) {a:Addr}(h:s.heap.objs.size<=a):a∉X.fs:=λ hb=>by
 obtain⟨_,o,ho,_⟩:=I.ok.vf.mem hb
 exact absurd (AV (Ai ho) (Bp I.sz h)) (Cf _)
def Inv.uE (I:Inv X pins σ H s):∀ x c,X.env.cells.lookup x=some c->c≠X.env.locals:=λ x c e z=>by
 obtain⟨v,o,ho,hd⟩:=I.cell x c e
 obtain⟨m,⟨o',es,ep,ho',hd',_⟩,_⟩:=I.loc
 rw[z,ho'] at ho;cases ho;rw[hd'] at hd;cases hd
theorem Inv.vf (I:Inv X pins σ H s):s.heap.FunFrames X.base X.outer:=by
 have all:∀ (l:List Env),(∀ b∈yI l,b∈X.fs)->X.s₀.heap.FunFrames X.base l->s.heap.FunFrames X.base l:=by
  intro l
  induction l with
  | nil=>intro _ _;trivial
  | cons env r ih=>
   intro hs hl
   obtain⟨hk,⟨L,o,hf,hn,ho,hd⟩,hr⟩:=hl
   have hL:L∈X.fs:=hs L (by unfold yI;rw[Cz,hf];exact Am)
   obtain⟨sl,e⟩:=I.base.slot L o ho (I.ok.tY L hL) hL λ z=>I.ok.qm L z hL
   exact⟨hk,⟨L,_,hf,hn,e,hd⟩,ih (λ b hb=>hs b (by unfold yI;rw[Cz,hf];exact Ao _ hb)) hr⟩
 exact all X.outer (λ _ hb=>hb) I.ok.vf
theorem Inv.stack (I:Inv X pins σ H s):s.heap.FunFrames X.base X.stack:=by
 rcases I.ok.qL with e | ⟨e,hf⟩
 ·rw[e];exact I.vf
 ·rw[e]
  obtain⟨m,hn,_⟩:=I.loc
  refine .cons (by rw[I.ok.kind];decide) hf hn ?_ I.vf
  exact zaN (Bp I.ok.tp I.ok.above)
def Inv.jw (I:Inv X pins σ H s):∀ b∈yI X.stack,b∈X.env.locals::X.fs:=λ b hb=>by
 rcases I.ok.qL with e | ⟨e,hf⟩
 ·rw[e] at hb;exact Ao _ hb
 ·rw[e] at hb
  unfold yI at hb
  rw[Cz,hf] at hb
  exact hb
def Inv.jy (I:Inv X pins σ H s):∀ b∈yI X.stack,H b=none:=λ b hb=>by
 rcases Ak.mp (I.jw b hb) with e | hb
 ·rw[e];exact I.free
 ·obtain⟨_,o,ho,_⟩:=I.ok.vf.mem hb
  exact I.base.free b o ho (I.ok.tY b hb) λ z=>I.ok.qm b z hb
def Inv.step {g':Array GenState}{t':Nat}{d':Drawn}{ch:List Addr}(I:Inv X pins σ H s)
  (BX:∀ b∈ch,(b∈X.ex\/X.s₀.heap.objs.size<=b)/\b≠X.env.locals/\(∀ x c,X.env.cells.lookup x=some c->c≠b)/\∀ p∈X.pn++pins,p.1≠b)
  (keep:∀ b o,b≠X.env.locals->b∉X.fs->b∉ch->s.heap.get? b=some o->H b=none->h'.get? b=some o)
  (slot:∀ b o,b≠X.env.locals->b∈X.fs->b∉ch->s.heap.get? b=some o->H b=none->∃ sl,h'.get? b=some { o with slots:=sl }) (free:∀ b o,b∉ch->s.heap.get? b=some o->H b=none->H' b=none)
  (there:∀ b o,b∉ch->s.heap.get? b=some o->∃ o',h'.get? b=some o')
  (wZ:∀ b xs,H b=some (.tup xs)->H' b=some (.tup xs)) (v9:∀ b o u,H b=some (.xV o u)->H' b=some (.xV o u)) (vP:∀ b ps,H b=some (.rY ps)->∃ more,H' b=some (.rY (ps++more)))
  (ns:∀ m,s.heap.Ns X.env.locals m->h'.Ns X.env.locals m) (zl:zZ X.prog X.w H' h') (hg:AllBare g'):
  Inv X pins σ H' { s with heap:=h',gens:=g',drawn:=d',toks:=t' }:=by
 have neL:∀ b o,X.s₀.heap.get? b=some o->b≠X.env.locals:=λ b o e=>Ap (AV (Ai e) I.ok.above)
 have neC:∀ b o,X.s₀.heap.get? b=some o->b∉X.ex->b∉ch:=λ b o e hx hb=>by
  rcases (BX b hb).1 with z | z
  ·exact hx z
  ·exact absurd (AV (Ai e) z) (Cf _)
 have cellK:∀ x c,X.env.cells.lookup x=some c->∀ v,s.heap.IsCell c v->h'.IsCell c v:=λ x c e v ⟨o,ho,hd⟩=>by
  have nch:c∉ch:=λ z=>(BX c z).2.2.1 x c e rfl
  by_cases hc:c∈X.fs
  ·obtain⟨sl,q⟩:=slot c o (I.uE x c e) hc nch ho (I.wV x c e)
   exact⟨_,q,hd⟩
  ·exact⟨o,keep c o (I.uE x c e) hc nch ho (I.wV x c e),hd⟩
 refine⟨I.ok,I.os,hg,⟨λ b o e n hb hx=>?_,λ b o e n hb hx=>?_,λ b o e n hx=>?_,λ b o e hx=>?_,λ b xs e=>wZ b xs (I.base.wZ b xs e),λ b o xs e=>v9 b o xs (I.base.v9 b o xs e),λ b ps e=>?_⟩,?_,λ x c e=>?_,?_,λ x c e=>?_,λ p hp=>?_,zl,I.len⟩
 ·exact keep b o (neL b o e) hb (neC b o e hx) (I.base.keep b o e n hb hx) (I.base.free b o e n hx)
 ·obtain⟨sl,e1⟩:=I.base.slot b o e n hb hx
  obtain⟨sl',e2⟩:=slot b _ (neL b o e) hb (neC b o e hx) e1 (I.base.free b o e n hx)
  exact⟨sl',e2⟩
 ·obtain⟨o',e1⟩:=I.base.there b o e hx
  exact free b o' (neC b o e hx) e1 (I.base.free b o e n hx)
 ·obtain⟨o',e1⟩:=I.base.there b o e hx
  exact there b o' (neC b o e hx) e1
 ·obtain⟨m1,e1⟩:=I.base.vP b ps e
  obtain⟨m2,e2⟩:=vP b _ e1
  exact⟨m1++m2,by rw[e2,DV]⟩
 ·obtain⟨m,hn,hl⟩:=I.loc
  refine⟨m,ns m hn,λ i x v e1 e2 e3=>?_⟩
  obtain⟨u,r,l⟩:=hl i x v e1 e2 e3
  refine⟨u,r,?_⟩
  rcases l with l | ⟨k,c,e,z⟩
  ·exact .inl l
  ·exact .inr ⟨k,c,e,cellK x c e _ z⟩
 ·obtain⟨v,z⟩:=I.cell x c e
  exact⟨v,cellK x c e v z⟩
 ·obtain⟨m,⟨o,_,_,ho,_⟩,_⟩:=I.loc
  exact free _ o (λ z=>(BX _ z).2.1 rfl) ho I.free
 ·obtain⟨v,o,ho,hd⟩:=I.cell x c e
  exact free c o (λ z=>(BX c z).2.2.1 x c e rfl) ho (I.wV x c e)
 ·obtain⟨e,n,ne,nf,d⟩:=I.pin p hp
  have nch:p.1∉ch:=λ z=>(BX p.1 z).2.2.2 p hp rfl
  exact⟨keep p.1 p.2 ne nf nch e n,free p.1 p.2 nch e n,ne,nf,d⟩
def Inv.un {t':Nat}(I:Inv X pins σ H s) (u:Un X.fs [] H H' s.heap h') (zl:zZ X.prog X.w H' h'):Inv X pins σ H' { s with heap:=h',toks:=t' }:=by
 obtain⟨m,⟨o,es,ep,ho,r⟩,_⟩:=id I.loc
 obtain⟨sl,hL⟩:=u.any ho I.free (by simp)
 exact I.step (g':=s.gens) (d':=s.drawn) (ch:=[]) (λ _ z=>nomatch z) (λ b o _ hb _ e n=>u.keep b o e n hb (by simp)) (λ b o _ hb _ e n=>u.slot b o e n hb (by simp)) (λ b o _ e n=>u.free b o e n (by simp)) (λ b o _ e=>u.there b o e (by simp)) u.wZ u.v9 u.vP (λ m' hm=>by
  obtain⟨o',es',ep',ho',r'⟩:=hm
  rw[ho] at ho';cases ho'
  exact⟨_,es',ep',hL,r'⟩) zl I.bare
def Inv.call {g':Array GenState}{t':Nat}{d':Drawn}{ch:List Addr}(I:Inv X pins σ H s) (u:Un (yI X.stack) ch H H' s.heap h') (zl:zZ X.prog X.w H' h') (hg:AllBare g')
  (BX:∀ b∈ch,(b∈X.ex\/X.s₀.heap.objs.size<=b)/\b≠X.env.locals/\(∀ x c,X.env.cells.lookup x=some c->c≠b)/\∀ p∈X.pn++pins,p.1≠b):
  Inv X pins σ H' { s with heap:=h',gens:=g',drawn:=d',toks:=t' }:=by
 obtain⟨m,⟨o,es,ep,ho,r⟩,_⟩:=id I.loc
 obtain⟨sl,hL⟩:=u.any ho I.free λ z=>(BX _ z).2.1 rfl
 exact I.step (ch:=ch) BX (λ b o hL hb hc e n=>u.keep b o e n (λ z=>(Ak.mp (I.jw b z)).elim hL hb) hc) (λ b o _ _ hc e n=>u.any e n hc) (λ b o hc e n=>u.free b o e n hc) (λ b o hc e=>u.there b o e hc) u.wZ u.v9 u.vP (λ m' hm=>by
  obtain⟨o',es',ep',ho',r'⟩:=hm
  rw[ho] at ho';cases ho'
  exact⟨_,es',ep',hL,r'⟩) zl hg
def Inv.turned {t':Nat}{it:Addr}(I:Inv X pins σ H s) (k:∀ b o,b≠it->s.heap.get? b=some o->h'.get? b=some o) (hn:H it=none) (hL:it≠X.env.locals)
  (h1:it∈X.ex\/X.s₀.heap.objs.size<=it) (h2:∀ x c,X.env.cells.lookup x=some c->c≠it) (h3:∀ p∈X.pn++pins,p.1≠it):Inv X pins σ H { s with heap:=h',toks:=t' }:=by
 have nit:∀ b u,H b=some u->b≠it:=λ b u e z=>by rw[z,hn] at e;cases e
 refine I.step (g':=s.gens) (d':=s.drawn) (ch:=[it]) (λ b hb=>?_) (λ b o _ _ hc e _=>k b o (λ z=>hc (by simp[z])) e) (λ b o _ _ hc e _=>⟨o.slots,k b o (λ z=>hc (by simp[z])) e⟩) (λ _ _ _ _ n=>n)
  (λ b o hc e=>⟨o,k b o (λ z=>hc (by simp[z])) e⟩) (λ _ _ e=>e) (λ _ _ _ e=>e) (λ b ps e=>⟨#[],by rw[e];simp⟩) (λ m hm=>?_) (λ b u e=>?_) I.bare
 ·have e:b=it:=by simpa using hb
  subst e
  exact⟨h1,hL,h2,h3⟩
 ·obtain⟨o,es,ep,ho,r⟩:=hm
  exact⟨o,es,ep,k _ o (Ne.symm hL) ho,r⟩
 ·refine (I.zl b u e).w_ (λ c v hc q=>k c v ?_ q) (λ _ q=>q) λ _ _ q=>q
  rcases hc with z | z
  ·rw[z];exact nit b u e
  ·exact nit c _ z
def Inv.tok (I:Inv X pins σ H s) (t:Nat):Inv X pins σ H { s with toks:=t }:=I.un (h':=s.heap) (t':=t) Un.refl I.zl
theorem Inv.kept {t':Nat}(I:Inv X pins σ H s) (k:∀ b u,s.heap.get? b=some u->h'.get? b=some u):Inv X pins σ H { s with heap:=h',toks:=t' }:=I.un (Un.kept k) (I.zl.kept k)
theorem Inv.laid {a:Addr}{o:HO}{t':Nat}(I:Inv X pins σ H s) (k:∀ b u,s.heap.get? b=some u->h'.get? b=some u) (hp:s.heap.objs.size<=a) (new:yN X.prog X.w (upd H a o) h' a o):
  Inv X pins σ (upd H a o) { s with heap:=h',toks:=t' }:=I.un (Un.laid k hp (I.zl.fresh hp)) (I.zl.laid k hp new)
theorem Inv.write {x e:Addr}{o:HO}{t':Nat}(I:Inv X pins σ H s) (mu:mE (H x)) (he:e=x\/H e=some (.own x)) (k:∀ b u,b≠e->s.heap.get? b=some u->h'.get? b=some u) (B8:∃ u,h'.get? e=some u)
  (new:yN X.prog X.w (upd H x o) h' x o):Inv X pins σ (upd H x o) { s with heap:=h',toks:=t' }:=I.un (Un.write mu he k B8) (I.zl.write mu he k B8 new)
def Inv.iu {pins':List (Addr×Obj)}(I:Inv X pins σ H s) (h:∀ p∈pins',s.heap.get? p.1=some p.2/\H p.1=none/\p.1≠X.env.locals/\p.1∉X.fs/\∀ v,p.2.data≠.cell v):Inv X pins' σ H s:=
 ⟨I.ok,I.os,I.bare,I.base,I.loc,I.cell,I.free,I.wV,λ p hp=>(AU.mp hp).elim (λ z=>I.pin p (Cy _ z)) (h p),I.zl,I.len⟩
def iU {N:List Str}(hN:N.Nodup) {i j:Nat}{x:Str}(a:N[i]?=some x) (b:N[j]?=some x):i=j:=by
 obtain⟨h1,e1⟩:=AD.mp a
 obtain⟨h2,e2⟩:=AD.mp b
 exact (List.getElem_inj hN).mp (e1.trans e2.symm)
def Wz {M:Model}{A:Around}{E:Value->Shared->Prop}{i:Nat}{x:Str}{v:V}{u:Value}{Q:Unit->Shared->Prop}(I:Inv X pins σ H s) (hN:X.N.Nodup) (hi:X.N[i]?=some x) (hx:Loc X.env.scope x) (r:RelV v u)
  (h:∀ s',Inv X pins (σ.set i (some v)) H s'->(∃ a,Heap.SameBut a s.heap s'.heap/\(a=X.env.locals\/X.env.cells.lookup x=some a))->Q () s') (hf:X.fn x=true\/X.env.scope.names.lookup x=some .local:=by first | exact .inl rfl | exact .inr rfl | assumption):wpAny M A (storeName X.env x u) Q E s:=by
 obtain⟨m,hn,hl⟩:=id I.loc
 have A2:(X.env.scope.kind == .class||(X.env.scope.kind == .module&&X.env.locals != X.env.globals))=false:=by rw[I.ok.kind];rfl
 have hiσ:i < σ.length:=by rw[I.len];exact (AD.mp hi).1
 have uE:=I.uE
 have tracked:∀ {a:Addr}{h':Heap},(∃ o,s.heap.get? a=some o/\H a=none)->Heap.SameBut a s.heap h'->zZ X.prog X.w H h':=λ{a h'} ha hs b ob e=>by
  obtain⟨_,_,hfree⟩:=ha
  refine (I.zl b ob e).w_ (λ c w' hc q=>(hs.2 c ?_).trans q) (λ _ q=>q) λ _ _ q=>q
  rintro rfl
  rcases hc with rfl | hc
  ·rw[hfree] at e;cases e
  ·rw[hfree] at hc;cases hc
 rcases hx with hk | hk
 ·refine wpAny_storeName_local hk hn (λ h' hn' hs=>?_) A2
  obtain⟨oL,_,_,hoL,_⟩:=id hn
  refine h _ ⟨I.ok,I.os,I.bare,⟨λ b o e n hb hx=>?_,λ b o e n hb hx=>?_,I.base.free,λ b o e hx=>?_,I.base.wZ,I.base.v9,I.base.vP⟩,⟨_,hn',λ j y v' e1 e2 e3=>?_⟩,λ y c e=>?_,I.free,I.wV,λ p hp=>?_,tracked ⟨oL,hoL,I.free⟩ hs,by simpa using I.len⟩ ⟨_,hs,.inl rfl⟩
  ·exact (hs.2 b (Ap (AV (Ai e) I.ok.above))).trans (I.base.keep b o e n hb hx)
  ·obtain⟨sl,e1⟩:=I.base.slot b o e n hb hx
   exact⟨sl,(hs.2 b (Ap (AV (Ai e) I.ok.above))).trans e1⟩
  ·obtain⟨o',e1⟩:=I.base.there b o e hx
   exact⟨o',(hs.2 b (Ap (AV (Ai e) I.ok.above))).trans e1⟩
  ·by_cases hj:j=i
   ·subst hj
    rw[hi] at e1;cases e1
    rw[DU hiσ] at e2
    cases e2
    exact⟨u,r,.inl ⟨hk,by simp⟩⟩
   ·rw[DT (Ne.symm hj)] at e2
    obtain⟨u',r',q⟩:=hl j y v' e1 e2 e3
    refine⟨u',r',?_⟩
    rcases q with ⟨k,e⟩ | ⟨k,c,e,z⟩
    ·refine .inl ⟨k,?_⟩
     have:y≠x:=λ e=>hj (iU hN e1 (e▸hi))
     simp[this,e]
    ·exact .inr ⟨k,c,e,z.sameBut hs (uE y c e)⟩
  ·obtain⟨w',z⟩:=I.cell y c e
   exact⟨w',z.sameBut hs (uE y c e)⟩
  ·obtain⟨e,n,ne,nf,d⟩:=I.pin p hp
   exact⟨(hs.2 p.1 ne).trans e,n,ne,nf,d⟩
 ·have B7:X.fn x=true:=by
   rcases hf with z | z
   ·exact z
   ·rw[z] at hk;cases hk
  obtain⟨c,hc⟩:=I.ok.has x (.inl hk)
  obtain⟨w',z⟩:=I.cell x c hc
  refine wpAny_storeName_cell I.ok.kind hk hc z (λ h' hc' hs=>?_)
  obtain⟨oc,hoc,Ea⟩:=id z
  refine h { s with heap:=h' } ⟨I.ok,I.os,I.bare,⟨λ b o e n hb hx=>?_,λ b o e n hb hx=>?_,I.base.free,λ b o e hx=>?_,I.base.wZ,I.base.v9,I.base.vP⟩,⟨m,hn.sameBut hs (Ne.symm (uE x c hc)),λ j y v' e1 e2 e3=>?_⟩,λ y c' e=>?_,I.free,I.wV,λ p hp=>?_,tracked ⟨oc,hoc,I.wV x c hc⟩ hs,by simpa using I.len⟩ ⟨c,hs,.inr hc⟩
  ·exact (hs.2 b (Ap (AV (Ai e) (I.ok.qq x c B7 hc)))).trans (I.base.keep b o e n hb hx)
  ·obtain⟨sl,e1⟩:=I.base.slot b o e n hb hx
   exact⟨sl,(hs.2 b (Ap (AV (Ai e) (I.ok.qq x c B7 hc)))).trans e1⟩
  ·obtain⟨o',e1⟩:=I.base.there b o e hx
   exact⟨o',(hs.2 b (Ap (AV (Ai e) (I.ok.qq x c B7 hc)))).trans e1⟩
  ·by_cases hj:j=i
   ·subst hj
    rw[hi] at e1;cases e1
    rw[DU hiσ] at e2
    cases e2
    exact⟨u,r,.inr ⟨.inl hk,c,hc,hc'⟩⟩
   ·rw[DT (Ne.symm hj)] at e2
    obtain⟨u',r',q⟩:=hl j y v' e1 e2 e3
    refine⟨u',r',?_⟩
    rcases q with q | ⟨k,c',e,z'⟩
    ·exact .inl q
    ·refine .inr ⟨k,c',e,z'.sameBut hs ?_⟩
     rintro rfl
     exact hj (iU hN e1 (I.ok.inj _ _ _ e hc▸hi))
  ·by_cases Bm:c'=c
   ·subst Bm;exact⟨_,hc'⟩
   ·obtain⟨w2,z2⟩:=I.cell y c' e
    exact⟨w2,z2.sameBut hs Bm⟩
  ·obtain⟨e,n,ne,nf,d⟩:=I.pin p hp
   refine⟨(hs.2 p.1 ?_).trans e,n,ne,nf,d⟩
   intro q
   rw[q,hoc] at e
   have q':oc=p.2:=A4 e
   exact d w' (by rw[<- q'];exact Ea)
def o5 {M:Model}{A:Around}{E:Value->Shared->Prop}{i:Nat}{x:Str}{v:V}{u:Value}{Q:Unit->Shared->Prop}(I:Inv X pins σ H s) (hN:X.N.Nodup) (hi:X.N[i]?=some x) (hx:Loc X.env.scope x) (r:RelV v u)
  (h:∀ s',Inv X pins (σ.set i (some v)) H s'->Q () s') (hf:X.fn x=true\/X.env.scope.names.lookup x=some .local:=by first | exact .inl rfl | exact .inr rfl | assumption):wpAny M A (storeName X.env x u) Q E s:=
 Wz I hN hi hx r (λ s' I' _=>h s' I') hf
def Inv.Yi {s':Shared}{ch:List Addr}(I:Inv X pins σ H s) (ho:s'.os=s.os) (u:Un (yI X.stack) ch H H' s.heap s'.heap) (zl:zZ X.prog X.w H' s'.heap) (hg:AllBare s'.gens)
  (BX:∀ b∈ch,(b∈X.ex\/X.s₀.heap.objs.size<=b)/\b≠X.env.locals/\(∀ x c,X.env.cells.lookup x=some c->c≠b)/\∀ p∈X.pn++pins,p.1≠b):Inv X pins σ H' s':=by
 obtain⟨h',g',d',t',o'⟩:=s'
 have e:o'=s.os:=ho
 subst e
 exact I.call (g':=g') (t':=t') (d':=d') u zl hg BX
end
abbrev XK:=Value->Option Addr->Hp->Prop
abbrev St:=List (Option V)
abbrev VK:=V->Hp->Prop
abbrev TE:=St->Hp->VK->Prop
abbrev TT:=St->Hp->(Bool->Hp->Prop)->Prop
abbrev TA:=St->Hp->(List V->Hp->Prop)->Prop
structure Ends where
 nx:St->Hp->Prop
 rt:VK
 bk:St->Hp->Prop:=λ _ _=>False
 ct:St->Hp->Prop:=λ _ _=>False
abbrev TS:=Ends->St->Hp->Prop
def EP (X:Cx) (pins:List (Addr×Obj)) (σ:St) (Q:VK) (u:Value) (s':Shared):Prop:=∃ v H',Inv X pins σ H' s'/\RelV v u/\Q v H'
def TP (X:Cx) (pins:List (Addr×Obj)) (σ:St) (Q:Bool->Hp->Prop) (b:Bool) (s':Shared):Prop:=∃ H',Inv X pins σ H' s'/\Q b H'
def AP (X:Cx) (pins:List (Addr×Obj)) (σ:St) (Q:List V->Hp->Prop) (us:List Value) (s':Shared):Prop:=∃ vs H',Inv X pins σ H' s'/\Vals vs us/\Q vs H'
def SP (X:Cx) (pins:List (Addr×Obj)) (D:Ends) (f:Flow) (s':Shared):Prop:=
 match f with
 | .next=>∃ σ' H',Inv X pins σ' H' s'/\D.nx σ' H'
 | .brk=>∃ σ' H',Inv X pins σ' H' s'/\D.bk σ' H'
 | .cont=>∃ σ' H',Inv X pins σ' H' s'/\D.ct σ' H'
 | .ret u=>∃ v σ' H',Inv X pins σ' H' s'/\RelV v u/\D.rt v H'
def PE (X:Cx) (e:Expr) (t:TE):Prop:=
 ∀ (pins:List (Addr×Obj)) (s:Shared) (σ:St) (H:Hp) (Q:VK),Inv X pins σ H s->t σ H Q->wpAny (model X.prog X.w) X.A (eval e X.env) (EP X pins σ Q) X.xe s
def PT (X:Cx) (e:Expr) (t:TT):Prop:=
 ∀ (pins:List (Addr×Obj)) (s:Shared) (σ:St) (H:Hp) (Q:Bool->Hp->Prop),Inv X pins σ H s->t σ H Q->wpAny (model X.prog X.w) X.A (isTrue e X.env (eval e X.env)) (TP X pins σ Q) X.xe s
def PW (X:Cx) (e:Expr) (t:TT):Prop:=
 ∀ (whole:Sem Value) (pins:List (Addr×Obj)) (s:Shared) (σ:St) (H:Hp) (Q:Bool->Hp->Prop),Inv X pins σ H s->t σ H Q->wpAny (model X.prog X.w) X.A (isTrue e X.env whole) (TP X pins σ Q) X.xe s
def PW.pt {X:Cx}{e:Expr}{t:TT}(h:PW X e t):PT X e t:=h _
def PA (X:Cx) (es:List Expr) (t:TA):Prop:=
 ∀ (pos:Pos) (pins:List (Addr×Obj)) (s:Shared) (σ:St) (H:Hp) (Q:List V->Hp->Prop),Inv X pins σ H s->t σ H Q->wpAny (model X.prog X.w) X.A (spliced (backTo pos (starEach es X.env))) (AP X pins σ Q) X.xe s
def PS (X:Cx) (st:Stmt) (t:TS):Prop:=
 ∀ (pins:List (Addr×Obj)) (s:Shared) (σ:St) (H:Hp) (D:Ends),Inv X pins σ H s->t D σ H->wpAny (model X.prog X.w) X.A (exec st X.env) (SP X pins D) X.xe s
def xK (X:Cx) (st:List Stmt) (t:TS):Prop:=
 ∀ (pins:List (Addr×Obj)) (s:Shared) (σ:St) (H:Hp) (D:Ends),Inv X pins σ H s->t D σ H->wpAny (model X.prog X.w) X.A (execs st X.env) (SP X pins D) X.xe s
def zw {α:Type}{t:Sem α}{Q Q':α->Shared->Prop}{M:Model}{A:Around}{E:Value->Shared->Prop}{s:Shared}(h:wpAny M A t Q E s) (hQ:∀ a s,Q a s->Q' a s):wpAny M A t Q' E s:=za3 h hQ λ _ _ x=>x
section
variable {X:Cx}
def ox (i:Nat):TE:=fun σ H Q=>∃ v,σ[i]?=some (some v)/\Q v H
def tC (v:V):TE:=λ _ H Q=>Q v H
def VY {i:Nat}{x:Str}{pos:Pos}(hN:X.N[i]?=some x) (hv:m7 X.env.scope x) (hd:(x == ("__debug__":Str))=false:=by decide) (AW:(x == ("__classdict__":Str))=false:=by decide):PE X (.Name x pos) (ox i):=by
 intro pins s σ H Q I h
 obtain⟨v,e,h⟩:=h
 obtain⟨m,hn,hl⟩:=I.loc
 obtain⟨u,r,l⟩:=hl i x v hN e hv
 have fin:EP X pins σ Q u s:=⟨v,H,I,r,h⟩
 rcases l with ⟨hk,hm⟩ | ⟨hk,c,hc,hcell⟩
 ·exact wpAny_Name (wpAny_loadName_local I.ok.kind hk hn hm fin) hd
 ·rcases hk with hk | hk
  ·exact wpAny_Name (wpAny_loadName_cell I.ok.kind hk hc hcell fin) hd
  ·exact wpAny_Name (wpAny_loadName_free I.ok.kind hk hc hcell fin AW) hd
def Uj {i j pos}:PE X (.Constant (.int i) j pos) (tC (.int i)):=λ _ _ _ H _ I h=>wpAny_Constant_int ⟨.int i,H,I.tok _,⟨_,rfl⟩,h⟩
def Ut {b j pos}:PE X (.Constant (.bool b) j pos) (tC (.bl b)):=λ _ _ _ H _ I h=>Constant_bool ⟨.bl b,H,I,rfl,h⟩
def Ue {j pos}:PE X (.Constant .none j pos) (tC .zj):=λ _ _ _ H _ I h=>Constant_none ⟨.zj,H,I,rfl,h⟩
def Ua {x j pos}:PE X (.Constant (.str x) j pos) (tC (.str x)):=λ _ _ _ H _ I h=>Calls.Constant_str ⟨.str x,H,I.tok _,⟨_,rfl⟩,h⟩
def Gl (X:Cx) (x:Str):Prop:=X.env.kindOf x=some .globalImplicit
def nE {E:Value->Shared->Prop}{pins:List (Addr×Obj)}{s:Shared}{σ:St}{H:Hp}{x:Str}{u:Value}{pos:Pos}{Q:Value->Shared->Prop}(I:Inv X pins σ H s) (hg:Gl X x) (hm:X.mg x=some u) (h:Q u s)
  (hd:(x == ("__debug__":Str))=false:=by decide):wpAny (model X.prog X.w) X.A (eval (.Name x pos) X.env) Q E s:=
 Calls.Name_function_global I.ok.kind hg (Calls.loadGlobal_global (by rw[I.ok.glob];exact I.mod.glob.keeps I.bk) hm h) hd
def pz {E:Value->Shared->Prop}{pins:List (Addr×Obj)}{s:Shared}{σ:St}{H:Hp}{x:Str}{u:Value}{pos:Pos}{Q:Value->Shared->Prop}(I:Inv X pins σ H s) (hg:Gl X x) (hm:X.mg x=none) (hv:bootBuiltins x=some u) (h:Q u s)
  (hn:x≠"__name__":=by decide) (hd:(x == ("__debug__":Str))=false:=by decide):wpAny (model X.prog X.w) X.A (eval (.Name x pos) X.env) Q E s:=by
 obtain⟨mb,h1,h2⟩:=I.mod.blt
 exact Calls.Name_function_global I.ok.kind hg (Calls.loadGlobal_builtin (by rw[I.ok.glob];exact I.mod.glob.keeps I.bk) hm (by rw[I.ok.blt];exact h1.keeps I.bk) ((h2 x hn).trans hv) h) hd
def c_ {x:Str}{v:V}{u:Value}{pos:Pos}(hg:Gl X x) (hm:X.mg x=some u) (r:RelV v u) (hd:(x == ("__debug__":Str))=false:=by decide):PE X (.Name x pos) (tC v):=
 λ _ _ _ H _ I h=>nE I hg hm ⟨v,H,I,r,h⟩ hd
def bc {x:Str}{v:V}{u:Value}{pos:Pos}(hg:Gl X x) (hm:X.mg x=none) (hv:bootBuiltins x=some u) (r:RelV v u) (hn:x≠"__name__":=by decide) (hd:(x == ("__debug__":Str))=false:=by decide):PE X (.Name x pos) (tC v):=
 λ _ _ _ H _ I h=>pz I hg hm hv ⟨v,H,I,r,h⟩ hn hd
variable {a b:Expr}{ta tb:TE}{pos:Pos}
variable {tA tB':TT}{rest:List Expr}
def Ww (t u:TT):TT:=fun σ H Q=>t σ H λ c H1=>if c=true then u σ H1 Q else Q false H1
def Wi (t u:TT):TT:=fun σ H Q=>t σ H λ c H1=>if c=true then Q true H1 else u σ H1 Q
def Wk (t:TT):TT:=fun σ H Q=>t σ H λ c H1=>Q (!c) H1
def Vu (ha:PT X a tA):PW X (.BoolOp .And [a] pos) tA:=by
 intro wh pins s σ H Q I h
 refine isTrue_and (zw (ha pins s σ H Q I h) λ c s1 e=>?_)
 cases c with
 | true=>exact isTrue_and_nil e
 | false=>exact e
def Vs (ha:PT X a tA):PW X (.BoolOp .Or [a] pos) tA:=by
 intro wh pins s σ H Q I h
 refine isTrue_or (zw (ha pins s σ H Q I h) λ c s1 e=>?_)
 cases c with
 | false=>exact isTrue_or_nil e
 | true=>exact e
def Vv (ha:PT X a tA) (hb:PW X (.BoolOp .And (b::rest) pos) tB'):PW X (.BoolOp .And (a::b::rest) pos) (Ww tA tB'):=by
 intro wh pins s σ H Q I h
 refine isTrue_and (zw (ha pins s σ H _ I h) λ c s1 ⟨H1,I1,q1⟩=>?_)
 cases c with
 | true=>exact hb wh pins s1 σ H1 Q I1 q1
 | false=>exact⟨H1,I1,q1⟩
def Vt (ha:PT X a tA) (hb:PW X (.BoolOp .Or (b::rest) pos) tB'):PW X (.BoolOp .Or (a::b::rest) pos) (Wi tA tB'):=by
 intro wh pins s σ H Q I h
 refine isTrue_or (zw (ha pins s σ H _ I h) λ c s1 ⟨H1,I1,q1⟩=>?_)
 cases c with
 | true=>exact⟨H1,I1,q1⟩
 | false=>exact hb wh pins s1 σ H1 Q I1 q1
def V1 (ha:PT X a tA):PT X (.UnaryOp .Not a pos) (Wk tA):=by
 intro pins s σ H Q I h
 exact isTrue_not (ha pins s σ H (λ c H1=>Q (!c) H1) I h)
def Wv (ta tb:TE):TE:=fun σ H Q=>ta σ H λ x H1=>∃ c,x=.bl c/\if c=true then tb σ H1 Q else Q (.bl false) H1
def Wj (ta:TE):TE:=fun σ H Q=>ta σ H λ x H1=>∃ c,x=.bl c/\Q (.bl (!c)) H1
def Uc {op} {t:TE}(h:PE X a t):PE X (.BoolOp op [a] pos) t:=λ pins s σ H Q I hw=>BoolOp_one (h pins s σ H Q I hw)
def Uu (ha:PE X a ta) (hb:PE X (.BoolOp .And (b::rest) pos) tb):PE X (.BoolOp .And (a::b::rest) pos) (Wv ta tb):=by
 intro pins s σ H Q I h
 refine BoolOp_and (zw (ha pins s σ H _ I h) λ v s1 ⟨x,H1,I1,r1,q1⟩=>?_)
 obtain⟨c,rfl,q1⟩:=q1
 cases r1
 refine zaG ?_
 cases c with
 | true=>exact hb pins s1 σ H1 Q I1 q1
 | false=>exact⟨.bl false,H1,I1,rfl,q1⟩
def Ud (ha:PE X a ta):PE X (.UnaryOp .Not a pos) (Wj ta):=by
 intro pins s σ H Q I h
 refine UnaryOp_ (zw (ha pins s σ H _ I h) λ v s1 ⟨x,H1,I1,r1,q1⟩=>?_)
 obtain⟨c,rfl,q1⟩:=q1
 cases r1
 exact not_of (zaG ⟨.bl (!c),H1,I1,rfl,q1⟩)
def Wo (t:TT) (ta tb:TE):TE:=fun σ H Q=>t σ H λ c H1=>if c=true then ta σ H1 Q else tb σ H1 Q
def Uk {c:Expr}(hc:PT X c tA) (ha:PE X a ta) (hb:PE X b tb):PE X (.IfExp c a b pos) (Wo tA ta tb):=by
 intro pins s σ H Q I h
 refine wpAny_IfExp (zw (hc pins s σ H _ I h) λ d s1 ⟨H1,I1,q1⟩=>?_)
 cases d with
 | true=>exact ha pins s1 σ H1 Q I1 q1
 | false=>exact hb pins s1 σ H1 Q I1 q1
end
def zL (K:Ab) (H:Hp) (a:Addr) (xs:List V):Prop:=
 Rd H a (.lst xs)\/
  ∃ (o:Obj) (its:Array Value) (n:Nat),K.lookup a=some o/\o.cls=.type "list"/\o.dict=none/\o.data=.seq its n/\its.size<=sizeLine/\Vals xs its.toList
def zR (K:Ab) (H:Hp) (a:Addr) (xs:List V):Prop:=
 Rd H a (.tup xs)\/
  ∃ (o:Obj) (its:Array Value) (n:Nat),K.lookup a=some o/\o.cls=.type "tuple"/\o.data=.seq its n/\its.size<=sizeLine/\Vals xs its.toList
noncomputable def Nh:Value->Option V
 | .none=>some .zj
 | .bool b=>some (.bl b)
 | .int i _=>some (.int i)
 | .str x _=>some (.str x)
 | .bytes b _=>some (.mn b)
 | .float b _=>some (.gU b)
 | .ref a=>some (.ref a)
 | .type n=>some (.ty n)
 | _=>none
def RelV.abs {x:V}{u:Value}(r:RelV x u):Nh u=some x:=by
 cases x with
 | zj=>cases r;rfl
 | bl _=>cases r;rfl
 | ref _=>cases r;rfl
 | ty _=>cases r;rfl
 | _=>obtain⟨t,rfl⟩:=r;rfl
theorem RelV.inj {x y:V}{u:Value}(r:RelV x u) (q:RelV y u):x=y:=A4 (r.abs.symm.trans q.abs)
theorem Vals.inj:∀ {xs ys:List V}{us:List Value},Vals xs us->Vals ys us->xs=ys
 | _,_,_,.nil,.nil=>rfl
 | _,_,_,.cons r t,.cons r' t'=>by rw[r.inj r',Vals.inj t t']
section
variable {X:Cx}{pins:List (Addr×Obj)}{σ:St}{H:Hp}{s:Shared}{a:Addr}{xs ys:List V}
def zL.of {K:Ab}(h:H a=some (.lst xs)):zL K H a xs:=.inl (.inl h)
def zR.of {K:Ab}(h:H a=some (.tup xs)):zR K H a xs:=.inl (.inl h)
def Inv.list (I:Inv X pins σ H s) (h:zL X.K H a xs):∃ its:List Value,Vals xs its/\PlainL s.heap a its.toArray/\xs.length<=sizeLine:=by
 rcases h with h | ⟨o,its,n,hk,hc,hd,hs,hz,r⟩
 ·obtain⟨z,its,n,r,e⟩:=h.ok I.zl
  exact⟨its,r,⟨_,n,e,rfl,rfl,rfl⟩,z⟩
 ·refine⟨its.toList,r,⟨o,n,I.yz a o hk,hc,hd,by simpa using hs⟩,?_⟩
  have e:=r.length
  simp only[Br] at e
  lia
def Inv.tuple (I:Inv X pins σ H s) (h:zR X.K H a xs):∃ its:List Value,Vals xs its/\IsTup s.heap a its.toArray/\xs.length<=sizeLine:=by
 rcases h with h | ⟨o,its,n,hk,hc,hs,hz,r⟩
 ·obtain⟨z,its,r,p⟩:=h.ok I.zl
  exact⟨its,r,p,z⟩
 ·refine⟨its.toList,r,⟨o,I.yz a o hk,hc,n,by simpa using hs⟩,?_⟩
  have e:=r.length
  simp only[Br] at e
  lia
def Inv.h_ (I:Inv X pins σ H s) (h:zL X.K H a xs) (h':zL X.K H a ys):xs=ys:=by
 obtain⟨its,r,⟨o,n,e,_,_,d⟩,_⟩:=I.list h
 obtain⟨AB,r',⟨o',n',e',_,_,d'⟩,_⟩:=I.list h'
 rw[e] at e';cases e'
 rw[d] at d'
 injection d' with d1 _
 have:its=AB:=by simpa using congrArg Array.toList d1
 subst this
 exact r.inj r'
def Inv.jq (I:Inv X pins σ H s) (h:zR X.K H a xs) (h':zR X.K H a ys):xs=ys:=by
 obtain⟨its,r,⟨o,e,_,n,d⟩,_⟩:=I.tuple h
 obtain⟨AB,r',⟨o',e',_,n',d'⟩,_⟩:=I.tuple h'
 rw[e] at e';cases e'
 rw[d] at d'
 injection d' with d1 _
 have:its=AB:=by simpa using congrArg Array.toList d1
 subst this
 exact r.inj r'
end
abbrev Cx.uN (X:Cx) (E:Value->Shared->Prop):Cx:={ X with xe:=E }
abbrev Cx.vy (X:Cx):Cx:=X.uN λ _ _=>False
theorem Cx.Ok.uN {X:Cx}(ok:X.Ok) (E:Value->Shared->Prop):(X.uN E).Ok:=
 ⟨ok.mod,ok.kind,ok.glob,ok.blt,ok.above,ok.inj,ok.has,ok.qq,ok.hd,ok.frames,ok.qL,ok.nP,ok.bs,ok.tp,ok.qe,ok.qm,ok.vf,ok.tY⟩
def Cx.Ok.qK {X:Cx}{E:Value->Shared->Prop}(ok:(X.uN E).Ok):X.Ok:=
 ⟨ok.mod,ok.kind,ok.glob,ok.blt,ok.above,ok.inj,ok.has,ok.qq,ok.hd,ok.frames,ok.qL,ok.nP,ok.bs,ok.tp,ok.qe,ok.qm,ok.vf,ok.tY⟩
section
variable {X:Cx}{pins:List (Addr×Obj)}{σ:St}{H:Hp}{s:Shared}{E:Value->Shared->Prop}
theorem Inv.uN (I:Inv X pins σ H s) (E:Value->Shared->Prop):Inv (X.uN E) pins σ H s:=⟨I.ok.uN E,I.os,I.bare,I.base,I.loc,I.cell,I.free,I.wV,I.pin,I.zl,I.len⟩
theorem Inv.qK (I:Inv (X.uN E) pins σ H s):Inv X pins σ H s:=⟨I.ok.qK,I.os,I.bare,I.base,I.loc,I.cell,I.free,I.wV,I.pin,I.zl,I.len⟩
theorem SP.qK {D:Ends}{f:Flow}{s':Shared}(h:SP (X.uN E) pins D f s'):SP X pins D f s':=by
 cases f with
 | ret u=>obtain⟨v,σ',H',I,r,q⟩:=h;exact⟨v,σ',H',I.qK,r,q⟩
 | _=>obtain⟨σ',H',I,q⟩:=h;exact⟨σ',H',I.qK,q⟩
theorem xK.vy {st:List Stmt}{t:TS}(h:xK X.vy st t):xK X st t:=λ pins s σ H D I hw=>
 za3 (h pins s σ H D (I.uN _) hw) (λ _ _ q=>q.qK) λ _ _ z=>False.elim z
end
section
variable {X:Cx}{st:Stmt}{rest:List Stmt}{t u:TS}{e:Expr}{te:TE}{pos:Pos}
def Wl:TS:=λ D σ H=>D.nx σ H
def Wf (t u:TS):TS:=λ D σ H=>t { D with nx:=u D } σ H
def V4:xK X [] Wl:=λ _ _ σ H _ I h=>zaH ⟨σ,H,I,h⟩
def V5 (h1:PS X st t) (h2:xK X rest u):xK X (st::rest) (Wf t u):=by
 intro pins s σ H D I h
 refine wpAny_execs_cons (zw (h1 pins s σ H { D with nx:=u D } I h) λ f s1 q=>?_)
 cases f with
 | next=>
  obtain⟨σ',H',I',q⟩:=q
  exact h2 pins s1 σ' H' D I' q
 | ret v=>exact q
 | _=>exact q
def iq (h1:PS X st t):xK X [st] t:=by
 intro pins s σ H D I h
 refine wpAny_execs_cons (zw (h1 pins s σ H D I h) λ f s1 q=>?_)
 cases f with
 | next=>exact zaH q
 | ret v=>exact q
 | _=>exact q
def Inv.quiet {pins:List (Addr×Obj)}{σ:St}{H:Hp}{s:Shared}(I:Inv X pins σ H s):interactive X.env=false:=by simp[interactive,I.ok.kind]
def Wr (te:TE):TS:=λ D σ H=>te σ H λ _ H1=>D.nx σ H1
def VC (he:PE X e te) (hs:swapsWith e none pos.line X.env=pure false:=by rfl):PS X (.Expr e pos) (Wr te):=by
 intro pins s σ H D I h
 exact wpAny_Expr_any (zw (he pins s σ H _ I h) λ v s1 ⟨x,H1,I1,r1,q1⟩=>⟨σ,H1,I1,q1⟩) I.quiet hs
def Wh (te:TE):TS:=λ D σ H=>te σ H D.rt
def V9 (he:PE X e te):PS X (.Return (some e) pos) (Wh te):=by
 intro pins s σ H D I h
 exact wpAny_Return_some (zw (he pins s σ H _ I h) λ v s1 ⟨x,H1,I1,r1,q1⟩=>⟨x,σ,H1,I1,r1,q1⟩)
def Wn (c:TT) (t u:TS):TS:=λ D σ H=>c σ H λ b H1=>if b=true then t D σ H1 else u D σ H1
def VA {c:Expr}{a b:List Stmt}{tc:TT}(hc:PT X c tc) (ha:xK X a t) (hb:xK X b u):PS X (.If c a b pos) (Wn tc t u):=by
 intro pins s σ H D I h
 refine wpAny_If (zw (hc pins s σ H _ I h) λ d s1 ⟨H1,I1,q1⟩=>?_)
 cases d with
 | true=>exact ha pins s1 σ H1 D I1 q1
 | false=>exact hb pins s1 σ H1 D I1 q1
end
abbrev TG:=V->St->Hp->(St->Hp->Prop)->Prop
abbrev sA:=List V->St->Hp->(St->Hp->Prop)->Prop
def PG (X:Cx) (target:Expr) (t:TG):Prop:=
 ∀ (pins:List (Addr×Obj)) (s:Shared) (σ:St) (H:Hp) (v:V) (u:Value) (Q:St->Hp->Prop),Inv X pins σ H s->RelV v u->t v σ H Q->
  wpAny (model X.prog X.w) X.A (assign target X.env u) (λ _ s'=>∃ σ' H',Inv X pins σ' H' s'/\Q σ' H') X.xe s
def t8 (X:Cx) (ts:List Expr) (t:sA):Prop:=
 ∀ (pins:List (Addr×Obj)) (s:Shared) (σ:St) (H:Hp) (vs:List V) (us:List Value) (Q:St->Hp->Prop),Inv X pins σ H s->Vals vs us->t vs σ H Q->
  wpAny (model X.prog X.w) X.A (assignInOrder ((assignEach ts X.env).map (·.2)) us) (λ _ s'=>∃ σ' H',Inv X pins σ' H' s'/\Q σ' H') X.xe s
abbrev fX:=V->V->V->Hp->(Hp->Prop)->Prop
def Y4 (X:Cx) (t:fX):Prop:=
 ∀ (pins:List (Addr×Obj)) (s:Shared) (σ:St) (H:Hp) (o i v:V) (ov iv u:Value) (Q:Hp->Prop),Inv X pins σ H s->RelV o ov->RelV i iv->RelV v u->t o i v H Q->
  wpAny (model X.prog X.w) X.A (setItem ov iv u) (λ _ s'=>∃ H',Inv X pins σ H' s'/\Q H') X.xe s
section
variable {X:Cx}{pos:Pos}
noncomputable def pD (i:Nat):TG:=λ v σ H Q=>Q (σ.set i (some v)) H
def VU {i:Nat}{x:Str}(hN:X.N.Nodup) (hi:X.N[i]?=some x) (hx:Loc X.env.scope x) (hf:X.fn x=true\/X.env.scope.names.lookup x=some .local:=by first | exact .inl rfl | exact .inr rfl | assumption):PG X (.Name x pos) (pD i):=by
 intro pins s σ H v u Q I r h
 exact wpAny_assign_Name (o5 I hN hi hx r (λ s' I'=>⟨_,H,I',h⟩) hf)
noncomputable def Ph:sA:=λ vs σ H Q=>vs=[]/\Q σ H
noncomputable def Pj (t:TG) (u:sA):sA:=λ vs σ H Q=>∃ v r,vs=v::r/\t v σ H fun σ' H'=>u r σ' H' Q
def VQ:t8 X [] Ph:=by
 intro pins s σ H vs us Q I r h
 obtain⟨e,h⟩:=h
 subst e
 cases r
 exact assignInOrder_nil ⟨σ,H,I,h⟩
def VR {e:Expr}{es:List Expr}{t:TG}{u:sA}(h1:PG X e t) (h2:t8 X es u)
  (hs:(assignEach (e::es) X.env).map (·.2)=assign e X.env::(assignEach es X.env).map (·.2):=by rfl):t8 X (e::es) (Pj t u):=by
 intro pins s σ H vs us Q I r h
 obtain⟨v,vr,e1,h⟩:=h
 subst e1
 cases r with
 | cons r rr=>
  rw[hs]
  refine assignInOrder_cons (zw (h1 pins s σ H _ _ _ I r h) λ _ s1 ⟨σ1,H1,I1,q1⟩=>?_)
  exact h2 pins s1 σ1 H1 _ _ Q I1 rr q1
noncomputable def Zo (K:Ab) (n:Nat) (t:sA):TG:=λ v σ H Q=>∃ a xs,v=.ref a/\zR K H a xs/\xs.length=n/\t xs σ H Q
def VS {es:List Expr}{k:Nat}{t:sA}{n:Nat}(hc:X.calm=true) (h:t8 X es t)
  (hn:(assignEach es X.env).length=n:=by rfl) (Ay:(assignEach es X.env).findIdx? (·.1)=none:=by rfl):PG X (.Tuple es k pos) (Zo X.K n t):=by
 intro pins s σ H v u Q I r hw
 obtain⟨a,xs,e1,hq,hl,hw⟩:=hw
 subst e1
 cases r
 obtain⟨its,rv,ht,hz⟩:=I.tuple hq
 refine assign_Tuple_tuple (I.ok.hd hc) ht (by simp[hn,<- hl,rv.length]) Ay λ h' hx=>?_
 have I1:Inv X pins σ H { s with heap:=h' }:=I.kept (t':=s.toks) λ b o e=>hx b o (Ap (Ai e)) e
 exact h pins _ σ H xs _ Q I1 (by simpa using rv) hw
noncomputable def Pg (to ti:TE) (t:fX):TG:=λ v σ H Q=>to σ H λ o H1=>ti σ H1 λ i H2=>t o i v H2 λ H3=>Q σ H3
def VT {o i:Expr}{to ti:TE}{t:fX}(ho:PE X o to) (hi:PE X i ti) (hs:Y4 X t)
  (ha:∀ v,assign (.Subscript o i pos) X.env v=(do
   let ov <- holding [v] (eval o X.env)
   let iv <- holding [v,ov] (eval i X.env)
   standAt pos
   holding [v,ov,iv] (setItem ov iv v)
   release [v,ov,iv] []):=by intro _;rfl):PG X (.Subscript o i pos) (Pg to ti t):=by
 intro pins s σ H v u Q I r h
 rw[ha]
 refine za0 (za5 (zw (ho pins s σ H _ I h) λ ov s1 ⟨x,H1,I1,r1,q1⟩=>?_))
 refine za0 (za5 (zw (hi pins s1 σ H1 _ I1 q1) λ iv s2 ⟨y,H2,I2,r2,q2⟩=>?_))
 refine za0 (wpAny_standAt (za0 (za5 (zw (hs pins s2 σ H2 x y v ov iv u _ I2 r1 r2 r q2) λ _ s3 ⟨H3,I3,q3⟩=>?_))))
 exact wpAny_release ⟨σ,H3,I3,q3⟩
def oz (te:TE) (g:TG):TS:=λ D σ H=>te σ H λ x H1=>g x σ H1 D.nx
def cV {tg e:Expr}{te:TE}{g:TG}(he:PE X e te) (hg:PG X tg g) (hs:swapsWithSole [tg] e pos.line X.env=pure false:=by rfl) (hw:swappedStores [tg] e X.env=pure none:=by rfl)
  (h1:(assignEach [tg] X.env).map (·.2)=[assign tg X.env]:=by rfl):PS X (.Assign [tg] e pos) (oz te g):=by
 intro pins s σ H D I h
 refine wpAny_Assign_stores (zw (he pins s σ H _ I h) λ v s1 ⟨x,H1,I1,r1,q1⟩=>?_) hs hw
 rw[h1]
 exact zw (hg pins s1 σ H1 x v _ I1 r1 q1) λ _ s2 q=>q
def cU {i:Nat}{x:Str}{e:Expr}{te:TE}{pos':Pos}(hN:X.N.Nodup) (hi:X.N[i]?=some x) (hx:Loc X.env.scope x) (he:PE X e te) (hs:swapsWith e (some (.Name x pos')) pos.line X.env=pure false:=by rfl) (hf:X.fn x=true\/X.env.scope.names.lookup x=some .local:=by first | exact .inl rfl | exact .inr rfl | assumption):
  PS X (.Assign [.Name x pos'] e pos) (oz te (pD i)):=by
 intro pins s σ H D I h
 refine wpAny_Assign_Name (zw (he pins s σ H _ I h) λ v s1 ⟨y,H1,I1,r1,q1⟩=>?_) hs
 exact o5 I1 hN hi hx r1 (λ s2 I2=>⟨_,H1,I2,q1⟩) hf
def Wc (c:TT) (tb:TS):TS:=λ D σ H=>∃ W:Nat->St->Hp->Prop,(∃ m,W m σ H)/\∀ m σ H,W m σ H->
 c σ H λ b H1=>if b=true then ∃ N:St->Hp->Prop,(∀ σ' H',N σ' H'->∃ m',m'<m/\W m' σ' H')/\tb { D with nx:=N,ct:=N,bk:=D.nx } σ H1 else D.nx σ H1
def V6 {c:Expr}{body:List Stmt}{tc:TT}{tb:TS}(hp:PassesOwn (model X.prog X.w) X.A X.env X.xe) (hc:PT X c tc) (hb:xK X body tb):PS X (.While c body [] pos) (Wc tc tb):=by
 intro pins s σ H D I h
 obtain⟨W,⟨m0,w0⟩,turn⟩:=h
 refine wpAny_While (codeAny_whileLoop (λ n s'=>∃ σ' H',Inv X pins σ' H' s'/\W n σ' H') ?_ m0 ⟨σ,H,I,w0⟩)
 rintro n s1 ⟨σ1,H1,I1,w1⟩
 refine zaI hp (zw (hc pins s1 σ1 H1 _ I1 (turn n σ1 H1 w1)) λ b s2 ⟨H2,I2,q2⟩=>?_)
 cases b with
 | true=>
  obtain⟨N,hN,q2⟩:=q2
  rw[if_pos rfl]
  refine zaI hp (zw (hb pins s2 σ1 H2 _ I2 q2) λ f s3 q3=>?_)
  cases f with
  | next=>
   obtain⟨σ3,H3,I3,n3⟩:=q3
   obtain⟨m',hm,w3⟩:=hN σ3 H3 n3
   exact⟨m',hm,σ3,H3,I3,w3⟩
  | cont=>
   obtain⟨σ3,H3,I3,n3⟩:=q3
   obtain⟨m',hm,w3⟩:=hN σ3 H3 n3
   exact⟨m',hm,σ3,H3,I3,w3⟩
  | brk=>exact q3
  | ret v=>exact q3
 | false=>
  rw[if_neg BE]
  exact zaH ⟨σ1,H2,I2,q2⟩
end
structure It where
 go:Nat->Hp->Prop
 qI:Nat->Hp->V->Hp->Prop
 stop:Nat->Hp->Prop
def vK (X:Cx) (pins:List (Addr×Obj)) (H:Hp) (b:Addr):Prop:=
 H b=none/\b≠X.env.locals/\b∉X.fs/\(b∈X.ex\/X.s₀.heap.objs.size<=b)/\(∀ x c,X.env.cells.lookup x=some c->c≠b)/\∀ p∈X.pn++pins,p.1≠b
def Inv.gQ {X:Cx}{pins:List (Addr×Obj)}{σ:St}{H H':Hp}{s:Shared}{b:Addr}(I:Inv X pins σ H s) (hb:s.heap.objs.size<=b) (hn:H' b=none):vK X pins H' b:=by
 refine⟨hn,BB (AV I.lt hb),I.bU hb,.inr (Bp I.sz hb),λ x c e z=>?_,λ p hp z=>?_⟩
 ·obtain⟨v,q⟩:=I.cell x c e
  exact absurd (AV q.lt (by rw[z];exact hb)) (Cf _)
 ·exact absurd (AV (Ai (I.pin p hp).1) (by rw[z];exact hb)) (Cf _)
structure Turn (P:Program) (w:World) (K:Ab) (tg:Expr) (J:It) (fp:List Addr) (it:Addr) (tn:Nat->Heap->Prop):Prop where
 mem:it∈fp
 obj:∀ i h,tn i h->∀ b∈fp,∃ o,h.get? b=some o/\∀ v,o.data≠.cell v
 keep:∀ i h h',tn i h->(∀ b∈fp,∀ o,h.get? b=some o->h'.get? b=some o)->tn i h'
 item:∀ (X:Cx),X.prog=P->X.w=w->X.K=K->X.calm=true->∀ (i:Nat) (pins:List (Addr×Obj)) (s:Shared) (σ:St) (H:Hp) (E:Value->Shared->Prop),Inv X pins σ H s->(∀ b∈fp,vK X pins H b)->tn i s.heap->J.go i H->
  wpAny (model P w) X.A (pyNext (.ref it)) (λ r s1=>∃ u,r=some u/\
   wpAny (model P w) X.A (letOwnedTupleGo tg (.ref it) u) (λ _ s2=>∃ x H',Inv X pins σ H' s2/\RelV x u/\J.qI i H x H'/\tn (i+1) s2.heap/\∀ b∈fp,H' b=none) E s1) E s
 done:∀ (X:Cx),X.prog=P->X.w=w->X.K=K->X.calm=true->∀ (i:Nat) (pins:List (Addr×Obj)) (s:Shared) (σ:St) (H:Hp) (E:Value->Shared->Prop),Inv X pins σ H s->(∀ b∈fp,vK X pins H b)->tn i s.heap->J.stop i H->
  wpAny (model P w) X.A (pyNext (.ref it)) (λ r s1=>r=none/\Inv X pins σ H s1) E s
 self:∀ (A:Around) (i:Nat) (s:Shared) (Q:Value->Shared->Prop) (E:Value->Shared->Prop),tn i s.heap->Q (.ref it) s->wpAny (model P w) A (pyIter (.ref it)) Q E s
abbrev TI:=St->Hp->(It->Hp->Prop)->Prop
def Y5 (X:Cx) (pins:List (Addr×Obj)) (σ:St) (tg:Expr) (R:It->Hp->Prop) (itv:Value) (s2:Shared):Prop:=
 ∃ (it:Addr) (fp:List Addr) (tn:Nat->Heap->Prop) (J:It) (H':Hp),itv=.ref it/\Inv X pins σ H' s2/\Turn X.prog X.w X.K tg J fp it tn/\tn 0 s2.heap/\(∀ b∈fp,vK X pins H' b)/\R J H'
def PI (X:Cx) (tg iter:Expr) (wi:TI):Prop:=
 ∀ (pins:List (Addr×Obj)) (s:Shared) (σ:St) (H:Hp) (R:It->Hp->Prop),Inv X pins σ H s->wi σ H R->
  wpAny (model X.prog X.w) X.A (eval iter X.env) (λ v s1=>wpAny (model X.prog X.w) X.A (pyIter v) (Y5 X pins σ tg R) X.xe s1) X.xe s
def gG {M:Model}{A:Around}{E:Value->Shared->Prop}{s:Shared}{tg:Expr}{it:Addr}{u:Value}{o:Obj}{n:String}{vs:Array Value}{Q:Unit->Shared->Prop}(ho:s.heap.get? it=some o) (hc:o.cls=.type n) (hd:o.data=.fields vs)
  (hn:["enumerate","zip","dict_itemiterator","dict_reverseitemiterator","odict_iterator","itertools.zip_longest","itertools.pairwise"].contains n=false) (hQ:Q () s):wpAny M A (letOwnedTupleGo tg (.ref it) u) Q E s:=by
 unfold letOwnedTupleGo
 cases tg <;> first
  | exact Ac hQ
  | (cases u <;> first
    | exact Ac hQ
    | (refine za0 (wpAny_load ho ?_)
       rw[hc,hd]
       show wpAny M A (if (["enumerate","zip","dict_itemiterator","dict_reverseitemiterator","odict_iterator","itertools.zip_longest","itertools.pairwise"].contains n&&vs[0]? == some (rawInt _))=true then _ else _) Q E s
       rw[if_neg (by intro h;rw[hn,Bool.false_and] at h;cases h)]
       exact Ac hQ))
def YA (K:Ab) (a:Addr):It:=
 ⟨λ i H=>∃ xs x,zL K H a xs/\xs[i]?=some x,λ i H x H'=>H'=H/\∀ xs,zL K H a xs->xs[i]?=some x,λ i H=>∃ xs,zL K H a xs/\xs.length<=i⟩
def Y9 (K:Ab) (a:Addr):It:=
 ⟨λ i H=>∃ xs x,zR K H a xs/\xs[i]?=some x,λ i H x H'=>H'=H/\∀ xs,zR K H a xs->xs[i]?=some x,λ i H=>∃ xs,zR K H a xs/\xs.length<=i⟩
def mG (lo:Int) (n:Nat):It:=⟨λ i _=>i<n,λ i H x H'=>H'=H/\x=.int (lo+i),λ i _=>n<=i⟩
def XX {P:Program}{w:World}{K:Ab}{tg:Expr}(a it:Addr):Turn P w K tg (YA K a) [it] it (λ i h=>h.IsListIter it a i) where
 mem:=by simp
 obj:=λ i h st b hb=>by
  have e:b=it:=by simpa using hb
  subst e
  obtain⟨o,e,c,d⟩:=st
  exact⟨o,e,λ v z=>by rw[d] at z;cases z⟩
 keep:=λ i h h' st k=>st.at λ o e=>k it (by simp) o e
 item:=by
  intro X hP hw hK hc i pins s σ H E I hf st hg
  subst hP hw hK
  obtain⟨xs,x,hq,hx⟩:=hg
  obtain⟨its,rv,p,hz⟩:=I.list hq
  obtain⟨u,hu,ru⟩:=rv.get hx
  obtain⟨f0,f1,f2,f3,f4,f5⟩:=hf it (by simp)
  refine wpAny_pyNext_list_item st p.isList (x:=u) (by simpa using hu) λ h' st' sb=>?_
  have I1:Inv X pins σ H { s with heap:=h' }:=I.turned (t':=s.toks) (λ b o hb e=>(sb.2 b hb).trans e) f0 f1 f3 f4 f5
  obtain⟨o,e,c,d⟩:=id st'
  exact⟨u,rfl,gG (s:={ s with heap:=h' }) e c d (by decide) ⟨x,H,I1,ru,⟨rfl,λ ys hy=>by rw[I.h_ hy hq];exact hx⟩,st',λ b hb=>(hf b hb).1⟩⟩
 done:=by
  intro X hP hw hK hc i pins s σ H E I hf st hg
  subst hP hw hK
  obtain⟨xs,hq,hx⟩:=hg
  obtain⟨its,rv,p,hz⟩:=I.list hq
  obtain⟨f0,f1,f2,f3,f4,f5⟩:=hf it (by simp)
  have hl:=rv.length
  exact wpAny_pyNext_list_end (I.ok.hd hc) st p.isList (by simp;lia) λ h' eb=>⟨rfl,I.turned (t':=s.toks) (λ b o hb e=>eb b o hb e) f0 f1 f3 f4 f5⟩
 self:=λ _ _ _ _ _ st h=>wpAny_pyIter_listiter st h
def XU {P:Program}{w:World}{K:Ab}{tg:Expr}(a it:Addr):Turn P w K tg (Y9 K a) [it] it (λ i h=>h.IsTupleIter it a i) where
 mem:=by simp
 obj:=λ i h st b hb=>by
  have e:b=it:=by simpa using hb
  subst e
  obtain⟨o,e,c,d⟩:=st
  exact⟨o,e,λ v z=>by rw[d] at z;cases z⟩
 keep:=λ i h h' st k=>st.at λ o e=>k it (by simp) o e
 item:=by
  intro X hP hw hK hc i pins s σ H E I hf st hg
  subst hP hw hK
  obtain⟨xs,x,hq,hx⟩:=hg
  obtain⟨its,rv,p,hz⟩:=I.tuple hq
  obtain⟨u,hu,ru⟩:=rv.get hx
  obtain⟨f0,f1,f2,f3,f4,f5⟩:=hf it (by simp)
  refine wpAny_pyNext_tuple_item st (show s.heap.IsTuple a its.toArray from p) (x:=u) (by simpa using hu) λ h' st' sb=>?_
  have I1:Inv X pins σ H { s with heap:=h' }:=I.turned (t':=s.toks) (λ b o hb e=>(sb.2 b hb).trans e) f0 f1 f3 f4 f5
  obtain⟨o,e,c,d⟩:=id st'
  exact⟨u,rfl,gG (s:={ s with heap:=h' }) e c d (by decide) ⟨x,H,I1,ru,⟨rfl,λ ys hy=>by rw[I.jq hy hq];exact hx⟩,st',λ b hb=>(hf b hb).1⟩⟩
 done:=by
  intro X hP hw hK hc i pins s σ H E I hf st hg
  subst hP hw hK
  obtain⟨xs,hq,hx⟩:=hg
  obtain⟨its,rv,p,hz⟩:=I.tuple hq
  obtain⟨f0,f1,f2,f3,f4,f5⟩:=hf it (by simp)
  have hl:=rv.length
  exact wpAny_pyNext_tuple_end (I.ok.hd hc) st (show s.heap.IsTuple a its.toArray from p) (by simp;lia) λ h' eb=>⟨rfl,I.turned (t':=s.toks) (λ b o hb e=>eb b o hb e) f0 f1 f3 f4 f5⟩
 self:=λ _ _ _ _ _ st h=>wpAny_pyIter_tupleiter st h
def XW {P:Program}{w:World}{K:Ab}{tg:Expr}(it:Addr) (lo:Int) (n:Nat):Turn P w K tg (mG lo n) [it] it (λ i h=>IsRangeIter h it (lo+(i:Nat)*1) ((n:Int)-(i:Nat)) 1) where
 mem:=by simp
 obj:=λ i h st b hb=>by
  have e:b=it:=by simpa using hb
  subst e
  exact⟨_,st,λ v z=>by
   have z':Data.fields _=Data.cell v:=z
   cases z'⟩
 keep:=λ i h h' st k=>k it (by simp) _ st
 item:=by
  intro X hP hw hK hc i pins s σ H E I hf st hg
  subst hP hw hK
  obtain⟨f0,f1,f2,f3,f4,f5⟩:=hf it (by simp)
  have W:=Walks.range (prog:=X.prog) (w:=X.w) (I.ok.hd hc) it lo 1 n
  refine W.item i s _ _ hg st λ v h' tk hv st' kk=>?_
  obtain⟨t,rfl⟩:=hv
  have I1:Inv X pins σ H { s with heap:=h',toks:=tk }:=I.turned (λ b o hb e=>kk b o (by simpa using hb) e) f0 f1 f3 f4 f5
  refine⟨_,rfl,gG (s:={ s with heap:=h',toks:=tk }) (n:="range_iterator") st' rfl rfl (by decide) ⟨.int (lo+i),H,I1,⟨t,?_⟩,⟨rfl,rfl⟩,st',λ b hb=>(hf b hb).1⟩⟩
  rw[Int.mul_one]
 done:=by
  intro X hP hw hK hc i pins s σ H E I hf st hg
  subst hP hw hK
  obtain⟨f0,f1,f2,f3,f4,f5⟩:=hf it (by simp)
  exact wpAny_pyNext_range_end (I.ok.hd hc) st (by have:n<=i:=hg;lia) λ h' eb=>⟨rfl,I.turned (t':=s.toks) (λ b o hb e=>eb b o hb e) f0 f1 f3 f4 f5⟩
 self:=λ _ _ _ _ _ st h=>wpAny_pyIter_rangeiter st h
section
variable {X:Cx}{tg:Expr}
def cF {pins:List (Addr×Obj)}{σ:St}{H:Hp}{s:Shared}{R:It->Hp->Prop}{E:Value->Shared->Prop}{lo hi:Int}{t u v:Tok}{tk:Nat}(I:Inv X pins σ H s) (h1:-(2 ^ 62)<=lo) (h2:lo<2 ^ 62) (h3:-(2 ^ 62)<=hi) (h4:hi<2 ^ 62)
  (q:R (mG lo (hi-lo).toNat) H):wpAny (model X.prog X.w) X.A (pyIter (.ref s.heap.objs.size)) (Y5 X pins σ tg R) E { s with heap:=s.heap.push { cls:=.type "range",data:=.fields #[.int lo t,.int hi u,.int 1 v] },toks:=tk }:=by
 refine wpAny_pyIter_range (IsRange.new ..) (small_one h1 h2 h3 h4) ?_
 have I1:Inv X pins σ H { s with heap:=s.heap.push { cls:=.type "range",data:=.fields #[.int lo t,.int hi u,.int 1 v] },toks:=tk }:=I.kept λ b o e=>za1 _ e
 refine⟨(s.heap.push { cls:=.type "range",data:=.fields #[.int lo t,.int hi u,.int 1 v] }).objs.size,[(s.heap.push { cls:=.type "range",data:=.fields #[.int lo t,.int hi u,.int 1 v] }).objs.size],_,_,H,rfl,
  I1.kept (t':=tk) λ b o e=>za1 _ e,XW _ lo (hi-lo).toNat,?_,λ b hb=>?_,q⟩
 ·have e1:lo+((0:Nat):Int)*1=lo:=by simp
  have e2:(((hi-lo).toNat:Nat):Int)-((0:Nat):Int)=Builtin.Range.rangeSize lo hi 1:=by rw[rangeSize_one];split <;> lia
  show IsRangeIter _ _ (lo+((0:Nat):Int)*1) ((((hi-lo).toNat:Nat):Int)-((0:Nat):Int)) 1
  rw[e1,e2]
  exact AE _ rfl
 ·have e:b=(s.heap.push { cls:=.type "range",data:=.fields #[.int lo t,.int hi u,.int 1 v] }).objs.size:=by simpa using hb
  subst e
  exact I1.gQ (Af _) (I1.zl.fresh (Af _))
def Zd (ta:TA):TI:=fun σ H R=>ta σ H λ vs H1=>∃ j:Int,vs=[.int j]/\-(2 ^ 62)<=j/\j<2 ^ 62/\R (mG 0 j.toNat) H1
def Zc (ta:TA):TI:=fun σ H R=>ta σ H λ vs H1=>∃ i j:Int,vs=[.int i,.int j]/\(-(2 ^ 62)<=i/\i<2 ^ 62/\-(2 ^ 62)<=j/\j<2 ^ 62)/\R (mG i (j-i).toNat) H1
def VO {a:Expr}{ta:TA}{p pos:Pos}(hg:Gl X "range") (hm:X.mg "range"=none) (ha:PA X [a] ta) (hs:starEach [a] X.env=[(false,eval a X.env)]:=by rfl):PI X tg (.Call (.Name "range" p) [a] [] pos) (Zd ta):=by
 intro pins s σ H R I h
 refine Call_ (pz I hg hm boot_range (PyProof.Rows.callWith_type1 (zw (ha pos pins s σ H _ I h) λ us s1 ⟨vs,H1,I1,r1,q1⟩=>?_) hs rfl))
 obtain⟨j,e,q1,q2,q⟩:=q1
 subst e
 cases r1 with
 | cons r rr=>
  cases rr
  obtain⟨t,rfl⟩:=r
  exact call_range_1 (cF I1 (by lia) (by lia) q1 q2 (by simpa using q))
def VN {a b:Expr}{ta:TA}{p pos:Pos}(hg:Gl X "range") (hm:X.mg "range"=none) (ha:PA X [a,b] ta) (hs:starEach [a,b] X.env=[(false,eval a X.env),(false,eval b X.env)]:=by rfl) (hs2:starEach [b] X.env=[(false,eval b X.env)]:=by rfl):
  PI X tg (.Call (.Name "range" p) [a,b] [] pos) (Zc ta):=by
 intro pins s σ H R I h
 refine Call_ (pz I hg hm boot_range (PyProof.Rows.callWith_type1 (zw (ha pos pins s σ H _ I h) λ us s1 ⟨vs,H1,I1,r1,q1⟩=>?_) (by rw[hs,hs2]) (by rw[hs2];rfl)))
 obtain⟨i,j,e,⟨q1,q2,q3,q4⟩,q⟩:=q1
 subst e
 cases r1 with
 | cons r rr=>
  cases rr with
  | cons r' rr=>
   cases rr
   obtain⟨t,rfl⟩:=r
   obtain⟨t',rfl⟩:=r'
   exact call_range_2 (cF I1 q1 q2 q3 q4 q)
def Wq (wi:TI) (g:TG) (tb:TS):TS:=λ D σ H=>wi σ H λ J H1=>∃ W:Nat->Nat->St->Hp->Prop,(∃ m,W 0 m σ H1)/\∀ i m σ H,W i m σ H->
 (J.stop i H/\D.nx σ H)\/(J.go i H/\∃ N:St->Hp->Prop,(∀ σ' H',N σ' H'->∃ m',m'<m/\W (i+1) m' σ' H')/\∀ x H',J.qI i H x H'->g x σ H' fun σ2 H2=>tb { D with nx:=N,ct:=N,bk:=D.nx } σ2 H2)
noncomputable def oV (fp:List Addr) (h:Heap):List (Addr×Obj):=fp.filterMap λ b=>(h.get? b).map λ o=>(b,o)
def kd {fp:List Addr}{h:Heap}{b:Addr}{o:Obj}(hb:b∈fp) (e:h.get? b=some o):(b,o)∈oV fp h:=CO.mpr ⟨b,hb,by rw[e];rfl⟩
def Rr {fp:List Addr}{h:Heap}{p:Addr×Obj}(hp:p∈oV fp h):p.1∈fp/\h.get? p.1=some p.2:=by
 obtain⟨b,hb,e⟩:=CO.mp hp
 cases q:h.get? b with
 | none=>rw[q] at e;cases e
 | some o=>
  rw[q] at e
  have e':(b,o)=p:=A4 e
  subst e'
  exact⟨hb,q⟩
def Inv.pinned {pins:List (Addr×Obj)}{σ:St}{H:Hp}{s:Shared}{fp:List Addr}(I:Inv X pins σ H s) (hf:∀ b∈fp,vK X pins H b) (ho:∀ b∈fp,∃ o,s.heap.get? b=some o/\∀ v,o.data≠.cell v):Inv X (pins++oV fp s.heap) σ H s:=
 I.iu λ p hp=>(AU.mp hp).elim (λ z=>I.pin p (AN _ z)) λ z=>by
  obtain⟨hb,e⟩:=Rr z
  obtain⟨f0,f1,f2,_⟩:=hf p.1 hb
  obtain⟨o,e',d⟩:=ho p.1 hb
  rw[e] at e';cases e'
  exact⟨e,f0,f1,f2,d⟩
def Inv.ou {pins pl:List (Addr×Obj)}{σ:St}{H:Hp}{s:Shared}(I:Inv X (pins++pl) σ H s):Inv X pins σ H s:=I.iu λ p hp=>I.pin p (AN _ (Cy _ hp))
def VB {iter:Expr}{body:List Stmt}{wi:TI}{g:TG}{tb:TS}{pos:Pos}(hp:PassesOwn (model X.prog X.w) X.A X.env X.xe) (hc:X.calm=true) (hi:PI X tg iter wi) (hg:PG X tg g) (hb:xK X body tb)
  (hs:∀ x,foldedSetIterable iter X.env x=pure x:=by intro _;rfl):PS X (.For tg iter body [] pos) (Wq wi g tb):=by
 intro pins s σ H D I h
 refine wpAny_For (zw (hi pins s σ H _ I h) λ v s1 h1=>zw h1 λ itv s2 h2=>?_) hs
 obtain⟨it,fp,tn,J,H2,e,I2,T,st2,f2,W,⟨m0,w0⟩,turn⟩:=h2
 subst e
 have stat:∀ {H':Hp},(∀ b∈fp,H' b=none)->∀ b∈fp,vK X pins H' b:=λ hn b hb=>⟨hn b hb,(f2 b hb).2⟩
 refine codeAny_forLoop_any (λ n s'=>∃ i σ' H',Inv X pins σ' H' s'/\tn i s'.heap/\(∀ b∈fp,H' b=none)/\W i n σ' H') ?_ m0 ⟨0,σ,H2,I2,st2,λ b hb=>(f2 b hb).1,w0⟩
 rintro n s3 ⟨i,σ3,H3,I3,st3,fr3,w3⟩
 rcases turn i n σ3 H3 w3 with ⟨stop,qn⟩ | ⟨go,N,hN,step⟩
 ·refine zaI hp (zw (T.done X rfl rfl rfl hc i pins s3 σ3 H3 X.xe I3 (stat fr3) st3 stop) λ r s4 ⟨hr,I4⟩=>?_)
  subst hr
  exact zaH ⟨σ3,H3,I4,qn⟩
 ·refine zaI hp (zw (T.item X rfl rfl rfl hc i pins s3 σ3 H3 X.xe I3 (stat fr3) st3 go) λ r s4 ⟨u,hr,h4⟩=>?_)
  subst hr
  refine zaI hp (zw h4 λ _ s5 ⟨x,H5,I5,r5,y5,st5,fr5⟩=>?_)
  have I5':=I5.pinned (stat fr5) (T.obj _ _ st5)
  refine zaI hp (zw (hg _ s5 σ3 H5 x u _ I5' r5 (step x H5 y5)) λ _ s6 ⟨σ6,H6,I6,q6⟩=>?_)
  refine zaI hp (zw (hb _ s6 σ6 H6 _ I6 q6) λ f s7 q7=>?_)
  have again:∀ {σ7:St}{H7:Hp},Inv X (pins++oV fp s5.heap) σ7 H7 s7->N σ7 H7->∃ m,m<n/\∃ i σ' H',Inv X pins σ' H' s7/\tn i s7.heap/\(∀ b∈fp,H' b=none)/\W i m σ' H':=λ{σ7 H7} I7 n7=>by
   obtain⟨m',hm,w7⟩:=hN σ7 H7 n7
   refine⟨m',hm,i+1,σ7,H7,I7.ou,T.keep _ _ _ st5 λ b hb o e=>(I7.pin (b,o) (AN _ (AN _ (kd hb e)))).1,λ b hb=>?_,w7⟩
   obtain⟨o,e,d⟩:=T.obj _ _ st5 b hb
   exact (I7.pin (b,o) (AN _ (AN _ (kd hb e)))).2.1
  cases f with
  | brk=>obtain⟨σ7,H7,I7,q7⟩:=q7;exact⟨σ7,H7,I7.ou,q7⟩
  | ret v=>obtain⟨x7,σ7,H7,I7,r7,q7⟩:=q7;exact⟨x7,σ7,H7,I7.ou,r7,q7⟩
  | _=>obtain⟨σ7,H7,I7,n7⟩:=q7;exact again I7 n7
end
abbrev R2:=V->V->Hp->VK->Prop
def zS (X:Cx) (f:Value->Value->Sem Value) (r:R2):Prop:=
 ∀ (pins:List (Addr×Obj)) (s:Shared) (σ:St) (H:Hp) (x y:V) (v u:Value) (Q:VK),Inv X pins σ H s->RelV x v->RelV y u->r x y H Q->
  wpAny (model X.prog X.w) X.A (f v u) (EP X pins σ Q) X.xe s
def fV (X:Cx) (f:Value->Sem Value) (r:V->Hp->VK->Prop):Prop:=
 ∀ (pins:List (Addr×Obj)) (s:Shared) (σ:St) (H:Hp) (x:V) (v:Value) (Q:VK),Inv X pins σ H s->RelV x v->r x H Q->
  wpAny (model X.prog X.w) X.A (f v) (EP X pins σ Q) X.xe s
def yB (X:Cx) (f:Value) (r:List V->Hp->VK->Prop):Prop:=
 ∀ (pins:List (Addr×Obj)) (s:Shared) (σ:St) (H:Hp) (xs:List V) (us:List Value) (Q:VK),Inv X pins σ H s->Vals xs us->r xs H Q->
  wpAny (model X.prog X.w) X.A (call f us) (EP X pins σ Q) X.xe s
def Ni (X:Cx) (r:V->Hp->(Bool->Hp->Prop)->Prop):Prop:=
 ∀ (pins:List (Addr×Obj)) (s:Shared) (σ:St) (H:Hp) (x:V) (v:Value) (Q:Bool->Hp->Prop),Inv X pins σ H s->RelV x v->r x H Q->
  wpAny (model X.prog X.w) X.A (truthy v) (TP X pins σ Q) X.xe s
def oy (r:R2) (ta tb:TE):TE:=fun σ H Q=>ta σ H λ x H1=>tb σ H1 λ y H2=>r x y H2 Q
def Wd (r:V->Hp->VK->Prop) (ta:TE):TE:=fun σ H Q=>ta σ H λ x H1=>r x H1 Q
def rI (C:Int->Int->Prop) (g:Int->Int->V):R2:=λ x y H Q=>∃ i j,x=.int i/\y=.int j/\C i j/\Q (g i j) H
def vt (g:Int->Int->V):R2:=λ x y H Q=>∃ i j,x=.int i/\y=.int j/\Q (g i j) H
def rU (g:Int->V):V->Hp->VK->Prop:=λ x H Q=>∃ i,x=.int i/\Q (g i) H
section
variable {X:Cx}{a b:Expr}{ta tb:TE}{pos:Pos}
def fG (ha:PE X a ta) (hb:PE X b tb) {pins:List (Addr×Obj)}{s:Shared}{σ:St}{H:Hp}{R:V->V->Hp->Prop}(I:Inv X pins σ H s)
  (h:ta σ H λ x H1=>tb σ H1 λ y H2=>R x y H2) {Q:Value->Shared->Prop}{f:Value->Value->Sem Value}
  (hf:∀ v u s2 x y H2,Inv X pins σ H2 s2->RelV x v->RelV y u->R x y H2->wpAny (model X.prog X.w) X.A (f v u) Q X.xe s2):
  wpAny (model X.prog X.w) X.A (eval a X.env) (λ v s₁=>wpAny (model X.prog X.w) X.A (eval b X.env) (λ u s₂=>wpAny (model X.prog X.w) X.A (f v u) Q X.xe s₂) X.xe s₁) X.xe s:=by
 refine zw (ha pins s σ H _ I h) λ v s1 ⟨x,H1,I1,r1,q1⟩=>?_
 refine zw (hb pins s1 σ H1 _ I1 q1) λ u s2 ⟨y,H2,I2,r2,q2⟩=>?_
 exact hf v u s2 x y H2 I2 r1 r2 q2
def Ub {op:Operator}{r:R2}(ho:zS X (binaryOp op) r) (ha:PE X a ta) (hb:PE X b tb):PE X (.BinOp a op b pos) (oy r ta tb):=by
 intro pins s σ H Q I h
 exact wpAny_BinOp (fG ha hb I h λ v u s2 x y H2 I2 rx ry q=>ho pins s2 σ H2 x y v u Q I2 rx ry q)
def VZ {op:UnaryOp}{r:V->Hp->VK->Prop}(ho:fV X (unaryOp op) r) (ha:PE X a ta):PE X (.UnaryOp op a pos) (Wd r ta):=by
 intro pins s σ H Q I h
 exact UnaryOp_ (zw (ha pins s σ H _ I h) λ v s1 ⟨x,H1,I1,r1,q1⟩=>ho pins s1 σ H1 x v Q I1 r1 q1)
def pb {f:Value->Value->Sem Value}{C:Int->Int->Prop}{g:Int->Int->Int}
  (rule:∀ (i j:Int) (t u:Tok) (s:Shared) (Q:Value->Shared->Prop) (E:Value->Shared->Prop),C i j->Q (.int (g i j) s.toks) { s with toks:=s.toks+1 }->wpAny (model X.prog X.w) X.A (f (.int i t) (.int j u)) Q E s):
  zS X f (rI C λ i j=>.int (g i j)):=by
 intro pins s σ H x y v u Q I rx ry h
 obtain⟨i,j,rfl,rfl,hc,q⟩:=h
 obtain⟨t,rfl⟩:=rx
 obtain⟨t',rfl⟩:=ry
 exact rule i j t t' s _ _ hc ⟨.int (g i j),H,I.tok _,⟨_,rfl⟩,q⟩
def bE {f:Value->Value->Sem Value}{g:Int->Int->Int}
  (rule:∀ (i j:Int) (t u:Tok) (s:Shared) (Q:Value->Shared->Prop) (E:Value->Shared->Prop),Q (.int (g i j) s.toks) { s with toks:=s.toks+1 }->wpAny (model X.prog X.w) X.A (f (.int i t) (.int j u)) Q E s):
  zS X f (vt λ i j=>.int (g i j)):=by
 intro pins s σ H x y v u Q I rx ry h
 obtain⟨i,j,rfl,rfl,q⟩:=h
 obtain⟨t,rfl⟩:=rx
 obtain⟨t',rfl⟩:=ry
 exact rule i j t t' s _ _ ⟨.int (g i j),H,I.tok _,⟨_,rfl⟩,q⟩
def iH {f:Value->Value->Sem Value}{g:Int->Int->Bool}
  (rule:∀ (i j:Int) (t u:Tok) (s:Shared) (Q:Value->Shared->Prop) (E:Value->Shared->Prop),Q (.bool (g i j)) s->wpAny (model X.prog X.w) X.A (f (.int i t) (.int j u)) Q E s):
  zS X f (vt λ i j=>.bl (g i j)):=by
 intro pins s σ H x y v u Q I rx ry h
 obtain⟨i,j,rfl,rfl,q⟩:=h
 obtain⟨t,rfl⟩:=rx
 obtain⟨t',rfl⟩:=ry
 exact rule i j t t' s _ _ ⟨.bl (g i j),H,I,rfl,q⟩
def xM (i j:Int):Prop:=0<j/\j<1073741824
def sL (i j:Int):Prop:=0<=j/\j<=1000000/\i.natAbs<2 ^ 64
def vM (i j:Int):Prop:=(-(2 ^ 64)<i/\i<2 ^ 64)\/(-(2 ^ 64)<j/\j<2 ^ 64)
def vM.ok {i j:Int}(h:vM i j):IntMulOk i j:=by
 rcases h with ⟨h1,h2⟩ | ⟨h1,h2⟩
 ·exact .of_left (intBits_le_64 h1 h2)
 ·exact .of_right (intBits_le_64 h1 h2)
def Tt:zS X (binaryOp .Add) (vt λ i j=>.int (i+j)):=bE λ _ _ _ _ _ _ _ q=>add_int q
def UX:zS X (binaryOp .Sub) (vt λ i j=>.int (i-j)):=bE λ _ _ _ _ _ _ _ q=>sub_int q
def Tc:zS X (binaryOp .Mult) (rI vM λ i j=>.int (i*j)):=pb λ _ _ _ _ _ _ _ hc q=>mul_int q hc.ok
def Tn:zS X (binaryOp .FloorDiv) (rI xM λ i j=>.int (i/j)):=pb λ i j _ _ _ _ _ hc q=>by
 have h1:(0:Int)<j:=hc.1
 have h2:j<1073741824:=hc.2
 exact floordiv_int (by lia) (by rw[Int.fdiv_eq_ediv_of_nonneg i (by lia)];exact q) (.inl (PyProof.noPylong_small (by lia)))
def Td:zS X (binaryOp .Mod) (rI (λ _ j=>0<j) λ i j=>.int (i%j)):=pb λ i j _ _ _ _ _ hc q=>by
 have h1:(0:Int)<j:=hc
 exact mod_int' (by lia) (by rw[Int.fmod_eq_emod_of_nonneg i (by lia)];exact q)
def UY:zS X (binaryOp .Pow) (rI sL λ i j=>.int (i ^ j.toNat)):=pb λ _ _ _ _ _ _ _ hc q=>pow_int_small hc.1 hc.2.1 hc.2.2 q
def XQ {f:Value->Sem Value}{g:Int->Int}
  (rule:∀ (i:Int) (t:Tok) (s:Shared) (Q:Value->Shared->Prop) (E:Value->Shared->Prop),Q (.int (g i) s.toks) { s with toks:=s.toks+1 }->wpAny (model X.prog X.w) X.A (f (.int i t)) Q E s):
  fV X f (rU λ i=>.int (g i)):=by
 intro pins s σ H x v Q I rx h
 obtain⟨i,rfl,q⟩:=h
 obtain⟨t,rfl⟩:=rx
 exact rule i t s _ _ ⟨.int (g i),H,I.tok _,⟨_,rfl⟩,q⟩
def XN:fV X (unaryOp .USub) (rU λ i=>.int (-i)):=XQ λ _ _ _ _ _ q=>neg_int q
end
section
variable {X:Cx}{a b c:Expr}{ta tb tc:TE}{pos:Pos}
def Pt {pins:List (Addr×Obj)}{σ:St}{H:Hp}{s:Shared}{Q:VK}{k k':Bool}(I:Inv X pins σ H s) (q:Q (.bl k) H) (e:k=k'):EP X pins σ Q (.bool k') s:=by
 subst e
 exact⟨.bl k,H,I,rfl,q⟩
def Tg:zS X (compareOp .Lt) (vt λ i j=>.bl (decide (i<j))):=iH λ _ _ _ _ _ _ _ q=>lt_int q
def nr:zS X (compareOp .LtE) (vt λ i j=>.bl (decide (i<=j))):=iH λ _ _ _ _ _ _ _ q=>le_int q
def Ti:zS X (compareOp .GtE) (vt λ i j=>.bl (decide (j<=i))):=iH λ _ _ _ _ _ _ _ q=>ge_int q
def bA:zS X (compareOp .Is) (λ x y H Q=>y=.zj/\Q (.bl (decide (x=.zj))) H):=by
 intro pins s σ H x y v u Q I rx ry h
 obtain⟨rfl,q⟩:=h
 cases ry
 refine is_none_gen (Pt I q ?_)
 cases x <;> first
  | (cases rx;rfl)
  | (obtain⟨t,rfl⟩:=rx;rfl)
def zS.or {f:Value->Value->Sem Value}{r r':R2}(h:zS X f r) (h':zS X f r'):zS X f (λ x y H Q=>r x y H Q\/r' x y H Q):=by
 intro pins s σ H x y v u Q I rx ry q
 rcases q with q | q
 ·exact h pins s σ H x y v u Q I rx ry q
 ·exact h' pins s σ H x y v u Q I rx ry q
def rh (b:Expr) {op:CmpOp}(h:op≠.In:=by decide) (h2:op≠.NotIn:=by decide):behindInMarks op b=false:=by
 have e1:(op == CmpOp.In)=false:=by cases op <;> first | rfl | exact absurd rfl h
 have e2:(op == CmpOp.NotIn)=false:=by cases op <;> first | rfl | exact absurd rfl h2
 cases b <;> simp[behindInMarks,e1,e2]
def Uq {op:CmpOp}{r:R2}(ho:zS X (compareOp op) r) (ha:PE X a ta) (hb:PE X b tb) (hm:behindInMarks op b=false):PE X (.Compare a [op] [b] pos) (oy r ta tb):=by
 intro pins s σ H Q I h
 exact wpAny_Compare1 (fG ha hb I h λ v u s2 x y H2 I2 rx ry q=>ho pins s2 σ H2 x y v u Q I2 rx ry q) hm
def dR (t:TE):TT:=fun σ H Q=>t σ H λ x H'=>∃ k,x=.bl k/\Q k H'
def V2 {op:CmpOp}{r:R2}(ho:zS X (compareOp op) r) (ha:PE X a ta) (hb:PE X b tb) (hm:behindInMarks op b=false):PT X (.Compare a [op] [b] pos) (dR (oy r ta tb)):=by
 intro pins s σ H Q I h
 refine wpAny_isTrue_Compare1 (zw (ha pins s σ H _ I h) λ v s1 ⟨x,H1,I1,r1,q1⟩=>zw (hb pins s1 σ H1 _ I1 q1) λ u s2 ⟨y,H2,I2,r2,q2⟩=>
  zw (ho pins s2 σ H2 x y v u _ I2 r1 r2 q2) λ c s3 ⟨z,H3,I3,r3,k,e,q3⟩=>?_) hm
 subst e
 cases r3
 exact zaG ⟨H3,I3,q3⟩
def ju (r r':R2) (ta tb tc:TE):TE:=fun σ H Q=>ta σ H λ x H1=>tb σ H1 λ y H2=>r x y H2 λ z H3=>∃ k,z=.bl k/\
 (if k=true then tc σ H3 λ w' H4=>r' y w' H4 Q else Q (.bl false) H3)
def Ur {op op':CmpOp}{r r':R2}(ho:zS X (compareOp op) r) (ho':zS X (compareOp op') r') (ha:PE X a ta) (hb:PE X b tb) (hc:PE X c tc)
  (hm:lastMarks [op,op'] [b,c]=false:=by with_unfolding_all rfl):PE X (.Compare a [op,op'] [b,c] pos) (ju r r' ta tb tc):=by
 intro pins s σ H Q I h
 refine Compare_chain (zw (ha pins s σ H _ I h) λ v s1 ⟨x,H1,I1,r1,q1⟩=>chain_link (zw (hb pins s1 σ H1 _ I1 q1) λ u s2 ⟨y,H2,I2,r2,q2⟩=>
  zw (ho pins s2 σ H2 x y v u _ I2 r1 r2 q2) λ d s3 ⟨z,H3,I3,r3,k,e,q3⟩=>?_)) hm
 subst e
 cases r3
 refine zaG ?_
 cases k with
 | false=>exact ite_ff ⟨.bl false,H3,I3,rfl,q3⟩
 | true=>exact ite_tt (chain_last (zw (hc pins s3 σ H3 _ I3 q3) λ w' s4 ⟨z',H4,I4,r4,q4⟩=>ho' pins s4 σ H4 y z' u w' Q I4 r2 r4 q4))
def V3 {op op':CmpOp}{r r':R2}(ho:zS X (compareOp op) r) (ho':zS X (compareOp op') r') (ha:PE X a ta) (hb:PE X b tb) (hc:PE X c tc)
  (hm:lastMarks [op,op'] [b,c]=false:=by with_unfolding_all rfl):PT X (.Compare a [op,op'] [b,c] pos) (dR (ju r r' ta tb tc)):=by
 intro pins s σ H Q I h
 refine isTrue_chain (zw (ha pins s σ H _ I h) λ v s1 ⟨x,H1,I1,r1,q1⟩=>test_link (zw (hb pins s1 σ H1 _ I1 q1) λ u s2 ⟨y,H2,I2,r2,q2⟩=>
  zw (ho pins s2 σ H2 x y v u _ I2 r1 r2 q2) λ d s3 ⟨z,H3,I3,r3,k,e,q3⟩=>?_)) hm
 subst e
 cases r3
 refine zaG ?_
 cases k with
 | false=>
  obtain⟨k',e',q'⟩:=q3
  cases e'
  exact ite_ff ⟨H3,I3,q'⟩
 | true=>
  refine ite_tt (test_last (zw (hc pins s3 σ H3 _ I3 q3) λ w' s4 ⟨z',H4,I4,r4,q4⟩=>zw (ho' pins s4 σ H4 y z' u w' _ I4 r2 r4 q4) λ d' s5 ⟨z2,H5,I5,r5,k2,e2,q5⟩=>?_))
  subst e2
  cases r5
  exact zaG ⟨H5,I5,q5⟩
def fW (K:Ab) (x:V) (H:Hp) (k:Bool):Prop:=
 match x with
 | .zj=>k=false
 | .bl b=>k=b
 | .int i=>k=(i != 0)
 | .str y=>y.length<=sizeLine/\k=((y.length:Int) != 0)
 | .mn y=>y.size<=sizeLine/\k=((y.size:Int) != 0)
 | .ref p=>(∃ xs,zL K H p xs/\k=!xs.isEmpty)\/(∃ xs,zR K H p xs/\k=!xs.isEmpty)\/∃ Aa,H p=some (.dK Aa)/\k=!Aa.isEmpty
 | _=>False
def Q6 {κ:Type}{Aa:List (κ × V)}{vs:List (κ × Value)}(r:KV Aa vs):(!vs.isEmpty)=!Aa.isEmpty:=by
 cases r <;> rfl
def aL {xs:List V}{its:List Value}(r:Vals xs its):(!its.toArray.isEmpty)=!xs.isEmpty:=by
 cases r <;> simp
def qg:(sizeLine:Nat)<2 ^ 63:=by rw[sizeLine_eq];decide
def Wa:Ni X (λ x H Q=>∃ k,fW X.K x H k/\Q k H):=by
 intro pins s σ H x v Q I rx h
 obtain⟨k,e,q⟩:=h
 have hl:=qg
 have hs:sizeLine=16777216:=sizeLine_eq
 cases x with
 | zj=>
  cases rx
  have e':k=false:=e
  subst e'
  exact truthy_none ⟨H,I,q⟩
 | bl b=>
  cases rx
  have e':k=b:=e
  subst e'
  exact zaG ⟨H,I,q⟩
 | int i=>
  obtain⟨t,rfl⟩:=rx
  have e':k=(i != 0):=e
  subst e'
  exact PySem.P.truthy_int ⟨H,I,q⟩
 | str y=>
  obtain⟨t,rfl⟩:=rx
  obtain⟨hy,e'⟩:y.length<=sizeLine/\k=((y.length:Int) != 0):=e
  subst e'
  exact PySem.P.truthy_str (by lia) ⟨H,I.tok _,q⟩
 | mn y=>
  obtain⟨t,rfl⟩:=rx
  obtain⟨hy,e'⟩:y.size<=sizeLine/\k=((y.size:Int) != 0):=e
  subst e'
  exact PySem.W.truthy_bytes (by lia) ⟨H,I.tok _,q⟩
 | ref p=>
  cases rx
  have e':(∃ xs,zL X.K H p xs/\k=!xs.isEmpty)\/(∃ xs,zR X.K H p xs/\k=!xs.isEmpty)\/∃ Aa,H p=some (.dK Aa)/\k=!Aa.isEmpty:=e
  rcases e' with ⟨xs,hx,e'⟩ | ⟨xs,hx,e'⟩ | ⟨Aa,hx,e'⟩
  ·subst e'
   obtain⟨its,r,pl,hz⟩:=I.list hx
   have hlen:=r.length
   exact wpAny_truthy_list pl.isList (by simp only[Av];lia) ⟨H,I.tok _,by rw[aL r];exact q⟩
  ·subst e'
   obtain⟨its,r,pl,hz⟩:=I.tuple hx
   have hlen:=r.length
   exact truthy_tuple pl (by simp only[Av];lia) ⟨H,I.tok _,by rw[aL r];exact q⟩
  ·subst e'
   obtain⟨hz,hS,vs,r,m⟩:Aa.length<=sizeLine/\(p == sysModules)=false/\∃ vs,KV Aa vs/\s.heap.DictOf (wB X.prog X.w) p vs:=I.zl p _ hx
   have hlen:Aa.length=vs.length:=Paired.length r
   exact wpAny_truthy_dict hS m (by lia) ⟨H,I.tok _,by rw[Q6 r];exact q⟩
 | _=>exact (show False from e).elim
def Vz (ha:PE X a ta) (he:∀ whole,isTrue a X.env whole=(do let v <- whole;standAt a.pos;holding [v] (truthy v))):
  PT X a (fun σ H Q=>ta σ H λ x H'=>∃ k,fW X.K x H' k/\Q k H'):=by
 intro pins s σ H Q I h
 exact isTrue_plain (zw (ha pins s σ H _ I h) λ v s1 ⟨x,H1,I1,r1,q1⟩=>Wa pins s1 σ H1 x v Q I1 r1 q1) (he _)
def Ts:zS X (binaryOp .Add) (λ x y H Q=>∃ i j,x=.str i/\y=.str j/\i.length+j.length<=sizeLine/\Q (.str (i++j)) H):=by
 intro pins s σ H x y v u Q I rx ry h
 obtain⟨i,j,rfl,rfl,hz,q⟩:=h
 obtain⟨t,rfl⟩:=rx
 obtain⟨t',rfl⟩:=ry
 exact add_str (λ t' tk=>⟨.str (i++j),H,I.tok _,⟨_,rfl⟩,q⟩) hz
def vals1 {x:V}{us:List Value}(r:Vals [x] us):∃ u,us=[u]/\RelV x u:=by
 cases r with
 | cons r1 r2=>cases r2;exact⟨_,rfl,r1⟩
def vals2 {x y:V}{us:List Value}(r:Vals [x,y] us):∃ u w',us=[u,w']/\RelV x u/\RelV y w':=by
 cases r with
 | cons r1 r2=>
  cases r2 with
  | cons r3 r4=>cases r4;exact⟨_,_,rfl,r1,r3⟩
def OM:yB X (.builtin "abs") (λ xs H Q=>∃ i,xs=[.int i]/\Q (.int (if i<0 then -i else i)) H):=by
 intro pins s σ H xs us Q I r h
 obtain⟨i,rfl,q⟩:=h
 obtain⟨u,rfl,t,rfl⟩:=vals1 r
 exact call_abs_int λ u tk=>⟨.int (if i<0 then -i else i),H,I.tok _,⟨_,rfl⟩,q⟩
def OC (hc:X.calm=true):yB X (.builtin "max") (λ xs H Q=>∃ i j,xs=[.int i,.int j]/\Q (.int (if j>i then j else i)) H):=by
 intro pins s σ H xs us Q I r h
 obtain⟨i,j,rfl,q⟩:=h
 obtain⟨u,w',rfl,⟨t,rfl⟩,⟨t',rfl⟩⟩:=vals2 r
 refine max_two_ints (I.ok.hd hc) λ h' tk k=>⟨_,H,I.kept k,?_,q⟩
 by_cases hj:j>i
 ·rw[if_pos hj,if_pos hj];exact⟨_,rfl⟩
 ·rw[if_neg hj,if_neg hj];exact⟨_,rfl⟩
def OB (hc:X.calm=true):yB X (.builtin "min") (λ xs H Q=>∃ i j,xs=[.int i,.int j]/\Q (.int (if j<i then j else i)) H):=by
 intro pins s σ H xs us Q I r h
 obtain⟨i,j,rfl,q⟩:=h
 obtain⟨u,w',rfl,⟨t,rfl⟩,⟨t',rfl⟩⟩:=vals2 r
 refine min_two_ints (I.ok.hd hc) λ h' tk k=>⟨_,H,I.kept k,?_,q⟩
 by_cases hj:j<i
 ·rw[if_pos hj,if_pos hj];exact⟨_,rfl⟩
 ·rw[if_neg hj,if_neg hj];exact⟨_,rfl⟩
end
def vI.some_of {v:V}{o:Option Value}(r:vI (some v) o):∃ u,o=some u/\RelV v u:=by
 cases o with
 | none=>exact (show False from r).elim
 | some u=>exact⟨u,rfl,r⟩
def QR {v:V}{u:Value}(r:RelV v u):PySem.W.handedIn u=true:=by
 cases v with
 | zj=>cases (show u=Value.none from r);rfl
 | bl b=>cases (show u=Value.bool b from r);rfl
 | int i=>obtain⟨t,e⟩:=(show ∃ t,u=Value.int i t from r);cases e;rfl
 | str x=>obtain⟨t,e⟩:=(show ∃ t,u=Value.str x t from r);cases e;rfl
 | mn b=>obtain⟨t,e⟩:=(show ∃ t,u=Value.bytes b t from r);cases e;rfl
 | gU b=>obtain⟨t,e⟩:=(show ∃ t,u=Value.float b t from r);cases e;rfl
 | ref a=>cases (show u=Value.ref a from r);rfl
 | ty n=>cases (show u=Value.type n from r);rfl
section
variable {s:Shared}{f:Str}{A:Around}{E:Value->Shared->Prop}
def OY {prog:Program}{w:World}{env:Env}{e:Expr}{f:Str}{pos:Pos}{s:Shared}{Q:Value->Shared->Prop}(hb:attributeBase e f env (eval e env)=eval e env)
  (h:wpAny (model prog w) A (eval e env) (λ o s₁=>wpAny (model prog w) A (getAttr o f true) Q E s₁) E s):wpAny (model prog w) A (eval (.Attribute e f pos) env) Q E s:=
 Attribute_any_ h (by rw[arm_eval_Attribute,hb])
end
structure zV (k:Nat) (A:Around):Prop where
 hd:A.handled=none
 dp:A.depth+3*k+5<recursionLimit
 un:A.units+16*k+200<cLine
def zV.mono {j k:Nat}{A:Around}(r:zV k A) (h:j<=k):zV j A:=⟨r.hd,by have:=r.dp;lia,by have:=r.un;lia⟩
theorem zV.deeper {k:Nat}{A:Around}(r:zV (k+1) A) (env:Env):zV k (A.deeper env):=
 ⟨r.hd,by have:=r.dp;show A.depth+1+3*k+5<_;lia,by have:=r.un;show A.units+3+16*k+200<_;lia⟩
def RM {A:Around}{C:Addr}{us:List Value}{kw:List (Str×Value)}:(A.under (.builtin "type.__call__" ⟨.ref C::us,kw⟩)).depth=A.depth+1:=by
 first | rfl | simp[Around.under,Code.weight,Code.isCreation,Code.isGuard,Code.isCaller,Code.frames,Code.isFrame,guardIds]
def RL {A:Around}{C:Addr}{us:List Value}{kw:List (Str×Value)}:(A.under (.builtin "type.__call__" ⟨.ref C::us,kw⟩)).units=A.units+1:=by
 first | rfl | simp[Around.under,Code.cUnits,Code.frames,Code.isFrame]
def zV.make {k:Nat}{A:Around}(r:zV (k+1) A) (C:Addr) (us:List Value) (kw:List (Str×Value)):zV k (A.under (.builtin "type.__call__" ⟨.ref C::us,kw⟩)):=
 ⟨r.hd,by have:=r.dp;rw[RM];lia,by have:=r.un;rw[RL];lia⟩
theorem zV.depth {k:Nat}{A:Around}(r:zV k A):A.depth<recursionLimit:=by have:=r.dp;lia
theorem zV.units {k:Nat}{A:Around}(r:zV k A):A.units+64<cLine:=by have:=r.un;lia
def ly:TA:=λ _ H Q=>Q [] H
def lz (ta:TE) (tr:TA):TA:=fun σ H Q=>ta σ H λ x H1=>tr σ H1 λ xs H2=>Q (x::xs) H2
section
variable {X:Cx}{e:Expr}{es:List Expr}{te:TE}{t:TA}{pos:Pos}
def rf:PA X [] ly:=λ _ _ _ _ H Q I h=>Calls.spliced_nil ⟨[],H,I,.nil,h⟩
def uS (ha:PE X e te) (hr:PA X es t) (hs:starEach (e::es) X.env=(false,eval e X.env)::starEach es X.env:=by rfl):PA X (e::es) (lz te t):=by
 intro pos pins s σ H Q I h
 rw[hs]
 show wpAny _ _ (spliced ((false,eval e X.env)::backTo pos (starEach es X.env))) _ _ s
 refine Calls.spliced_cons (zw (ha pins s σ H _ I h) λ u s1 ⟨x,H1,I1,r1,q1⟩=>?_)
 exact zw (hr pos pins s1 σ H1 _ I1 q1) λ us s2 ⟨xs,H2,I2,r2,q2⟩=>⟨x::xs,H2,I2,.cons r1 r2,q2⟩
def We (t:TA):TE:=fun σ H Q=>t σ H λ xs H1=>xs.length<=sizeLine/\∀ p,H1 p=none->Q (.ref p) (upd H1 p (.tup xs))
def Wm (t:TA):TE:=fun σ H Q=>t σ H λ xs H1=>xs.length<=sizeLine/\∀ p,H1 p=none->Q (.ref p) (upd H1 p (.lst xs))
def V_ {x1} (h:PA X es t):PE X (.Tuple es x1 pos) (We t):=by
 intro pins s σ H Q I hq
 refine wpAny_Tuple_spliced (zw (h pos pins s σ H _ I hq) λ us s1 ⟨xs,H1,I1,r,z,q⟩=>⟨by rw[<- r.length];exact z,?_⟩)
 have hf:H1 s1.heap.objs.size=none:=I1.zl.fresh (Af _)
 refine⟨.ref s1.heap.objs.size,upd H1 s1.heap.objs.size (.tup xs),I1.laid (t':=s1.toks) (λ b u e=>za1 _ e) (Af _) ?_,rfl,q _ hf⟩
 exact⟨z,us,r,⟨_,AE _ rfl,rfl,_,rfl⟩⟩
def Ug (h:PA X es t):PE X (.List es pos) (Wm t):=by
 intro pins s σ H Q I hq
 refine wpAny_List_spliced (zw (h pos pins s σ H _ I hq) λ us s1 ⟨xs,H1,I1,r,z,q⟩=>⟨by rw[<- r.length];exact z,?_⟩)
 have hf:H1 s1.heap.objs.size=none:=I1.zl.fresh (Af _)
 refine⟨.ref s1.heap.objs.size,upd H1 s1.heap.objs.size (.lst xs),I1.laid (t':=s1.toks) (λ b u e=>za1 _ e) (Af _) ?_,rfl,q _ hf⟩
 exact⟨z,us,0,r,AE _ rfl⟩
end
abbrev Sp:=List V->Hp->VK->XK->Prop
abbrev vL:=List Env->Hp->Shared->XK->Value->Shared->Prop
structure qG (P:Program) (w:World) (K:Ab) (mg:Str->Option Value) (base:Heap) (A:Around) (outer:List Env) (s:Shared) (H:Hp):Prop where
 frames:A.frames=some outer
 mod:Mod K mg base
 bs:∀ b o,base.get? b=some o->s.heap.get? b=some o/\H b=none
 tp:base.objs.size<=s.heap.objs.size
 vf:s.heap.FunFrames base outer
 tY:∀ b∈yI outer,H b=none
 zl:zZ P w H s.heap
 bare:AllBare s.gens
def CE (outer:List Env) (P:Program) (w:World) (H:Hp) (s:Shared) (Q:VK) (u:Value) (s':Shared):Prop:=
 ∃ v H',s'.os=s.os/\AllBare s'.gens/\Un (yI outer) [] H H' s.heap s'.heap/\zZ P w H' s'.heap/\RelV v u/\Q v H'
def CR (CX:vL) (outer:List Env) (P:Program) (w:World) (H:Hp) (s:Shared) (Q:VK) (E:XK) (r:Result) (s':Shared):Prop:=
 match r with
 | .ok (.ret u)=>CE outer P w H s Q u s'
 | .ok _=>False
 | .error e=>CX outer H s E e s'
structure xa (P:Program) (w:World) (K:Ab) (mg:Str->Option Value) (base:Heap) (CX:vL) (k:Nat) (f:Addr) (fd:FuncData) (ps:List Str) (sp:Sp):Prop where
 len:∀ vs H Q E,sp vs H Q E->vs.length=ps.length
 run:∀ (A:Around) (outer:List Env) (s:Shared) (H:Hp) (args:Args) (us:List Value) (vs:List V) (Q:VK) (E:XK),zV k A->qG P w K mg base A outer s H->BindsTo s fd args (ps.zip us)->Vals vs us->sp vs H Q E->
  codeAny (model P w) A (.call (.ref f) args) (CR CX outer P w H s Q E) s
def xa.imp {P:Program}{w:World}{K:Ab}{mg:Str->Option Value}{base:Heap}{CX:vL}{k:Nat}{f:Addr}{fd:FuncData}{ps:List Str}{sp sp':Sp}(F:xa P w K mg base CX k f fd ps sp)
  (h:∀ vs H Q E,sp' vs H Q E->sp vs H Q E):xa P w K mg base CX k f fd ps sp':=
 ⟨λ vs H Q E q=>F.len vs H Q E (h _ _ _ _ q),λ A outer s H args us vs Q E hr he hb hv hs=>F.run A outer s H args us vs Q E hr he hb hv (h _ _ _ _ hs)⟩
def qG.make {P:Program}{w:World}{K:Ab}{mg:Str->Option Value}{base:Heap}{A:Around}{outer:List Env}{s:Shared}{H:Hp}(e:qG P w K mg base A outer s H) (C:Addr) (us:List Value) (kw:List (Str×Value)):
  qG P w K mg base (A.under (.builtin "type.__call__" ⟨.ref C::us,kw⟩)) outer s H:=⟨by first | exact e.frames | (simpa [Around.under,Code.envs,Code.isFrame,pushEnvs] using e.frames),e.mod,e.bs,e.tp,e.vf,e.tY,e.zl,e.bare⟩
section
variable {X:Cx}{pins:List (Addr×Obj)}{σ:St}{H:Hp}{s s':Shared}
def Inv.g_ (I:Inv X pins σ H s):qG X.prog X.w X.K X.mg X.base X.A X.stack s H:=
 ⟨I.ok.frames,I.ok.mod,I.bs,Bp I.ok.tp I.sz,I.stack,I.jy,I.zl,I.bare⟩
def Inv.after {Q:VK}{u:Value}(I:Inv X pins σ H s) (h:CE X.stack X.prog X.w H s Q u s'):EP X pins σ Q u s':=by
 obtain⟨v,H',os,bare,un,zl,r,q⟩:=h
 obtain⟨hh,g,d,t,os'⟩:=s'
 obtain rfl:os'=s.os:=os
 exact⟨v,H',I.call (h':=hh) (g':=g) (d':=d) (t':=t) (ch:=[]) un zl bare (λ b z=>absurd z (by simp)),r,q⟩
end
def dS (sp:Sp) (dvs:List V) (E:XK) (t:TA):TE:=fun σ H Q=>t σ H λ vs H1=>sp (vs++dvs) H1 Q E
def Binds (K:Ab) (fd:FuncData) (ps:List Str) (ds:List Value):Prop:=
 ∀ (s:Shared) (us:List Value),K.In s.heap->(us++ds).length=ps.length->BindsTo s fd ⟨us,[]⟩ (ps.zip (us++ds))
def Binds.all {K:Ab}{fd:FuncData}{ps:List Str}(h:∀ us:List Value,us.length=ps.length->bindArgs fd ⟨us,[]⟩=pure (ps.zip us)):Binds K fd ps []:=λ s us _ hl=>by
 rw[Cw] at hl ⊢
 exact .of_eq (h us hl)
def Passes (CX:vL) (X:Cx) (E:XK):Prop:=∀ (pins:List (Addr×Obj)) (σ:St) (H:Hp) (s:Shared) (e:Value) (s':Shared),Inv X pins σ H s->CX X.stack H s E e s'->X.xe e s'
section
variable {X:Cx}{CX:vL}{k:Nat}{f:Addr}{fd:FuncData}{ps:List Str}{sp:Sp}{dvs:List V}{ds:List Value}{E:XK}{x:Str}{p pos:Pos}{e:Expr}{es:List Expr}{t:TA}
def Vc {pins:List (Addr×Obj)}{σ:St}{H:Hp}{s:Shared}{Q:VK}{us:List Value}{vs:List V}(F:xa X.prog X.w X.K X.mg X.base CX k f fd ps sp) (hr:zV k X.A) (hb:Binds X.K fd ps ds) (hd:Vals dvs ds) (hx:Passes CX X E)
  (I:Inv X pins σ H s) (r:Vals vs us) (h:sp (vs++dvs) H Q E):wpAny (model X.prog X.w) X.A (call (.ref f) us) (EP X pins σ Q) X.xe s:=by
 have r2:Vals (vs++dvs) (us++ds):=r.append hd
 have hl:(us++ds).length=ps.length:=by rw[<- r2.length];exact F.len _ _ _ _ h
 refine wpAny_call (codeAny_mono (F.run X.A X.stack s H ⟨us,[]⟩ (us++ds) (vs++dvs) Q E hr I.g_ (hb s us I.yz hl) r2 h) λ r s' hq=>?_)
 cases r with
 | error e=>exact hx pins σ H s e s' I hq
 | ok fl=>
  cases fl with
  | ret u=>exact I.after hq
  | _=>exact False.elim hq
def Us (F:xa X.prog X.w X.K X.mg X.base CX k f fd ps sp) (hr:zV k X.A) (hg:Gl X x) (hm:X.mg x=some (.ref f)) (hk:PySem.W.keepIn X.K (.ref f)=true) (hb:Binds X.K fd ps ds) (hd:Vals dvs ds) (hx:Passes CX X E)
  (ha:PA X (e::es) t) (AZ:(x == ("__debug__":Str))=false:=by decide) (he:starEach (e::es) X.env=(false,eval e X.env)::starEach es X.env:=by rfl) (Ah:(backTo pos (starEach es X.env)).any (·.1)=false:=by rfl):
  PE X (.Call (.Name x p) (e::es) [] pos) (dS sp dvs E t):=by
 intro pins s σ H Q I h
 refine zaJ (nE I hg hm ?_ AZ)
 refine PySem.W.callWith_K (h₀:=X.base) I.ok.mod.p0 hk (zw (ha pos pins s σ H _ I h) λ us s1 ⟨vs,H1,I1,r,q⟩=>⟨I1.yz,?_⟩) he Ah
 exact Vc F hr hb hd hx I1 r q
end
structure zW (N P:List Str) (sc:Scope):Prop where
 kind:sc.kind=.function
 co:sc.isCoroutine=false
 gen:sc.isGenerator=false
 nd:N.Nodup
 pre:N.take P.length=P
 par:∀ x∈P,sc.names.lookup x=some .local\/sc.names.lookup x=some .cell
 Rz:∀ y∈sc.names,y.2≠.free
theorem Yn {kindOf:Str->Option NameKind}{x:Str}:∀ {binds:List (Str×Value)}{m:Str->Option Value},(∀ v,(x,v)∉binds)->bindL kindOf binds m x=m x
 | [],_,_=>rfl
 | (n,v)::r,m,h=>by
  unfold bindL
  rw[Yn λ w hw=>h w (Ao _ hw)]
  split
  ·have:x≠n:=by rintro rfl;exact h v Am
   simp[this]
  ·rfl
theorem Yp {kindOf:Str->Option NameKind}{x:Str}:∀ {binds:List (Str×Value)}{m:Str->Option Value},(∀ v,(x,v)∉binds)->bindC kindOf binds m x=m x
 | [],_,_=>rfl
 | (n,v)::r,m,h=>by
  unfold bindC
  rw[Yp λ w hw=>h w (Ao _ hw)]
  split
  ·rfl
  ·have:x≠n:=by rintro rfl;exact h v Am
   simp[this]
theorem Yo {kindOf:Str->Option NameKind}{x:Str}{v:Value}:∀ {P:List Str}{vs:List Value}{i:Nat}{m:Str->Option Value},P.Nodup->P[i]?=some x->vs[i]?=some v->kindOf x=some .local->
  bindL kindOf (P.zip vs) m x=some v
 | [],_,_,_,_,h,_,_=>by simp at h
 | _::_,[],_,_,_,_,h,_=>by simp at h
 | p::P,w::vs,0,m,nd,h1,h2,hk=>by
  simp at h1 h2;subst h1;subst h2
  show bindL kindOf ((p,w)::P.zip vs) m p=_
  unfold bindL
  rw[Yn λ v hv=>(Cc.mp nd).1 (DS hv).1,if_pos hk]
  simp
 | p::P,w::vs,i+1,m,nd,h1,h2,hk=>by
  show bindL kindOf ((p,w)::P.zip vs) m x=_
  unfold bindL
  exact Yo (i:=i) (Cc.mp nd).2 (by simpa using h1) (by simpa using h2) hk
theorem Yq {kindOf:Str->Option NameKind}{x:Str}{v:Value}:∀ {P:List Str}{vs:List Value}{i:Nat}{m:Str->Option Value},P.Nodup->P[i]?=some x->vs[i]?=some v->kindOf x≠some .local->
  bindC kindOf (P.zip vs) m x=some v
 | [],_,_,_,_,h,_,_=>by simp at h
 | _::_,[],_,_,_,_,h,_=>by simp at h
 | p::P,w::vs,0,m,nd,h1,h2,hk=>by
  simp at h1 h2;subst h1;subst h2
  show bindC kindOf ((p,w)::P.zip vs) m p=_
  unfold bindC
  rw[Yp λ v hv=>(Cc.mp nd).1 (DS hv).1,if_neg hk]
  simp
 | p::P,w::vs,i+1,m,nd,h1,h2,hk=>by
  show bindC kindOf ((p,w)::P.zip vs) m x=_
  unfold bindC
  exact Yq (i:=i) (Cc.mp nd).2 (by simpa using h1) (by simpa using h2) hk
noncomputable def start (N:List Str) (vs:List V):St:=vs.map some++List.replicate (N.length-vs.length) none
noncomputable def wj (CX:vL) (P:Program) (w:World) (K:Ab) (mg:Str->Option Value) (base:Heap) (N:List Str) (qual:Str) (scope:Scope) (f:Addr) (cd:Value) (A:Around) (outer:List Env) (s:Shared) (H:Hp) (E:XK):Cx where
 prog:=P
 w:=w
 K:=K
 mg:=mg
 base:=base
 A:=A.deeper (envOfC qual scope s.heap.objs.size f cd)
 N:=N
 s₀:=s
 H₀:=H
 env:=envOfC qual scope s.heap.objs.size f cd
 outer:=outer
 stack:=envOfC qual scope s.heap.objs.size f cd::outer
 ex:=[]
 calm:=true
 fn:=λ _=>true
 pn:=[]
 xe:=λ e s'=>wpAny (model P w) (A.deeper (envOfC qual scope s.heap.objs.size f cd)) (leaving (envOfC qual scope s.heap.objs.size f cd) e) (λ _ s''=>CX outer H s E e s'') (λ e' s''=>CX outer H s E e' s'') s'
def Yh {sc:Scope}{n:Nat}{x:Str}(h:sc.names.lookup x=some .cell):∃ c,(cellsFrom n sc.names []).lookup x=some c:=by
 have q:=PySem.W.cellsFrom_some sc.names n [] (.inl h)
 exact Dy.mp q
def QB {CX:vL}{P:Program}{w:World}{K:Ab}{mg:Str->Option Value}{base:Heap}{N ps:List Str}{qual:Str}{scope:Scope}{f:Addr}{cd:Value}{A:Around}{outer:List Env}{s s1:Shared}{H:Hp}{E:XK}{us:List Value}{vs:List V}
  (S:zW N ps scope) (hd:A.handled=none) (e0:qG P w K mg base A outer s H) (hl:vs.length=ps.length) (r:Vals vs us)
  (x:InCallC s s.heap.objs.size (bindL (envOfC qual scope s.heap.objs.size f cd).kindOf (ps.zip us) λ _=>none) (cellsFrom (s.heap.objs.size+1) scope.names []) (bindC (envOfC qual scope s.heap.objs.size f cd).kindOf (ps.zip us) λ _=>none) s1):
  Inv (wj CX P w K mg base N qual scope f cd A outer s H E) [] (start N vs) H s1:=by
 have Ah:ps.length<=N.length:=by have:=congrArg List.length S.pre;rw[DR] at this;lia
 obtain⟨h1,tk,rfl,hk⟩:=x.done
 have noA:∀ b:Addr,b∉(wj CX P w K mg base N qual scope f cd A outer s H E).ex:=λ b z=>absurd (show b∈([]:List Addr) from z) (by simp)
 refine⟨⟨e0.mod,S.kind,rfl,rfl,Af _,λ y z c h1 h2=>?_,λ y hy=>?_,λ y c _ h=>?_,λ _=>hd,Around.frames_deeper e0.frames,.inr ⟨rfl,rfl⟩,λ b z=>absurd z (noA b),e0.bs,e0.tp,λ b _ _=>noA b,λ b z=>absurd z (noA b),e0.vf,e0.tY⟩,
  rfl,e0.bare,Un.kept hk,⟨_,x.toInCall.ns,λ i y v h1 h2 h3=>?_⟩,λ y c h=>⟨_,x.cell y c h⟩,e0.zl.fresh (Af _),λ y c h=>?_,λ p hp=>absurd (show p∈([]:List (Addr×Obj)) from hp) (by simp),e0.zl.kept hk,?_⟩
 ·exact name_of_addr x.apart (PySem.mem_of_lookup h1) (PySem.mem_of_lookup h2)
 ·have hy:scope.names.lookup y=some .cell\/scope.names.lookup y=some .free:=hy
  rcases hy with hy | hy
  ·exact Yh hy
  ·exact absurd rfl (S.Rz _ (PySem.mem_of_lookup hy))
 ·exact BI (x.above y c (PySem.mem_of_lookup h))
 ·have hi:i<vs.length:=by
   unfold start at h2
   by_cases hi:i<vs.length
   ·exact hi
   ·rw[Cv (by simpa using hi)] at h2
    rw[Dx] at h2
    split at h2 <;> cases h2
  have ha:vs[i]?=some v:=by
   unfold start at h2
   rw[Cu (by simpa using hi),Ax] at h2
   cases e:vs[i]? with
   | none=>rw[e] at h2;cases h2
   | some a=>rw[e] at h2;cases h2;rfl
  obtain⟨u,hu,rv⟩:=r.get ha
  have hp:ps[i]?=some y:=by
   rw[<- S.pre,List.getElem?_take_of_lt (by lia)];exact h1
  have ndP:ps.Nodup:=by rw[<- S.pre];exact S.nd.sublist (List.take_sublist _ _)
  refine⟨u,rv,?_⟩
  rcases S.par y (Bb hp) with k | k
  ·exact .inl ⟨k,Yo ndP hp hu k⟩
  ·obtain⟨c,e⟩:=Yh (n:=s.heap.objs.size+1) k
   refine .inr ⟨.inl k,c,e,?_⟩
   have q:=x.cell y c e
   rw[Yq ndP hp hu (by show scope.names.lookup y≠_;rw[k];decide)] at q
   exact q
 ·exact e0.zl.fresh (BI (x.above y c (PySem.mem_of_lookup h)))
 ·unfold start
  show _=N.length
  rw[B2,Au,List.length_replicate]
  lia
def Zq {CX:vL}{P:Program}{w:World}{K:Ab}{mg:Str->Option Value}{base:Heap}{k:Nat}{f:Addr}{name qual:Str}{params:Arguments}{body:List Stmt}{scope:Scope}{dV kV doc pm Ad ct oc:Value}{an od:Option Addr}
  {osl:Array (Option Value)}{N ps:List Str}{sp:Sp}(lk:K.lookup f=some ⟨oc,od,.func (PySem.W.fnOf name qual params body scope dV kV doc pm an Ad ct),osl⟩) (AW:PySem.W.codeIn K Ad qual=true) (S:zW N ps scope)
  (len:∀ vs H Q E,sp vs H Q E->vs.length=ps.length)
  (hbody:∀ (A:Around) (outer:List Env) (s:Shared) (H:Hp) (vs:List V) (Q:VK) (E:XK),zV k (A.deeper (envOfC qual scope s.heap.objs.size f Ad))->sp vs H Q E->
   ∃ t,xK (wj CX P w K mg base N qual scope f Ad A outer s H E) body t/\t { nx:=λ _ H'=>Q .zj H',rt:=Q } (start N vs) H):
  xa P w K mg base CX (k+1) f (PySem.W.fnOf name qual params body scope dV kV doc pm an Ad ct) ps sp:=by
 refine⟨len,λ A outer s H args us vs Q E hr e0 hb r BV=>?_⟩
 have hl:=len _ _ _ _ BV
 have KX:K.In s.heap:=e0.mod.p0.keeps λ b o e=>(e0.bs b o e).1
 have lim:s.heap.NoLimit:=e0.mod.nolimit.keeps λ b o e=>(e0.bs b o e).1
 have hkind:∀ y∈ps.zip us,scope.names.lookup y.1=some .local\/(scope.names.lookup y.1=some .cell/\((cellsFrom (s.heap.objs.size+1) scope.names []).lookup y.1).isSome=true):=λ⟨n,v⟩ hy=>by
  rcases S.par n (DS hy).1 with q | q
  ·exact .inl q
  ·exact .inr ⟨q,PySem.W.cellsFrom_some _ _ _ (.inl q)⟩
 refine codeAny_call_function hr.depth (KX _ _ lk) rfl S.co S.gen rfl (PySem.W.codeRec_of KX AW) (hb _ _ _ _ ?_)
 refine wpAny_newFunctionEnv_cells S.kind hkind λ env he s1 x=>?_
 subst he
 refine⟨lim.keeps x.toInCall.keep,codeAny_func ?_⟩
 obtain⟨t,ht,hq⟩:=hbody A outer s H vs Q E (hr.deeper _) BV
 have I:Inv (wj CX P w K mg base N qual scope f Ad A outer s H E) [] (start N vs) H s1:=QB S hr.hd e0 hl r x
 refine za3 (ht [] s1 (start N vs) H _ I hq) (λ fl s' hs=>?_) λ e s' hs=>hs
 have fin:∀ {σ':St}{H':Hp}{v:V}{u:Value},Inv (wj CX P w K mg base N qual scope f Ad A outer s H E) [] σ' H' s'->RelV v u->Q v H'->CE outer P w H s Q u s':=
  λ{σ' H' v u} J rv q=>⟨v,H',J.os,J.bare,J.base,J.zl,rv,q⟩
 cases fl with
 | ret u=>
  obtain⟨v,σ',H',J,rv,q⟩:=hs
  exact fin J rv q
 | next=>
  obtain⟨σ',H',J,q⟩:=hs
  exact fin (v:=V.zj) (u:=Value.none) J rfl q
 | brk=>
  obtain⟨_,_,_,q⟩:=hs
  exact False.elim q
 | cont=>
  obtain⟨_,_,_,q⟩:=hs
  exact False.elim q
section
variable {X:Cx}{x:Str}{p pos:Pos}{e:Expr}{es:List Expr}{t:TA}{id T:String}{r:List V->Hp->VK->Prop}
def l4 (r:List V->Hp->VK->Prop) (t:TA):TE:=fun σ H Q=>t σ H λ vs H1=>r vs H1 Q
def tQ (hc:yB X (.builtin id) r) (hg:Gl X x) (hm:X.mg x=none) (hv:bootBuiltins x=some (.builtin id)) (ha:PA X (e::es) t) (hn:x≠"__name__":=by decide) (AZ:(x == ("__debug__":Str))=false:=by decide)
  (he:starEach (e::es) X.env=(false,eval e X.env)::starEach es X.env:=by rfl) (Ah:(backTo pos (starEach es X.env)).any (·.1)=false:=by rfl):PE X (.Call (.Name x p) (e::es) [] pos) (l4 r t):=by
 intro pins s σ H Q I h
 refine zaJ (pz I hg hm hv ?_ hn AZ)
 exact PyProof.Rows.callWith_builtin1 (zw (ha pos pins s σ H _ I h) λ us s1 ⟨vs,H1,I1,r1,q1⟩=>hc pins s1 σ H1 vs us Q I1 r1 q1) he Ah
def oX (hc:yB X (.type T) r) (hg:Gl X x) (hm:X.mg x=none) (hv:bootBuiltins x=some (.type T)) (ha:PA X (e::es) t) (hn:x≠"__name__":=by decide) (AZ:(x == ("__debug__":Str))=false:=by decide)
  (he:starEach (e::es) X.env=(false,eval e X.env)::starEach es X.env:=by rfl) (Ah:(backTo pos (starEach es X.env)).any (·.1)=false:=by rfl):PE X (.Call (.Name x p) (e::es) [] pos) (l4 r t):=by
 intro pins s σ H Q I h
 refine zaJ (pz I hg hm hv ?_ hn AZ)
 exact PyProof.Rows.callWith_type1 (zw (ha pos pins s σ H _ I h) λ us s1 ⟨vs,H1,I1,r1,q1⟩=>hc pins s1 σ H1 vs us Q I1 r1 q1) he Ah
end
end L2
namespace HT
open PySem PyProof.Rows
noncomputable def lexLt:List Int->List Int->Bool
 | [],[]=>false
 | [],_::_=>true
 | _::_,[]=>false
 | x::xs,y::ys=>if x=y then lexLt xs ys else decide (x<y)
def rp (x y:Int) (xs ys:List Int):lexLt (x::xs) (y::ys)=if x=y then lexLt xs ys else decide (x<y):=rfl
def RX:lexLt [] []=false:=rfl
def RY (y:Int) (ys:List Int):lexLt [] (y::ys)=true:=rfl
def RZ (x:Int) (xs:List Int):lexLt (x::xs) []=false:=rfl
def PH (A:Around) (s:Shared) (a:Int) (t:Tok) (c:Int) (u:Tok):∃ e,SeqAt.EqAt A s (.int a t) (.int c u) e/\(e=true↔a=c):=
 ⟨(a == c),SeqAt.EqAt.int_int a t c u,by simp⟩
def Vm (A:Around) (s:Shared) (a:Int) (t:Tok) (c:Int) (u:Tok) (prog:Program) (w:World) (E:Value->Shared->Prop) (Q:Value->Shared->Prop) (h:Q (.bool (decide (a<c))) s):
  wpAny (model prog w) A (richCompare .Lt (.int a t) (.int c u)) Q E s:=
 (PyProof.Rows.lt_int h:wpAny (model prog w) A (compareOp .Lt (.int a t) (.int c u)) Q E s)
section
open PySem.SeqAt
open PySem.AutoSeq1 (wpAny_loadPart')
open PySem.MeetsSeq PySem.MeetsSeq2 PySem.MeetsSeq3
def XZ (l b:Addr) (items items2:Array Value) (n n2:Nat) (dd dd2:Option Addr) (sl sl2:Array (Option Value)) (ns ms:List Int) (hi:IntsAre items.toList ns) (hj:IntsAre items2.toList ms):
  Meets (Builtin.«tuple.__lt__» ⟨[.ref l,.ref b],[]⟩)
   (λ _ R s=>s.heap.get? l=some { cls:=.type "tuple",dict:=dd,data:=.seq items n,slots:=sl }/\s.heap.get? b=some { cls:=.type "tuple",dict:=dd2,data:=.seq items2 n2,slots:=sl2 }/\
    R (.ok (.ret (.bool (lexLt ns ms)))) s):=
 .of_wp λ prog w A R s h=>by
  obtain⟨hp,g,d,tk,os⟩:=s;obtain⟨hl,hb,h⟩:=h
  have f2:=AutoSeq1.sub_tuple_tuple
  have z1:items.size=ns.length:=by rw[<- hi.length];simp
  have z2:items2.size=ms.length:=by rw[<- hj.length];simp
  wp_walk using wpAny_loadPart' hl,wpAny_loadPart' hb,wpAny_forIn_list _ (λ rest b s'=>b.1=none/\s'=⟨hp,g,d,tk,os⟩/\∃ (vs ws:List Value) (ns' ms':List Int),rest=vs.zip ws/\
   IntsAre vs ns'/\IntsAre ws ms'/\ns'.length+items2.size=ms'.length+items.size/\R (.ok (.ret (.bool (lexLt ns' ms')))) ⟨hp,g,d,tk,os⟩) _
  case turn=>
   rintro⟨y,x⟩ rest b s' ⟨hb',rfl,vs,ws,ns',ms',hz,D2,Ci,hlen,hR⟩
   cases D2 with
   | nil=>rw[List.zip_nil_left] at hz;cases hz
   | cons a t D1=>
    cases Ci with
    | nil=>rw[List.zip_nil_right] at hz;cases hz
    | cons c u DZ=>
     rw[List.zip_cons_cons] at hz
     injection hz with hyx hrest
     injection hyx with hy hx
     subst hy hx
     rw[rp] at hR
     simp only[AR] at hlen
     obtain⟨e,he,De⟩:=PH A.in1 ⟨hp,g,d,tk,os⟩ a t c u
     refine za0 (he prog w _ _ ?_)
     cases e with
     | true=>
      rw[if_pos (De.mp rfl)] at hR
      wp_walk
      exact⟨rfl,rfl,_,_,_,_,hrest,D1,DZ,by lia,hR⟩
     | false=>
      rw[if_neg (λ q=>absurd (De.mpr q) BE)] at hR
      have hri:=Vm A.in1 ⟨hp,g,d,tk,os⟩ a t c u prog w
      wp_walk using hri
      exact⟨_,rfl,by simpa using hR⟩
  case fin=>
   rintro⟨b1,b2⟩ s' ⟨hb',rfl,vs,ws,ns',ms',hz,D2,Ci,hlen,hR⟩
   simp only at hb'
   subst hb'
   have hv:lexLt ns' ms'=decide (items.size<items2.size):=by
    cases D2 with
    | nil=>
     cases Ci with
     | nil=>
      simp only[Ct] at hlen
      rw[RX]
      exact (za4 (by lia)).symm
     | cons c u hw=>
      simp only[Ct,AR] at hlen
      rw[RY]
      exact (zaD (by lia)).symm
    | cons a t hv=>
     cases Ci with
     | nil=>
      simp only[Ct,AR] at hlen
      rw[RZ]
      exact (za4 (by lia)).symm
     | cons c u hw=>
      rw[List.zip_cons_cons] at hz
      cases hz
   rw[hv] at hR
   wp_walk
   exact⟨_,rfl,by simpa [Builtin.Tuple.tupleCompareSizes] using hR⟩
  case h=>
   exact⟨rfl,rfl,items.toList,items2.toList,ns,ms,rfl,hi,hj,by lia,h⟩
end
section
variable {prog:Program}{w:World}{A:Around}{E:Value->Shared->Prop}{s:Shared}
def RO {l b:Addr}{items items2:Array Value}{ns ms:List Int}{Q:Value->Shared->Prop}(hl:IsTup s.heap l items) (hb:IsTup s.heap b items2) (hi:IntsAre items.toList ns) (hj:IntsAre items2.toList ms)
  (hu:A.units<cLine) (h:Q (.bool (lexLt ns ms)) s):wpAny (model prog w) A (compareOp .Lt (.ref l) (.ref b)) Q E s:=by
 obtain⟨⟨cls,dd,data,sl⟩,ho,hc,n,hd⟩:=id hl
 obtain⟨⟨cls2,dd2,data2,sl2⟩,ho2,hc2,n2,hd2⟩:=id hb
 simp only at hc hd hc2 hd2
 subst hc hd hc2 hd2
 exact richCompare_meets_room (op:=.Lt) ⟨_,ho,rfl⟩ ⟨_,ho2,rfl⟩ PySem.F.slot_tuple_lt PySem.F.entry_tuple_lt (PySem.F.args_tuple_lt_2 _ _) (XZ l b items items2 n n2 dd dd2 sl sl2 ns ms hi hj)
  ⟨ho,ho2,show Value.bool (lexLt ns ms)≠Value.notImplemented/\Q (.bool (lexLt ns ms)) s from ⟨(λ x=>nomatch x),h⟩⟩ hu
def O0 {t b:Addr}{vs ws:List Value}{Q:Value->Shared->Prop}(ht:IsTup s.heap t vs.toArray) (hb:IsTup s.heap b ws.toArray) (hv:vs≠[])
  (h1:ws=[]->Q (.ref t) s) (h2:ws≠[]->Q (.ref s.heap.objs.size) { s with heap:=s.heap.push { cls:=.type "tuple",data:=.seq (vs++ws).toArray } })
  (hsz:vs.length+ws.length<=sizeLine):wpAny (model prog w) A (binaryOp .Add (.ref t) (.ref b)) Q E s:=by
 obtain⟨⟨cls,dd,data,sl⟩,ho,hc,n,hd⟩:=id ht
 obtain⟨⟨cls2,dd2,data2,sl2⟩,ho2,hc2,n2,hd2⟩:=id hb
 simp only at hc hd hc2 hd2
 subst hc hd hc2 hd2
 have e:vs.toArray++ws.toArray=(vs++ws).toArray:=by simp
 by_cases hw:ws=[]
 ·exact concat_meets ⟨_,ho,rfl⟩ ⟨_,ho2,rfl⟩ noFill_tuple_add seq_tuple_add PySem.F.slot_tuple_add PySem.F.entry_tuple_add (PySem.F.args_tuple_add_2 _ _)
   (tuple_addW1 t b vs.toArray ws.toArray n n2 dd dd2 sl sl2 (by simpa using hv) (by simp[hw])) ⟨ho,ho2,h1 hw⟩
 ·refine concat_meets ⟨_,ho,rfl⟩ ⟨_,ho2,rfl⟩ noFill_tuple_add seq_tuple_add PySem.F.slot_tuple_add PySem.F.entry_tuple_add (PySem.F.args_tuple_add_2 _ _)
   (tuple_addW2 t b vs.toArray ws.toArray n n2 dd dd2 sl sl2 (by simpa using hv) (by simpa using hw) (by rw[Av,Av];exact hsz)) ⟨ho,ho2,?_⟩
  rw[e]
  exact h2 hw
end
end HT
namespace L2
open PySem PySem.Spec PyProof.Rows
def intsAre_of {ns:List Int}:∀ {us:List Value},Vals (ns.map V.int) us->IntsAre us ns:=by
 induction ns with
 | nil=>intro us r;rw[BA] at r;cases r;exact .nil
 | cons n ns ih=>
  intro us r
  rw[Aq] at r
  cases r with
  | cons r1 r2=>
   obtain⟨t,e⟩:=r1
   subst e
   exact .cons n t (ih r2)
section
variable {X:Cx}{p2:Pos}
def il (K:Ab):R2:=λ x y H Q=>∃ a b ns ms,x=.ref a/\y=.ref b/\zR K H a (ns.map V.int)/\zR K H b (ms.map V.int)/\Q (.bl (HT.lexLt ns ms)) H
def Tf (hu:X.A.units<cLine):zS X (compareOp .Lt) (il X.K):=by
 intro pins s σ H x y v u Q I rx ry h
 obtain⟨a,b,ns,ms,rfl,rfl,ha,hb,q⟩:=h
 cases rx
 cases ry
 obtain⟨its,r1,p1,_⟩:=I.tuple ha
 obtain⟨its2,r2,p2,_⟩:=I.tuple hb
 have i1:IntsAre its.toArray.toList ns:=intsAre_of r1
 have i2:IntsAre its2.toArray.toList ms:=intsAre_of r2
 exact HT.RO p1 p2 i1 i2 hu ⟨.bl (HT.lexLt ns ms),H,I,rfl,q⟩
def cO (K:Ab):R2:=λ x y H Q=>∃ a b xs ys,x=.ref a/\y=.ref b/\zR K H a xs/\zR K H b ys/\xs≠[]/\xs.length+ys.length<=sizeLine/\
 (ys=[]->Q (.ref a) H)/\(ys≠[]->∀ p,H p=none->Q (.ref p) (upd H p (.tup (xs++ys))))
def Vals.n5 {xs:List V}{us:List Value}(r:Vals xs us):us=[]↔xs=[]:=by
 cases r with
 | _=>simp
def Tq:zS X (binaryOp .Add) (cO X.K):=by
 intro pins s σ H x y v u Q I rx ry h
 obtain⟨a,b,xs,ys,rfl,rfl,ha,hb,hx,hz,q1,q2⟩:=h
 cases rx
 cases ry
 obtain⟨its,r1,p1,_⟩:=I.tuple ha
 obtain⟨its2,r2,p2,_⟩:=I.tuple hb
 refine HT.O0 p1 p2 (λ z=>hx (r1.n5.mp z)) (λ z=>⟨.ref a,H,I,rfl,q1 (r2.n5.mp z)⟩) (λ z=>?_) (by rw[<- r1.length,<- r2.length];exact hz)
 refine⟨.ref s.heap.objs.size,_,I.laid (t':=s.toks) (o:=.tup (xs++ys)) (λ b ob q=>za1 _ q) (Af _) ?_,rfl,q2 (λ w=>z (r2.n5.mpr w)) _ (I.zl.fresh (Af _))⟩
 exact⟨by rw[B2];exact hz,_,r1.append r2,IsTup.new _ _⟩
end
noncomputable def wQ (n:Nat) (i:Int):Option Nat:=if 0<=i then (if i<n then some i.toNat else none) else if -(n:Int)<=i then some (i+n).toNat else none
def zQ {α:Type}(xs:List α) (i:Int):Option α:=(wQ xs.length i).bind λ j=>xs[j]?
def aI {n:Nat}{i:Int}{j:Nat}(h:wQ n i=some j):seqIndex? i n=some j/\j<n/\-(n:Int)<=i/\i<n:=by
 unfold wQ at h
 by_cases h0:0<=i
 ·rw[if_pos h0] at h
  by_cases h1:i<n
  ·rw[if_pos h1] at h
   have e:i.toNat=j:=A4 h
   exact⟨by rw[seqIndex_of h0 h1,e],by lia,by lia,h1⟩
  ·rw[if_neg h1] at h;cases h
 ·rw[if_neg h0] at h
  by_cases h1:-(n:Int)<=i
  ·rw[if_pos h1] at h
   have e:(i+n).toNat=j:=A4 h
   exact⟨by rw[seqIndex_neg (by lia) h1,e],by lia,h1,by lia⟩
  ·rw[if_neg h1] at h;cases h
def fK {α:Type}{xs:List α}{i:Int}{v:α}(h:zQ xs i=some v):∃ j,seqIndex? i xs.length=some j/\xs[j]?=some v/\j<xs.length/\-(xs.length:Int)<=i/\i<xs.length:=by
 unfold zQ at h
 cases e:wQ xs.length i with
 | none=>rw[e] at h;cases h
 | some j=>
  rw[e] at h
  obtain⟨h1,h2,h3,h4⟩:=aI e
  exact⟨j,h1,h,h2,h3,h4⟩
def fJ {α:Type}(xs:List α) (v:α):zQ (xs++[v]) (-1)=some v:=by
 have hl:(xs++[v]).length=xs.length+1:=by simp
 have e:wQ (xs++[v]).length (-1)=some xs.length:=by
  unfold wQ
  rw[hl,if_neg (by decide),if_pos (by lia)]
  congr 1
  lia
 unfold zQ
 rw[e]
 show (xs++[v])[xs.length]?=some v
 simp
def Y3 (b:Expr):Prop:=∀ o i,subscripted b false o i=operate [o,i] (getItem o i)
def sG (X:Cx) (r:R2):Prop:=
 ∀ (value slice:Expr) (pins:List (Addr×Obj)) (s:Shared) (σ:St) (H:Hp) (x y:V) (v u:Value) (Q:VK),Inv X pins σ H s->RelV x v->RelV y u->r x y H Q->
  subscripted slice false v u=operate [v,u] (getItem v u)->wpAny (model X.prog X.w) X.A (subscriptTail value slice v u) (EP X pins σ Q) X.xe s
def Nm (X:Cx) (id:String) (r:V->List V->Hp->VK->Prop):Prop:=
 ∀ (pins:List (Addr×Obj)) (s:Shared) (σ:St) (H:Hp) (x:V) (xs:List V) (v:Value) (us:List Value) (Q:VK),Inv X pins σ H s->RelV x v->Vals xs us->r x xs H Q->
  wpAny (model X.prog X.w) X.A (call (.builtin id) (v::us)) (EP X pins σ Q) X.xe s
section
variable {X:Cx}{a b:Expr}{ta tb:TE}{pos:Pos}
def sG.or {r r':R2}(h:sG X r) (h':sG X r'):sG X (λ x y H Q=>r x y H Q\/r' x y H Q):=by
 intro value slice pins s σ H x y v u Q I rx ry q hs
 rcases q with q | q
 ·exact h value slice pins s σ H x y v u Q I rx ry q hs
 ·exact h' value slice pins s σ H x y v u Q I rx ry q hs
def Ui {r:R2}(hr:sG X r) (ha:PE X a ta) (hb:PE X b tb) (hs:Y3 b):PE X (.Subscript a b pos) (oy r ta tb):=by
 intro pins s σ H Q I h
 exact Subscript_ (fG ha hb I h λ v u s2 x y H2 I2 rx ry q=>hr a b pins s2 σ H2 x y v u Q I2 rx ry q (hs _ _))
def cJ (K:Ab):R2:=λ x y H Q=>∃ p xs i v,x=.ref p/\y=.int i/\zL K H p xs/\zQ xs i=some v/\Q v H
def cH (K:Ab):R2:=λ x y H Q=>∃ p xs i v,x=.ref p/\y=.int i/\zR K H p xs/\zQ xs i=some v/\Q v H
def cI:R2:=λ x y H Q=>∃ z i c,x=.str z/\y=.int i/\z.length<=sizeLine/\zQ z.cps.toList i=some c/\Q (.str ⟨#[c]⟩) H
def Qz:sG X (cJ X.K):=by
 intro value slice pins s σ H x y v u Q I rx ry h hs
 obtain⟨p,xs,i,z,rfl,rfl,hq,he,q⟩:=h
 cases rx
 obtain⟨t,rfl⟩:=ry
 obtain⟨its,r,pl,hz⟩:=I.list hq
 obtain⟨j,h1,h2,h3,h4,h5⟩:=fK he
 obtain⟨w,ew,rw'⟩:=r.get h2
 have hl:=r.length
 have hn:=qg
 have fin:EP X pins σ Q w s:=⟨z,H,I,rw',q⟩
 by_cases h0:0<=i
 ·have hj:i.toNat=j:=by
   rw[seqIndex_of h0 h5] at h1
   exact A4 h1
  exact item_listR pl.isList h0 (by lia) (by rw[hj];simpa using ew) fin hs
 ·have hj:(i+(its.toArray.size:Int)).toNat=j:=by
   rw[seqIndex_neg (by lia) h4] at h1
   rw[Av,<- hl]
   exact A4 h1
  exact subscriptTail_builtinR (x:=w) pl.isList.typeIs slot_list_getitem.lookup
   (wpAny_getItem_list_neg (Q:=λ r s'=>r=w/\EP X pins σ Q r s') pl.isList (by lia) (by rw[Av] <;> lia) (by lia) (by rw[hj];simpa using ew) ⟨rfl,fin⟩) hs
def Qv:sG X (cH X.K):=by
 intro value slice pins s σ H x y v u Q I rx ry h hs
 obtain⟨p,xs,i,z,rfl,rfl,hq,he,q⟩:=h
 cases rx
 obtain⟨t,rfl⟩:=ry
 obtain⟨its,r,pl,hz⟩:=I.tuple hq
 obtain⟨j,h1,h2,h3,h4,h5⟩:=fK he
 obtain⟨w,ew,rw'⟩:=r.get h2
 have hl:=r.length
 have hn:=qg
 have fin:EP X pins σ Q w s:=⟨z,H,I,rw',q⟩
 exact subscriptTail_builtinR (x:=w) pl.typeIs slot_tuple_getitem.lookup
  (getItem_tuple (j:=j) (Q:=λ r s'=>r=w/\EP X pins σ Q r s') pl (by lia) (by lia) (by rw[Av,<- hl];exact h1) (by simpa using ew) ⟨rfl,fin⟩) hs
def Qw:sG X cI:=by
 intro value slice pins s σ H x y v u Q I rx ry h hs
 obtain⟨z,i,c,rfl,rfl,hz,he,q⟩:=h
 obtain⟨t,rfl⟩:=rx
 obtain⟨t',rfl⟩:=ry
 obtain⟨j,h1,h2,h3,h4,h5⟩:=fK he
 have hl:z.cps.toList.length=z.length:=by simp[Str.length]
 rw[hl] at h1 h4 h5
 have hn:=qg
 exact tail_any (typeIs_str s z t) slot_str_getitem.lookup (getItem_str (c:=c) (by
  have e1:decide (i < -(2 ^ 63:Int))=false:=za4 (by lia)
  have e2:decide (i≥2 ^ 63)=false:=za4 (by lia)
  rw[e1,e2,Bool.or_false]) (by rw[h1];simpa using h2) ⟨.str ⟨#[c]⟩,H,I.tok _,⟨_,rfl⟩,q⟩) hs
def cK (K:Ab):R2:=λ x y H Q=>cJ K x y H Q\/cH K x y H Q\/cI x y H Q
def Qy:sG X (cK X.K):=Qz.or (Qv.or Qw)
def RK (its:List Value) (n j:Nat) (u:Value):Obj.mapSeq (·.setIfInBounds j u) { cls:=.type "list",data:=.seq its.toArray n }={ cls:=.type "list",data:=.seq (its.set j u).toArray n }:=by
 simp[Obj.mapSeq]
theorem Inv.lst {pins:List (Addr×Obj)}{σ:St}{H:Hp}{s:Shared}{p:Addr}{xs:List V}(I:Inv X pins σ H s) (h:H p=some (.lst xs)):
  ∃ (its:List Value) (n:Nat),Vals xs its/\s.heap.get? p=some { cls:=.type "list",data:=.seq its.toArray n }/\xs.length<=sizeLine:=by
 obtain⟨z,its,n,r,e⟩:=I.zl p _ h
 exact⟨its,n,r,e,z⟩
def Inv.RP {pins:List (Addr×Obj)}{σ:St}{H:Hp}{s:Shared}{p:Addr}{xs ys:List V}{its AB:List Value}{n n':Nat}{f:Obj->Obj}(I:Inv X pins σ H s) (h:H p=some (.lst xs))
  (ho:s.heap.get? p=some { cls:=.type "list",data:=.seq its.toArray n }) (hf:f { cls:=.type "list",data:=.seq its.toArray n }={ cls:=.type "list",data:=.seq AB.toArray n' }) (r:Vals ys AB) (hz:ys.length<=sizeLine) (t:Nat):
  Inv X pins σ (upd H p (.lst ys)) { s with heap:=s.heap.update p f,toks:=t }:=by
 have e:(s.heap.update p f).get? p=some { cls:=.type "list",data:=.seq AB.toArray n' }:=by
  rw[za6 f ho (by rw[hf] <;> rfl),hf]
 refine I.write (x:=p) (e:=p) (by rw[h];trivial) (.inl rfl) (λ b u hb q=>(za8 _ _ (Ne.symm hb)).trans q) ⟨_,e⟩ ?_
 exact⟨hz,AB,n',r,e⟩
def Vq:V->V->V->Hp->(Hp->Prop)->Prop:=λ o i v H Q=>∃ p xs k j,o=.ref p/\i=.int k/\H p=some (.lst xs)/\wQ xs.length k=some j/\Q (upd H p (.lst (xs.set j v)))
def set_list:Y4 X Vq:=by
 intro pins s σ H o i v ov iv u Q I ro ri rv h
 obtain⟨p,xs,k,j,rfl,rfl,hp,hj,q⟩:=h
 cases ro
 obtain⟨t,rfl⟩:=ri
 obtain⟨its,n,r,ho,hz⟩:=I.lst hp
 obtain⟨h1,h2,h3,h4⟩:=aI hj
 have hl:=r.length
 have hn:=qg
 have I':Inv X pins σ (upd H p (.lst (xs.set j v))) { s with heap:=s.heap.update p (Obj.mapSeq (·.setIfInBounds j u)) }:=
  I.RP hp ho (RK its n j u) (r.set rv j) (by rw[CN];exact hz) s.toks
 by_cases h0:0<=k
 ·have hk:k.toNat=j:=by
   rw[seqIndex_of h0 h4] at h1
   exact A4 h1
  exact PySem.W.ki_setAt ho h0 (by lia) (by rw[Av,<- hl];exact h4) (by rw[hk];exact⟨_,I',q⟩)
 ·have hk:(k+(its.toArray.size:Int)).toNat=j:=by
   rw[seqIndex_neg (by lia) h3] at h1
   rw[Av,<- hl]
   exact A4 h1
  exact PySem.W.ki_setBack ho (by lia) (by rw[Av,<- hl];exact h3) (by lia) (by rw[hk];exact⟨_,I',q⟩)
def OH:yB X (.builtin "len") (λ xs H Q=>∃ p ys,xs=[.ref p]/\(zL X.K H p ys\/zR X.K H p ys)/\Q (.int ys.length) H):=by
 intro pins s σ H xs us Q I r h
 obtain⟨p,ys,rfl,hq,q⟩:=h
 obtain⟨u,rfl,rx⟩:=vals1 r
 cases rx
 have hn:=qg
 rcases hq with hq | hq
 ·obtain⟨its,r',pl,hz⟩:=I.list hq
  have hlen:=r'.length
  exact Calls.call_len_list pl.isList (by simp only[Av] <;> lia) ⟨.int ys.length,H,I.tok _,⟨s.toks+1,by rw[Av,hlen]⟩,q⟩
 ·obtain⟨its,r',pl,hz⟩:=I.tuple hq
  have hlen:=r'.length
  exact len_tuple pl (by simp only[Av] <;> lia) ⟨.int ys.length,H,I.tok _,⟨s.toks+1,by rw[Av,hlen]⟩,q⟩
def OG:yB X (.builtin "len") (λ xs H Q=>∃ z,xs=[.str z]/\z.length<=sizeLine/\Q (.int z.length) H):=by
 intro pins s σ H xs us Q I r h
 obtain⟨z,rfl,hz,q⟩:=h
 obtain⟨u,rfl,t,rfl⟩:=vals1 r
 have hn:=qg
 exact len_str (by lia) ⟨.int z.length,H,I.tok _,⟨_,rfl⟩,q⟩
def yB.or {f:Value}{r r':List V->Hp->VK->Prop}(h:yB X f r) (h':yB X f r'):yB X f (λ xs H Q=>r xs H Q\/r' xs H Q):=by
 intro pins s σ H xs us Q I rs q
 rcases q with q | q
 ·exact h pins s σ H xs us Q I rs q
 ·exact h' pins s σ H xs us Q I rs q
def OD:yB X (.type "list") (λ xs H Q=>∃ p ys,xs=[.ref p]/\(zL X.K H p ys\/zR X.K H p ys)/\∀ l,H l=none->Q (.ref l) (upd H l (.lst ys))):=by
 intro pins s σ H xs us Q I r h
 obtain⟨p,ys,rfl,hq,q⟩:=h
 obtain⟨u,rfl,rx⟩:=vals1 r
 cases rx
 have fin:∀ (its:List Value),Vals ys its->ys.length<=sizeLine->∀ (h':Heap) (c':Nat),(∀ b o',s.heap.get? b=some o'->h'.get? b=some o')->
   h'.get? s.heap.objs.size=some { cls:=.type "list",dict:=none,data:=.seq its.toArray c',slots:=#[] }->EP X pins σ Q (.ref s.heap.objs.size) { s with heap:=h' }:=λ its r' hz h' c' kp e=>
  ⟨.ref s.heap.objs.size,_,I.laid (t':=s.toks) kp (Af _) (show yN X.prog X.w _ h' _ (.lst ys) from ⟨hz,its,c',r',e⟩),rfl,q _ (I.zl.fresh (Af _))⟩
 rcases hq with hq | hq
 ·obtain⟨its,r',pl,hz⟩:=I.list hq
  have hlen:=r'.length
  obtain⟨o,ho,hc,n,hd⟩:=pl.isList
  exact call_list_seq p (.inl rfl) ho hc hd (λ h' c' kp e=>fin its r' hz h' c' kp e) (by simp only[Av] <;> lia)
 ·obtain⟨its,r',pl,hz⟩:=I.tuple hq
  have hlen:=r'.length
  obtain⟨o,ho,hc,n,hd⟩:=pl
  exact call_list_seq p (.inr rfl) ho hc hd (λ h' c' kp e=>fin its r' hz h' c' kp e) (by simp only[Av] <;> lia)
def O1:yB X (.type "tuple") (λ xs H Q=>∃ p ys,xs=[.ref p]/\((zL X.K H p ys/\∀ l,H l=none->Q (.ref l) (upd H l (.tup ys)))\/(zR X.K H p ys/\Q (.ref p) H))):=by
 intro pins s σ H xs us Q I r h
 obtain⟨p,ys,rfl,h⟩:=h
 obtain⟨u,rfl,rx⟩:=vals1 r
 cases rx
 rcases h with ⟨hq,q⟩ | ⟨hq,q⟩
 ·obtain⟨its,r',pl,hz⟩:=I.list hq
  have hlen:=r'.length
  refine call_tuple_list pl.isList (λ h' kp=>?_) (by simp only[Av] <;> lia)
  have I1:Inv X pins σ H { s with heap:=h' }:=I.kept (t':=s.toks) kp
  have I2:Inv X pins σ (upd H h'.objs.size (.tup ys)) { s with heap:=h'.push { cls:=.type "tuple",data:=.seq its.toArray } }:=
   I1.laid (t':=s.toks) (λ b o e=>za1 _ e) (Af _) (show yN X.prog X.w _ _ _ (.tup ys) from ⟨hz,its,r',IsTup.new _ _⟩)
  exact⟨.ref h'.objs.size,_,I2,rfl,q _ (I1.zl.fresh (Af _))⟩
 ·obtain⟨its,r',pl,hz⟩:=I.tuple hq
  exact call_tuple_same pl ⟨.ref p,H,I,rfl,q⟩
def dJ (K:Ab) (T:String) (x:V) (H:Hp):Prop:=match x with
 | .str _=>T="str"
 | .int _=>T="int"
 | .ref p=>(T="list"/\∃ xs,zL K H p xs)\/(T="tuple"/\∃ o,K.lookup p=some o/\o.cls=.type "tuple"/\o.dict=none)\/
   (T="dict"/\((∃ Aa,H p=some (.dK Aa))\/∃ Aa,H p=some (.dT Aa)))\/(T="set"/\∃ S n,H p=some (.set S n))
 | _=>False
def XR {pins:List (Addr×Obj)}{σ:St}{H:Hp}{s:Shared}{T:String}{x:V}{v:Value}(I:Inv X pins σ H s) (r:RelV x v) (ty:dJ X.K T x H):
  s.TypeIs v T/\∀ a,v=.ref a->∃ ob,s.heap.get? a=some ob/\ob.dict=none:=by
 cases x with
 | str z=>
  obtain⟨t,rfl⟩:=r
  cases (show T="str" from ty)
  exact⟨typeIs_str s z t,λ _ e=>nomatch e⟩
 | int i=>
  obtain⟨t,rfl⟩:=r
  cases (show T="int" from ty)
  exact⟨typeIs_int s i t,λ _ e=>nomatch e⟩
 | ref p=>
  cases r
  rcases ty with ⟨rfl,xs,hq⟩ | ⟨rfl,o,hk,hc,hd⟩ | ⟨rfl,hk⟩ | ⟨rfl,S,n,hk⟩
  ·obtain⟨its,_,pl,_⟩:=I.list hq
   refine⟨pl.isList.typeIs,λ a e=>?_⟩
   cases e
   obtain⟨o,n,e,c,hd,_⟩:=pl
   exact⟨o,e,hd⟩
  ·refine⟨⟨o,I.yz p o hk,hc⟩,λ a e=>?_⟩
   cases e
   exact⟨o,I.yz _ o hk,hd⟩
  ·have z:∃ o,s.heap.get? p=some o/\o.ExactDict:=by
    rcases hk with ⟨Aa,hk⟩ | ⟨Aa,hk⟩
    ·obtain⟨_,_,_,_,o,_,_,e,ex,_⟩:=I.zl p _ hk
     exact⟨o,e,ex⟩
    ·obtain⟨_,_,_,_,o,_,_,e,ex,_⟩:=I.zl p _ hk
     exact⟨o,e,ex⟩
   obtain⟨o,e,ex⟩:=z
   refine⟨⟨o,e,ex.1⟩,λ a e2=>?_⟩
   cases e2
   exact⟨o,e,ex.2.1⟩
  ·obtain⟨o,_,_,_,e,ex,_⟩:=I.zl p _ hk
   refine⟨⟨o,e,ex.1⟩,λ a e2=>?_⟩
   cases e2
   exact⟨o,e,ex.2.1⟩
 | _=>exact False.elim ty
def jv (K:Ab) (T:String) (r:V->List V->Hp->VK->Prop) (to:TE) (t:TA):TE:=fun σ H Q=>to σ H λ x H1=>dJ K T x H1/\t σ H1 λ xs H2=>r x xs H2 Q
variable {o e:Expr}{es:List Expr}{to:TE}{t:TA}{name:Str}{apos Ae:Pos}{T id:String}{r:V->List V->Hp->VK->Prop}
def ba (pa:PlainAttrs T) (slot:Slot T name id) (hty:typeOf (.builtin id)=pure (.type "method_descriptor")) (hm:Nm X id r) (ho:PE X o to) (ha:PA X (e::es) t)
  (hbase:attributeBase o name X.env (eval o X.env)=eval o X.env:=by rfl)
  (AF:((backTo Ae (starEach (e::es) X.env)).all (λ x=>!x.1)&&(backToKw Ae (keywordEach [] X.env)).all (λ x=>x.1.isSome)
   && decide ((e::es).length+([]:List Keyword).length+(if ([]:List Keyword).isEmpty then 0 else 1)<30))=true:=by rfl)
  (hline:(apos.endLine == Ae.line)=true:=by rfl) (hs:starEach (e::es) X.env=(false,eval e X.env)::starEach es X.env:=by rfl) (hplain:(backTo Ae (starEach es X.env)).any (·.1)=false:=by rfl):
  PE X (.Call (.Attribute o name apos) (e::es) [] Ae) (jv X.K T r to t):=by
 intro pins s σ H Q I h
 refine wpAny_Call_method_late hbase AF hline rfl (zw (ho pins s σ H _ I h) λ v s1 ⟨x,H1,I1,r1,ty,q1⟩=>?_)
 obtain⟨h1,h2⟩:=XR I1 r1 ty
 refine⟨T,id,pa,slot,hty,h1,h2,?_⟩
 have hA:=ha Ae pins s1 σ H1 _ I1 q1
 rw[hs] at hA ⊢
 refine Calls.callWith_builtin (by show (false||(backTo Ae (starEach es X.env)).any (·.1))=false;rw[hplain] <;> rfl) (Calls.evalArgs_plain ?_)
 exact zw hA λ us s2 ⟨vs,H2,I2,r2,q2⟩=>hm pins s2 σ H2 x vs v us Q I2 r1 r2 q2
end
def Y7 (X:Cx) (id:String) (r:V->List V->Hp->VK->Prop):Prop:=
 ∀ (pins:List (Addr×Obj)) (s:Shared) (σ:St) (H:Hp) (x:V) (xs:List V) (v:Value) (us:List Value) (Q:VK),Inv X pins σ H s->RelV x v->Vals xs us->r x xs H Q->
  wpAny (model X.prog X.w) X.A (call (.builtin id) (v::us)) (EP X pins σ Q) X.xe s
theorem Vals.one:∀ {x:V}{us:List Value},Vals [x] us->∃ u,us=[u]/\RelV x u
 | _,_,.cons r .nil=>⟨_,rfl,r⟩
theorem Vals.rep {xs:List V}{us:List Value}(h:Vals xs us):∀ k:Nat,Vals (List.replicate k xs).flatten (List.replicate k us).flatten
 | 0=>.nil
 | k+1=>by
  rw[BS,BS,Cb,Cb]
  exact Vals.append h (Vals.rep h k)
section
variable {X:Cx}{pins:List (Addr×Obj)}{σ:St}{H:Hp}{s:Shared}{l:Addr}{xs ys:List V}
def Inv.ag {its AB:List Value}{n:Nat}{f:Array Value->Array Value}{t':Nat}(I:Inv X pins σ H s) (hH:H l=some (.lst xs))
  (e:s.heap.get? l=some { cls:=.type "list",data:=.seq its.toArray n }) (hf:f its.toArray=AB.toArray) (hv:Vals ys AB) (hz:ys.length<=sizeLine):
  Inv X pins σ (upd H l (.lst ys)) { s with heap:=s.heap.update l (Obj.mapSeq f),toks:=t' }:=by
 have q:=PySem.IsL.update e f
 rw[hf] at q
 refine I.write (x:=l) (e:=l) (by rw[hH];exact trivial) (.inl rfl) (λ b' u hb hu=>(za8 s.heap (Obj.mapSeq f) (Ne.symm hb)).trans hu) ⟨_,q⟩ ?_
 exact⟨hz,AB,_,hv,q⟩
def Inv.RT {its:List Value}{t':Nat}(I:Inv X pins σ H s) (hv:Vals ys its) (hz:ys.length<=sizeLine):
  Inv X pins σ (upd H s.heap.objs.size (.lst ys)) { s with heap:=s.heap.push { cls:=.type "list",data:=.seq its.toArray },toks:=t' }:=
 I.laid (λ _ _ q=>za1 _ q) (Af _) ⟨hz,its,0,hv,AE _ rfl⟩
theorem Inv.fresh (I:Inv X pins σ H s):H s.heap.objs.size=none:=I.zl.fresh (Af _)
def Inv.hG (I:Inv X pins σ H s) (hH:H l=some (.lst xs)):xs.length<=sizeLine/\∃ (its:List Value) (n:Nat),Vals xs its/\xs.length=its.length/\s.heap.get? l=some { cls:=.type "list",data:=.seq its.toArray n }:=by
 obtain⟨z,its,n,r,e⟩:=I.zl l _ hH
 exact⟨z,its,n,r,r.length,e⟩
def Rx {n:Nat}(h:n<=sizeLine):Builtin.List.listTooLong n=false:=by
 unfold Builtin.List.listTooLong
 exact za4 (by lia)
def cQ:V->List V->Hp->VK->Prop:=λ x vs H Q=>∃ l xs y,x=.ref l/\vs=[y]/\H l=some (.lst xs)/\xs.length<sizeLine/\Q .zj (upd H l (.lst (xs++[y])))
def ae:Y7 X "list.append" cQ:=by
 intro pins s σ H x vs v us Q I rx rv h
 obtain⟨l,xs,y,rfl,rfl,hH,hz,q⟩:=h
 cases rx
 obtain⟨u,rfl,ru⟩:=rv.one
 obtain⟨z,its,n,r,hl,e⟩:=I.hG hH
 refine call_meets F.slot_list_append ⟨_,e,rfl⟩ F.entry_list_append (F.args_list_append_2 _ _) (PySem.list_append l its.toArray n u (by rw[Av];lia)) ⟨e,?_⟩
 refine⟨.zj,_,I.ag (AB:=its++[u]) hH e (by simp) (r.append (.cons ru .nil)) ?_,rfl,q⟩
 rw[B2,List.length_singleton]
 lia
def cM:V->List V->Hp->VK->Prop:=λ x vs H Q=>∃ l b xs zs,x=.ref l/\vs=[.ref b]/\H l=some (.lst xs)/\H b=some (.lst zs)/\xs.length+zs.length<=sizeLine/\Q .zj (upd H l (.lst (xs++zs)))
def RG:Y7 X "list.extend" cM:=by
 intro pins s σ H x vs v us Q I rx rv h
 obtain⟨l,b,xs,zs,rfl,rfl,hH,hB,hz,q⟩:=h
 cases rx
 obtain⟨u,rfl,ru⟩:=rv.one
 cases ru
 obtain⟨z,its,n,r,hl,e⟩:=I.hG hH
 obtain⟨z2,its2,n2,r2,hl2,e2⟩:=I.hG hB
 have hsz:its.toArray.size+its2.toArray.size<=sizeLine:=by rw[Av,Av];lia
 have hlong:¬ (!its.toArray.isEmpty&&Builtin.List.listTooLong (its.toArray.size+its2.toArray.size))=true:=by
  rw[Rx hsz,CM]
  exact BE
 refine call_meets F.slot_list_extend ⟨_,e,rfl⟩ F.entry_list_extend (F.args_list_extend_2 _ _)
  (AutoSeq1.list_extend_list_list_0 l its.toArray n b its2.toArray n2 hlong (by rw[Av];lia) (by lia)) ⟨e,e2,?_⟩
 refine⟨.zj,_,I.ag (AB:=its++its2) hH e (by simp) (r.append r2) ?_,rfl,q⟩
 rw[B2]
 lia
end
end L2
namespace Xo
open PySem PySem.W PySem.Calls PyProof.Rows
def QE {P:Params}{h:Heap}:∀ (ns:List Int) (vs:List Value),WellAll P h vs (ns.map WData.int)->IntsAre vs ns:=by
 intro ns
 induction ns with
 | nil=>
  intro vs w
  rw[BA] at w
  cases w
  exact .nil
 | cons n ns ih=>
  intro vs w
  rw[Aq] at w
  cases w with
  | cons a b=>
   cases a
   exact .cons _ _ (ih _ b)
def WK {l:OpenLaw}{n:Nat}(hn:l.most=some n) {P:Params}{h:Heap}{args:List WData}{vals:List Value}
  (B4:l.row.toRowW.claim.pre args=true) (DY:WellAll P h vals args):
  ∃ a vs ns,vals=[Value.ref a]/\args=[WData.list (ns.map WData.int)]/\h.get? a=some { cls:=.type "list",data:=.seq vs.toArray }/\IntsAre vs ns/\ns.length<=n:=by
 have DB:WShape.hasAll [] args [.list .int]=true:=(pre_splitW B4).1
 have hc:l.pre.holds [] { args:=args }=true:=(pre_splitW B4).2
 obtain⟨d,r,rfl,h1,h2⟩:=hasAllW_cons DB
 obtain rfl:=hasAllW_nil h2
 obtain⟨xs,rfl,h3⟩:=hasW_list h1
 obtain⟨ns,rfl⟩:=items_int h3
 have hlen:ns.length<=n:=by
  unfold OpenLaw.pre at hc
  have h4:(WTm.not (.lt (.lit (.int (n:Int))) (.len (.arg 0)))).holds [] { args:=[.list (ns.map .int)] }=true:=by
   have h4:=(holds_andW hc).1
   rw[hn] at h4
   exact h4
  have h5:=condW_of h4 (w_not (w_lt w_lit (w_len_list (w_arg rfl))))
  rw[Au] at h5
  refine Nat.le_of_not_lt λ q=>?_
  have q':(n:Int)<((ns.length:Nat):Int):=by lia
  first
   | (rw[zaD q'] at h5;exact absurd h5 (by decide))
   | (simp at h5;lia)
 cases DY with
 | cons w1 w2=>
  cases w2
  cases w1 with
  | list ho Az=>exact⟨_,_,ns,rfl,rfl,ho,QE ns _ Az,hlen⟩
def VG (l:OpenLaw) (args:List WData):l.row.toRowW.claim.post args (.bool true) args=true:=
 postW_of (r:=l.row.toRowW) (X:=(true == true))
  (show WShape.has [] (.bool true) .bool=true by first | rfl | decide | simp[WShape.has,WShape.arms,WShape.armsAll])
  (show (WTm.eq .res (.lit (.bool true))).value [] { args:=args,res:=some (.bool true),after:=args }=some (.bool (true == true)) from w_eq_bool (w_res rfl) w_lit) rfl
def OZ {l:OpenLaw}{n:Nat}{q:Program}{loose:List Str}{XP:(Str->Option Value)->Heap->Prop}{YP:World->Heap->Prop}{d:DefRec}
  (hn:l.most=some n) (Dj:d.params.defaults=[])
  (call:∀ (w:World) (s₀ s₁:Shared) (mg mb:Str->Option Value) (fa:Addr) (o:Obj) (pm cd doc:Value) (a:Addr) (vs:List Value) (ns:List Int),
   Ground q loose [] XP w s₀ mg mb s₁.heap->YP w s₁.heap->
   s₁.heap.get? fa=some o->o.data=.func (docDef d.name d.params d.body d.scope pm cd doc)->s₁.heap.CodeRec cd d.name->mg d.name=some (.ref fa)->
   s₁.heap.get? a=some { cls:=.type "list",data:=.seq vs.toArray }->IntsAre vs ns->ns.length<=n->s₁.gens=#[]->
   codeAny (model l.prog w) callerA (.call (.ref fa) ⟨[.ref a],[]⟩) (λ r s'=>r=.ok (.ret (.bool true))/\OldK s₁.heap s'.heap/\s'.os=s₁.os/\AllBare s'.gens) s₁):
  WalkO q loose XP YP l.row.toRowW d [] (λ f vs=>PySem.call f vs):=by
 intro w s₀ s₁ mg mb G Y fa o pm cd doc dV kV ho hd AW hD C_ hg args vals as B4 Dc hrd DY Ef
 obtain rfl:dV=.none:=Dflts.none hD Dj
 obtain rfl:kV=.none:=Dflts.noKw hD
 obtain⟨a,vs,ns,rfl,rfl,CG,hints,hlen⟩:=WK hn B4 DY
 refine enter_call (codeAny_mono (call w s₀ s₁ mg mb fa o pm cd doc a vs ns G Y ho (fd_plain hd) AW C_ CG hints hlen hg) λ r s' hq=>?_)
 obtain⟨rfl,h2,h3,h4⟩:=hq
 exact⟨.inl ⟨.bool true,.bool true,[],rfl,λ _=>rfl,.bool true,VG l _,λ _=>⟨List.Pairwise.nil,λ _ hm=>(nomatch hm)⟩⟩,h2,h3,h4⟩
end Xo
namespace L2
open PySem PySem.Spec PyProof.Rows
theorem d5:∀ {vs:List Value}{ns:List Int},IntsAre vs ns->Vals (ns.map V.int) vs
 | _,_,.nil=>.nil
 | _,_,.cons n t h=>.cons ⟨t,rfl⟩ (d5 h)
def kS (H:Hp):Prop:=∀ b,H b=none\/∃ o xs,H b=some (.xV o (.lst xs))
def Qj {P:Program}{w:World}{K:Ab}{mg mb:Str->Option Value}{CX:vL}{k:Nat}{fa a:Addr}{fd:FuncData}{x:Str}{sp:Sp}{s₁:Shared}{vs:List Value}{ns:List Int}
  (KX:K.In s₁.heap) (Bf:s₁.heap.Ns mainGlobals mg) (hb:s₁.heap.Ns builtinsNs mb) (hbb:∀ x:Str,x≠"__name__"->mb x=bootBuiltins x) (Eg:s₁.heap.NoLimit) (hg:s₁.gens=#[])
  (ha:s₁.heap.get? a=some { cls:=.type "list",data:=.seq vs.toArray }) (hi:IntsAre vs ns) (hl:ns.length<=sizeLine) (hr:zV k callerA)
  (F:∀ base:Heap,K.In base->base.Ns mainGlobals mg->xa P w K mg base CX k fa fd [x] sp) (hbind:∀ (s:Shared) (u:Value),BindsTo s fd ⟨[u],[]⟩ [(x,u)])
  (BV:∀ H:Hp,kS H->zL K H a (ns.map V.int)->sp [.ref a] H (λ v _=>v=.bl true) λ _ _ _=>False)
  (hCX:∀ H e s',CX [] H s₁ (λ _ _ _=>False) e s'->False):
  codeAny (model P w) callerA (.call (.ref fa) ⟨[.ref a],[]⟩) (λ r s'=>r=.ok (.ret (.bool true))/\OldK s₁.heap s'.heap/\s'.os=s₁.os/\AllBare s'.gens) s₁:=by
 have rv:=d5 hi
 have lenV:=hi.length
 have core:∀ H:Hp,kS H->zL K H a (ns.map V.int)->zZ P w H s₁.heap->(∀ b,H b≠none->b=a)->(H a≠none->K.lookup a=none)->
   codeAny (model P w) callerA (.call (.ref fa) ⟨[.ref a],[]⟩) (λ r s'=>r=.ok (.ret (.bool true))/\OldK s₁.heap s'.heap/\s'.os=s₁.os/\AllBare s'.gens) s₁:=by
  intro H hO hS zl hA hK
  have base_of:∀ {b:Addr}{o:Obj},s₁.heap.get? b=some o->H b=none->(tW s₁.heap H).get? b=some o:=λ e n=>QO e n
  have noA:∀ {b:Addr}{o:Obj}{es:Array DictEntry}{ep:Nat},s₁.heap.get? b=some o->o.data=.dict es ep->H b=none:=λ{b o es ep} e d=>by
   cases q:H b with
   | none=>rfl
   | some u=>
    have e':b=a:=hA b (by rw[q];simp)
    subst e'
    rw[ha] at e;cases e
    have d':Data.seq vs.toArray _=Data.dict es ep:=d
    cases d'
  have nsK:∀ {b:Addr}{m:Str->Option Value},s₁.heap.Ns b m->(tW s₁.heap H).Ns b m:=λ{b m} ⟨o,es,ep,e,d,r⟩=>⟨o,es,ep,base_of e (noA e d),d,r⟩
  have hKb:K.In (tW s₁.heap H):=λ b o e=>base_of (KX b o e) (by
   cases q:H b with
   | none=>rfl
   | some u=>
    have e':b=a:=hA b (by rw[q];simp)
    subst e'
    rw[hK (by rw[q];simp)] at e;cases e)
  have hM:Mod K mg (tW s₁.heap H):=⟨hKb,nsK Bf,⟨mb,nsK hb,hbb⟩,let ⟨mc,h1,h2⟩:=Eg;⟨mc,nsK h1,h2⟩⟩
  have e0:qG P w K mg (tW s₁.heap H) callerA [] s₁ H:=⟨rfl,hM,λ b o e=>Rt e,Nat.le_of_eq (QN _ _),trivial,λ b hb=>absurd (show b∈([]:List Addr) from hb) (by simp),zl,.of_eq hg⟩
  refine codeAny_mono ((F _ hKb (nsK Bf)).run callerA [] s₁ H ⟨[.ref a],[]⟩ [.ref a] [.ref a] _ _ hr e0 (hbind s₁ (.ref a)) (.cons rfl .nil) (BV H hO hS)) λ r s' h=>?_
  cases r with
  | error e=>exact (hCX H e s' h).elim
  | ok fl=>
   cases fl with
   | ret u=>
    obtain⟨v,H',os,bare,un,Be,r',q⟩:=h
    have q':v=.bl true:=q
    subst q'
    obtain rfl:u=Value.bool true:=r'
    refine⟨rfl,OldK.of_keep λ b o e=>?_,os,bare⟩
    cases q:H b with
    | none=>exact un.keep b o e q (by intro z;exact absurd (show b∈([]:List Addr) from z) (by simp)) (by simp)
    | some u=>
     rcases hO b with z | ⟨ob,xs,z⟩
     ·rw[q] at z;cases z
     ·have z2:=un.v9 b ob _ z
      obtain⟨e1,_⟩:=zl b _ z
      obtain⟨e2,_⟩:=Be b _ z2
      rw[e] at e1;cases e1
      exact e2
   | _=>exact False.elim h
 cases hk:K.lookup a with
 | some o=>
  have e:=KX a o hk
  rw[ha] at e
  cases e
  refine core (λ _=>none) (λ _=>.inl rfl) (.inr ⟨_,vs.toArray,_,hk,rfl,rfl,rfl,by rw[Av,lenV];exact hl,by simpa using rv⟩) (λ b u z=>by have z':(none:Option HO)=some u:=z;cases z') (λ b z=>absurd rfl z) λ z=>absurd rfl z
 | none=>
  refine core (λ b=>if b=a then some (.xV { cls:=.type "list",data:=.seq vs.toArray } (.lst (ns.map V.int))) else none) (λ b=>?_) (.inl (.inr ⟨{ cls:=.type "list",data:=.seq vs.toArray },if_pos rfl⟩)) (λ b u z=>?_) (λ b z=>?_) λ _=>hk
  ·by_cases hb:b=a
   ·exact .inr ⟨_,_,if_pos hb⟩
   ·exact .inl (if_neg hb)
  ·by_cases hb:b=a
   ·have z':=(if_pos hb).symm.trans z
    cases z'
    subst hb
    exact⟨ha,by rw[Au];exact hl,vs,_,rv,ha⟩
   ·have z':=(if_neg hb).symm.trans z
    cases z'
  ·by_cases hb:b=a
   ·exact hb
   ·exact absurd (if_neg hb) z
def XF {l:PySem.W.OpenLaw}{n k:Nat}{q:Program}{loose:List Str}{XP:(Str->Option Value)->Heap->Prop}{YP:World->Heap->Prop}{d:DefRec}{K:Params->Ab}{CX:World->vL}{sp:World->Sp}{x:Str}
  (hn:l.most=some n) (hn2:n<=sizeLine) (Dj:d.params.defaults=[]) (hr:zV k callerA)
  (hY:∀ (w:World) (h:Heap),YP w h->(K w.params).In h)
  (F:∀ (w:World) (mg:Str->Option Value) (fa:Addr) (h:Heap),(K w.params).In h->h.Ns mainGlobals mg->mg d.name=some (.ref fa)->
   ∃ fd:FuncData,(∀ (s:Shared) (u:Value),BindsTo s fd ⟨[u],[]⟩ [(x,u)])/\
    ∀ base:Heap,(K w.params).In base->base.Ns mainGlobals mg->xa l.prog w (K w.params) mg base (CX w) k fa fd [x] (sp w))
  (BV:∀ (w:World) (H:Hp) (a:Addr) (ns:List Int),ns.length<=n->kS H->zL (K w.params) H a (ns.map V.int)->sp w [.ref a] H (λ v _=>v=.bl true) λ _ _ _=>False)
  (hCX:∀ (w:World) (H:Hp) (s:Shared) (e:Value) (s':Shared),CX w [] H s (λ _ _ _=>False) e s'->False):
  PySem.W.WalkO q loose XP YP l.row.toRowW d [] (λ f vs=>PySem.call f vs):=by
 refine Xo.OZ hn Dj λ w s₀ s₁ mg mb fa o pm cd doc a vs ns G Y ho hd AW C_ CG hints hlen hg=>?_
 have KX:=hY w _ Y
 obtain⟨fd,hb,hF⟩:=F w mg fa _ KX G.T.g C_
 exact Qj KX G.T.g G.T.b G.T.builtins G.T.nolimit hg CG hints (Bp hlen hn2) hr hF hb (λ H hO hS=>BV w H a ns hlen hO hS) λ H e s'=>hCX w H s₁ e s'
noncomputable def uj (s:Stmt):Arguments:=match s with
 | .FunctionDef _ a _ _ _ _ _ _ _ _=>a
 | _=>{ posonlyargs:=[],args:=[],vararg:=none,kwonlyargs:=[],kw_defaults:=[],kwarg:=none,defaults:=[] }
noncomputable def x9 (s:Stmt):List Stmt:=match s with
 | .FunctionDef _ _ b _ _ _ _ _ _ _=>b
 | _=>[]
noncomputable def zu (s:Stmt):Scope:=match s with
 | .FunctionDef _ _ _ _ _ _ sc _ _ _=>sc
 | _=>{ kind:=.function,names:=[],isGenerator:=false,isCoroutine:=false }
abbrev xq:vL:=λ _ _ _ _ _ _=>False
abbrev E0:XK:=λ _ _ _=>False
def UT {X:Cx}:Passes xq X E0:=λ _ _ _ _ _ _ _ h=>h.elim
structure wY (K:Ab) (x qual:Str) (st:Stmt) (f:Addr) (fd:FuncData):Prop where
 ex:∃ (oc:Value) (od:Option Addr) (kV doc pm:Value) (an:Option Addr) (Ad ct:Value) (osl:Array (Option Value)),
  fd=PySem.W.fnOf x qual (uj st) (x9 st) (zu st) .none kV doc pm an Ad ct/\K.lookup f=some ⟨oc,od,.func fd,osl⟩/\PySem.W.codeIn K Ad qual=true
 kp:PySem.W.keepIn K (.ref f)=true
section
variable {P:Program}{w:World}{K:Ab}{mg:Str->Option Value}{base:Heap}
def wY.ok {x qual:Str}{st:Stmt}{f:Addr}{fd:FuncData}{N ps:List Str}{k:Nat}{sp:Sp}(F:wY K x qual st f fd) (S:zW N ps (zu st)) (len:∀ vs H Q E,sp vs H Q E->vs.length=ps.length)
  (hbody:∀ (Ad:Value) (A:Around) (outer:List Env) (s:Shared) (H:Hp) (vs:List V) (Q:VK) (E:XK),zV k (A.deeper (envOfC qual (zu st) s.heap.objs.size f Ad))->sp vs H Q E->
   ∃ t,xK (wj xq P w K mg base N qual (zu st) f Ad A outer s H E).vy (x9 st) t/\t { nx:=λ _ H'=>Q .zj H',rt:=Q } (start N vs) H):xa P w K mg base xq (k+1) f fd ps sp:=by
 obtain⟨oc,od,kV,doc,pm,an,Ad,ct,osl,rfl,lk,AW⟩:=F.ex
 refine Zq lk AW S len λ A outer s H vs Q E hr BV=>?_
 obtain⟨t,h,q⟩:=hbody Ad A outer s H vs Q E hr BV
 exact⟨t,h.vy,q⟩
def wY.binds {x qual:Str}{st:Stmt}{f:Addr}{fd:FuncData}{ps:List Str}(F:wY K x qual st f fd)
  (h:∀ (kV doc pm:Value) (an:Option Addr) (Ad ct:Value) (us:List Value),us.length=ps.length->bindArgs (PySem.W.fnOf x qual (uj st) (x9 st) (zu st) .none kV doc pm an Ad ct) ⟨us,[]⟩=pure (ps.zip us)):Binds K fd ps []:=by
 obtain⟨oc,od,kV,doc,pm,an,Ad,ct,osl,rfl,lk,AW⟩:=F.ex
 exact .all (h kV doc pm an Ad ct)
def gO {x qual:Str}{st:Stmt}{f:Addr}{oc:Value}{od an:Option Addr}{osl:Array (Option Value)}{kV doc pm Ad ct:Value}(l:K.lookup f=some ⟨oc,od,.func (PySem.W.fnOf x qual (uj st) (x9 st) (zu st) .none kV doc pm an Ad ct),osl⟩)
  (c:PySem.W.codeIn K Ad qual=true) (k:PySem.W.keepIn K (.ref f)=true):wY K x qual st f (PySem.W.fnOf x qual (uj st) (x9 st) (zu st) .none kV doc pm an Ad ct):=⟨⟨oc,od,kV,doc,pm,an,Ad,ct,osl,rfl,l,c⟩,k⟩
end
def gu {A:Around}{k:Nat}(hr:zV k A):A.units+1<cLine:=Nat.lt_of_le_of_lt (Nat.add_le_add_left (by decide:1<=64) _) hr.units
section
variable {X:Cx}
def pv (i:Nat) {x:Str}{pos:Pos}(hN:X.N[i]?=some x:=by rfl) (hv:m7 X.env.scope x:=by first | exact Or.inl rfl | exact Or.inr (Or.inl rfl) | exact Or.inr (Or.inr rfl)) (hd:(x == ("__debug__":Str))=false:=by decide)
  (AW:(x == ("__classdict__":Str))=false:=by decide):PE X (.Name x pos) (ox i):=VY hN hv hd AW
end
def m9 (H H':Hp):Prop:=∀ b o,H b=some o->H' b=some o
end L2
namespace PySem
theorem fA {env:Env}:∀ (l:List (Str×NameKind)) (acc:List (Str×Addr)),(∀ y∈l,y.2=.free->∃ c,env.cells.lookup y.1=some c)->
  ∃ cl,(forIn l acc (λ(x:Str×NameKind) r=>if (x.2 == NameKind.free)=true then do let a <- cellOf env x.1;pure (ForInStep.yield ((x.1,a)::r)) else pure (ForInStep.yield r)):Sem (List (Str×Addr)))=pure cl/\
   (∀ x c,cl.lookup x=some c->acc.lookup x=some c\/((x,NameKind.free)∈l/\env.cells.lookup x=some c))/\(∀ x,(x,NameKind.free)∈l\/(acc.lookup x).isSome->(cl.lookup x).isSome)
 | [],acc,_=>⟨acc,rfl,λ x c h=>.inl h,λ x h=>by simpa using h⟩
 | (n,k)::l,acc,h=>by
  by_cases hk:k=.free
  ·subst hk
   obtain⟨c,hc⟩:=h (n,.free) Am rfl
   obtain⟨cl,e1,e2,e3⟩:=fA l ((n,c)::acc) λ y hy=>h y (Ao _ hy)
   refine⟨cl,?_,λ x d hx=>?_,λ x hx=>?_⟩
   ·rw[List.forIn_cons]
    simp only[beq_self_eq_true,if_true,cellOf,hc]
    exact e1
   ·rcases e2 x d hx with q | ⟨q1,q2⟩
    ·rw[A9] at q
     cases C5:x == n with
     | true=>
      rw[C5] at q
      have:x=n:=by simpa using C5
      subst this
      refine .inr ⟨Am,?_⟩
      rw[hc];exact q
     | false=>rw[C5] at q;exact .inl q
    ·exact .inr ⟨Ao _ q1,q2⟩
   ·refine e3 x ?_
    rcases hx with hx | hx
    ·rcases Ak.mp hx with q | q
     ·have:x=n:=congrArg Prod.fst q
      subst this
      exact .inr (by simp[A9])
     ·exact .inl q
    ·refine .inr ?_
     rw[A9]
     cases x == n <;> simp[hx]
  ·have hb:(k == NameKind.free)=false:=by simpa using hk
   obtain⟨cl,e1,e2,e3⟩:=fA l acc λ y hy=>h y (Ao _ hy)
   refine⟨cl,?_,λ x d hx=>?_,λ x hx=>?_⟩
   ·rw[List.forIn_cons]
    simp only[hb,A7,if_false]
    exact e1
   ·rcases e2 x d hx with q | ⟨q1,q2⟩
    ·exact .inl q
    ·exact .inr ⟨Ao _ q1,q2⟩
   ·refine e3 x ?_
    rcases hx with hx | hx
    ·rcases Ak.mp hx with q | q
     ·exact absurd (congrArg Prod.snd q).symm hk
     ·exact .inl q
    ·exact .inr hx
def Yd {scope:Scope}{env:Env}(h:∀ y∈scope.names,y.2=.free->∃ c,env.cells.lookup y.1=some c):
  ∃ cl,closureFor scope env=pure cl/\(∀ x c,cl.lookup x=some c->(x,NameKind.free)∈scope.names/\env.cells.lookup x=some c)/\∀ x,(x,NameKind.free)∈scope.names->(cl.lookup x).isSome:=by
 obtain⟨cl,e1,e2,e3⟩:=fA (env:=env) scope.names [] h
 refine⟨cl,?_,λ x c hx=>?_,λ x hx=>e3 x (.inl hx)⟩
 ·simp only[closureFor]
  rw[e1]
  rfl
 ·rcases e2 x c hx with q | q
  ·simp at q
  ·exact q
theorem ao {env:Env}:∀ {names:List (Str×NameKind)}{x:Str},names.lookup x=some .free->
  (names.map λ(n,k)=>if (k == NameKind.free&&env.scope.kind == .function&&env.kindOf n == some .cell) then (n,NameKind.cell) else (n,k)).lookup x=some .cell\/
  (names.map λ(n,k)=>if (k == NameKind.free&&env.scope.kind == .function&&env.kindOf n == some .cell) then (n,NameKind.cell) else (n,k)).lookup x=some .free
 | [],_,h=>by simp at h
 | (n,k)::r,x,h=>by
  have ih:=@ao env r x
  show List.lookup x ((if (k == NameKind.free&&env.scope.kind == .function&&env.kindOf n == some .cell)=true then (n,NameKind.cell) else (n,k))::_)=_\/List.lookup x ((if (k == NameKind.free&&env.scope.kind == .function&&env.kindOf n == some .cell)=true then (n,NameKind.cell) else (n,k))::_)=_
  cases hx:x == n with
  | true=>
   simp only[A9,hx] at h
   cases h
   by_cases hc:(NameKind.free == NameKind.free&&env.scope.kind == .function&&env.kindOf n == some .cell)=true
   ·rw[if_pos hc];simp[A9,hx]
   ·rw[if_neg hc];simp[A9,hx]
  | false=>
   simp only[A9,hx] at h
   by_cases hc:(k == NameKind.free&&env.scope.kind == .function&&env.kindOf n == some .cell)=true
   ·rw[if_pos hc];simp only[A9,hx];exact ih h
   ·rw[if_neg hc];simp only[A9,hx];exact ih h
theorem cC {env:Env}:∀ {names:List (Str×NameKind)}{x:Str},(∀ y∈names,y.2≠.cell)->
  ((names.map λ(n,k)=>if (k == NameKind.free&&env.scope.kind == .function&&env.kindOf n == some .cell) then (n,NameKind.cell) else (n,k)).lookup x=some .cell\/
  (names.map λ(n,k)=>if (k == NameKind.free&&env.scope.kind == .function&&env.kindOf n == some .cell) then (n,NameKind.cell) else (n,k)).lookup x=some .free)->(x,NameKind.free)∈names
 | [],_,_,h=>by simp at h
 | (n,k)::r,x,hn,h=>by
  have ih:=@cC env r x λ y hy=>hn y (Ao _ hy)
  have h':List.lookup x ((if (k == NameKind.free&&env.scope.kind == .function&&env.kindOf n == some .cell)=true then (n,NameKind.cell) else (n,k))::_)=some .cell\/List.lookup x ((if (k == NameKind.free&&env.scope.kind == .function&&env.kindOf n == some .cell)=true then (n,NameKind.cell) else (n,k))::_)=some .free:=h
  have hf:∀ k',((if (k == NameKind.free&&env.scope.kind == .function&&env.kindOf n == some .cell)=true then (n,NameKind.cell) else (n,k)):Str×NameKind)=(n,k')->(k'=.cell\/k'=.free)->k=.free:=by
   intro k' e hk'
   by_cases hc:(k == NameKind.free&&env.scope.kind == .function&&env.kindOf n == some .cell)=true
   ·simp only[BZ] at hc;simpa using hc.1.1
   ·rw[if_neg hc] at e
    have:k=k':=congrArg Prod.snd e
    subst this
    rcases hk' with q | q
    ·exact absurd q (hn (n,k) Am)
    ·exact q
  cases hx:x == n with
  | true=>
   have C5:x=n:=by simpa using hx
   subst C5
   by_cases hc:(k == NameKind.free&&env.scope.kind == .function&&env.kindOf x == some .cell)=true
   ·simp only[BZ] at hc
    have:k=.free:=by simpa using hc.1.1
    subst this;exact Am
   ·rw[if_neg hc] at h'
    simp only[A9,beq_self_eq_true] at h'
    rcases h' with q | q
    ·exact absurd (A4 q) (hn (x,k) Am)
    ·have:=A4 q
     subst this;exact Am
  | false=>
   refine Ao _ (ih ?_)
   by_cases hc:(k == NameKind.free&&env.scope.kind == .function&&env.kindOf n == some .cell)=true
   ·rw[if_pos hc] at h';simp only[A9,hx] at h';exact h'
   ·rw[if_neg hc] at h';simp only[A9,hx] at h';exact h'
end PySem
namespace L2
open PySem PySem.Spec PyProof.Rows
noncomputable def vV (pick:List (Option Nat)) (σ:St):St:=pick.map λ o=>o.bind λ i=>(σ[i]?).join
noncomputable def yH (X:Cx) (N':List Str) (scope:Scope) (cl:List (Str×Addr)) (C:Addr) (s:Shared) (H:Hp) (ex:List Addr):Cx:=
 { X with N:=N',s₀:=s,H₀:=H,env:=compEnvC scope cl C X.env,outer:=X.stack,stack:=X.stack,ex:=ex,fn:=λ _=>false,pn:=[],xe:=λ _ _=>False }
noncomputable def qU (N N':List Str) (pick:List (Option Nat)) (scope:Scope):Bool:=(N'.zip pick).all λ p=>match p.2 with
 | none=>true
 | some j=>decide (N[j]?=some p.1)&&decide (scope.names.lookup p.1=some .free)
structure qH (X:Cx) (N':List Str) (pick:List (Option Nat)) (scope:Scope):Prop where
 kind:scope.kind=.function
 bW:∀ y∈scope.names,y.2≠.cell
 names:∀ y∈scope.names,y.2=.local->scope.names.lookup y.1=some .local
 free:∀ y∈scope.names,y.2=.free->X.env.scope.names.lookup y.1=some .cell\/X.env.scope.names.lookup y.1=some .free
 len:pick.length=N'.length
 ok:qU X.N N' pick scope=true
def qU.get {N N':List Str}{pick:List (Option Nat)}{scope:Scope}(h:qU N N' pick scope=true) {i j:Nat}{x:Str}(h1:N'[i]?=some x) (h2:pick[i]?=some (some j)):N[j]?=some x/\scope.names.lookup x=some .free:=by
 unfold qU at h
 have hm:(x,some j)∈N'.zip pick:=by
  refine Bb (i:=i) ?_
  rw[List.getElem?_zip_eq_some]
  exact⟨h1,h2⟩
 have q:=Cd.mp h _ hm
 simp only[BZ,decide_eq_true_eq] at q
 exact q
def vV.get {pick:List (Option Nat)}{σ:St}{i:Nat}{v:V}(h:(vV pick σ)[i]?=some (some v)):∃ j,pick[i]?=some (some j)/\σ[j]?=some (some v):=by
 unfold vV at h
 rw[Ax] at h
 cases e:pick[i]? with
 | none=>rw[e] at h;cases h
 | some o=>
  rw[e] at h
  cases o with
  | none=>simp at h
  | some j=>
   refine⟨j,rfl,?_⟩
   simp only[Option.map_some,Option.some.injEq,BJ] at h
   cases q:σ[j]? with
   | none=>rw[q] at h;simp at h
   | some w=>rw[q] at h;simp at h;rw[h]
def PF (X:Cx) (ifs:List Expr) (t:TT):Prop:=∀ (pins:List (Addr×Obj)) (s:Shared) (σ:St) (H:Hp) (Q:Bool->Hp->Prop),Inv X pins σ H s->t σ H Q->
 wpAny (model X.prog X.w) X.A (forIn ifs true λ c r=>if r=true then do let ok <- isTrue c X.env (eval c X.env);pure (ForInStep.yield ok) else pure (ForInStep.yield r)) (TP X pins σ Q) X.xe s
def VW {X:Cx}:PF X [] (λ _ H Q=>Q true H):=λ _ _ _ H _ I h=>wpAny_tests_nil ⟨H,I,h⟩
def VV {X:Cx}{c:Expr}{t:TT}(h:PT X c t):PF X [c] t:=λ pins s σ H Q I q=>wpAny_tests_one (h pins s σ H Q I q)
def jt (pick:List (Option Nat)) (wi:TI) (g:TG) (tc:TT) (te:TE):TE:=fun σ H Q=>wi σ H λ J H1=>∀ D,H1 D=none->∃ W:Nat->Nat->St->Hp->Prop,(∃ m,W 0 m (vV pick σ) (upd H1 D (.lst [])))/\
 ∀ i m σ H,W i m σ H->(J.stop i H/\Q (.ref D) H)\/(J.go i H/\∀ x H',J.qI i H x H'->g x σ H' fun σ2 H2=>tc σ2 H2 λ b H3=>
  if b=true then te σ2 H3 λ y H4=>∃ ys m',H4 D=some (.lst ys)/\ys.length<sizeLine/\m'<m/\W (i+1) m' σ2 (upd H4 D (.lst (ys++[y]))) else ∃ m',m'<m/\W (i+1) m' σ2 H3)
section
variable {X:Cx}{pins:List (Addr×Obj)}{σ:St}{H:Hp}{s:Shared}{N':List Str}{pick:List (Option Nat)}{scope:Scope}{cl:List (Str×Addr)}{C:Addr}{fp:List Addr}
def QD (S:qH X N' pick scope) (I:Inv X pins σ H s) (Bh:∀ b∈fp,vK X pins H b) (Al:∀ b∈fp,b<s.heap.objs.size)
  (c1:∀ x c,cl.lookup x=some c->(x,NameKind.free)∈scope.names/\X.env.cells.lookup x=some c) (c2:∀ x,(x,NameKind.free)∈scope.names->(cl.lookup x).isSome)
  {h1:Heap}{m1:Str->Option Value}{t':Nat}(hC:s.heap.objs.size<C) (old:∀ b o,s.heap.get? b=some o->h1.get? b=some o) (Bf:h1.Ns C m1)
  (hD:h1.get? s.heap.objs.size=some { cls:=.type "list",data:=.seq #[] 0 }):
  Inv (yH X N' scope cl C s H fp) [] (vV pick σ) (upd H s.heap.objs.size (.lst [])) { s with heap:=h1,toks:=t' }:=by
 have hDn:H s.heap.objs.size=none:=I.zl.fresh (Af _)
 have hCn:H C=none:=I.zl.fresh (BI hC)
 have clt:∀ x c,cl.lookup x=some c->c<s.heap.objs.size:=λ x c e=>by
  obtain⟨v,q⟩:=I.cell x c (c1 x c e).2
  exact q.lt
 refine⟨⟨I.ok.mod,S.kind,I.ok.glob,I.ok.blt,BI hC,λ x y c e1 e2=>I.ok.inj x y c (c1 x c e1).2 (c1 y c e2).2,λ x hx=>?_,λ x c hf _=>absurd (show false=true from hf) BE,I.ok.hd,I.ok.frames,.inl rfl,
  λ b hb=>⟨Ap (C2 (Al b hb) hC),λ x c e=>(Bh b hb).2.2.2.2.1 x c (c1 x c e).2⟩,I.bs,Bp I.ok.tp I.sz,λ b o e hb=>?_,λ b hb z=>?_,I.stack,I.jy⟩,
  rfl,I.bare,Un.laid old (Af _) hDn,⟨m1,Bf,λ i x v e1 e2 e3=>?_⟩,λ x c e=>?_,?_,λ x c e=>?_,λ p hp=>absurd (show p∈([]:List (Addr×Obj)) from hp) (by simp),I.zl.laid old (Af _) ?_,?_⟩
 ·exact Dy.mp (c2 x (cC S.bW hx))
 ·rcases (Bh b hb).2.2.2.1 with z | z
  ·exact I.ok.qe b o e z
  ·exact absurd (AV (Ai (I.ok.bs b o e).1) z) (Cf _)
 ·rcases Ak.mp (I.jw b z) with q | q
  ·exact (Bh b hb).2.1 q
  ·exact (Bh b hb).2.2.1 q
 ·obtain⟨j,p1,p2⟩:=vV.get e2
  obtain⟨q1,q2⟩:=qU.get S.ok e1 p1
  obtain⟨m0,n0,l0⟩:=I.loc
  have hm:(x,NameKind.free)∈scope.names:=PySem.mem_of_lookup q2
  have hk:X.env.scope.names.lookup x=some .cell\/X.env.scope.names.lookup x=some .free:=S.free _ hm rfl
  obtain⟨u,r,l⟩:=l0 j x v q1 p2 (.inr hk)
  refine⟨u,r,.inr ⟨ao q2,?_⟩⟩
  rcases l with ⟨k,_⟩ | ⟨_,c,e,z⟩
  ·have k':X.env.scope.names.lookup x=some .local:=k
   rcases hk with hk | hk <;> (rw[k'] at hk;cases hk)
  ·obtain⟨c',e'⟩:=Dy.mp (c2 x hm)
   have e'':=(c1 x c' e').2
   rw[e] at e'';cases e''
   obtain⟨o,z1,z2⟩:=z
   exact⟨c,e',o,old _ _ z1,z2⟩
 ·obtain⟨v,o,z1,z2⟩:=I.cell x c (c1 x c e).2
  exact⟨v,o,old _ _ z1,z2⟩
 ·show upd H s.heap.objs.size (.lst []) C=none
  rw[zG (BB hC)];exact hCn
 ·show upd H s.heap.objs.size (.lst []) c=none
  rw[zG (Ap (clt x c e))];exact I.wV x c (c1 x c e).2
 ·exact⟨AI _,[],0,.nil,hD⟩
 ·show (vV pick σ).length=N'.length
  unfold vV
  rw[Au];exact S.len
def QA {σ':St}{H':Hp}{s':Shared}{oC:Obj}(I:Inv X pins σ H s) (Bh:∀ b∈fp,vK X pins H b) (hC:s.heap.objs.size<C)
  (I':Inv (yH X N' scope cl C s H fp) [] σ' H' s') (hoC:s'.heap.get? C=some oC):Inv X (pins++[(C,oC)]) σ H' s':=by
 have J:Inv X pins σ H' s':=I.Yi (ch:=fp) I'.os I'.base I'.zl I'.bare λ b hb=>⟨(Bh b hb).2.2.2.1,(Bh b hb).2.1,(Bh b hb).2.2.2.2.1,(Bh b hb).2.2.2.2.2⟩
 refine J.iu λ p hp=>(AU.mp hp).elim (λ z=>J.pin p (AN _ z)) λ z=>?_
 obtain rfl:p=(C,oC):=AM.mp z
 refine⟨hoC,I'.free,BB (C2 I.lt hC),I.bU (BI hC),λ v hv=>?_⟩
 obtain⟨m,⟨o,es,ep,ho,hd,_⟩,_⟩:=I'.loc
 have ho':s'.heap.get? C=some o:=ho
 rw[hoC] at ho';cases ho'
 rw[hd] at hv;cases hv
def aU {σ':St}{H':Hp}{s':Shared}{oC:Obj}{h':Heap}(I:Inv X pins σ H s) (hC:s.heap.objs.size<C) (J:Inv X (pins++[(C,oC)]) σ' H' s') (hs:Heap.SameBut C s'.heap h'):Inv X pins σ' H' { s' with heap:=h' }:=by
 have J':=J.ou
 have hp:=J.pin (C,oC) (AN _ (AN _ (AM.mpr rfl)))
 have lt:∀ c,c<s.heap.objs.size->c≠C:=λ c h=>Ap (C2 h hC)
 refine J'.turned (t':=s'.toks) (it:=C) (λ b o hb e=>hs.extBut b o hb e) hp.2.1 hp.2.2.1 (.inr (Bp I.sz (BI hC))) (λ x c e z=>?_) (λ p hq z=>?_)
 ·obtain⟨v,q⟩:=I.cell x c e
  exact lt c q.lt z
 ·exact lt p.1 (Ai (I.pin p hq).1) z
end
section
variable {X:Cx}{N':List Str}{pick:List (Option Nat)}{scope:Scope}{elt iter tg:Expr}{ifs:List Expr}{pos:Pos}{wi:TI}{g:TG}{tc:TT}{te:TE}
def Qe {pins:List (Addr×Obj)}{σ:St}{H:Hp}{s:Shared}{it C:Addr}{fp:List Addr}{tn:Nat->Heap->Prop}{J:It}{cl:List (Str×Addr)}{W:Nat->Nat->St->Hp->Prop}{Q:V->Hp->Prop}{R:Result->Shared->Prop}{D:Addr}
  (hc:X.calm=true) (hg:PG (yH X N' scope cl C s H fp) tg g) (hf:PF (yH X N' scope cl C s H fp) ifs tc) (he:PE (yH X N' scope cl C s H fp) elt te)
  (T:Turn X.prog X.w X.K tg J fp it tn) (Bh:∀ b∈fp,vK X pins H b) (hstat:∀ b∈fp,b≠C/\b∉yI X.stack/\∀ x c,cl.lookup x=some c->c≠b)
  (turn:∀ i m σ H,W i m σ H->(J.stop i H/\Q (.ref D) H)\/(J.go i H/\∀ x H',J.qI i H x H'->g x σ H' fun σ2 H2=>tc σ2 H2 λ b H3=>
   if b=true then te σ2 H3 λ y H4=>∃ ys m',H4 D=some (.lst ys)/\ys.length<sizeLine/\m'<m/\W (i+1) m' σ2 (upd H4 D (.lst (ys++[y]))) else ∃ m',m'<m/\W (i+1) m' σ2 H3))
  (fin:∀ σ' H' s',Inv (yH X N' scope cl C s H fp) [] σ' H' s'->Q (.ref D) H'->R (.ok .next) s')
  {m0:Nat}{σ0:St}{H0:Hp}{s0:Shared}(I0:Inv (yH X N' scope cl C s H fp) [] σ0 H0 s0) (t0:tn 0 s0.heap) (f0:∀ b∈fp,H0 b=none) (w0:W 0 m0 σ0 H0):
  codeAny (model X.prog X.w) X.A (.compLoop (.ListComp elt [⟨tg,iter,ifs,0⟩] scope pos) 0 (.ref it) (.ref D) (compEnvC scope cl C X.env)) R s0:=by
 have stat:∀ {H':Hp},(∀ b∈fp,H' b=none)->∀ b∈fp,vK (yH X N' scope cl C s H fp) [] H' b:=λ hn b hb=>⟨hn b hb,(hstat b hb).1,(hstat b hb).2.1,.inl hb,(hstat b hb).2.2,λ p hp=>absurd (show p∈([]:List (Addr×Obj)) from hp) (by simp)⟩
 refine codeAny_loop rfl (λ n s'=>∃ i σ' H',Inv (yH X N' scope cl C s H fp) [] σ' H' s'/\tn i s'.heap/\(∀ b∈fp,H' b=none)/\W i n σ' H') (λ n s3 hI=>?_) m0 ⟨0,σ0,H0,I0,t0,f0,w0⟩
 obtain⟨i,σ3,H3,I3,st3,fr3,w3⟩:=hI
 show wpAny _ X.A ((compTurn (.ListComp elt [⟨tg,iter,ifs,0⟩] scope pos) 0 (.ref it) (.ref D) (compEnvC scope cl C X.env)).onRaise (λ x=>do noteFrame x (compEnvC scope cl C X.env);theTreesLotGoes x)) _ _ s3
 refine wpAny_noted ?_
 rw[compTurn_list]
 refine za0 (wpAny_standAt (za0 ?_))
 rcases turn i n σ3 H3 w3 with ⟨stop,qn⟩ | ⟨go,step⟩
 ·refine zw (T.done (yH X N' scope cl C s H fp) rfl rfl rfl hc i [] s3 σ3 H3 _ I3 (stat fr3) st3 stop) λ r s4 ⟨hr,I4⟩=>?_
  subst hr
  exact Ac (fin σ3 H3 s4 I4 qn)
 ·refine zw (T.item (yH X N' scope cl C s H fp) rfl rfl rfl hc i [] s3 σ3 H3 _ I3 (stat fr3) st3 go) λ r s4 ⟨u,hr,h4⟩=>?_
  subst hr
  refine za0 (zw h4 λ _ s5 ⟨x,H5,I5,r5,y5,st5,fr5⟩=>?_)
  have I5':=I5.pinned (stat fr5) (T.obj _ _ st5)
  refine za0 (za3 (hg _ s5 σ3 H5 x u _ I5' r5 (step x H5 y5)) (λ _ s6 ⟨σ6,H6,I6,q6⟩=>?_) λ _ _ z=>False.elim z)
  refine za0 (za3 (hf _ s6 σ6 H6 _ I6 q6) (λ ok s7 ⟨H7,I7,q7⟩=>?_) λ _ _ z=>False.elim z)
  have back:∀ {H8:Hp}{s8:Shared},Inv (yH X N' scope cl C s H fp) ([]++oV fp s5.heap) σ6 H8 s8->(∃ m',m'<n/\W (i+1) m' σ6 H8)->∃ m,m<n/\∃ i σ' H',Inv (yH X N' scope cl C s H fp) [] σ' H' s8/\tn i s8.heap/\(∀ b∈fp,H' b=none)/\W i m σ' H':=λ{H8 s8} I8 ⟨m',hm,w8⟩=>by
   refine⟨m',hm,i+1,σ6,H8,I8.ou,T.keep _ _ _ st5 λ b hb o e=>(I8.pin (b,o) (AN _ (AN _ (kd hb e)))).1,λ b hb=>?_,w8⟩
   obtain⟨o,e,d⟩:=T.obj _ _ st5 b hb
   exact (I8.pin (b,o) (AN _ (AN _ (kd hb e)))).2.1
  cases ok with
  | false=>
   rw[if_neg BE] at q7
   exact Ac ⟨rfl,back I7 q7⟩
  | true=>
   rw[if_pos rfl] at q7
   refine za0 (za0 (za3 (he _ s7 σ6 H7 _ I7 q7) (λ uy s8 ⟨y,H8,I8,r8,ys,m',e8,z8,hm,w8⟩=>?_) λ _ _ z=>False.elim z))
   refine za0 (za3 (ae (X:=yH X N' scope cl C s H fp) _ s8 σ6 H8 (.ref D) [y] (.ref D) [uy] (λ _ H9=>W (i+1) m' σ6 H9) I8 rfl (.cons r8 .nil) ⟨D,ys,y,rfl,rfl,e8,z8,w8⟩) (λ _ s9 ⟨_,H9,I9,_,q9⟩=>?_) λ _ _ z=>False.elim z)
   exact Ac (Ac ⟨rfl,back I9 ⟨m',hm,q9⟩⟩)
def aC {pins:List (Addr×Obj)}{σ:St}{H:Hp}{s:Shared}{it:Addr}{fp:List Addr}{tn:Nat->Heap->Prop}{J:It}{cl:List (Str×Addr)}{Q:V->Hp->Prop}{E:Value->Shared->Prop}{RR:Value->Addr->Result->Shared->Prop}
  (S:qH X N' pick scope) (hc:X.calm=true) (hg:∀ cl C s H fp,PG (yH X N' scope cl C s H fp) tg g) (hf:∀ cl C s H fp,PF (yH X N' scope cl C s H fp) ifs tc) (he:∀ cl C s H fp,PE (yH X N' scope cl C s H fp) elt te)
  (c1:∀ x c,cl.lookup x=some c->(x,NameKind.free)∈scope.names/\X.env.cells.lookup x=some c) (c2:∀ x,(x,NameKind.free)∈scope.names->(cl.lookup x).isSome)
  (I:Inv X pins σ H s) (T:Turn X.prog X.w X.K tg J fp it tn) (t0:tn 0 s.heap) (Bh:∀ b∈fp,vK X pins H b)
  (rd:∀ D,H D=none->∃ W:Nat->Nat->St->Hp->Prop,(∃ m,W 0 m (vV pick σ) (upd H D (.lst [])))/\
   ∀ i m σ H,W i m σ H->(J.stop i H/\Q (.ref D) H)\/(J.go i H/\∀ x H',J.qI i H x H'->g x σ H' fun σ2 H2=>tc σ2 H2 λ b H3=>
    if b=true then te σ2 H3 λ y H4=>∃ ys m',H4 D=some (.lst ys)/\ys.length<sizeLine/\m'<m/\W (i+1) m' σ2 (upd H4 D (.lst (ys++[y]))) else ∃ m',m'<m/\W (i+1) m' σ2 H3))
  (fin:∀ C D oC H' s',s.heap.objs.size<C->Inv X (pins++[(C,oC)]) σ H' s'->s'.heap.get? C=some oC->(∃ m,s'.heap.Ns C m)->Q (.ref D) H'->RR (.ref D) C (.ok .next) s'):
  wpAny (model X.prog X.w) X.A (newList []) (λ acc s₃=>wpAny (model X.prog X.w) X.A (newFunctionEnv scope X.env.globals cl [] X.env.qual none .none (some X.env)) (λ cenv s₄=>
   codeAny (model X.prog X.w) X.A (.compStart (.ListComp elt [⟨tg,iter,ifs,0⟩] scope pos) 0 (.ref it) acc { cenv with scope:=relabel scope X.env }) (RR acc cenv.locals) s₄) E s₃) E s:=by
 refine zaE (wpAny_newFunctionEnv S.bW (by intro y hy;simp at hy) (λ h₁ hns₁ hsb₁=>?_) S.kind)
 dsimp only at hns₁ hsb₁ ⊢
 generalize hH2:s.heap.push { cls:=.type "list",dict:=none,data:=.seq ([]:List Value).toArray }=H2 at hns₁ hsb₁ ⊢
 have hC:H2.objs.size=s.heap.objs.size+1:=by rw[<- hH2,Heap.size_push]
 have Al:s.heap.objs.size<H2.objs.size:=by rw[hC];exact Ce _
 have old:∀ b o,s.heap.get? b=some o->h₁.get? b=some o:=λ b o e=>hsb₁.extBut b o (Ap (C2 (Ai e) Al)) (za1 _ (hH2▸za1 _ e))
 have AJ:h₁.get? s.heap.objs.size=some { cls:=.type "list",data:=.seq #[] 0 }:=hsb₁.extBut _ _ (Ap Al) (za1 _ (hH2▸AE _ rfl))
 have Dh:∀ b∈fp,b<s.heap.objs.size:=λ b hb=>by
  obtain⟨o,e,_⟩:=T.obj _ _ t0 b hb
  exact Ai e
 have hDn:H s.heap.objs.size=none:=I.zl.fresh (Af _)
 obtain⟨W,⟨m0,w0⟩,turn⟩:=rd s.heap.objs.size hDn
 have I0:=QD (t':=s.toks+([]:List (Str×Value)).length) S I Bh Dh c1 c2 Al old hns₁ AJ
 have t1:tn 0 h₁:=T.keep _ _ _ t0 λ b _ o e=>old b o e
 have Ay:∀ b∈fp,b≠H2.objs.size/\b∉yI X.stack/\∀ x c,cl.lookup x=some c->c≠b:=λ b hb=>I0.ok.nP b hb |> λ q=>⟨q.1,I0.ok.qm b hb,q.2⟩
 have loop:codeAny (model X.prog X.w) X.A (.compLoop (.ListComp elt [⟨tg,iter,ifs,0⟩] scope pos) 0 (.ref it) (.ref s.heap.objs.size) (compEnvC scope cl H2.objs.size X.env)) (RR (.ref s.heap.objs.size) H2.objs.size) { s with heap:=h₁,toks:=s.toks+([]:List (Str×Value)).length }:=by
  refine Qe (σ:=σ) hc (hg _ _ _ _ _) (hf _ _ _ _ _) (he _ _ _ _ _) T Bh Ay turn (fun σ' H' s' I' q=>?_) I0 t1 (λ b hb=>?_) w0
  ·obtain⟨m,hn,_⟩:=I'.loc
   have hn':s'.heap.Ns H2.objs.size m:=hn
   obtain⟨oC,es,ep,ho,hr⟩:=id hn'
   exact fin _ _ oC H' s' Al (QA I Bh Al I' ho) ho ⟨m,hn'⟩ q
  ·show upd H s.heap.objs.size (.lst []) b=none
   rw[zG (Ap (Dh b hb))]
   exact (Bh b hb).1
 exact codeAny_compStart_list loop (T.self _ 0 _ _ _ t1 loop)
def Uh (S:qH X N' pick scope) (hc:X.calm=true) (hi:PI X tg iter wi) (hg:∀ cl C s H fp,PG (yH X N' scope cl C s H fp) tg g) (hf:∀ cl C s H fp,PF (yH X N' scope cl C s H fp) ifs tc) (he:∀ cl C s H fp,PE (yH X N' scope cl C s H fp) elt te)
  (hs:∀ x,foldedSetIterable iter X.env x=pure x:=by intro _;rfl):PE X (.ListComp elt [⟨tg,iter,ifs,0⟩] scope pos) (jt pick wi g tc te):=by
 intro pins s σ H Q I h
 obtain⟨cl,hclos,c1,c2⟩:=Yd (scope:=scope) (env:=X.env) λ y hy hk=>I.ok.has y.1 (S.free y hy hk)
 rw[eval_ListComp]
 refine wpAny_comprehension_free (use:=none) rfl hs hclos S.kind S.names (zw (hi pins s σ H _ I h) λ v s1 h1=>zw h1 λ itv s2 h2=>?_)
 obtain⟨it,fp,tn,J,H2,e,I2,T,st2,f2,rd⟩:=h2
 subst e
 refine aC (RR:=λ acc C=>compPost (model X.prog X.w) X.A X.xe none (EP X pins σ Q) acc C) S hc hg hf he c1 c2 I2 T st2 f2 rd λ C D oC H' s' hC J' ho hn q=>?_
 obtain⟨m,hn⟩:=hn
 exact⟨m,hn,λ h' hs'=>⟨.ref D,H',aU I2 hC J' hs',rfl,q⟩⟩
def V7 {i:Nat}{y:Str}{py BK:Pos}(S:qH X N' pick scope) (hc:X.calm=true) (hi:PI X tg iter wi) (hg:∀ cl C s H fp,PG (yH X N' scope cl C s H fp) tg g) (hf:∀ cl C s H fp,PF (yH X N' scope cl C s H fp) ifs tc) (he:∀ cl C s H fp,PE (yH X N' scope cl C s H fp) elt te)
  (hN:X.N.Nodup) (hy:X.N[i]?=some y) (hx:Loc X.env.scope y)
  (BM:swapsWith (.ListComp elt [⟨tg,iter,ifs,0⟩] scope pos) (some (.Name y py)) BK.line X.env=pure true:=by rfl)
  (B7:X.fn y=true\/X.env.scope.names.lookup y=some .local:=by first | exact .inl rfl | exact .inr rfl | assumption)
  (hs:∀ x,foldedSetIterable iter X.env x=pure x:=by intro _;rfl):PS X (.Assign [.Name y py] (.ListComp elt [⟨tg,iter,ifs,0⟩] scope pos) BK) (oz (jt pick wi g tc te) (pD i)):=by
 intro pins s σ H Q I h
 obtain⟨cl,hclos,c1,c2⟩:=Yd (scope:=scope) (env:=X.env) λ y hy hk=>I.ok.has y.1 (S.free y hy hk)
 rw[exec_Assign_Name_used _ _ _ _ BM]
 refine za0 (wpAny_standAt (za0 ?_))
 show wpAny _ X.A (do let _ <- comprehension (.ListComp elt [⟨tg,iter,ifs,0⟩] scope pos) scope X.env _ (newList []) false (eval iter X.env) (some (assign (.Name y py) X.env))) _ _ s
 refine za0 (za3 (wpAny_comprehension_free (use:=some (assign (.Name y py) X.env)) (Q:=λ _ s'=>SP X pins Q .next s') rfl hs hclos S.kind S.names
  (zw (hi pins s σ H _ I h) λ v s1 h1=>zw h1 λ itv s2 h2=>?_)) (λ _ s' hq=>Ac (Ac hq)) λ _ _ e=>e)
 obtain⟨it,fp,tn,J,H2,e,I2,T,st2,f2,rd⟩:=h2
 subst e
 refine aC (Q:=λ x H1=>pD i x σ H1 Q.nx) (RR:=λ acc C=>compPost (model X.prog X.w) X.A X.xe (some (assign (.Name y py) X.env)) (λ _ s'=>SP X pins Q .next s') acc C) S hc hg hf he c1 c2 I2 T st2 f2 rd λ C D oC H' s' hC J' ho hn q=>?_
 show wpAny _ X.A (assign (.Name y py) X.env (.ref D)) _ _ _
 refine wpAny_assign_Name (o5 J' hN hy hx (v:=.ref D) rfl (λ s3 J3=>?_) B7)
 have hp:=(J3.pin (C,oC) (AN _ (AN _ (AM.mpr rfl)))).1
 obtain⟨m,o,es,ep,ho',hr⟩:=hn
 have:o=oC:=A4 (ho'.symm.trans ho)
 subst this
 exact⟨m,⟨o,es,ep,hp,hr⟩,λ h' hs'=>⟨_,H',aU I2 hC J3 hs',q⟩⟩
end
end L2
namespace L3
open PySem PySem.Spec L2
open PyProof.Rows hiding St
inductive D where
 | zj | bl (b:Bool) | int (i:Int) | str (x:Str) | tup (ds:List D) | xD (ds:List D) | ref (a:Addr) | err (c f:Str) (d:D)
def pR (K:Ab) (H:Hp) (a:Addr) (xs:List V):Prop:=
 (∃ o,H a=some (.xV o (.lst xs)))\/
  ∃ (o:Obj) (its:Array Value) (n:Nat),K.lookup a=some o/\o.cls=.type "list"/\o.dict=none/\o.data=.seq its n/\its.size<=sizeLine/\Vals xs its.toList
def pR.sq {K:Ab}{H:Hp}{a:Addr}{xs:List V}(h:pR K H a xs):zL K H a xs:=by
 rcases h with h | h
 ·exact .inl (.inr h)
 ·exact .inr h
abbrev vF:List Value:=[.type "ValueError",.type "Exception",.type "BaseException",.type "object"]
abbrev rj:List Str:=["__getattribute__","__getattr__","__class__","__setattr__","place","pair","way","times","told","name","row"]
def rO (K:Ab) (c:Str) (C:Addr) (bm:List Value) (N:Addr):Prop:=
 (∃ (q:Str) (bs:List Value) (sn:List Str) (sub:List Value) (ab:Bool) (col:Option Bool) (dd:Option Addr) (k0 k1 k2 k3 k5:Option Value),K.lookup C=some (excClassObj c q C N bs bm true sn sub ab col dd k0 k1 k2 k3 k5 "ValueError.__new__"))/\
 PySem.W.nsOkIn K N=true/\∀ n∈rj,PySem.W.nsIn K N n=some none
structure rS (K:Ab) (c:Str) (C P N NP:Addr):Prop where
 own:rO K c C (.ref P::vF) N
 par:rO K "PurseError" P vF NP
 top:PySem.W.nsIn K mainGlobals c=some (some (.ref C))
 cT:PySem.W.nsIn K mainGlobals "PurseError"=some (some (.ref P))
 VI:PySem.W.nsIn K NP "__init__"=some none
def uL (K:Ab) (c:Str) (C:Addr):Prop:=∃ P N NP,rS K c C P N NP
noncomputable def ownIn (K:Ab) (c:Str) (C:Addr) (bm:List Value):Option Addr:=match K.lookup C with
 | some ⟨.type "type",_,.cls cd,sl⟩=>(match cd.mro,sl.toList with
  | .ref C'::bm',[_,_,_,_,some (.builtin n),_]=>if C' == C&&n == "ValueError.__new__"&&!cd.hasDel&&bm' == bm&&cd.hasDict&&cd.name == c&&PySem.W.nsOkIn K cd.ns&&rj.all (λ n=>PySem.W.nsIn K cd.ns n == some none) then some cd.ns else none
  | _,_=>none)
 | _=>none
def b7 {K:Ab}{c:Str}{C N:Addr}{bm:List Value}(h:ownIn K c C bm=some N):rO K c C bm N:=by
 unfold ownIn at h
 split at h
 ·rename_i dd cd sl ho
  split at h
  ·rename_i C' bm' k0 k1 k2 k3 n k5 hm hs
   split at h
   ·rename_i hc
    cases h
    simp only[BZ,beq_iff_eq,Bool.not_eq_true',Cd] at hc
    obtain⟨⟨⟨⟨⟨⟨⟨rfl,rfl⟩,Dk⟩,rfl⟩,hhd⟩,rfl⟩,zl⟩,hn⟩:=hc
    obtain⟨nm,bs,mro,ns,qn,hd,sn,sub,ab,col,del⟩:=cd
    dsimp only at hm Dk zl hn hhd
    subst hm Dk hhd
    have Bl:sl=#[k0,k1,k2,k3,some (.builtin "ValueError.__new__"),k5]:=by
     obtain⟨l⟩:=sl
     simp only at hs
     rw[hs]
    subst Bl
    exact⟨⟨qn,bs,sn,sub,ab,col,dd,k0,k1,k2,k3,k5,ho⟩,zl,hn⟩
   ·cases h
  ·cases h
 ·cases h
def kA (K:Ab) (c:Str):Option (Addr×Addr×Addr×Addr):=match PySem.W.nsIn K mainGlobals c,PySem.W.nsIn K mainGlobals "PurseError" with
 | some (some (.ref C)),some (some (.ref P))=>(match ownIn K c C (.ref P::vF),ownIn K "PurseError" P vF with
  | some N,some NP=>if PySem.W.nsIn K NP "__init__" == some none then some (C,P,N,NP) else none
  | _,_=>none)
 | _,_=>none
def Z2 {K:Ab}{c:Str}{C P N NP:Addr}(h:kA K c=some (C,P,N,NP)):rS K c C P N NP:=by
 unfold kA at h
 split at h
 ·rename_i h1 h2
  split at h
  ·rename_i h3 h4
   split at h
   ·rename_i h5
    cases h
    exact⟨b7 h3,b7 h4,h1,h2,beq_iff_eq.mp h5⟩
   ·cases h
  ·cases h
 ·cases h
noncomputable def wJ (e C dx:Addr):HO:=.ext λ h=>∃ oe vs,h.get? e=some oe/\oe.cls=.ref C/\oe.dict=some dx/\oe.data=.fields vs
mutual
noncomputable def zg (K:Ab) (H:Hp):D->V->Prop
 | .zj,v=>v=.zj
 | .bl b,v=>v=.bl b
 | .int i,v=>v=.int i
 | .str x,v=>v=.str x
 | .tup ds,v=>∃ a xs,v=.ref a/\zR K H a xs/\zm K H ds xs
 | .xD ds,v=>∃ a xs,v=.ref a/\pR K H a xs/\zm K H ds xs
 | .ref a,v=>v=.ref a
 | .err c f d,v=>∃ e C dx w,v=.ref e/\(uL K c C/\H e=some (wJ e C dx)/\H dx=some (.xd [(f,w)]))/\zg K H d w
noncomputable def zm (K:Ab) (H:Hp):List D->List V->Prop
 | [],xs=>xs=[]
 | d::ds,xs=>∃ x r,xs=x::r/\zg K H d x/\zm K H ds r
end
structure Ext (H H':Hp):Prop where
 tup:∀ b xs,H b=some (.tup xs)->H' b=some (.tup xs)
 xV:∀ b o u,H b=some (.xV o u)->H' b=some (.xV o u)
 ext:∀ b φ,H b=some (.ext φ)->H' b=some (.ext φ)
 xd:∀ b fs,H b=some (.xd fs)->H' b=some (.xd fs)
def Ext.refl (H:Hp):Ext H H:=⟨λ _ _ h=>h,λ _ _ _ h=>h,λ _ _ h=>h,λ _ _ h=>h⟩
def Ext.trans {H H1 H2:Hp}(a:Ext H H1) (b:Ext H1 H2):Ext H H2:=⟨λ c xs h=>b.tup c xs (a.tup c xs h),λ c o u h=>b.xV c o u (a.xV c o u h),λ c u h=>b.ext c u (a.ext c u h),λ c u h=>b.xd c u (a.xd c u h)⟩
def Ext.new {H:Hp}{p:Addr}(h:H p=none) (o:HO):Ext H (upd H p o):=
 ⟨λ b xs q=>by rw[zG (xk q h)];exact q,λ b ob u q=>by rw[zG (xk q h)];exact q,λ b u q=>by rw[zG (xk q h)];exact q,λ b u q=>by rw[zG (xk q h)];exact q⟩
theorem Ext.lst {H:Hp}{p:Addr}{xs:List V}(h:H p=some (.lst xs)) (o:HO):Ext H (upd H p o):=
 ⟨λ b ys q=>by rw[zG (vX q h (by intro z;cases z))];exact q,λ b ob u q=>by rw[zG (vX q h (by intro z;cases z))];exact q,λ b u q=>by rw[zG (vX q h (by intro z;cases z))];exact q,λ b u q=>by rw[zG (vX q h (by intro z;cases z))];exact q⟩
def Ext.l7 {K:Ab}{H H':Hp}{a:Addr}{xs:List V}(e:Ext H H') (h:zR K H a xs):zR K H' a xs:=by
 rcases h with (h | ⟨o,h⟩) | h
 ·exact .inl (.inl (e.tup _ _ h))
 ·exact .inl (.inr ⟨o,e.xV _ _ _ h⟩)
 ·exact .inr h
def Ext.l8 {K:Ab}{H H':Hp}{a:Addr}{xs:List V}(e:Ext H H') (h:pR K H a xs):pR K H' a xs:=by
 rcases h with ⟨o,h⟩ | h
 ·exact .inl ⟨o,e.xV _ _ _ h⟩
 ·exact .inr h
section
variable {K:Ab}{H H':Hp}
mutual
theorem zg.ext (e:Ext H H'):∀ (d:D) {v:V},zg K H d v->zg K H' d v
 | .zj,v,h=>by simpa only [zg] using h
 | .bl b,v,h=>by simpa only [zg] using h
 | .int i,v,h=>by simpa only [zg] using h
 | .str x,v,h=>by simpa only [zg] using h
 | .ref a,v,h=>by simpa only [zg] using h
 | .err c f d,v,h=>by
  simp only[zg] at h ⊢
  obtain⟨a,C,dx,w,h1,⟨h2,h3,h4⟩,h5⟩:=h
  exact⟨a,C,dx,w,h1,⟨h2,e.ext _ _ h3,e.xd _ _ h4⟩,zg.ext e d h5⟩
 | .tup ds,v,h=>by
  simp only[zg] at h ⊢
  obtain⟨a,xs,h1,h2,h3⟩:=h
  exact⟨a,xs,h1,e.l7 h2,zm.ext e ds h3⟩
 | .xD ds,v,h=>by
  simp only[zg] at h ⊢
  obtain⟨a,xs,h1,h2,h3⟩:=h
  exact⟨a,xs,h1,e.l8 h2,zm.ext e ds h3⟩
theorem zm.ext (e:Ext H H'):∀ (ds:List D) {xs:List V},zm K H ds xs->zm K H' ds xs
 | [],xs,h=>by simpa only [zm] using h
 | d::ds,xs,h=>by
  simp only[zm] at h ⊢
  obtain⟨x,r,h1,h2,h3⟩:=h
  exact⟨x,r,h1,zg.ext e d h2,zm.ext e ds h3⟩
end
theorem zm.length:∀ {ds:List D}{xs:List V},zm K H ds xs->ds.length=xs.length
 | [],xs,h=>by simp only[zm] at h;subst h;rfl
 | d::ds,xs,h=>by
  simp only[zm] at h
  obtain⟨x,r,h1,_,h3⟩:=h
  subst h1
  simp[zm.length h3]
theorem zm.get:∀ {ds:List D}{xs:List V}{i:Nat}{d:D},zm K H ds xs->ds[i]?=some d->∃ x,xs[i]?=some x/\zg K H d x
 | [],_,i,d,_,e=>by simp at e
 | c::ds,xs,i,d,h,e=>by
  simp only[zm] at h
  obtain⟨x,r,h1,h2,h3⟩:=h
  subst h1
  cases i with
  | zero=>simp at e;subst e;exact⟨x,rfl,h2⟩
  | succ i=>
   obtain⟨y,e1,e2⟩:=zm.get (i:=i) h3 (by simpa using e)
   exact⟨y,by simpa using e1,e2⟩
theorem zm.append:∀ {ds es:List D}{xs ys:List V},zm K H ds xs->zm K H es ys->zm K H (ds++es) (xs++ys)
 | [],es,xs,ys,h,h'=>by simp only[zm] at h;subst h;simpa using h'
 | d::ds,es,xs,ys,h,h'=>by
  simp only[zm] at h
  obtain⟨x,r,h1,h2,h3⟩:=h
  subst h1
  show zm K H (d::(ds++es)) (x::(r++ys))
  simp only[zm]
  exact⟨x,r++ys,rfl,h2,zm.append h3 h'⟩
def zm.nil:zm K H [] []:=by simp only[zm]
def zm.cons {d:D}{ds:List D}{x:V}{xs:List V}(h:zg K H d x) (h':zm K H ds xs):zm K H (d::ds) (x::xs):=by
 simp only[zm];exact⟨x,xs,rfl,h,h'⟩
def zm.snoc {d:D}{ds:List D}{x:V}{xs:List V}(h':zm K H ds xs) (h:zg K H d x):zm K H (ds++[d]) (xs++[x]):=h'.append (.cons h .nil)
theorem zm.ints:∀ {ns:List Int}{xs:List V},zm K H (ns.map D.int) xs->xs=ns.map V.int
 | [],xs,h=>by simpa only [BA,zm] using h
 | n::ns,xs,h=>by
  rw[Aq] at h
  simp only[zm,zg] at h
  obtain⟨x,r,h1,h2,h3⟩:=h
  subst h1 h2
  rw[Aq,zm.ints h3]
theorem zm.iP:∀ (ns:List Int),zm K H (ns.map D.int) (ns.map V.int)
 | []=>.nil
 | n::ns=>.cons (by simp only[zg]) (zm.iP ns)
end
inductive O where
 | lst (ds:List D)
 | zI (Aa:List (Key×D))
abbrev SS:=Addr->Option O
def yM (K:Ab) (H:Hp):List (Key×D)->List (Key×V)->Prop:=Paired λ p q=>p.1=q.1/\zg K H p.2 q.2
noncomputable def qy (K:Ab) (H:Hp) (a:Addr):O->Prop
 | .lst ds=>∃ xs,H a=some (.lst xs)/\zm K H ds xs
 | .zI Aa=>∃ vs,H a=some (.dK vs)/\yM K H Aa vs
def zC (K:Ab) (H:Hp) (S:SS):Prop:=∀ a o,S a=some o->qy K H a o
noncomputable def ups (S:SS) (a:Addr) (o:O):SS:=λ b=>if b=a then some o else S b
def sO {S:SS}{a:Addr}{o:O}:ups S a o a=some o:=by unfold ups;rw[if_pos rfl]
def tG {S:SS}{a b:Addr}{o:O}(h:b≠a):ups S a o b=S b:=by unfold ups;rw[if_neg h]
def Sx (S S':SS):Prop:=∀ b o,S b=some o->S' b=some o
def Sx.refl (S:SS):Sx S S:=λ _ _ h=>h
def Sx.trans {S S1 S2:SS}(a:Sx S S1) (b:Sx S1 S2):Sx S S2:=λ c o h=>b c o (a c o h)
def Sx.new {S:SS}{p:Addr}(h:S p=none) (o:O):Sx S (ups S p o):=λ b u q=>by
 rw[tG (by intro z;subst z;rw[h] at q;cases q)];exact q
theorem Sx.none {S S':SS}(e:Sx S S') {p:Addr}(h:S' p=Option.none):S p=Option.none:=by
 cases q:S p with
 | none=>rfl
 | some o=>rw[e p o q] at h;cases h
section
variable {K:Ab}{H H':Hp}{S:SS}
def qy.has {a:Addr}{o:O}(h:qy K H a o):H a≠none:=by
 cases o with
 | lst ds=>obtain⟨xs,h,_⟩:=h;rw[h];simp
 | zI Aa=>obtain⟨xs,h,_⟩:=h;rw[h];simp
theorem zC.none (r:zC K H S) {p:Addr}(h:H p=Option.none):S p=Option.none:=by
 cases q:S p with
 | none=>rfl
 | some o=>exact absurd h (r p o q).has
theorem yM.ext (e:Ext H H') {Aa:List (Key×D)}{vs:List (Key×V)}(h:yM K H Aa vs):yM K H' Aa vs:=
 Paired.kf h λ p q z=>⟨z.1,zg.ext e p.2 z.2⟩
def qy.keep {a:Addr}{o:O}(e:Ext H H') (k:∀ u,H a=some u->H' a=some u) (h:qy K H a o):qy K H' a o:=by
 cases o with
 | lst ds=>obtain⟨xs,h1,h2⟩:=h;exact⟨xs,k _ h1,zm.ext e ds h2⟩
 | zI Aa=>obtain⟨xs,h1,h2⟩:=h;exact⟨xs,k _ h1,h2.ext e⟩
theorem zC.keep (e:Ext H H') (k:∀ a u o,S a=some o->H a=some u->H' a=some u) (r:zC K H S):zC K H' S:=λ a o h=>(r a o h).keep e λ u q=>k a u o h q
def zC.same (e:m9 H H') (r:zC K H S):zC K H' S:=r.keep ⟨λ b xs q=>e _ _ q,λ b o u q=>e _ _ q,λ b u q=>e _ _ q,λ b u q=>e _ _ q⟩ λ a u _ _ q=>e a u q
theorem zC.new {p:Addr}{u:HO}(hp:H p=Option.none) (r:zC K H S):zC K (upd H p u) S:=
 r.keep (Ext.new hp u) λ a v o _ q=>by rw[zG (xk q hp)];exact q
theorem zC.ups {p:Addr}{u:HO}{o:O}(e:Ext H (upd H p u)) (hn:qy K (upd H p u) p o) (r:zC K H S):zC K (upd H p u) (ups S p o):=λ a o' h=>by
 by_cases ha:a=p
 ·subst ha;rw[sO] at h;cases h;exact hn
 ·rw[tG ha] at h
  exact (r a o' h).keep e λ v q=>by rw[zG ha];exact q
end
abbrev zU:=List (Option D)
def yq (K:Ab) (H:Hp) (Y:zU) (σ:St):Prop:=Y.length=σ.length/\∀ (i:Nat) (d:D),Y[i]?=some (some d)->∃ v,σ[i]?=some (some v)/\zg K H d v
theorem yq.ext {K:Ab}{H H':Hp}{Y:zU}{σ:St}(e:Ext H H') (r:yq K H Y σ):yq K H' Y σ:=⟨r.1,λ i d h=>by
 obtain⟨v,h1,h2⟩:=r.2 i d h
 exact⟨v,h1,zg.ext e d h2⟩⟩
theorem yq.set {K:Ab}{H:Hp}{Y:zU}{σ:St}(i:Nat) {d:D}{v:V}(r:yq K H Y σ) (h:zg K H d v):yq K H (Y.set i (some d)) (σ.set i (some v)):=by
 refine⟨by rw[CN,CN];exact r.1,λ j c hc=>?_⟩
 rw[CL] at hc ⊢
 by_cases hj:i=j
 ·subst hj
  rw[if_pos rfl] at hc ⊢
  by_cases hl:i < Y.length
  ·rw[if_pos hl] at hc
   rw[if_pos (by rw[<- r.1];exact hl)]
   cases hc
   exact⟨v,rfl,h⟩
  ·rw[if_neg hl] at hc;cases hc
 ·rw[if_neg hj] at hc ⊢
  exact r.2 j c hc
abbrev DK:=D->SS->Prop
abbrev zp:=zU->SS->DK->Prop
abbrev y6:=zU->SS->(Bool->SS->Prop)->Prop
abbrev zY:=zU->SS->(List D->SS->Prop)->Prop
def yi (t:zp):Prop:=∀ Y S (Q Q':DK),(∀ d S',Q d S'->Q' d S')->t Y S Q->t Y S Q'
def wI (t:y6):Prop:=∀ Y S (Q Q':Bool->SS->Prop),(∀ d S',Q d S'->Q' d S')->t Y S Q->t Y S Q'
def t9 (t:zY):Prop:=∀ Y S (Q Q':List D->SS->Prop),(∀ d S',Q d S'->Q' d S')->t Y S Q->t Y S Q'
def xX (K:Ab) (H:Hp) (Q:VK):DK:=λ d S'=>∀ v H',zg K H' d v->Ext H H'->zC K H' S'->Q v H'
def nV (K:Ab) (H:Hp) (Q:Bool->Hp->Prop):Bool->SS->Prop:=λ b S'=>∀ H',Ext H H'->zC K H' S'->Q b H'
def PX (K:Ab) (H:Hp) (Q:List V->Hp->Prop):List D->SS->Prop:=λ ds S'=>∀ vs H',zm K H' ds vs->Ext H H'->zC K H' S'->Q vs H'
def xn (K:Ab) (H:Hp) (Q:St->Hp->Prop):zU->SS->Prop:=fun Y S'=>∀ σ H',yq K H' Y σ->Ext H H'->zC K H' S'->Q σ H'
def xX.ext {K:Ab}{H H':Hp}{Q:VK}(e:Ext H H') {d:D}{S:SS}(h:xX K H Q d S):xX K H' Q d S:=λ v H2 r x q=>h v H2 r (e.trans x) q
def nV.ext {K:Ab}{H H':Hp}{Q:Bool->Hp->Prop}(e:Ext H H') {d:Bool}{S:SS}(h:nV K H Q d S):nV K H' Q d S:=λ H2 x q=>h H2 (e.trans x) q
def xn.ext {K:Ab}{H H':Hp}{Q:St->Hp->Prop}(e:Ext H H') {d:zU}{S:SS}(h:xn K H Q d S):xn K H' Q d S:=λ v H2 r x q=>h v H2 r (e.trans x) q
def zJ (K:Ab) (t:zp):TE:=fun σ H Q=>∃ Y S,yq K H Y σ/\zC K H S/\t Y S (xX K H Q)
def xN (K:Ab) (t:y6):TT:=fun σ H Q=>∃ Y S,yq K H Y σ/\zC K H S/\t Y S (nV K H Q)
def xO (K:Ab) (t:zY):TA:=fun σ H Q=>∃ Y S,yq K H Y σ/\zC K H S/\t Y S (PX K H Q)
structure PD (X:Cx) (e:Expr) (t:zp):Prop where
 mo:yi t
 pe:PE X e (zJ X.K t)
structure xo (X:Cx) (e:Expr) (t:y6):Prop where
 mo:wI t
 pt:PT X e (xN X.K t)
structure xh (X:Cx) (es:List Expr) (t:zY):Prop where
 mo:t9 t
 pa:PA X es (xO X.K t)
def PE.imp {X:Cx}{e:Expr}{t t':TE}(h:PE X e t) (hi:∀ σ H Q,t' σ H Q->t σ H Q):PE X e t':=λ pins s σ H Q I q=>h pins s σ H Q I (hi σ H Q q)
def PT.imp {X:Cx}{e:Expr}{t t':TT}(h:PT X e t) (hi:∀ σ H Q,t' σ H Q->t σ H Q):PT X e t':=λ pins s σ H Q I q=>h pins s σ H Q I (hi σ H Q q)
def PA.imp {X:Cx}{e:List Expr}{t t':TA}(h:PA X e t) (hi:∀ σ H Q,t' σ H Q->t σ H Q):PA X e t':=λ pos pins s σ H Q I q=>h pos pins s σ H Q I (hi σ H Q q)
def PS.imp {X:Cx}{e:Stmt}{t t':TS}(h:PS X e t) (hi:∀ D σ H,t' D σ H->t D σ H):PS X e t':=λ pins s σ H Q I q=>h pins s σ H Q I (hi Q σ H q)
def xK.imp {X:Cx}{e:List Stmt}{t t':TS}(h:xK X e t) (hi:∀ D σ H,t' D σ H->t D σ H):xK X e t':=λ pins s σ H Q I q=>h pins s σ H Q I (hi Q σ H q)
section
variable {X:Cx}{K:Ab}
def zJ.go {t:zp}{σ:St}{H:Hp}{Q:VK}{Y:zU}{S:SS}{R:DK}(mo:yi t) (r1:yq K H Y σ) (r2:zC K H S) (h:t Y S R) (k:∀ d S' v H',R d S'->zg K H' d v->Ext H H'->zC K H' S'->Q v H'):zJ K t σ H Q:=
 ⟨Y,S,r1,r2,mo Y S _ _ (λ d S' q v H' a b c=>k d S' v H' q a b c) h⟩
def xN.go {t:y6}{σ:St}{H:Hp}{Q:Bool->Hp->Prop}{Y:zU}{S:SS}{R:Bool->SS->Prop}(mo:wI t) (r1:yq K H Y σ) (r2:zC K H S) (h:t Y S R) (k:∀ d S' H',R d S'->Ext H H'->zC K H' S'->Q d H'):xN K t σ H Q:=
 ⟨Y,S,r1,r2,mo Y S _ _ (λ d S' q H' b c=>k d S' H' q b c) h⟩
def xO.go {t:zY}{σ:St}{H:Hp}{Q:List V->Hp->Prop}{Y:zU}{S:SS}{R:List D->SS->Prop}(mo:t9 t) (r1:yq K H Y σ) (r2:zC K H S) (h:t Y S R) (k:∀ d S' v H',R d S'->zm K H' d v->Ext H H'->zC K H' S'->Q v H'):xO K t σ H Q:=
 ⟨Y,S,r1,r2,mo Y S _ _ (λ d S' q v H' a b c=>k d S' v H' q a b c) h⟩
def ym (i:Nat):zp:=fun Y S Q=>match Y[i]? with
 | some (some d)=>Q d S
 | _=>False
def dC (d:D):zp:=λ _ S Q=>Q d S
def UC (i:Nat) {x:Str}{pos:Pos}(h:PE X (.Name x pos) (ox i)):PD X (.Name x pos) (ym i):=by
 refine⟨fun Y S Q Q' hq h=>?_,PE.imp h fun σ H Q hu=>?_⟩
 ·unfold ym at h ⊢
  split at h
  ·exact hq _ _ h
  ·exact h
 ·obtain⟨Y,S,r1,r2,h⟩:=hu
  unfold ym at h
  split at h
  ·rename_i d e
   obtain⟨v,h1,h2⟩:=r1.2 i d e
   exact⟨v,h1,h v H h2 (Ext.refl H) r2⟩
  ·exact h.elim
def dC.mo (d:D):yi (dC d):=λ _ _ _ _ hq h=>hq _ _ h
def ni {e:Expr}{d:D}{v:V}(h:PE X e (tC v)) (r:∀ H,zg X.K H d v):PD X e (dC d):=
 ⟨dC.mo d,PE.imp h λ _ H _ ⟨_,_,_,r2,h⟩=>h v H (r H) (Ext.refl H) r2⟩
def zh {i j pos}:PD X (.Constant (.int i) j pos) (dC (.int i)):=ni Uj λ _=>by simp only[zg]
def q_ {i j pos}:PD X (.Constant (.bool i) j pos) (dC (.bl i)):=ni Ut λ _=>by simp only[zg]
def qd {j pos}:PD X (.Constant .none j pos) (dC .zj):=ni Ue λ _=>by simp only[zg]
def nc {x j pos}:PD X (.Constant (.str x) j pos) (dC (.str x)):=ni Ua λ _=>by simp only[zg]
abbrev yG:=D->D->SS->DK->Prop
def y_ (f:yG):Prop:=∀ x y S (Q Q':DK),(∀ d S',Q d S'->Q' d S')->f x y S Q->f x y S Q'
def xb (K:Ab) (f:yG) (r:R2):Prop:=∀ x y d e H S Q,zg K H d x->zg K H e y->zC K H S->f d e S (xX K H Q)->r x y H Q
def yn (f:yG) (ta tb:zp):zp:=fun Y S Q=>ta Y S λ x S1=>tb Y S1 λ y S2=>f x y S2 Q
def yn.mo {f:yG}{ta tb:zp}(hf:y_ f) (ha:yi ta) (hb:yi tb):yi (yn f ta tb):=fun Y S Q Q' hq h=>
 ha Y S _ _ (λ x S1 h=>hb Y S1 _ _ (λ y S2 h=>hf x y S2 _ _ hq h) h) h
def lj {f:yG}{r:R2}{ta tb:zp}(hr:xb K f r) (hf:y_ f) (ha:yi ta) (hb:yi tb) {σ:St}{H:Hp}{Q:VK}(h:zJ K (yn f ta tb) σ H Q):oy r (zJ K ta) (zJ K tb) σ H Q:=by
 obtain⟨Y,S,r1,r2,h⟩:=h
 refine zJ.go ha r1 r2 h λ x S1 v H1 h1 q1 e1 p1=>?_
 refine zJ.go hb (r1.ext e1) p1 h1 λ y S2 w H2 h2 q2 e2 p2=>?_
 exact hr v w x y H2 S2 Q (zg.ext e2 x q1) q2 p2 (hf x y S2 _ _ (λ d S' z=>z.ext (e1.trans e2)) h2)
def sY {a b:Expr}{op:Operator}{pos:Pos}{f:yG}{r:R2}{ta tb:zp}(ho:zS X (binaryOp op) r) (hr:xb X.K f r) (hf:y_ f) (ha:PD X a ta) (hb:PD X b tb):PD X (.BinOp a op b pos) (yn f ta tb):=
 ⟨yn.mo hf ha.mo hb.mo,PE.imp (Ub ho ha.pe hb.pe) λ _ _ _ h=>lj hr hf ha.mo hb.mo h⟩
def iD {a b:Expr}{op:CmpOp}{pos:Pos}{f:yG}{r:R2}{ta tb:zp}(ho:zS X (compareOp op) r) (hr:xb X.K f r) (hf:y_ f) (ha:PD X a ta) (hb:PD X b tb) (hm:behindInMarks op b=false):PD X (.Compare a [op] [b] pos) (yn f ta tb):=
 ⟨yn.mo hf ha.mo hb.mo,PE.imp (Uq ho ha.pe hb.pe hm) λ _ _ _ h=>lj hr hf ha.mo hb.mo h⟩
def vD (t:zp):y6:=fun Y S Q=>t Y S λ x S1=>match x with
 | .bl b=>Q b S1
 | _=>False
def vD.mo {t:zp}(h:yi t):wI (vD t):=fun Y S Q Q' hq q=>h Y S _ _ (λ d S' z=>by
 cases d <;> first
  | exact hq _ _ z
  | exact z) q
def qW {a b:Expr}{op:CmpOp}{pos:Pos}{f:yG}{r:R2}{ta tb:zp}(ho:zS X (compareOp op) r) (hr:xb X.K f r) (hf:y_ f) (ha:PD X a ta) (hb:PD X b tb) (hm:behindInMarks op b=false):xo X (.Compare a [op] [b] pos) (vD (yn f ta tb)):=by
 refine⟨vD.mo (yn.mo hf ha.mo hb.mo),PT.imp (V2 ho ha.pe hb.pe hm) fun σ H Q h=>?_⟩
 obtain⟨Y,S,r1,r2,h⟩:=h
 refine lj hr hf ha.mo hb.mo ⟨Y,S,r1,r2,yn.mo hf ha.mo hb.mo Y S _ _ (λ d S' z v H' a b c=>?_) h⟩
 cases d with
 | bl k=>simp only[zg] at a;exact⟨k,a,z H' b c⟩
 | _=>exact z.elim
def fI (C:Int->Int->Prop) (g:Int->Int->D):yG:=λ x y S Q=>match x,y with
 | .int i,.int j=>C i j/\Q (g i j) S
 | _,_=>False
def fI.mo {C:Int->Int->Prop}{g:Int->Int->D}:y_ (fI C g):=λ x y S Q Q' hq h=>by
 unfold fI at h ⊢
 split at h
 ·exact⟨h.1,hq _ _ h.2⟩
 ·exact h.elim
def xl (g:Int->Int->D):yG:=λ x y S Q=>match x,y with
 | .int i,.int j=>Q (g i j) S
 | _,_=>False
def xl.mo {g:Int->Int->D}:y_ (xl g):=λ x y S Q Q' hq h=>by
 unfold xl at h ⊢
 split at h
 ·exact hq _ _ h
 ·exact h.elim
def fI.fits {C:Int->Int->Prop}{g:Int->Int->D}{g':Int->Int->V}(hg:∀ i j H,zg K H (g i j) (g' i j)):xb K (fI C g) (rI C g'):=λ x y d e H S Q h1 h2 h3 h=>by
 unfold fI at h
 split at h
 ·simp only[zg] at h1 h2
  exact⟨_,_,h1,h2,h.1,h.2 _ H (hg _ _ H) (Ext.refl H) h3⟩
 ·exact h.elim
def xl.fits {g:Int->Int->D}{g':Int->Int->V}(hg:∀ i j H,zg K H (g i j) (g' i j)):xb K (xl g) (vt g'):=λ x y d e H S Q h1 h2 h3 h=>by
 unfold xl at h
 split at h
 ·simp only[zg] at h1 h2
  exact⟨_,_,h1,h2,h _ H (hg _ _ H) (Ext.refl H) h3⟩
 ·exact h.elim
variable {a b:Expr}{ta tb:zp}{pos:Pos}
def sW (ha:PD X a ta) (hb:PD X b tb):PD X (.BinOp a .Sub b pos) (yn (xl λ i j=>.int (i-j)) ta tb):=sY UX (xl.fits λ _ _ _=>by simp only[zg]) xl.mo ha hb
def yK (ha:PD X a ta) (hb:PD X b tb):PD X (.BinOp a .Mod b pos) (yn (fI (λ _ j=>0<j) λ i j=>.int (i%j)) ta tb):=sY Td (fI.fits λ _ _ _=>by simp only[zg]) fI.mo ha hb
def vw (ha:PD X a ta) (hb:PD X b tb):PD X (.BinOp a .FloorDiv b pos) (yn (fI xM λ i j=>.int (i/j)) ta tb):=sY Tn (fI.fits λ _ _ _=>by simp only[zg]) fI.mo ha hb
def sX (ha:PD X a ta) (hb:PD X b tb):PD X (.BinOp a .Pow b pos) (yn (fI sL λ i j=>.int (i ^ j.toNat)) ta tb):=sY UY (fI.fits λ _ _ _=>by simp only[zg]) fI.mo ha hb
abbrev gW:yG:=xl λ i j=>.bl (decide (i<=j))
abbrev gX:yG:=xl λ i j=>.bl (decide (j<=i))
def fit_le:xb K gW (vt λ i j=>.bl (decide (i<=j))):=xl.fits λ _ _ _=>by simp only[zg]
def Pq:xb K gX (vt λ i j=>.bl (decide (j<=i))):=xl.fits λ _ _ _=>by simp only[zg]
def b5 (ha:PD X a ta) (hb:PD X b tb):PD X (.Compare a [.GtE] [b] pos) (yn gX ta tb):=iD Ti Pq xl.mo ha hb (rh _)
def Uy (ha:PD X a ta) (hb:PD X b tb):xo X (.Compare a [.LtE] [b] pos) (vD (yn gW ta tb)):=qW nr fit_le xl.mo ha hb (rh _)
end
section
variable {X:Cx}{K:Ab}{a b c:Expr}{ta tb:zp}{pos:Pos}
def ma (ta tb:zp):zp:=fun Y S Q=>ta Y S λ x S1=>match x with
 | .bl k=>if k=true then tb Y S1 Q else Q (.bl false) S1
 | _=>False
def nX (ta:zp):zp:=fun Y S Q=>ta Y S λ x S1=>match x with
 | .bl k=>Q (.bl (!k)) S1
 | _=>False
def we {c:Prop} [Decidable c] {A B A' B':Prop}(h1:A->A') (h2:B->B') (h:if c then A else B):if c then A' else B':=by
 by_cases q:c
 ·rw[if_pos q] at h ⊢;exact h1 h
 ·rw[if_neg q] at h ⊢;exact h2 h
def ma.mo (ha:yi ta) (hb:yi tb):yi (ma ta tb):=fun Y S Q Q' hq h=>ha Y S _ _ (λ x S1 z=>by
 cases x <;> first
  | exact we (hb Y S1 _ _ hq) (hq _ _) z
  | exact z) h
def nX.mo (ha:yi ta):yi (nX ta):=fun Y S Q Q' hq h=>ha Y S _ _ (λ x S1 z=>by
 cases x <;> first
  | exact hq _ _ z
  | exact z) h
def lR {op} {t:zp}(h:PD X a t):PD X (.BoolOp op [a] pos) t:=⟨h.mo,Uc h.pe⟩
variable {rest:List Expr}
def nj (ha:PD X a ta) (hb:PD X (.BoolOp .And (b::rest) pos) tb):PD X (.BoolOp .And (a::b::rest) pos) (ma ta tb):=by
 refine⟨ma.mo ha.mo hb.mo,PE.imp (Uu ha.pe hb.pe) fun σ H Q hu=>?_⟩
 obtain⟨Y,S,r1,r2,h⟩:=hu
 refine zJ.go ha.mo r1 r2 h λ x S1 v H1 h1 q1 e1 p1=>?_
 cases x with
 | bl k=>
  simp only[zg] at q1
  refine⟨k,q1,we (λ z=>?_) (λ z=>?_) h1⟩
  ·exact zJ.go hb.mo (r1.ext e1) p1 z λ y S2 w H2 h2 q2 e2 p2=>h2 w H2 q2 (e1.trans e2) p2
  ·exact z _ H1 (by simp only[zg]) e1 p1
 | _=>exact h1.elim
def UD (ha:PD X a ta):PD X (.UnaryOp .Not a pos) (nX ta):=by
 refine⟨nX.mo ha.mo,PE.imp (Ud ha.pe) fun σ H Q hu=>?_⟩
 obtain⟨Y,S,r1,r2,h⟩:=hu
 refine zJ.go ha.mo r1 r2 h λ x S1 v H1 h1 q1 e1 p1=>?_
 cases x with
 | bl k=>
  simp only[zg] at q1
  exact⟨k,q1,h1 _ H1 (by simp only[zg]) e1 p1⟩
 | _=>exact h1.elim
def nS (t u:y6):y6:=fun Y S Q=>t Y S λ k S1=>if k=true then u Y S1 Q else Q false S1
def nQ (t u:y6):y6:=fun Y S Q=>t Y S λ k S1=>if k=true then Q true S1 else u Y S1 Q
def nR (t:y6):y6:=fun Y S Q=>t Y S λ k S1=>Q (!k) S1
variable {t u:y6}
def nS.mo (h:wI t) (h':wI u):wI (nS t u):=fun Y S _ _ hq z=>h Y S _ _ (λ k S1 z=>we (h' Y S1 _ _ hq) (hq _ _) z) z
def nQ.mo (h:wI t) (h':wI u):wI (nQ t u):=fun Y S _ _ hq z=>h Y S _ _ (λ k S1 z=>we (hq _ _) (h' Y S1 _ _ hq) z) z
def nR.mo (h:wI t):wI (nR t):=fun Y S _ _ hq z=>h Y S _ _ (λ k S1 z=>hq _ _ z) z
structure vJ (X:Cx) (e:Expr) (t:y6):Prop where
 mo:wI t
 pw:PW X e (xN X.K t)
def PW.imp {e:Expr}{t t':TT}(h:PW X e t) (hi:∀ σ H Q,t' σ H Q->t σ H Q):PW X e t':=λ whole pins s σ H Q I q=>h whole pins s σ H Q I (hi σ H Q q)
theorem vJ.pt {e:Expr}{t:y6}(h:vJ X e t):xo X e t:=⟨h.mo,PW.pt h.pw⟩
def bj (h:xo X a t):vJ X (.BoolOp .And [a] pos) t:=⟨h.mo,Vu h.pt⟩
def iz (h:xo X a t):vJ X (.BoolOp .Or [a] pos) t:=⟨h.mo,Vs h.pt⟩
def i4 (ha:xo X a t) (hb:vJ X (.BoolOp .And (b::rest) pos) u):vJ X (.BoolOp .And (a::b::rest) pos) (nS t u):=by
 refine⟨nS.mo ha.mo hb.mo,PW.imp (Vv ha.pt hb.pw) fun σ H Q hu=>?_⟩
 obtain⟨Y,S,r1,r2,h⟩:=hu
 refine xN.go ha.mo r1 r2 h λ k S1 H1 h1 e1 p1=>we (λ z=>?_) (λ z=>z H1 e1 p1) h1
 exact xN.go hb.mo (r1.ext e1) p1 z λ y S2 H2 h2 e2 p2=>h2 H2 (e1.trans e2) p2
def i3 (ha:xo X a t) (hb:vJ X (.BoolOp .Or (b::rest) pos) u):vJ X (.BoolOp .Or (a::b::rest) pos) (nQ t u):=by
 refine⟨nQ.mo ha.mo hb.mo,PW.imp (Vt ha.pt hb.pw) fun σ H Q hu=>?_⟩
 obtain⟨Y,S,r1,r2,h⟩:=hu
 refine xN.go ha.mo r1 r2 h λ k S1 H1 h1 e1 p1=>we (λ z=>z H1 e1 p1) (λ z=>?_) h1
 exact xN.go hb.mo (r1.ext e1) p1 z λ y S2 H2 h2 e2 p2=>h2 H2 (e1.trans e2) p2
def qV (ha:xo X a t):xo X (.UnaryOp .Not a pos) (nR t):=by
 refine⟨nR.mo ha.mo,PT.imp (V1 ha.pt) fun σ H Q hu=>?_⟩
 obtain⟨Y,S,r1,r2,h⟩:=hu
 exact xN.go ha.mo r1 r2 h λ k S1 H1 h1 e1 p1=>h1 H1 e1 p1
def nZ (t:y6) (ta tb:zp):zp:=fun Y S Q=>t Y S λ k S1=>if k=true then ta Y S1 Q else tb Y S1 Q
def nZ.mo (h:wI t) (ha:yi ta) (hb:yi tb):yi (nZ t ta tb):=fun Y S _ _ hq z=>h Y S _ _ (λ k S1 z=>we (ha Y S1 _ _ hq) (hb Y S1 _ _ hq) z) z
def bz (hc:xo X c t) (ha:PD X a ta) (hb:PD X b tb):PD X (.IfExp c a b pos) (nZ t ta tb):=by
 refine⟨nZ.mo hc.mo ha.mo hb.mo,PE.imp (Uk hc.pt ha.pe hb.pe) fun σ H Q hu=>?_⟩
 obtain⟨Y,S,r1,r2,h⟩:=hu
 refine xN.go hc.mo r1 r2 h λ k S1 H1 h1 e1 p1=>we (λ z=>?_) (λ z=>?_) h1
 ·exact zJ.go ha.mo (r1.ext e1) p1 z λ y S2 w H2 h2 q2 e2 p2=>h2 w H2 q2 (e1.trans e2) p2
 ·exact zJ.go hb.mo (r1.ext e1) p1 z λ y S2 w H2 h2 q2 e2 p2=>h2 w H2 q2 (e1.trans e2) p2
def vp (d:D) (S:SS) (Q:Bool->SS->Prop):Prop:=match d with
 | .zj=>Q false S
 | .bl k=>Q k S
 | .int i=>Q (i != 0) S
 | .str x=>x.length<=sizeLine/\Q ((x.length:Int) != 0) S
 | .tup ds=>Q (!ds.isEmpty) S
 | .xD ds=>Q (!ds.isEmpty) S
 | .ref p=>match S p with
  | some (.lst ds)=>Q (!ds.isEmpty) S
  | some (.zI Aa)=>Q (!Aa.isEmpty) S
  | none=>False
 | .err _ _ _=>False
def ZF (ta:zp):y6:=fun Y S Q=>ta Y S λ x S1=>vp x S1 Q
def vp.mo {d:D}{S:SS}{Q Q':Bool->SS->Prop}(hq:∀ k S',Q k S'->Q' k S') (h:vp d S Q):vp d S Q':=by
 cases d with
 | str x=>exact⟨h.1,hq _ _ h.2⟩
 | err _ _ _=>exact h.elim
 | ref p=>
  unfold vp at h ⊢
  dsimp only at h ⊢
  split at h
  ·exact hq _ _ h
  ·exact hq _ _ h
  ·exact h
 | _=>exact hq _ _ h
theorem zm.isEmpty {H:Hp}{ds:List D}{xs:List V}(h:zm K H ds xs):ds.isEmpty=xs.isEmpty:=by
 have:=h.length
 cases ds <;> cases xs <;> simp_all
def Nl {α β:Type}{F:α->β->Prop}{xs:List α}{ys:List β}(h:Paired F xs ys):xs.isEmpty=ys.isEmpty:=by cases h <;> rfl
def vp.fits {H:Hp}{d:D}{v:V}{S:SS}{Q:Bool->Hp->Prop}(r:zg K H d v) (p:zC K H S) (h:vp d S (nV K H Q)):∃ k,fW K v H k/\Q k H:=by
 cases d with
 | zj=>simp only[zg] at r;subst r;exact⟨false,rfl,h H (.refl H) p⟩
 | bl k=>simp only[zg] at r;subst r;exact⟨k,rfl,h H (.refl H) p⟩
 | int i=>simp only[zg] at r;subst r;exact⟨_,rfl,h H (.refl H) p⟩
 | str x=>simp only[zg] at r;subst r;exact⟨_,⟨h.1,rfl⟩,h.2 H (.refl H) p⟩
 | err _ _ _=>exact h.elim
 | tup ds=>
  simp only[zg] at r
  obtain⟨a,xs,rfl,r1,r2⟩:=r
  exact⟨_,.inr (.inl ⟨xs,r1,by rw[r2.isEmpty]⟩),h H (.refl H) p⟩
 | xD ds=>
  simp only[zg] at r
  obtain⟨a,xs,rfl,r1,r2⟩:=r
  exact⟨_,.inl ⟨xs,r1.sq,by rw[r2.isEmpty]⟩,h H (.refl H) p⟩
 | ref a=>
  simp only[zg] at r
  subst r
  unfold vp at h
  dsimp only at h
  split at h
  ·rename_i ds e
   obtain⟨xs,e1,r2⟩:=p a _ e
   exact⟨_,.inl ⟨xs,zL.of e1,by rw[r2.isEmpty]⟩,h H (.refl H) p⟩
  ·rename_i Aa e
   obtain⟨xs,e1,r2⟩:=p a _ e
   exact⟨_,.inr (.inr ⟨xs,e1,by rw[Nl r2]⟩),h H (.refl H) p⟩
  ·exact h.elim
def u7 (ha:PD X a ta) (he:∀ whole,isTrue a X.env whole=(do let v <- whole;standAt a.pos;holding [v] (truthy v)):=by intro _;rfl):xo X a (ZF ta):=by
 refine⟨fun Y S Q Q' hq h=>ha.mo Y S _ _ (λ x S1 z=>vp.mo hq z) h,PT.imp (Vz ha.pe he) fun σ H Q hu=>?_⟩
 obtain⟨Y,S,r1,r2,h⟩:=hu
 refine zJ.go ha.mo r1 r2 h λ x S1 v H1 h1 q1 e1 p1=>?_
 exact vp.fits q1 p1 (vp.mo (λ k S' z=>z.ext e1) h1)
def kJ:zY:=λ _ S Q=>Q [] S
def qp (te:zp) (tr:zY):zY:=fun Y S Q=>te Y S λ x S1=>tr Y S1 λ xs S2=>Q (x::xs) S2
variable {e:Expr}{es:List Expr}{te:zp}{tA:zY}
def qp.mo (h:yi te) (h':t9 tA):t9 (qp te tA):=fun Y S _ _ hq z=>h Y S _ _ (λ x S1 z=>h' Y S1 _ _ (λ xs S2 z=>hq _ _ z) z) z
def zo:xh X [] kJ:=⟨λ _ _ _ _ hq h=>hq _ _ h,PA.imp rf fun σ H Q ⟨_,_,_,r2,h⟩=>h [] H .nil (.refl H) r2⟩
def ze (ha:PD X e te) (hr:xh X es tA) (hs:starEach (e::es) X.env=(false,eval e X.env)::starEach es X.env:=by rfl):xh X (e::es) (qp te tA):=by
 refine⟨qp.mo ha.mo hr.mo,PA.imp (uS ha.pe hr.pa hs) fun σ H Q hu=>?_⟩
 obtain⟨Y,S,r1,r2,h⟩:=hu
 refine zJ.go ha.mo r1 r2 h λ x S1 v H1 h1 q1 e1 p1=>?_
 refine xO.go hr.mo (r1.ext e1) p1 h1 λ xs S2 w H2 h2 q2 e2 p2=>?_
 exact h2 (v::w) H2 (.cons (zg.ext e2 x q1) q2) (e1.trans e2) p2
def ZQ (t:zY):zp:=fun Y S Q=>t Y S λ ds S1=>ds.length<=sizeLine/\Q (.tup ds) S1
def ZU (t:zY):zp:=fun Y S Q=>t Y S λ ds S1=>ds.length<=sizeLine/\∀ p,S1 p=none->Q (.ref p) (ups S1 p (.lst ds))
def y7 {k} (h:xh X es tA):PD X (.Tuple es k pos) (ZQ tA):=by
 refine⟨fun Y S _ _ hq z=>h.mo Y S _ _ (λ ds S1 z=>⟨z.1,hq _ _ z.2⟩) z,PE.imp (V_ h.pa) fun σ H Q hu=>?_⟩
 obtain⟨Y,S,r1,r2,h'⟩:=hu
 refine xO.go h.mo r1 r2 h' λ ds S1 xs H1 h1 q1 e1 p1=>⟨by rw[<- q1.length];exact h1.1,λ p hp=>?_⟩
 refine h1.2 _ _ ?_ (e1.trans (.new hp _)) (p1.new hp)
 simp only[zg]
 exact⟨p,xs,rfl,zR.of yd,zm.ext (.new hp _) ds q1⟩
def xE (h:xh X es tA):PD X (.List es pos) (ZU tA):=by
 refine⟨fun Y S _ _ hq z=>h.mo Y S _ _ (λ ds S1 z=>⟨z.1,λ p hp=>hq _ _ (z.2 p hp)⟩) z,PE.imp (Ug h.pa) fun σ H Q hu=>?_⟩
 obtain⟨Y,S,r1,r2,h'⟩:=hu
 refine xO.go h.mo r1 r2 h' λ ds S1 xs H1 h1 q1 e1 p1=>⟨by rw[<- q1.length];exact h1.1,λ p hp=>?_⟩
 refine h1.2 p (p1.none hp) _ _ (by simp only[zg]) (e1.trans (.new hp _)) ?_
 exact p1.ups (.new hp _) ⟨xs,yd,zm.ext (.new hp _) ds q1⟩
def wg:yG:=λ x y S Q=>match x,y with
 | .tup ds,.int i=>match zQ ds i with
  | some d=>Q d S
  | none=>False
 | .xD ds,.int i=>match zQ ds i with
  | some d=>Q d S
  | none=>False
 | .ref p,.int i=>match S p with
  | some (.lst ds)=>match zQ ds i with
   | some d=>Q d S
   | none=>False
  | _=>False
 | _,_=>False
def wg.mo:y_ wg:=λ x y S Q Q' hq h=>by
 unfold wg at h ⊢
 split at h
 ·skip
  split at h
  ·exact hq _ _ h
  ·exact h
 ·skip
  split at h
  ·exact hq _ _ h
  ·exact h
 ·skip
  split at h
  ·skip
   split at h
   ·exact hq _ _ h
   ·exact h
  ·exact h.elim
 ·exact h.elim
theorem zm.zQ {H:Hp}{ds:List D}{xs:List V}{i:Int}{d:D}(h:zm K H ds xs) (e:L2.zQ ds i=some d):∃ x,L2.zQ xs i=some x/\zg K H d x:=by
 unfold L2.zQ at e ⊢
 rw[h.length] at e
 cases q:wQ xs.length i with
 | none=>rw[q] at e;cases e
 | some j=>
  rw[q] at e
  exact h.get e
def wg.fits:xb K wg (cK K):=λ x y d e H S Q h1 h2 h3 h=>by
 unfold wg at h
 split at h
 ·split at h
  ·rename_i q
   simp only[zg] at h1 h2
   obtain⟨a,xs,rfl,r1,r2⟩:=h1
   obtain⟨x',e1,e2⟩:=r2.zQ q
   exact .inr (.inl ⟨a,xs,_,x',rfl,h2,r1,e1,h x' H e2 (.refl H) h3⟩)
  ·exact h.elim
 ·split at h
  ·rename_i q
   simp only[zg] at h1 h2
   obtain⟨a,xs,rfl,r1,r2⟩:=h1
   obtain⟨x',e1,e2⟩:=r2.zQ q
   exact .inl ⟨a,xs,_,x',rfl,h2,r1.sq,e1,h x' H e2 (.refl H) h3⟩
  ·exact h.elim
 ·split at h
  ·rename_i q0
   split at h
   ·rename_i q
    simp only[zg] at h1 h2
    subst h1
    obtain⟨xs,r1,r2⟩:=h3 _ _ q0
    obtain⟨x',e1,e2⟩:=r2.zQ q
    exact .inl ⟨_,xs,_,x',rfl,h2,zL.of r1,e1,h x' H e2 (.refl H) h3⟩
   ·exact h.elim
  ·exact h.elim
 ·exact h.elim
def zB (ha:PD X a ta) (hb:PD X b tb) (hs:Y3 b:=by exact λ _ _=>rfl):PD X (.Subscript a b pos) (yn wg ta tb):=
 ⟨yn.mo wg.mo ha.mo hb.mo,PE.imp (Ui Qy ha.pe hb.pe hs) λ _ _ _ h=>lj wg.fits wg.mo ha.mo hb.mo h⟩
abbrev xB:=List D->SS->DK->Prop
def uv (f:xB):Prop:=∀ ds S (Q Q':DK),(∀ d S',Q d S'->Q' d S')->f ds S Q->f ds S Q'
def tB (K:Ab) (f:xB) (r:List V->Hp->VK->Prop):Prop:=∀ xs ds H S Q,zm K H ds xs->zC K H S->f ds S (xX K H Q)->r xs H Q
def xG (f:xB) (t:zY):zp:=fun Y S Q=>t Y S λ ds S1=>f ds S1 Q
def xG.mo {f:xB}(hf:uv f) (h:t9 tA):yi (xG f tA):=fun Y S _ _ hq z=>h Y S _ _ (λ ds S1 z=>hf ds S1 _ _ hq z) z
def dI {f:xB}{r:List V->Hp->VK->Prop}(hf:uv f) (hr:tB K f r) (h:t9 tA) {σ:St}{H:Hp}{Q:VK}(hu:zJ K (xG f tA) σ H Q):l4 r (xO K tA) σ H Q:=by
 obtain⟨Y,S,r1,r2,h'⟩:=hu
 refine xO.go h r1 r2 h' λ ds S1 xs H1 h1 q1 e1 p1=>?_
 exact hr xs ds H1 S1 Q q1 p1 (hf ds S1 _ _ (λ d S' z=>z.ext e1) h1)
def sZ {f:xB}{r:List V->Hp->VK->Prop}{e:Expr}(h:PE X e (l4 r (xO X.K tA))) (hf:uv f) (hr:tB X.K f r) (ha:t9 tA):PD X e (xG f tA):=
 ⟨xG.mo hf ha,PE.imp h λ _ _ _ hu=>dI hf hr ha hu⟩
noncomputable def yj (d:D) (S:SS):Option (List D):=match d with
 | .tup ds=>some ds
 | .xD ds=>some ds
 | .ref p=>match S p with
  | some (.lst ds)=>some ds
  | _=>none
 | _=>none
theorem yj.sq {H:Hp}{S:SS}{d:D}{v:V}{ds:List D}(r:zg K H d v) (p:zC K H S) (e:yj d S=some ds):∃ a xs,v=.ref a/\(zL K H a xs\/zR K H a xs)/\zm K H ds xs:=by
 unfold yj at e
 split at e
 ·cases e
  simp only[zg] at r
  obtain⟨a,xs,h1,h2,h3⟩:=r
  exact⟨a,xs,h1,.inr h2,h3⟩
 ·cases e
  simp only[zg] at r
  obtain⟨a,xs,h1,h2,h3⟩:=r
  exact⟨a,xs,h1,.inl h2.sq,h3⟩
 ·split at e
  ·rename_i q
   cases e
   simp only[zg] at r
   subst r
   obtain⟨xs,h1,h2⟩:=p _ _ q
   exact⟨_,xs,rfl,.inl (zL.of h1),h2⟩
  ·cases e
 ·cases e
def zm.one {H:Hp}{d:D}{xs:List V}(h:zm K H [d] xs):∃ x,xs=[x]/\zg K H d x:=by
 simp only[zm] at h
 obtain⟨x,r,rfl,h2,rfl⟩:=h
 exact⟨x,rfl,h2⟩
def zm.two {H:Hp}{d d':D}{xs:List V}(h:zm K H [d,d'] xs):∃ x y,xs=[x,y]/\zg K H d x/\zg K H d' y:=by
 simp only[zm] at h
 obtain⟨x,r,rfl,h2,y,r',rfl,h3,rfl⟩:=h
 exact⟨x,y,rfl,h2,h3⟩
def ug:xB:=λ ds S Q=>match ds with
 | [d]=>match yj d S with
  | some ds=>Q (.int ds.length) S
  | none=>match d with
   | .str z=>z.length<=sizeLine/\Q (.int z.length) S
   | _=>False
 | _=>False
def ug.mo:uv ug:=λ ds S Q Q' hq h=>by
 unfold ug at h ⊢
 split at h
 ·skip
  split at h
  ·exact hq _ _ h
  ·split at h
   ·exact⟨h.1,hq _ _ h.2⟩
   ·exact h.elim
 ·exact h.elim
abbrev Vr (K:Ab):List V->Hp->VK->Prop:=λ xs H Q=>(∃ p ys,xs=[.ref p]/\(zL K H p ys\/zR K H p ys)/\Q (.int ys.length) H)\/(∃ z,xs=[.str z]/\z.length<=sizeLine/\Q (.int z.length) H)
def ug.fits:tB K ug (Vr K):=λ xs ds H S Q h0 h2 h=>by
 unfold ug at h
 split at h
 ·obtain⟨x,hx,h1⟩:=h0.one;subst hx
  split at h
  ·rename_i e
   obtain⟨a,ys,rfl,q,r⟩:=yj.sq h1 h2 e
   refine .inl ⟨a,ys,rfl,q,?_⟩
   rw[<- r.length]
   exact h _ H (by simp only[zg]) (.refl H) h2
  ·split at h
   ·simp only[zg] at h1
    subst h1
    exact .inr ⟨_,rfl,h.1,h.2 _ H (by simp only[zg]) (.refl H) h2⟩
   ·exact h.elim
 ·exact h.elim
def uf:xB:=λ ds S Q=>match ds with
 | [d]=>match yj d S with
  | some ds=>∀ p,S p=none->Q (.ref p) (ups S p (.lst ds))
  | none=>False
 | _=>False
def uf.mo:uv uf:=λ ds S Q Q' hq h=>by
 unfold uf at h ⊢
 split at h
 ·skip
  split at h
  ·exact λ p hp=>hq _ _ (h p hp)
  ·exact h.elim
 ·exact h.elim
def uf.fits:tB K uf (λ xs H Q=>∃ p ys,xs=[.ref p]/\(zL K H p ys\/zR K H p ys)/\∀ l,H l=none->Q (.ref l) (upd H l (.lst ys))):=λ xs ds H S Q h0 h2 h=>by
 unfold uf at h
 split at h
 ·obtain⟨x,hx,h1⟩:=h0.one;subst hx
  split at h
  ·rename_i e
   obtain⟨a,ys,rfl,q,r⟩:=yj.sq h1 h2 e
   refine⟨a,ys,rfl,q,λ l hl=>?_⟩
   exact h l (h2.none hl) _ _ (by simp only[zg]) (.new hl _) (h2.ups (.new hl _) ⟨ys,yd,zm.ext (.new hl _) _ r⟩)
  ·exact h.elim
 ·exact h.elim
def ud:xB:=λ ds S Q=>match ds with
 | [.tup ds]=>Q (.tup ds) S
 | [.xD ds]=>Q (.tup ds) S
 | [.ref p]=>match S p with
  | some (.lst ds)=>Q (.tup ds) S
  | _=>False
 | _=>False
def ud.mo:uv ud:=λ ds S Q Q' hq h=>by
 unfold ud at h ⊢
 split at h
 ·exact hq _ _ h
 ·exact hq _ _ h
 ·skip
  split at h
  ·exact hq _ _ h
  ·exact h.elim
 ·exact h.elim
def ud.fits:tB K ud (λ xs H Q=>∃ p ys,xs=[.ref p]/\((zL K H p ys/\∀ l,H l=none->Q (.ref l) (upd H l (.tup ys)))\/(zR K H p ys/\Q (.ref p) H))):=λ xs ds H S Q h0 h2 h=>by
 unfold ud at h
 split at h
 ·obtain⟨x,hx,h1⟩:=h0.one;subst hx
  have h1':=h1
  simp only[zg] at h1
  obtain⟨a,xs,rfl,r1,r2⟩:=h1
  exact⟨a,xs,rfl,.inr ⟨r1,h _ H h1' (.refl H) h2⟩⟩
 ·obtain⟨x,hx,h1⟩:=h0.one;subst hx
  simp only[zg] at h1
  obtain⟨a,xs,rfl,r1,r2⟩:=h1
  refine⟨a,xs,rfl,.inl ⟨r1.sq,λ l hl=>h _ _ ?_ (.new hl _) (h2.new hl)⟩⟩
  simp only[zg]
  exact⟨l,xs,rfl,zR.of yd,zm.ext (.new hl _) _ r2⟩
 ·obtain⟨x,hx,h1⟩:=h0.one;subst hx
  split at h
  ·rename_i e
   simp only[zg] at h1
   subst h1
   obtain⟨xs,r1,r2⟩:=h2 _ _ e
   refine⟨_,xs,rfl,.inl ⟨zL.of r1,λ l hl=>h _ _ ?_ (.new hl _) (h2.new hl)⟩⟩
   simp only[zg]
   exact⟨l,xs,rfl,zR.of yd,zm.ext (.new hl _) _ r2⟩
  ·exact h.elim
 ·exact h.elim
def vB (g:Int->Int->D):xB:=λ ds S Q=>match ds with
 | [.int i,.int j]=>Q (g i j) S
 | _=>False
def vB.mo {g:Int->Int->D}:uv (vB g):=λ ds S Q Q' hq h=>by
 unfold vB at h ⊢
 split at h
 ·exact hq _ _ h
 ·exact h.elim
def vB.fits {g:Int->Int->D}{g':Int->Int->V}(hg:∀ i j H,zg K H (g i j) (g' i j)):tB K (vB g) (λ xs H Q=>∃ i j,xs=[.int i,.int j]/\Q (g' i j) H):=λ xs ds H S Q h0 h2 h=>by
 unfold vB at h
 split at h
 ·obtain⟨x,y,hx,h1,h3⟩:=h0.two;subst hx
  simp only[zg] at h1 h3
  subst h1 h3
  exact⟨_,_,rfl,h _ H (hg _ _ H) (.refl H) h2⟩
 ·exact h.elim
def zam:yG:=λ x y S Q=>match x,y with
 | .ref p,.ref q=>match S p,S q with
  | some (.lst ds),some (.lst es)=>ds.length+es.length<=sizeLine/\∀ r,S r=none->Q (.ref r) (ups S r (.lst (ds++es)))
  | _,_=>False
 | _,_=>False
def rL (to te:zp):zp:=fun Y S Q=>to Y S λ x S1=>match x with
 | .ref p=>(∃ ds,S1 p=some (.lst ds))/\te Y S1 λ y S2=>match S2 p with
  | some (.lst ds)=>ds.length<sizeLine/\Q .zj (ups S2 p (.lst (ds++[y])))
  | _=>False
 | _=>False
def rL.mo {to te:zp}(h:yi to) (h':yi te):yi (rL to te):=fun Y S Q Q' hq z=>h Y S _ _ (λ x S1 z=>by
 cases x with
 | ref p=>
  refine⟨z.1,h' Y S1 _ _ (λ y S2 w=>?_) z.2⟩
  split at w
  ·exact⟨w.1,hq _ _ w.2⟩
  ·exact w.elim
 | _=>exact z) z
def UR {o e:Expr}{to te:zp}{e0:Expr}(D6:PE X e0 (jv X.K "list" cQ (zJ X.K to) (lz (zJ X.K te) ly))) (h:yi to) (h':yi te):PD X e0 (rL to te):=by
 refine⟨rL.mo h h',PE.imp D6 fun σ H Q hu=>?_⟩
 obtain⟨Y,S,r1,r2,z⟩:=hu
 refine zJ.go h r1 r2 z λ x S1 v H1 h1 q1 e1 p1=>?_
 cases x with
 | ref p=>
  obtain⟨⟨ds,hd⟩,h1⟩:=h1
  simp only[zg] at q1
  subst q1
  obtain⟨xs,g1,g2⟩:=p1 _ _ hd
  refine⟨.inl ⟨rfl,xs,zL.of g1⟩,?_⟩
  refine zJ.go h' (r1.ext e1) p1 h1 λ y S2 w H2 h2 q2 e2 p2=>?_
  split at h2
  ·rename_i ds' e3
   obtain⟨xs',g3,g4⟩:=p2 _ _ e3
   refine⟨p,xs',w,rfl,rfl,g3,by rw[<- g4.length];exact h2.1,?_⟩
   have e4:Ext H2 (upd H2 p (.lst (xs'++[w]))):=.lst g3 _
   exact h2.2 _ _ (by simp only[zg]) ((e1.trans e2).trans e4) (p2.ups e4 ⟨_,yd,zm.ext e4 _ (g4.snoc q2)⟩)
  ·exact h2.elim
 | _=>exact h1.elim
end
structure tE where
 nx:zU->SS->Prop
 rt:DK
 bk:zU->SS->Prop:=λ _ _=>False
 ct:zU->SS->Prop:=λ _ _=>False
abbrev yg:=tE->zU->SS->Prop
structure tE.Le (E E':tE):Prop where
 nx:∀ Y S,E.nx Y S->E'.nx Y S
 rt:∀ d S,E.rt d S->E'.rt d S
 bk:∀ Y S,E.bk Y S->E'.bk Y S
 ct:∀ Y S,E.ct Y S->E'.ct Y S
def uu (t:yg):Prop:=∀ E E' Y S,tE.Le E E'->t E Y S->t E' Y S
def vC (K:Ab) (H:Hp) (D:Ends):tE:=⟨xn K H D.nx,xX K H D.rt,xn K H D.bk,xn K H D.ct⟩
theorem vC.ext {K:Ab}{H H':Hp}{D:Ends}(e:Ext H H'):(vC K H D).Le (vC K H' D):=⟨λ _ _ h=>xn.ext e h,λ _ _ h=>xX.ext e h,λ _ _ h=>xn.ext e h,λ _ _ h=>xn.ext e h⟩
def jn (K:Ab) (t:yg):TS:=λ D σ H=>∃ Y S,yq K H Y σ/\zC K H S/\t (vC K H D) Y S
structure vm (X:Cx) (st:Stmt) (t:yg):Prop where
 mo:uu t
 ps:PS X st (jn X.K t)
structure ur (X:Cx) (st:List Stmt) (t:yg):Prop where
 mo:uu t
 ps:xK X st (jn X.K t)
section
variable {X:Cx}{K:Ab}{st:Stmt}{rest:List Stmt}{t u:yg}{pos:Pos}{e:Expr}{te:zp}
def fu:yg:=λ E Y S=>E.nx Y S
def qo (t u:yg):yg:=λ E Y S=>t { E with nx:=u E } Y S
def qo.mo (h:uu t) (h':uu u):uu (qo t u):=λ E E' Y S hE z=>h { E with nx:=u E } { E' with nx:=u E' } Y S ⟨fun Y S q=>h' E E' Y S hE q,hE.rt,hE.bk,hE.ct⟩ z
def wM:ur X [] fu:=⟨λ _ _ _ _ hE h=>hE.nx _ _ h,xK.imp V4 λ D σ H ⟨Y,S,r1,r2,h⟩=>h σ H r1 (.refl H) r2⟩
def zH (h:vm X st t):ur X [st] t:=⟨h.mo,iq h.ps⟩
def zy (h:vm X st t) (h':ur X rest u):ur X (st::rest) (qo t u):=by
 refine⟨qo.mo h.mo h'.mo,xK.imp (V5 h.ps h'.ps) λ D σ H hu=>?_⟩
 obtain⟨Y,S,r1,r2,z⟩:=hu
 refine⟨Y,S,r1,r2,h.mo { vC X.K H D with nx:=u (vC X.K H D) } _ Y S ⟨fun Y' S' q σ' H' q1 q2 q3=>?_,λ _ _ q=>q,λ _ _ q=>q,λ _ _ q=>q⟩ z⟩
 exact⟨Y',S',q1,q3,h'.mo _ _ Y' S' (vC.ext q2) q⟩
def kL (te:zp):yg:=λ E Y S=>te Y S λ _ S1=>E.nx Y S1
def vv (he:PD X e te) (hs:swapsWith e none pos.line X.env=pure false:=by rfl):vm X (.Expr e pos) (kL te):=by
 refine⟨λ E E' Y S hE z=>he.mo Y S _ _ (λ _ _ q=>hE.nx _ _ q) z,PS.imp (VC he.pe hs) λ D σ H hu=>?_⟩
 obtain⟨Y,S,r1,r2,z⟩:=hu
 exact zJ.go he.mo r1 r2 z λ x S1 v H1 h1 q1 e1 p1=>h1 σ H1 (r1.ext e1) e1 p1
def fq (te:zp):yg:=λ E Y S=>te Y S E.rt
def yf (he:PD X e te):vm X (.Return (some e) pos) (fq te):=by
 refine⟨λ E E' Y S hE z=>he.mo Y S _ _ (λ _ _ q=>hE.rt _ _ q) z,PS.imp (V9 he.pe) λ D σ H hu=>?_⟩
 obtain⟨Y,S,r1,r2,z⟩:=hu
 exact zJ.go he.mo r1 r2 z λ x S1 v H1 h1 q1 e1 p1=>h1 v H1 q1 e1 p1
def fx (c:y6) (t u:yg):yg:=λ E Y S=>c Y S λ k S1=>if k=true then t E Y S1 else u E Y S1
def wN {c:Expr}{p q:List Stmt}{tc:y6}(hc:xo X c tc) (h:ur X p t) (h':ur X q u):vm X (.If c p q pos) (fx tc t u):=by
 refine⟨λ E E' Y S hE z=>hc.mo Y S _ _ (λ k S1 z=>we (h.mo _ _ Y S1 hE) (h'.mo _ _ Y S1 hE) z) z,PS.imp (VA hc.pt h.ps h'.ps) λ D σ H hu=>?_⟩
 obtain⟨Y,S,r1,r2,z⟩:=hu
 refine xN.go hc.mo r1 r2 z λ k S1 H1 h1 e1 p1=>we (λ z=>?_) (λ z=>?_) h1
 ·exact⟨Y,S1,r1.ext e1,p1,h.mo _ _ Y S1 (vC.ext e1) z⟩
 ·exact⟨Y,S1,r1.ext e1,p1,h'.mo _ _ Y S1 (vC.ext e1) z⟩
abbrev yV:=D->zU->SS->(zU->SS->Prop)->Prop
abbrev wF:=List D->zU->SS->(zU->SS->Prop)->Prop
def mF (t:yV):Prop:=∀ d Y S (Q Q':zU->SS->Prop),(∀ Y S,Q Y S->Q' Y S)->t d Y S Q->t d Y S Q'
def Y8 (t:wF):Prop:=∀ d Y S (Q Q':zU->SS->Prop),(∀ Y S,Q Y S->Q' Y S)->t d Y S Q->t d Y S Q'
def ot (K:Ab) (t:yV):TG:=λ v σ H Q=>∃ d Y S,zg K H d v/\yq K H Y σ/\zC K H S/\t d Y S (xn K H Q)
def dG (K:Ab) (t:wF):sA:=λ v σ H Q=>∃ d Y S,zm K H d v/\yq K H Y σ/\zC K H S/\t d Y S (xn K H Q)
structure sF (X:Cx) (e:Expr) (t:yV):Prop where
 mo:mF t
 pg:PG X e (ot X.K t)
structure kQ (X:Cx) (es:List Expr) (t:wF):Prop where
 mo:Y8 t
 pg:t8 X es (dG X.K t)
def PG.imp {e:Expr}{t t':TG}(h:PG X e t) (hi:∀ v σ H Q,t' v σ H Q->t v σ H Q):PG X e t':=λ pins s σ H v w Q I r q=>h pins s σ H v w Q I r (hi v σ H Q q)
def t8.imp {e:List Expr}{t t':sA}(h:t8 X e t) (hi:∀ v σ H Q,t' v σ H Q->t v σ H Q):t8 X e t':=λ pins s σ H v w Q I r q=>h pins s σ H v w Q I r (hi v σ H Q q)
def hName (i:Nat):yV:=λ d Y S Q=>Q (Y.set i (some d)) S
def UB {e:Expr}{i:Nat}(h:PG X e (pD i)):sF X e (hName i):=
 ⟨λ _ _ _ _ _ hq z=>hq _ _ z,PG.imp h λ v σ H Q ⟨d,Y,S,r1,r2,r3,z⟩=>z _ H (r2.set i r1) (.refl H) r3⟩
def gy:wF:=λ ds Y S Q=>ds=[]/\Q Y S
def gz (t:yV) (u:wF):wF:=λ ds Y S Q=>match ds with
 | d::r=>t d Y S fun Y' S'=>u r Y' S' Q
 | []=>False
def oZ:kQ X [] gy:=by
 refine⟨λ _ _ _ _ _ hq z=>⟨z.1,hq _ _ z.2⟩,t8.imp VQ λ v σ H Q hu=>?_⟩
 obtain⟨d,Y,S,r1,r2,r3,z1,z2⟩:=hu
 subst z1
 simp only[zm] at r1
 exact⟨r1,z2 σ H r2 (.refl H) r3⟩
def u9 {e:Expr}{es:List Expr}{t:yV}{u:wF}(h:sF X e t) (h':kQ X es u) (hs:(assignEach (e::es) X.env).map (·.2)=assign e X.env::(assignEach es X.env).map (·.2):=by rfl):kQ X (e::es) (gz t u):=by
 refine⟨λ ds Y S Q Q' hq z=>?_,t8.imp (VR h.pg h'.pg hs) λ v σ H Q hu=>?_⟩
 ·cases ds with
  | nil=>exact z
  | cons d r=>exact h.mo d Y S _ _ (fun Y' S' z=>h'.mo r Y' S' _ _ hq z) z
 ·obtain⟨ds,Y,S,r1,r2,r3,z⟩:=hu
  cases ds with
  | nil=>exact z.elim
  | cons d r=>
   simp only[zm] at r1
   obtain⟨x,xs,rfl,q1,q2⟩:=r1
   refine⟨x,xs,rfl,d,Y,S,q1,r2,r3,h.mo d Y S _ _ (fun Y' S' z σ' H' g1 g2 g3=>?_) z⟩
   exact⟨r,Y',S',zm.ext g2 r q2,g1,g3,h'.mo r Y' S' _ _ (fun Y2 S2 z2=>xn.ext g2 z2) z⟩
def kx (n:Nat) (t:wF):yV:=λ d Y S Q=>match d with
 | .tup ds=>ds.length=n/\t ds Y S Q
 | _=>False
def UA {e:Expr}{n:Nat}{t:wF}(h:PG X e (Zo X.K n (dG X.K t))) (hm:Y8 t):sF X e (kx n t):=by
 refine⟨λ d Y S Q Q' hq z=>?_,PG.imp h λ v σ H Q hu=>?_⟩
 ·cases d with
  | tup ds=>exact⟨z.1,hm ds Y S _ _ hq z.2⟩
  | _=>exact z
 ·obtain⟨d,Y,S,r1,r2,r3,z⟩:=hu
  cases d with
  | tup ds=>
   simp only[zg] at r1
   obtain⟨a,xs,rfl,q1,q2⟩:=r1
   exact⟨a,xs,rfl,q1,by rw[<- q2.length];exact z.1,ds,Y,S,q2,r2,r3,z.2⟩
  | _=>exact z.elim
def vk (te:zp) (g:yV):yg:=λ E Y S=>te Y S λ x S1=>g x Y S1 E.nx
def vk.mo {g:yV}(h:yi te) (h':mF g):uu (vk te g):=λ E E' Y S hE z=>h Y S _ _ (λ x S1 q=>h' x Y S1 _ _ (fun Y S q=>hE.nx _ _ q) q) z
def XI {g:yV}(h:yi te) (h':mF g) {D:Ends}{σ:St}{H:Hp}(hu:jn K (vk te g) D σ H):oz (zJ K te) (ot K g) D σ H:=by
 obtain⟨Y,S,r1,r2,z⟩:=hu
 refine zJ.go h r1 r2 z λ x S1 v H1 h1 q1 e1 p1=>?_
 exact⟨x,Y,S1,q1,r1.ext e1,p1,h' x Y S1 _ _ (fun Y S q=>xn.ext e1 q) h1⟩
def bq {tg e:Expr}{g:yV}(he:PD X e te) (hg:sF X tg g) (hs:swapsWithSole [tg] e pos.line X.env=pure false:=by rfl) (hw:swappedStores [tg] e X.env=pure none:=by rfl)
  (h1:(assignEach [tg] X.env).map (·.2)=[assign tg X.env]:=by rfl):vm X (.Assign [tg] e pos) (vk te g):=
 ⟨vk.mo he.mo hg.mo,PS.imp (cV he.pe hg.pg hs hw h1) λ _ _ _ hu=>XI he.mo hg.mo hu⟩
def U4 {e0:Stmt}{i:Nat}(h:PS X e0 (oz (zJ X.K te) (pD i))) (hm:yi te):vm X e0 (vk te (hName i)):=by
 refine⟨vk.mo hm λ _ _ _ _ _ hq z=>hq _ _ z,PS.imp h λ D σ H hu=>?_⟩
 obtain⟨Y,S,r1,r2,z⟩:=hu
 refine zJ.go hm r1 r2 z λ x S1 v H1 h1 q1 e1 p1=>?_
 exact h1 _ H1 ((r1.ext e1).set i q1) e1 p1
end
structure lb where
 items:List D
 keep:SS->Prop
abbrev wq:=zU->SS->(lb->SS->Prop)->Prop
def kX (t:wq):Prop:=∀ Y S (Q Q':lb->SS->Prop),(∀ I S',Q I S'->Q' I S')->t Y S Q->t Y S Q'
def eh (K:Ab) (H1:Hp) (J:It) (I:lb):Prop:=∀ (i:Nat) (H:Hp) (S:SS),Ext H1 H->zC K H S->I.keep S->
 (∀ d,I.items[i]?=some d->J.go i H/\∀ x H',J.qI i H x H'->Ext H H'/\zC K H' S/\zg K H' d x)/\(I.items.length<=i->J.stop i H)
def PY (K:Ab) (H:Hp) (R:It->Hp->Prop):lb->SS->Prop:=λ I S1=>∀ J H1,Ext H H1->zC K H1 S1->eh K H1 J I->R J H1
def wu (K:Ab) (t:wq):TI:=fun σ H R=>∃ Y S,yq K H Y σ/\zC K H S/\t Y S (PY K H R)
structure sE (X:Cx) (tg iter:Expr) (t:wq):Prop where
 mo:kX t
 pi:PI X tg iter (wu X.K t)
def PI.imp {X:Cx}{tg e:Expr}{t t':TI}(h:PI X tg e t) (hi:∀ σ H Q,t' σ H Q->t σ H Q):PI X tg e t':=λ pins s σ H Q I q=>h pins s σ H Q I (hi σ H Q q)
section
variable {X:Cx}{K:Ab}{tg e:Expr}{pos:Pos}
theorem zm.at {H:Hp}{ds:List D}{xs:List V}{i:Nat}{d:D}{x:V}(r:zm K H ds xs) (h1:ds[i]?=some d) (h2:xs[i]?=some x):zg K H d x:=by
 obtain⟨y,e1,e2⟩:=r.get h1
 rw[h2] at e1;cases e1;exact e2
noncomputable def vc (lo:Int) (n:Nat):List D:=(List.range n).map λ(k:Nat)=>D.int (lo+(k:Int))
def Vo {lo:Int}{n i:Nat}{d:D}(h:(vc lo n)[i]?=some d):i<n/\d=.int (lo+(i:Int)):=by
 unfold vc at h
 rw[Ax] at h
 cases q:(List.range n)[i]? with
 | none=>rw[q] at h;cases h
 | some j=>
  rw[q] at h
  obtain⟨h1,h2⟩:=AD.mp q
  rw[Cg] at h1
  rw[DQ] at h2
  subst h2
  cases h
  exact⟨h1,rfl⟩
def Vn (lo:Int) (n:Nat):(vc lo n).length=n:=by unfold vc;rw[Au,Cg]
def eh.range {H1:Hp}{lo:Int}{n:Nat}:eh K H1 (mG lo n) ⟨vc lo n,λ _=>True⟩:=λ i H S _ x2 _=>by
 refine⟨λ d hd=>?_,λ hl=>by rw[show (lb.mk (vc lo n) λ _=>True).items=vc lo n from rfl,Vn] at hl;exact hl⟩
 obtain⟨h1,rfl⟩:=Vo hd
 refine⟨h1,λ x H' q=>?_⟩
 obtain⟨rfl,rfl⟩:=q
 exact⟨.refl _,x2,by simp only[zg]⟩
def gm (t:zY):wq:=fun Y S R=>t Y S λ ds S1=>match ds with
 | [.int j]=>(-(2 ^ 62)<=j/\j<2 ^ 62)/\R ⟨vc 0 j.toNat,λ _=>True⟩ S1
 | _=>False
def gk (t:zY):wq:=fun Y S R=>t Y S λ ds S1=>match ds with
 | [.int i,.int j]=>(-(2 ^ 62)<=i/\i<2 ^ 62/\-(2 ^ 62)<=j/\j<2 ^ 62)/\R ⟨vc i (j-i).toNat,λ _=>True⟩ S1
 | _=>False
variable {tA:zY}
def U9 (h:PI X tg e (Zd (xO X.K tA))) (hm:t9 tA):sE X tg e (gm tA):=by
 refine⟨fun Y S Q Q' hq z=>hm Y S _ _ (λ ds S1 z=>?_) z,PI.imp h fun σ H R hu=>?_⟩
 ·split at z
  ·exact⟨z.1,hq _ _ z.2⟩
  ·exact z.elim
 ·obtain⟨Y,S,r1,r2,z⟩:=hu
  refine xO.go hm r1 r2 z λ ds S1 xs H1 h1 q1 e1 p1=>?_
  split at h1
  ·obtain⟨x,rfl,q⟩:=q1.one
   simp only[zg] at q
   subst q
   exact⟨_,rfl,h1.1.1,h1.1.2,h1.2 _ H1 e1 p1 .range⟩
  ·exact h1.elim
def U8 (h:PI X tg e (Zc (xO X.K tA))) (hm:t9 tA):sE X tg e (gk tA):=by
 refine⟨fun Y S Q Q' hq z=>hm Y S _ _ (λ ds S1 z=>?_) z,PI.imp h fun σ H R hu=>?_⟩
 ·split at z
  ·exact⟨z.1,hq _ _ z.2⟩
  ·exact z.elim
 ·obtain⟨Y,S,r1,r2,z⟩:=hu
  refine xO.go hm r1 r2 z λ ds S1 xs H1 h1 q1 e1 p1=>?_
  split at h1
  ·obtain⟨x,y,rfl,q,q'⟩:=q1.two
   simp only[zg] at q q'
   subst q q'
   exact⟨_,_,rfl,h1.1,h1.2 _ H1 e1 p1 .range⟩
  ·exact h1.elim
def n_ (ti:wq) (g:yV) (tb:yg):yg:=λ E Y S=>ti Y S λ I S1=>∃ W:Nat->zU->SS->Prop,W 0 Y S1/\(∀ i Y S,W i Y S->I.keep S)/\
 (∀ i d Y S,I.items[i]?=some d->W i Y S->g d Y S fun Y2 S2=>tb { E with nx:=W (i+1),ct:=W (i+1),bk:=E.nx } Y2 S2)/\∀ Y S,W I.items.length Y S->E.nx Y S
def n_.mo {ti:wq}{g:yV}{tb:yg}(hi:kX ti) (hg:mF g) (hb:uu tb):uu (n_ ti g tb):=λ E E' Y S hE z=>hi Y S _ _ (λ I S1 ⟨W,w0,wk,ws,wd⟩=>by
 refine⟨W,w0,wk,λ i d Y S hd hw=>hg d Y S _ _ (fun Y2 S2 z=>hb { E with nx:=W (i+1),ct:=W (i+1),bk:=E.nx } { E' with nx:=W (i+1),ct:=W (i+1),bk:=E'.nx } Y2 S2 ⟨λ _ _ q=>q,hE.rt,hE.nx,λ _ _ q=>q⟩ z) (ws i d Y S hd hw),fun Y S q=>hE.nx _ _ (wd Y S q)⟩) z
def vu {iter:Expr}{body:List Stmt}{ti:wq}{g:yV}{tb:yg}(hp:PassesOwn (model X.prog X.w) X.A X.env X.xe) (hc:X.calm=true) (hi:sE X tg iter ti) (hg:sF X tg g) (hb:ur X body tb)
  (hs:∀ x,foldedSetIterable iter X.env x=pure x:=by intro _;rfl):vm X (.For tg iter body [] pos) (n_ ti g tb):=by
 refine⟨n_.mo hi.mo hg.mo hb.mo,PS.imp (VB hp hc hi.pi hg.pg hb.ps hs) λ D σ H hu=>?_⟩
 obtain⟨Y,S,r1,r2,z⟩:=hu
 refine⟨Y,S,r1,r2,hi.mo Y S _ _ (λ I S1 hW J H1 e1 p1 rep=>?_) z⟩
 obtain⟨W,w0,wk,ws,wd⟩:=hW
 refine⟨λ i m σ H2=>m=I.items.length-i/\i<=I.items.length/\Ext H1 H2/\∃ Y S,yq X.K H2 Y σ/\zC X.K H2 S/\W i Y S,⟨_,rfl,AI _,.refl _,Y,S1,r1.ext e1,p1,w0⟩,?_⟩
 rintro i m σ2 H2 ⟨rfl,hi',x2,Y2,S2,q1,q2,w2⟩
 obtain⟨g1,g2⟩:=rep i H2 S2 x2 q2 (wk i Y2 S2 w2)
 by_cases hl:i<I.items.length
 ·have hd:I.items[i]?=some I.items[i]:=by simp[hl]
  obtain⟨go,yl⟩:=g1 _ hd
  refine .inr ⟨go,fun σ' H'=>Ext H1 H'/\∃ Y S,yq X.K H' Y σ'/\zC X.K H' S/\W (i+1) Y S,fun σ' H' q=>⟨_,by lia,rfl,hl,q⟩,λ x H3 hy=>?_⟩
  obtain⟨x3,p3,d3⟩:=yl x H3 hy
  refine⟨_,Y2,S2,d3,q1.ext x3,p3,hg.mo _ Y2 S2 _ _ (fun Y4 S4 z4 σ4 H4 a1 a2 a3=>?_) (ws i _ Y2 S2 hd w2)⟩
  refine⟨Y4,S4,a1,a3,hb.mo _ _ Y4 S4 ⟨fun Y5 S5 w5 σ5 H5 b1 b2 b3=>⟨((x2.trans x3).trans a2).trans b2,Y5,S5,b1,b3,w5⟩,λ _ _ q=>xX.ext (((e1.trans x2).trans x3).trans a2) q,λ _ _ q=>xn.ext (((e1.trans x2).trans x3).trans a2) q,fun Y5 S5 w5 σ5 H5 b1 b2 b3=>⟨((x2.trans x3).trans a2).trans b2,Y5,S5,b1,b3,w5⟩⟩ z4⟩
 ·have e:i=I.items.length:=by lia
  subst e
  exact .inl ⟨g2 (Af _),wd Y2 S2 w2 σ2 H2 q1 (e1.trans x2) q2⟩
abbrev wa:=List D->SS->DK->Prop
def pT (sp:wa):Prop:=∀ ds S (Q Q':DK),(∀ d S',Q d S'->Q' d S')->sp ds S Q->sp ds S Q'
def tH (K:Ab) (sp:wa):Sp:=λ vs H Q _=>∃ ds S,zm K H ds vs/\zC K H S/\sp ds S (xX K H Q)
def kM (sp:wa) (t:zY):zp:=fun Y S Q=>t Y S λ ds S1=>sp ds S1 Q
def UQ {sp:wa}{E:XK}{e:Expr}(h:PE X e (dS (tH X.K sp) [] E (xO X.K tA))) (hs:pT sp) (hm:t9 tA):PD X e (kM sp tA):=by
 refine⟨fun Y S Q Q' hq z=>hm Y S _ _ (λ ds S1 z=>hs ds S1 _ _ hq z) z,PE.imp h fun σ H Q hu=>?_⟩
 obtain⟨Y,S,r1,r2,z⟩:=hu
 refine xO.go hm r1 r2 z λ ds S1 xs H1 h1 q1 e1 p1=>?_
 rw[Cw]
 exact⟨ds,S1,q1,p1,hs ds S1 _ _ (λ d S' q=>xX.ext e1 q) h1⟩
noncomputable def u6 (N:List Str) (ds:List D):zU:=ds.map some++List.replicate (N.length-ds.length) none
def yq.init {H:Hp}{N:List Str}{ds:List D}{vs:List V}(r:zm K H ds vs):yq K H (u6 N ds) (start N vs):=by
 have hl:=r.length
 refine⟨by unfold u6 L2.start;simp[hl],λ i d h=>?_⟩
 unfold u6 at h
 have hi:i<ds.length:=by
  rcases Bo i ds.length with q | q
  ·exact q
  ·rw[Cv (by simpa using q),Dx] at h
   split at h <;> cases h
 rw[Cu (by simpa using hi),Ax] at h
 cases q:ds[i]? with
 | none=>rw[q] at h;cases h
 | some d'=>
  rw[q] at h
  cases h
  obtain⟨x,e1,e2⟩:=r.get q
  refine⟨x,?_,e2⟩
  unfold L2.start
  rw[Cu (by simpa using by lia),Ax,e1]
  rfl
def Pk {P:Program}{w:World}{K:Ab}{mg:Str->Option Value}{base:Heap}{x qual:Str}{st:Stmt}{f:Addr}{fd:FuncData}{N ps:List Str}{k:Nat}{sp:wa}(F:wY K x qual st f fd) (Sc:zW N ps (zu st))
  (len:∀ ds S Q,sp ds S Q->ds.length=ps.length)
  (hbody:∀ (Ad:Value) (A:Around) (outer:List Env) (s:Shared) (H:Hp) (E:XK),zV k (A.deeper (envOfC qual (zu st) s.heap.objs.size f Ad))->
   ∃ t,ur (wj xq P w K mg base N qual (zu st) f Ad A outer s H E).vy (x9 st) t/\∀ ds S Q,sp ds S Q->t { nx:=λ _ S'=>Q .zj S',rt:=Q } (u6 N ds) S):xa P w K mg base xq (k+1) f fd ps (tH K sp):=by
 refine F.ok Sc (λ vs H Q E h=>?_) λ Ad A outer s H vs Q E hr h=>?_
 ·obtain⟨ds,S,r1,_,z⟩:=h
  rw[<- r1.length];exact len _ _ _ z
 ·obtain⟨ds,S,r1,r2,z⟩:=h
  obtain⟨t,ht,hq⟩:=hbody Ad A outer s H E hr
  refine⟨_,ht.ps,u6 N ds,S,.init r1,r2,ht.mo { nx:=λ _ S'=>xX K H Q .zj S',rt:=xX K H Q } _ _ _ ⟨fun Y S' q σ' H' _ b c=>q .zj H' (by simp only[zg]) b c,λ _ _ q=>q,λ _ _ q=>False.elim q,λ _ _ q=>False.elim q⟩ (hq ds S _ z)⟩
noncomputable def vW (pick:List (Option Nat)) (Y:zU):zU:=pick.map λ o=>o.bind λ i=>(Y[i]?).join
theorem yq.pick {H:Hp}{Y:zU}{σ:St}(r:yq K H Y σ) (pick:List (Option Nat)):yq K H (vW pick Y) (vV pick σ):=by
 refine⟨by unfold vW vV;simp,λ i d h=>?_⟩
 unfold vW at h
 rw[Ax] at h
 cases q:pick[i]? with
 | none=>rw[q] at h;cases h
 | some o=>
  rw[q] at h
  cases o with
  | none=>simp at h
  | some j=>
   simp only[Option.map_some,BJ,Option.some.injEq] at h
   have hj:Y[j]?=some (some d):=by
    cases q2:Y[j]? with
    | none=>rw[q2] at h;cases h
    | some o2=>rw[q2] at h;simp only[Option.join_some] at h;rw[h]
   obtain⟨v,e1,e2⟩:=r.2 j d hj
   refine⟨v,?_,e2⟩
   unfold vV
   rw[Ax,q]
   simp[e1]
def qw (Y Y':zU):Prop:=Y.length=Y'.length/\∀ (i:Nat) d,Y[i]?=some (some d)->Y'[i]?=some (some d)
def qw.rep {H:Hp}{Y Y':zU}{σ:St}(h:qw Y Y') (r:yq K H Y' σ):yq K H Y σ:=⟨h.1.trans r.1,λ i d q=>r.2 i d (h.2 i d q)⟩
structure kR (X:Cx) (ifs:List Expr) (t:y6):Prop where
 mo:wI t
 pf:PF X ifs (xN X.K t)
def PF.imp {ifs:List Expr}{t t':TT}(h:PF X ifs t) (hi:∀ σ H Q,t' σ H Q->t σ H Q):PF X ifs t':=λ pins s σ H Q I q=>h pins s σ H Q I (hi σ H Q q)
def ZE:y6:=λ _ S Q=>Q true S
def sV:kR X [] ZE:=⟨λ _ _ _ _ hq z=>hq _ _ z,PF.imp VW λ _ H _ ⟨_,_,_,r2,z⟩=>z H (.refl H) r2⟩
def lQ {c:Expr}{t:y6}(h:xo X c t):kR X [c] t:=⟨h.mo,VV h.pt⟩
end
end L3
namespace L2
open PySem PySem.Spec PyProof.Rows
def QJ (K:Ab) (tl:TE):TI:=fun σ H R=>tl σ H λ x H1=>∃ a,x=.ref a/\(((∃ xs,zL K H1 a xs)/\R (YA K a) H1)\/((∃ xs,zR K H1 a xs)/\R (Y9 K a) H1))
def VM {X:Cx}{tg l:Expr}{tl:TE}(hl:PE X l tl):PI X tg l (QJ X.K tl):=by
 intro pins s σ H R I h
 refine zw (hl pins s σ H _ I h) λ v s1 ⟨x,H1,I1,r1,a,hx,q1⟩=>?_
 subst hx
 cases r1
 have new:∀ b∈[s1.heap.objs.size],vK X pins H1 b:=λ b hb=>by
  obtain rfl:b=s1.heap.objs.size:=AM.mp hb
  exact I1.gQ (Af _) (I1.zl.fresh (Af _))
 rcases q1 with ⟨⟨xs,hq⟩,q⟩ | ⟨⟨xs,hq⟩,q⟩
 ·obtain⟨its,_,pl,_⟩:=I1.list hq
  exact wpAny_pyIter_list pl.isList ⟨_,_,_,_,H1,rfl,I1.kept (t':=s1.toks) λ b o eo=>za1 _ eo,XX a _,⟨_,AE _ rfl,rfl,rfl⟩,new,q⟩
 ·obtain⟨its,_,pt,_⟩:=I1.tuple hq
  exact wpAny_pyIter_tuple (show s1.heap.IsTuple a its.toArray from pt) ⟨_,_,_,_,H1,rfl,I1.kept (t':=s1.toks) λ b o eo=>za1 _ eo,XU a _,⟨_,AE _ rfl,rfl,rfl⟩,new,q⟩
end L2
namespace L3
open PySem PySem.Spec L2
open PyProof.Rows hiding St
structure Bt (mg:Str->Option Value):Prop where
 len:mg "len"=none
 range:mg "range"=none
 any:mg "any"=none
 all:mg "all"=none
 sorted:mg "sorted"=none
 isinstance:mg "isinstance"=none
 bool:mg "bool"=none
 int:mg "int"=none
 str:mg "str"=none
 list:mg "list"=none
 tuple:mg "tuple"=none
 max:mg "max"=none
 min:mg "min"=none
section
variable {X:Cx}{a e:Expr}{es:List Expr}{te:zp}{pos p:Pos}
def uk {N':List Str}{pick:List (Option Nat)}{scope esc:Scope}{N:List Str}(hE:X.env.scope=esc:=by rfl) (hN:X.N=N:=by rfl) (h1:scope.kind=.function:=by rfl) (h2:scope.names.all (λ y=>decide (y.2≠.cell))=true:=by decide +kernel)
  (h3:scope.names.all (λ y=>!decide (y.2=.local)||decide (scope.names.lookup y.1=some .local))=true:=by decide +kernel)
  (h4:scope.names.all (λ y=>!decide (y.2=.free)||(decide (esc.names.lookup y.1=some .cell)||decide (esc.names.lookup y.1=some .free)))=true:=by decide +kernel)
  (h5:pick.length=N'.length:=by rfl) (h6:qU N N' pick scope=true:=by decide +kernel):qH X N' pick scope:=by
 refine⟨h1,λ y hy=>?_,λ y hy hl=>?_,λ y hy hf=>?_,h5,by rw[hN];exact h6⟩
 ·exact of_decide_eq_true (Cd.mp h2 y hy)
 ·have:=Cd.mp h3 y hy
  rw[zaD hl] at this
  simpa using this
 ·have:=Cd.mp h4 y hy
  rw[zaD hf] at this
  rw[hE]
  simpa using this
def yy (i:Nat) {x:Str}(hN:X.N.Nodup) (hi:X.N[i]?=some x:=by rfl) (hx:Loc X.env.scope x:=by first | exact Or.inl rfl | exact Or.inr rfl) (hf:X.fn x=true\/X.env.scope.names.lookup x=some .local:=by first | exact .inl rfl | exact .inr rfl):sF X (.Name x pos) (hName i):=
 UB (VU hN hi hx hf)
def o_ {k:Nat}{t:wF}{n:Nat}(h:kQ X es t) (hc:X.calm=true:=by rfl) (hn:(assignEach es X.env).length=n:=by rfl) (Ay:(assignEach es X.env).findIdx? (·.1)=none:=by rfl):sF X (.Tuple es k pos) (kx n t):=
 UA (VS hc h.pg hn Ay) h.mo
def z_ (i:Nat) {x:Str}{pos':Pos}(hN:X.N.Nodup) (he:PD X e te) (hi:X.N[i]?=some x:=by rfl) (hx:Loc X.env.scope x:=by first | exact Or.inl rfl | exact Or.inr rfl) (hs:swapsWith e (some (.Name x pos')) pos.line X.env=pure false:=by rfl)
  (hf:X.fn x=true\/X.env.scope.names.lookup x=some .local:=by first | exact .inl rfl | exact .inr rfl):vm X (.Assign [.Name x pos'] e pos) (vk te (hName i)):=
 U4 (cU hN hi hx he.pe hs hf) he.mo
def gj (te:zp):wq:=fun Y S R=>te Y S λ x S1=>match x with
 | .tup ds=>R ⟨ds,λ _=>True⟩ S1
 | .xD ds=>R ⟨ds,λ _=>True⟩ S1
 | .ref p=>match S1 p with
  | some (.lst ds)=>R ⟨ds,λ S=>S p=some (.lst ds)⟩ S1
  | _=>False
 | _=>False
def wz {tg:Expr}(h:PD X e te):sE X tg e (gj te):=by
 refine⟨fun Y S Q Q' hq z=>h.mo Y S _ _ (λ x S1 z=>?_) z,?_⟩
 ·cases x with
  | ref p=>
   dsimp only at z ⊢
   split at z
   ·exact hq _ _ z
   ·exact z.elim
  | xD ds=>exact hq _ _ z
  | tup ds=>exact hq _ _ z
  | _=>exact z
 ·refine PI.imp (VM h.pe) fun σ H R hu=>?_
  obtain⟨Y,S,r1,r2,z⟩:=hu
  refine zJ.go h.mo r1 r2 z λ x S1 v H1 h1 q1 e1 p1=>?_
  cases x with
  | tup ds=>
   simp only[zg] at q1
   obtain⟨a,xs,rfl,g1,g2⟩:=q1
   refine⟨a,rfl,.inr ⟨⟨xs,g1⟩,h1 _ H1 e1 p1 λ i H2 S2 x1 x2 _=>⟨λ d hd=>?_,λ hl=>⟨xs,x1.l7 g1,by rw[<- g2.length];exact hl⟩⟩⟩⟩
   obtain⟨y,hy,_⟩:=g2.get hd
   refine⟨⟨xs,y,x1.l7 g1,hy⟩,λ x H' q=>?_⟩
   obtain⟨rfl,q⟩:=q
   exact⟨.refl _,x2,(zm.ext x1 ds g2).at hd (q xs (x1.l7 g1))⟩
  | ref p=>
   dsimp only at h1
   split at h1
   ·rename_i ds e2
    simp only[zg] at q1
    subst q1
    obtain⟨xs0,g1,_⟩:=p1 _ _ e2
    refine⟨p,rfl,.inl ⟨⟨xs0,zL.of g1⟩,h1 _ H1 e1 p1 λ i H2 S2 x1 x2 hk=>?_⟩⟩
    obtain⟨xs,g3,g4⟩:=x2 _ _ hk
    refine⟨λ d hd=>?_,λ hl=>⟨xs,zL.of g3,by rw[<- g4.length];exact hl⟩⟩
    obtain⟨y,hy,_⟩:=g4.get hd
    refine⟨⟨xs,y,zL.of g3,hy⟩,λ x H' q=>?_⟩
    obtain⟨rfl,q⟩:=q
    exact⟨.refl _,x2,g4.at hd (q xs (zL.of g3))⟩
   ·exact h1.elim
  | xD ds=>
   simp only[zg] at q1
   obtain⟨a,xs,rfl,g1,g2⟩:=q1
   refine⟨a,rfl,.inl ⟨⟨xs,g1.sq⟩,h1 _ H1 e1 p1 λ i H2 S2 x1 x2 _=>⟨λ d hd=>?_,λ hl=>⟨xs,(x1.l8 g1).sq,by rw[<- g2.length];exact hl⟩⟩⟩⟩
   obtain⟨y,hy,_⟩:=g2.get hd
   refine⟨⟨xs,y,(x1.l8 g1).sq,hy⟩,λ x H' q=>?_⟩
   obtain⟨rfl,q⟩:=q
   exact⟨.refl _,x2,(zm.ext x1 ds g2).at hd (q xs (x1.l8 g1).sq)⟩
  | _=>exact h1.elim
end
end L3
namespace L4
open PySem PySem.W PyProof.Rows
noncomputable def yw {α:Type}(n:Nat) (lt:Nat->Nat->Bool):KasT α->(α->Prop)->Prop
 | .ret a,Q=>Q a
 | .ask i j k,Q=>i<n/\j<n/\yw n lt (k (lt i j)) Q
theorem yw.mono {α:Type}{n:Nat}{lt:Nat->Nat->Bool}{Q Q':α->Prop}(hq:∀ a,Q a->Q' a):∀ {t:KasT α},yw n lt t Q->yw n lt t Q'
 | .ret _,h=>hq _ h
 | .ask _ _ _,h=>⟨h.1,h.2.1,yw.mono hq h.2.2⟩
theorem yw.bind {α β:Type}{n:Nat}{lt:Nat->Nat->Bool}{f:α->KasT β}{Q:β->Prop}:∀ {t:KasT α},yw n lt t (λ a=>yw n lt (f a) Q)->yw n lt (t.bind f) Q
 | .ret _,h=>h
 | .ask _ _ _,h=>⟨h.1,h.2.1,yw.bind h.2.2⟩
section
variable {n:Nat}{lt:Nat->Nat->Bool}
def Le (lt:Nat->Nat->Bool) (a b:Nat):Prop:=lt b a=false
structure Ord (lt:Nat->Nat->Bool):Prop where
 tr:∀ a b c,Le lt a b->Le lt b c->Le lt a c
 as:∀ a b,lt a b=true->Le lt a b
def Ord.refl (o:Ord lt) (a:Nat):Le lt a a:=by
 cases h:lt a a with
 | false=>exact h
 | true=>exact o.as a a h
def yZ (n:Nat) (p:Array Nat):Prop:=p.Perm (List.range n).toArray
theorem yZ.size {p:Array Nat}(h:yZ n p):p.size=n:=by rw[Array.Perm.size_eq h];simp
def yZ.below {p:Array Nat}(h:yZ n p) {i:Nat}(hi:i<n):p.getD i 0<n:=by
 have hs:=h.size
 have hm:p.getD i 0∈p:=by
  rw[Dw,Ba (by lia)]
  exact Array.getElem_mem (by lia)
 have:p.getD i 0∈(List.range n).toArray:=(Array.Perm.mem_iff h).mp hm
 simpa using this
def nL {p q:Array Nat}{i j:Nat}(h:p[i]?=q[j]?):p.getD i 0=q.getD j 0:=by rw[Dw,Dw,h]
def vl (lt:Nat->Nat->Bool) (p:Array Nat) (k:Nat):Prop:=∀ i j,i<=j->j<k->Le lt (p.getD i 0) (p.getD j 0)
def tF (lt:Nat->Nat->Bool) (p:Array Nat) (k:Nat):Prop:=∀ i j,i<=j->j<k->Le lt (p.getD j 0) (p.getD i 0)
def vl.next (o:Ord lt) {p:Array Nat}{k:Nat}(h:vl lt p k) (hk:1<=k) (hl:Le lt (p.getD (k-1) 0) (p.getD k 0)):vl lt p (k+1):=λ i j AX hj=>by
 by_cases Ek:j<k
 ·exact h i j AX Ek
 ·have e:j=k:=by lia
  subst e
  by_cases hi:i=j
  ·subst hi;exact o.refl _
  ·exact o.tr _ _ _ (h i (j-1) (by lia) (by lia)) hl
def tF.next (o:Ord lt) {p:Array Nat}{k:Nat}(h:tF lt p k) (hk:1<=k) (hl:Le lt (p.getD k 0) (p.getD (k-1) 0)):tF lt p (k+1):=λ i j AX hj=>by
 by_cases Ek:j<k
 ·exact h i j AX Ek
 ·have e:j=k:=by lia
  subst e
  by_cases hi:i=j
  ·subst hi;exact o.refl _
  ·exact o.tr _ _ _ hl (h i (j-1) (by lia) (by lia))
theorem fN (o:Ord lt) {p:Array Nat}(hp:yZ n p):∀ (f a:Nat),1<=a->a+f<=n->vl lt p a->
  yw n lt (kas_asc p f a) λ m=>a<=m/\m<=a+f/\vl lt p m/\(m=a+f\/lt (p.getD m 0) (p.getD (m-1) 0)=true)
 | 0,a,_,_,hs=>⟨Af _,Af _,hs,.inl rfl⟩
 | f+1,a,h1,h2,hs=>by
  refine⟨hp.below (by lia),hp.below (by lia),?_⟩
  cases c:lt (p.getD a 0) (p.getD (a-1) 0) with
  | true=>exact⟨Af _,by lia,hs,.inr c⟩
  | false=>
   refine yw.mono ?_ (fN o hp f (a+1) (by lia) (by lia) (hs.next o h1 c))
   rintro m ⟨g1,g2,g3,g4⟩
   exact⟨by lia,by lia,g3,g4.imp (λ e=>by lia) id⟩
def oP {p:Array Nat}(hp:yZ n p) (i j:Nat):yZ n (kas_rev p i j):=Array.Perm.trans (mirror_perm _ _ _ _) hp
def oQ {p:Array Nat}(hp:yZ n p) {i j:Nat}(hj:j<=n) (k:Nat):(kas_rev p i j).getD k 0=if i<=k/\k<j then p.getD (i+j-1-k) 0 else p.getD k 0:=by
 have e:=getElem?_mirror_all (xs:=p) (i:=i) (j:=j) (by rw[hp.size];exact hj) k
 split
 ·rename_i h;rw[if_pos h] at e;exact nL e
 ·rename_i h;rw[if_neg h] at e;exact nL e
def rev_eq (o:Ord lt) {p:Array Nat}(hp:yZ n p) {i j:Nat}(hj:j<=n) (he:∀ a b,i<=a->a<j->i<=b->b<j->Le lt (p.getD a 0) (p.getD b 0)) (k:Nat):
  Le lt ((kas_rev p i j).getD k 0) (p.getD k 0)/\Le lt (p.getD k 0) ((kas_rev p i j).getD k 0):=by
 rw[oQ hp hj]
 split
 ·rename_i h;exact⟨he _ _ (by lia) (by lia) h.1 h.2,he _ _ h.1 h.2 (by lia) (by lia)⟩
 ·exact⟨o.refl _,o.refl _⟩
def tF.of_eq (o:Ord lt) {p q:Array Nat}{k:Nat}(h:tF lt p k) (e:∀ k,Le lt (q.getD k 0) (p.getD k 0)/\Le lt (p.getD k 0) (q.getD k 0)):tF lt q k:=λ i j AX hj=>
 o.tr _ _ _ (e j).1 (o.tr _ _ _ (h i j AX hj) (e i).2)
def eB (lt:Nat->Nat->Bool) (p:Array Nat) (m q:Nat):Prop:=∀ a b,m-(q+1)<=a->a<m->m-(q+1)<=b->b<m->Le lt (p.getD a 0) (p.getD b 0)
theorem kG (o:Ord lt):∀ (f:Nat) (p:Array Nat) (m q:Nat),yZ n p->1<=m->m+f<=n->tF lt p m->q+1<=m->eB lt p m q->
  yw n lt (kas_desc f p m q) λ r=>yZ n r.1/\m<=r.2.1/\r.2.1<=m+f/\tF lt r.1 r.2.1/\r.2.2+1<=r.2.1/\eB lt r.1 r.2.1 r.2.2
 | 0,p,m,q,hp,_,_,hd,hq,hb=>⟨hp,Af _,Af _,hd,hq,hb⟩
 | f+1,p,m,q,hp,h1,h2,hd,hq,hb=>by
  have one:∀ p':Array Nat,eB lt p' (m+1) 0:=λ p' a b a1 a2 b1 b2=>by
   have:a=b:=by lia
   subst this;exact o.refl _
  refine⟨hp.below (by lia),hp.below (by lia),?_⟩
  cases c:lt (p.getD m 0) (p.getD (m-1) 0) with
  | true=>
   dsimp only
   rw[if_pos rfl]
   have hl:=o.as _ _ c
   by_cases h0:q>0
   ·rw[if_pos h0]
    have e:=rev_eq o hp (i:=m-(q+1)) (j:=m) (by lia) hb
    have hp':=oP hp (m-(q+1)) m
    refine yw.mono ?_ (kG o f _ (m+1) 0 hp' (by lia) (by lia) ((hd.of_eq o e).next o h1 (o.tr _ _ _ (e m).1 (o.tr _ _ _ hl (e (m-1)).2))) (by lia) (one _))
    rintro r ⟨a1,a2,a3,a4⟩
    exact⟨a1,by lia,by lia,a4⟩
   ·rw[if_neg h0]
    refine yw.mono ?_ (kG o f _ (m+1) 0 hp (by lia) (by lia) (hd.next o h1 hl) (by lia) (one _))
    rintro r ⟨a1,a2,a3,a4⟩
    exact⟨a1,by lia,by lia,a4⟩
  | false=>
   dsimp only
   rw[if_neg BE]
   refine⟨hp.below (by lia),hp.below (by lia),?_⟩
   cases d:lt (p.getD (m-1) 0) (p.getD m 0) with
   | true=>exact⟨hp,Af _,(by show m<=m+(f+1);lia),hd,hq,hb⟩
   | false=>
    dsimp only
    rw[if_neg BE]
    refine yw.mono ?_ (kG o f _ (m+1) (q+1) hp (by lia) (by lia) (hd.next o h1 d) (by lia) λ a b a1 a2 b1 b2=>?_)
    ·rintro r ⟨a1,a2,a3,a4⟩
     exact⟨a1,by lia,by lia,a4⟩
    ·by_cases ha:a=m
     ·by_cases hb':b=m
      ·subst ha;subst hb';exact o.refl _
      ·subst ha;exact o.tr _ _ _ d (hb (a-1) b (by lia) (by lia) (by lia) (by lia))
     ·by_cases hb':b=m
      ·subst hb';exact o.tr _ _ _ (hb a (b-1) (by lia) (by lia) (by lia) (by lia)) c
      ·exact hb a b (by lia) (by lia) (by lia) (by lia)
def dQ (o:Ord lt) {p:Array Nat}{m:Nat}(hp:yZ n p) (h1:1<=m) (h2:m<=n) (hd:tF lt p m):yw n lt (kas_tail3 m n p) λ r=>yZ n r.2/\r.1<=n/\vl lt r.2 r.1:=by
 refine yw.bind (yw.mono ?_ (fN o (oP hp 0 m) (n-m) m h1 (by lia) λ i j AX hj=>?_))
 ·rintro k ⟨a1,a2,a3,_⟩
  exact⟨oP hp 0 m,by lia,a3⟩
 ·rw[oQ hp h2,oQ hp h2,if_pos ⟨AI _,by lia⟩,if_pos ⟨AI _,hj⟩]
  exact hd _ _ (by lia) (by lia)
def ZL (o:Ord lt) {p:Array Nat}{m:Nat}(hp:yZ n p) (h1:1<=m) (h2:m<n) (hd:tF lt p m) (hl:lt (p.getD m 0) (p.getD (m-1) 0)=true):yw n lt (kas_descPart m n p) λ r=>yZ n r.2/\r.1<=n/\vl lt r.2 r.1:=by
 refine yw.bind (yw.mono ?_ (kG o (n-(m+1)) p (m+1) 0 hp (by lia) (by lia) (hd.next o h1 (o.as _ _ hl)) (by lia) λ a b a1 a2 b1 b2=>?_))
 ·rintro⟨p',m',q'⟩ ⟨a1,a2,a3,a4,a5,a6⟩
  dsimp only at a1 a2 a3 a4 a5 a6 ⊢
  by_cases h0:q'>0
  ·rw[if_pos h0]
   exact dQ o (oP a1 _ _) (by lia) (by lia) (a4.of_eq o (rev_eq o a1 (i:=m'-(q' + 1)) (j:=m') (by lia) a6))
  ·rw[if_neg h0]
   exact dQ o a1 (by lia) (by lia) a4
 ·have:a=b:=by lia
  subst this;exact o.refl _
def Oo (o:Ord lt) {p:Array Nat}(hp:yZ n p) (h1:1<=n):yw n lt (kas_count n p) λ r=>yZ n r.2/\r.1<=n/\vl lt r.2 r.1:=by
 refine yw.bind (yw.mono ?_ (fN o hp (n-1) 1 (Af _) (by lia) λ i j AX hj=>?_))
 ·rintro m ⟨a1,a2,a3,a4⟩
  by_cases hm:m=n
  ·rw[if_pos (by simp[hm])]
   exact⟨hp,by lia,a3⟩
  ·rw[if_neg (by simp[hm])]
   have hl:lt (p.getD m 0) (p.getD (m-1) 0)=true:=a4.resolve_left (by lia)
   by_cases h2:m>1
   ·rw[if_pos h2]
    refine⟨hp.below (by lia),hp.below (by lia),?_⟩
    cases c:lt (p.getD 0 0) (p.getD (m-1) 0) with
    | true=>exact⟨hp,by lia,a3⟩
    | false=>
     dsimp only
     rw[if_neg BE]
     have all:∀ a b,0<=a->a<m->0<=b->b<m->Le lt (p.getD a 0) (p.getD b 0):=λ a b _ ha _ hb=>
      o.tr _ _ _ (a3 a (m-1) (by lia) (by lia)) (o.tr _ _ _ c (a3 0 b (by lia) hb))
     have e:=rev_eq o hp (i:=0) (j:=m) (by lia) all
     refine ZL o (oP hp 0 m) (by lia) (by lia) (λ i j AX hj=>o.tr _ _ _ (e j).1 (o.tr _ _ _ (all _ _ (AI _) hj (AI _) (by lia)) (e i).2)) ?_
     rw[oQ hp (by lia),oQ hp (by lia),if_neg (by lia),if_pos (by lia)]
     cases q:lt (p.getD m 0) (p.getD (0+m-1-(m-1)) 0) with
     | true=>rfl
     | false=>
      have:=o.tr _ _ _ (all (m-1) (0+m-1-(m-1)) (AI _) (by lia) (AI _) (by lia)) q
      unfold Le at this
      rw[this] at hl;cases hl
   ·rw[if_neg h2]
    have e:m=1:=by lia
    subst e
    refine ZL o hp (Af _) (by lia) (λ i j AX hj=>?_) hl
    have:i=j:=by lia
    subst this;exact o.refl _
 ·have:i=j:=by lia
  subst this;exact o.refl _
theorem ir {p:Array Nat}{k:Nat}(hp:yZ n p) (hk:k<n) (hs:vl lt p k) (o:Ord lt):∀ (f l r:Nat),r-l<=f->l<=r->r<=k->(∀ i,i<l->Le lt (p.getD i 0) (p.getD k 0))->(∀ i,r<=i->i<k->lt (p.getD k 0) (p.getD i 0)=true)->
  yw n lt (kas_place p k f l r) λ m=>m<=k/\(∀ i,i<m->Le lt (p.getD i 0) (p.getD k 0))/\(∀ i,m<=i->i<k->lt (p.getD k 0) (p.getD i 0)=true)
 | 0,l,r,h0,h1,h2,ha,hb=>by
  have:l=r:=by lia
  subst this
  exact⟨h2,ha,hb⟩
 | f+1,l,r,h0,h1,h2,ha,hb=>by
  unfold kas_place
  by_cases BW:l≥r
  ·rw[if_pos BW]
   have:l=r:=by lia
   subst this
   exact⟨h2,ha,hb⟩
  ·rw[if_neg BW]
   refine⟨hp.below hk,hp.below (by lia),?_⟩
   cases c:lt (p.getD k 0) (p.getD ((l+r)/2) 0) with
   | true=>
    dsimp only
    rw[if_pos rfl]
    refine ir hp hk hs o f l ((l+r)/2) (by lia) (by lia) (by lia) ha λ i hi DC=>?_
    cases q:lt (p.getD k 0) (p.getD i 0) with
    | true=>rfl
    | false=>
     have:=o.tr _ _ _ (hs ((l+r)/2) i hi DC) q
     unfold Le at this
     rw[this] at c;cases c
   | false=>
    dsimp only
    rw[if_neg BE]
    refine ir hp hk hs o f ((l+r)/2+1) r (by lia) (by lia) h2 (λ i hi=>?_) hb
    exact o.tr _ _ _ (hs i ((l+r)/2) (by lia) (by lia)) c
theorem Yr (o:Ord lt):∀ (f:Nat) (p:Array Nat) (k:Nat),yZ n p->k+f=n->vl lt p k->yw n lt (kas_bin f p k) λ r=>yZ n r/\vl lt r n
 | 0,p,k,hp,h1,hs=>by
  have:k=n:=by lia
  subst this
  exact⟨hp,hs⟩
 | f+1,p,k,hp,h1,hs=>by
  refine yw.bind (yw.mono ?_ (ir hp (by lia) hs o k 0 k (by lia) (AI _) (Af _) (λ i hi=>absurd hi (Nat.not_lt_zero _)) λ i hi DC=>absurd DC (by lia)))
  rintro l ⟨a1,a2,a3⟩
  refine Yr o f _ (k+1) (Array.Perm.trans (bubble_perm _ _ _) hp) (by lia) λ i j AX hj=>?_
  have ev:∀ x,(bubble p k (k-l)).getD x 0=if x=l then p.getD k 0 else if l<x/\x<=k then p.getD (x-1) 0 else p.getD x 0:=λ x=>by
   have e:=getElem?_bubble (xs:=p) (src:=k) (by rw[hp.size];lia) (k-l) (by lia) x
   rw[show k-(k-l)=l by lia] at e
   split
   ·rename_i h;rw[if_pos h] at e;exact nL e
   ·rename_i h
    rw[if_neg h] at e
    split
    ·rename_i h';rw[if_pos h'] at e;exact nL e
    ·rename_i h';rw[if_neg h'] at e;exact nL e
  rw[ev i,ev j]
  by_cases hi:i=l
  ·rw[if_pos hi]
   by_cases hj':j=l
   ·rw[if_pos hj'];exact o.refl _
   ·rw[if_neg hj',if_pos ⟨by lia,by lia⟩]
    exact o.as _ _ (a3 (j-1) (by lia) (by lia))
  ·rw[if_neg hi]
   by_cases hj':j=l
   ·rw[if_pos hj',if_neg (by lia)]
    exact a2 i (by lia)
   ·rw[if_neg hj']
    by_cases hi2:l<i/\i<=k
    ·rw[if_pos hi2,if_pos ⟨by lia,by lia⟩]
     exact hs _ _ (by lia) (by lia)
    ·rw[if_neg hi2]
     by_cases hj2:l<j/\j<=k
     ·rw[if_pos hj2]
      exact hs _ _ (by lia) (by lia)
     ·rw[if_neg hj2]
      exact hs _ _ AX (by lia)
def WB (o:Ord lt) (h1:1<=n):yw n lt (kas_sort n) λ r=>yZ n r/\vl lt r n:=by
 have hp:yZ n (List.range n).toArray:=Array.Perm.refl _
 refine yw.bind (yw.mono ?_ (Oo o hp h1))
 rintro⟨m,p⟩ ⟨a1,a2,a3⟩
 dsimp only at a1 a2 a3 ⊢
 by_cases hm:m<n
 ·rw[if_pos hm]
  refine Yr o _ p (max m 1) a1 (by lia) ?_
  by_cases h0:m=0
  ·subst h0
   intro i j AX hj
   have:i=j:=by lia
   subst this;exact o.refl _
  ·rw[show max m 1=m by lia];exact a3
 ·rw[if_neg hm]
  have:m=n:=by lia
  subst this
  exact⟨a1,a3⟩
end
end L4
namespace L4
open PySem PySem.W PySem.Calls PyProof.Rows
section
variable {prog:Program}{w:World}{A:Around}{E:Value->Shared->Prop}{s:Shared}
def Core (prog:Program) (w:World) (A:Around) (E:Value->Shared->Prop) (vs:List Value) (Out:Array Value->Prop) (s6:Shared):Prop:=
 wpAny (model prog w) A (keyKind' vs.toArray) (fun κ s'=>s'=s6/\wpAny (model prog w) A ((sortRuns').run (SortSt.mk' κ (vs.toArray.zip vs.toArray) #[] 7 none))
  (λ r s''=>s''=s6/\failedOf r.2=none/\Out ((arrOf r.2).map (·.2))/\(arrOf r.2).size=vs.length) E s') E s6
def hZ {a:Addr}{vs:List Value}{n:Nat}{P:PySem.Fin->Shared->Prop}{Out:Array Value->Prop}(ho:s.heap.get? a=some (seqObj "list" vs.toArray n)) (hz:vs.length<=sizeLine)
  (core:2<=vs.length->∀ s6:Shared,(∀ b o,b≠a->s.heap.get? b=some o->s6.heap.get? b=some o)->Core prog w A E vs Out s6) (short:vs.length<2->Out vs.toArray)
  (fin:∀ out:Array Value,Out out->out.size=vs.length->P (.done (.ret .none)) { s with heap:=sortedHeap s.heap a vs out }):
  wpAny (model prog w) A (Builtin.«list.sort» ⟨[.ref a],[]⟩) P E s:=by
 have ha:a<s.heap.objs.size:=Ai ho
 obtain⟨e1,g1⟩:∃ e1,(s.heap.update a (Obj.mapSeq λ _=>#[])).get? a=some (seqObj "list" #[] e1):=⟨_,get?_update_seq ho (λ _=>#[])⟩
 have hz':vs.toArray.size<=sizeLine:=by rw[Av];exact hz
 have g6:(((s.heap.update a (Obj.mapSeq λ _=>#[])).push (seqObj "tuple" vs.toArray 0)).push (seqObj "list" #[] 0)).get? a=some (seqObj "list" #[] e1):=za1 _ (za1 _ g1)
 have keep:∀ b o,b≠a->s.heap.get? b=some o->(((s.heap.update a (Obj.mapSeq λ _=>#[])).push (seqObj "tuple" vs.toArray 0)).push (seqObj "list" #[] 0)).get? b=some o:=
  λ b o hb e=>za1 _ (za1 _ (by rw[zaK _ _ _ _ hb];exact e))
 rw[list_sort_plain]
 refine za0 (listItems_at ho rfl (za0 (listUpdate_at ho rfl (za0 (seqEpoch_at g1 rfl (za0 (wpAny_newTuple (za0 (wpAny_newList (za5 ?_))) (by simpa using hz))))) hz' (AI _))))
 by_cases h2:vs.toArray.size<2
 ·rw[if_pos h2,if_pos h2]
  have e2:(arrOf (SortSt.mk' general' (vs.toArray.zip vs.toArray) #[] 7 none)).map (·.2)=vs.toArray:=by
   show (vs.toArray.zip vs.toArray).map (·.2)=vs.toArray
   apply Array.ext (by simp)
   intro i h1 h2
   simp
  refine za0 (Ac ?_)
  dsimp only
  rw[StateT.run_pure]
  refine za0 (Ac ?_)
  dsimp only
  refine za0 (seqEpoch_at g6 rfl (za0 (listUpdate_at g6 rfl ?_ (AI _) ?_)))
  ·simp only[bne_self_eq_false,A7,if_false]
   have q:=fin _ (e2▸short (by simpa using h2)) (by rw[e2];simp)
   exact Ac q
  ·show (((arrOf (SortSt.mk' general' (vs.toArray.zip vs.toArray) #[] 7 none)).map (·.2))).size<=sizeLine+1
   rw[e2];lia
 ·rw[if_neg h2,if_neg h2]
  have h2':2<=vs.length:=by simpa using h2
  refine za0 (za3 (core h2' _ keep) (fun κ s7 ⟨hs,h7⟩=>?_) λ _ _ z=>z)
  subst hs
  refine za0 (za3 h7 (λ r s8 ⟨hs,hf,D7,hsz⟩=>?_) λ _ _ z=>z)
  subst hs
  obtain⟨⟨⟩,st⟩:=r
  refine za0 (seqEpoch_at g6 rfl (za0 (listUpdate_at g6 rfl ?_ (AI _) ?_)))
  ·have hf':failedOf st=none:=hf
   rw[hf']
   simp only[bne_self_eq_false,A7,if_false]
   exact Ac (fin _ D7 (by rw[C1];exact hsz))
  ·show ((arrOf st).map (·.2)).size<=sizeLine+1
   rw[C1]
   have:(arrOf st).size=vs.length:=hsz
   lia
def WA {l:Addr}{vs:List Value}{Q:Value->Shared->Prop}{Out:Array Value->Prop}(hl:s.heap.IsList l vs.toArray) (hz:vs.length<=sizeLine)
  (core:2<=vs.length->∀ s6:Shared,(∀ b o,s.heap.get? b=some o->s6.heap.get? b=some o)->Core prog w A.in1.in1 E vs Out s6) (short:vs.length<2->Out vs.toArray)
  (fin:∀ out:Array Value,Out out->out.size=vs.length->Q (.ref (s.heap.objs.size+1)) { s with heap:=sortedAll s.heap vs out }):
  wpAny (model prog w) A (call (.builtin "sorted") [.ref l]) Q E s:=by
 have hsz:((s.heap.push (seqObj "list" #[] 0)).update s.heap.objs.size (Obj.mapSeq (·++vs.toArray))).objs.size=s.heap.objs.size+1:=by
  rw[Heap.size_update,size_push']
 have hoL:(((s.heap.push (seqObj "list" #[] 0)).update s.heap.objs.size (Obj.mapSeq (·++vs.toArray))).push (seqObj "list" vs.toArray 0)).get? (s.heap.objs.size+1)=some (seqObj "list" vs.toArray 0):=hsz▸AE _ rfl
 have keep:∀ b o,s.heap.get? b=some o->(((s.heap.push (seqObj "list" #[] 0)).update s.heap.objs.size (Obj.mapSeq (·++vs.toArray))).push (seqObj "list" vs.toArray 0)).get? b=some o:=λ b o q=>
  za1 _ (by rw[zaK _ _ _ _ (Ap (Ai q))];exact za1 _ q)
 refine Calls.call_function_entry kind_sorted plain_sorted entry_sorted (args_sorted1 _) ?_
 unfold Builtin.«sorted»
 refine za0 (m:=checkCount "sorted" 1 1 _) (Ac (za0 (collect_list hl (za0 (wpAny_newList ?_ hz)) hz)))
 show wpAny _ _ _ _ _ { s with heap:=((s.heap.push (seqObj "list" #[] 0)).update s.heap.objs.size (Obj.mapSeq (·++vs.toArray))).push (seqObj "list" vs.toArray 0) }
 rw[hsz]
 refine za0 (za5 (zaF slot_list_sort ⟨_,hoL,rfl⟩ entry_list_sort (hZ hoL hz (λ h2 s6 k=>core h2 s6 λ b o q=>k b o ?_ (keep b o q)) short λ out h1 h2=>⟨_,rfl,?_⟩) (args_list_sort _)))
 ·exact Ap (Bz (Ai q))
 ·exact Ac ⟨_,rfl,fin out h1 h2⟩
end
end L4
namespace L4
open PySem PySem.W PySem.Calls PyProof.Rows L2
theorem gg:∀ a b:List Int,HT.lexLt a b=true->HT.lexLt b a=false
 | [],[],h=>by cases h
 | [],_::_,_=>rfl
 | _::_,[],h=>by cases h
 | x::a,y::b,h=>by
  rw[HT.rp] at h ⊢
  by_cases e:x=y
  ·subst e;rw[if_pos rfl] at h ⊢;exact gg a b h
  ·rw[if_neg e] at h;rw[if_neg (Ne.symm e)]
   have:=of_decide_eq_true h
   exact za4 (by lia)
theorem au:∀ a b:List Int,HT.lexLt a b=false->HT.lexLt b a=false->a=b
 | [],[],_,_=>rfl
 | [],_::_,h,_=>by cases h
 | _::_,[],_,h=>by cases h
 | x::a,y::b,h,h'=>by
  rw[HT.rp] at h h'
  by_cases e:x=y
  ·subst e;rw[if_pos rfl] at h h';rw[au a b h h']
  ·rw[if_neg e] at h;rw[if_neg (Ne.symm e)] at h'
   have h1:=of_decide_eq_false h
   have h2:=of_decide_eq_false h'
   lia
theorem gf:∀ a b c:List Int,HT.lexLt b a=false->HT.lexLt c b=false->HT.lexLt c a=false
 | [],[],[],_,_=>rfl
 | [],[],_::_,_,h=>h
 | [],_::_,[],_,h=>by cases h
 | [],_::_,_::_,_,_=>rfl
 | _::_,[],_,h,_=>by cases h
 | _::_,_::_,[],_,h=>by cases h
 | x::a,y::b,z::c,h,h'=>by
  rw[HT.rp] at h h' ⊢
  by_cases e1:y=x
  ·subst e1
   rw[if_pos rfl] at h
   by_cases e2:z=y
   ·subst e2;rw[if_pos rfl] at h' ⊢;exact gf a b c h h'
   ·rw[if_neg e2] at h' ⊢;exact h'
  ·rw[if_neg e1] at h
   have h1:=of_decide_eq_false h
   by_cases e2:z=y
   ·subst e2;rw[if_neg e1];exact h
   ·rw[if_neg e2] at h'
    have h2:=of_decide_eq_false h'
    rw[if_neg (by lia)]
    exact za4 (by lia)
theorem iy {α:Type}{r:α->α->Prop}(an:∀ a b,r a b->r b a->a=b):∀ {l₁ l₂:List α},l₁.Perm l₂->l₁.Pairwise r->l₂.Pairwise r->l₁=l₂
 | [],l₂,h,_,_=>(List.nil_perm.mp h).symm
 | a::l₁,[],h,_,_=>absurd (List.perm_nil.mp h) (by simp)
 | a::l₁,b::l₂,h,h1,h2=>by
  have CW:a=b:=by
   have ha:a∈b::l₂:=h.mem_iff.mp Am
   have hb:b∈a::l₁:=h.mem_iff.mpr Am
   rcases Ak.mp ha with e | ha
   ·exact e
   ·rcases Ak.mp hb with e | hb
    ·exact e.symm
    ·exact an _ _ (List.rel_of_pairwise_cons h1 hb) (List.rel_of_pairwise_cons h2 ha)
  subst CW
  rw[iy an (List.Perm.cons_inv h) (Bn.mp h1).2 (Bn.mp h2).2]
def xt (rows:List (List Int)):List (List Int):=rows.mergeSort λ a b=>!HT.lexLt b a
def tJ (rows:List (List Int)):(xt rows).Perm rows:=List.mergeSort_perm _ _
def jz (rows:List (List Int)):(xt rows).Pairwise λ a b=>HT.lexLt b a=false:=by
 have:=List.pairwise_mergeSort (le:=λ a b:List Int=>!HT.lexLt b a) (λ a b c h1 h2=>by simp at h1 h2 ⊢;exact gf a b c h1 h2)
  (λ a b=>by
   cases h:HT.lexLt b a with
   | false=>simp
   | true=>simp[gg b a h]) rows
 exact this.imp λ h=>by simpa using h
def dX {rows out:List (List Int)}(hp:out.Perm rows) (hs:out.Pairwise λ a b=>HT.lexLt b a=false):out=xt rows:=
 iy (λ a b h1 h2=>au a b h2 h1) (hp.trans (tJ rows).symm) hs (jz rows)
def oJ (rows:List (List Int)) (i j:Nat):Bool:=HT.lexLt (rows.getD i []) (rows.getD j [])
def Vf (rows:List (List Int)):Ord (oJ rows):=⟨λ _ _ _ h1 h2=>gf _ _ _ h1 h2,λ _ _ h=>gg _ _ h⟩
section
variable {prog:Program}{w:World}{A:Around}{E:Value->Shared->Prop}{s:Shared}{Q:Bool->Shared->Prop}
theorem aF {b:Bool}:∀ (ns ms:List Int) (us ws:List Value) (i:Nat),IntsAre us ns->IntsAre ws ms->Q (HT.lexLt ns ms) s->KatLex prog w A b (decide (ns.length<ms.length)) Q (us.zip ws) i s
 | [],[],_,_,_,.nil,.nil,h=>kat_nil (by simpa [HT.lexLt] using h)
 | [],_::_,_,_,_,.nil,.cons _ _ _,h=>kat_nil (by simpa [HT.lexLt] using h)
 | _::_,[],_,_,_,.cons _ _ _,.nil,h=>kat_nil (by simpa [HT.lexLt] using h)
 | n::ns,m::ms,_,_,i,.cons _ t hu,.cons _ u hw,h=>by
  rw[HT.rp] at h
  refine kat_cons (SeqAt.EqAt.int_int n t m u prog w _ _ (kat_go (λ e=>kat_yes ?_) λ e=>kat_no ?_))
  ·have e':n=m:=by simpa using e
   rw[if_pos e'] at h
   rw[show decide ((n::ns).length<(m::ms).length)=decide (ns.length<ms.length) by simp]
   exact aF ns ms _ _ (i+1) hu hw h
  ·have e':¬ n=m:=by simpa using e
   rw[if_neg e'] at h
   cases b&&i == 0 with
   | true=>exact kat_lt_int h
   | false=>exact kat_one _ _ (lt_int h)
def sC (h:Heap):List Value->List (List Int)->Prop:=Paired λ v r=>r≠[]/\∃ b o its n,v=.ref b/\h.get? b=some o/\o.cls=.type "tuple"/\o.data=.seq its n/\IntsAre its.toList r
theorem sC.Zv {h:Heap}:∀ {vs:List Value}{rows:List (List Int)},sC h vs rows->∃ fs,KatTups h vs fs/\fs.length=vs.length/\∀ v∈fs,∃ n t,v=Value.int n t
 | _,_,.nil=>⟨[],KatTups.nil,rfl,λ _ hv=>absurd hv (by simp)⟩
 | _,_,.cons ⟨Aj,b,o,its,n,hv,ho,hc,hd,hi⟩ r=>by
  obtain⟨fs,h1,h2,h3⟩:=sC.Zv r
  subst hv
  obtain⟨its⟩:=its
  cases hi with
  | nil=>exact absurd rfl Aj
  | cons k t _=>exact⟨.int k t::fs,KatTups.cons ho hc hd rfl h1,by simp[h2],λ v hv=>(Ak.mp hv).elim (λ e=>⟨k,t,e⟩) (h3 v)⟩
theorem Paired.at' {α β:Type}{F:α->β->Prop}:∀ {l₁:List α}{l₂:List β}{i:Nat},Paired F l₁ l₂->i<l₁.length->∀ (d:α) (e:β),F (l₁.getD i d) (l₂.getD i e)
 | _,_,_,.nil,h,_,_=>absurd h (by simp)
 | _,_,0,.cons r _,_,_,_=>r
 | _,_,i+1,.cons _ t,h,d,e=>by simpa using Paired.at' (i:=i) t (by simpa using h) d e
def sC.ask {vs:List Value}{rows:List (List Int)}{b:Bool}(r:sC s.heap vs rows) {i j:Nat}(hi:i<vs.length) (hj:j<vs.length) {C:Bool->Shared->Prop}(h:C (oJ rows i j) s):kas_ask prog w A (tuples' b) vs i j C s:=by
 obtain⟨_,b1,o1,its1,n1,e1,g1,_,d1,q1⟩:=Paired.at' r hi Value.none []
 obtain⟨_,b2,o2,its2,n2,e2,g2,_,d2,q2⟩:=Paired.at' r hj Value.none []
 unfold kas_ask
 rw[e1,e2]
 refine kat_lt g1 d1 g2 d2 ?_
 have l1:=q1.length
 have l2:=q2.length
 rw[Br] at l1 l2
 rw[l1,l2]
 exact aF _ _ _ _ 0 q1 q2 h
theorem dr {α:Type}{n:Nat}{lt:Nat->Nat->Bool}{cmp:Nat->Nat->(Bool->Shared->Prop)->Shared->Prop}{Q:α->Shared->Prop}(hc:∀ i j C,i<n->j<n->C (lt i j) s->cmp i j C s):∀ {t:KasT α},yw n lt t (λ a=>Q a s)->t.kasWp cmp Q s
 | .ret _,h=>h
 | .ask i j _,h=>hc i j _ h.1 h.2.1 (dr hc h.2.2)
def mB (vs:List Value) (rows:List (List Int)) (out:Array Value):Prop:=
 ∃ idx:List Nat,idx.Perm (List.range vs.length)/\out.toList=idx.map (λ i=>vs.getD i Value.none)/\(idx.map λ i=>rows.getD i []).Pairwise λ a b=>HT.lexLt b a=false
def W5 {rows:List (List Int)}{p:Array Nat}{n:Nat}(hn:p.size=n) (h:vl (oJ rows) p n):(p.toList.map λ i=>rows.getD i []).Pairwise λ a b=>HT.lexLt b a=false:=by
 rw[Ca,Cs]
 intro i j hi hj AX
 have:=h i j (BI AX) (by rw[<- hn];simpa using hj)
 simp only[Br] at hi hj
 unfold Le oJ at this
 simpa [Dw,hi,hj] using this
def fy {vs:List Value}{rows:List (List Int)}(r:sC s.heap vs rows) (h2:2<=vs.length) (h64:vs.length<64):Core prog w A E vs (mB vs rows) s:=by
 obtain⟨fs,t,hl,hf⟩:=r.Zv
 unfold Core
 refine kat_kind (T:=.type "int") t (by lia) (λ v hv=>?_) rfl ⟨rfl,?_⟩
 ·obtain⟨n,t,rfl⟩:=hf v hv
  exact Looks.of_pure rfl
 ·refine kat_run (ks:=vs) (Q:=λ st s''=>s''=s/\failedOf st=none/\mB vs rows ((arrOf st).map (·.2))/\(arrOf st).size=vs.length) (G:=λ p s''=>s''=s/\yZ vs.length p/\vl (oJ rows) p vs.length) rfl h2 h64 (λ p st s' hs ha En hg=>?_) ?_
  ·obtain⟨h1,h3,h4⟩:=hg
   refine⟨h1,En,⟨p.toList,?_,?_,W5 hs h4⟩,by rw[ha,C1];exact hs⟩
   ·have:=Array.Perm.toList h3
    simpa using this
   ·rw[kat_snds rfl ha]
  ·exact dr (λ i j C hi hj hC=>r.ask hi hj hC) (yw.mono (λ p hp=>⟨rfl,hp⟩) (WB (Vf rows) (by lia)))
end
section
variable {X:Cx}
def O5:yB X (.builtin "sorted") (λ xs H Q=>∃ p ys,∃ rows:List (List Int),xs=[.ref p]/\zL X.K H p ys/\Paired (λ v r=>r≠[]/\∃ b,v=V.ref b/\zR X.K H b (r.map V.int)) ys rows/\rows.length<64/\
  ∀ (l:Addr) (idx:List Nat),H l=none->idx.Perm (List.range ys.length)->(idx.map λ i=>rows.getD i []).Pairwise (λ a b=>HT.lexLt b a=false)->Q (.ref l) (upd H l (.lst (idx.map λ i=>ys.getD i .zj)))):=by
 intro pins s σ H xs us Q I r h
 obtain⟨p,ys,rows,rfl,hq,hr,h64,q⟩:=h
 obtain⟨u,rfl,ru⟩:=vals1 r
 cases ru
 obtain⟨its,rv,pl,hz⟩:=I.list hq
 have hl:=rv.length
 have BW:ys.length=rows.length:=Paired.length hr
 have rows_at:∀ h6:Heap,(∀ b o,s.heap.get? b=some o->h6.get? b=some o)->sC h6 its rows:=λ h6 k=>by
  clear q hz hl BW h64 hq pl r
  induction hr generalizing its with
  | nil=>cases rv;exact .nil
  | cons g t ih=>
   cases rv with
   | cons r1 r2=>
    refine .cons ?_ (ih _ r2)
    obtain⟨Aj,b,rfl,hb⟩:=g
    cases r1
    obtain⟨its2,rv2,⟨o,e,hc,n,hd⟩,_⟩:=I.tuple hb
    exact⟨Aj,b,o,_,n,rfl,k _ _ e,hc,hd,by simpa using intsAre_of rv2⟩
 refine WA (Out:=mB its rows) pl.isList (by rw[<- hl];exact hz) (λ h2 s6 k=>fy (rows_at _ k) h2 (by lia)) (λ h1=>?_) λ out ho hs=>?_
 ·refine⟨List.range its.length,.refl _,?_,?_⟩
  ·refine BD (by simp) λ i h1 h2=>?_
   simp at h1
   simp[h1]
  ·rw[Ca,Cs]
   intro i j hi hj AX
   simp at hi hj
   lia
 ·obtain⟨idx,g1,g2,g3⟩:=ho
  obtain⟨e,ho⟩:=sortedAll_at s.heap its out
  have Aw:H (s.heap.objs.size+1)=none:=I.zl.fresh (Cr _)
  have g1':idx.Perm (List.range ys.length):=by rw[hl];exact g1
  refine⟨.ref (s.heap.objs.size+1),_,I.laid (t':=s.toks) (o:=.lst (idx.map λ i=>ys.getD i .zj)) (λ b o q=>sortedAll_old q) (Cr _) ?_,rfl,q _ idx Aw g1' g3⟩
  refine⟨by rw[Au,g1'.length_eq,Cg];exact hz,out.toList,e,?_,by simpa using ho⟩
  rw[g2]
  have Al:∀ i∈idx,i<ys.length:=λ i hi=>by simpa using g1'.mem_iff.mp hi
  clear g1 g1' g2 g3 q
  induction idx with
  | nil=>exact .nil
  | cons i idx ih=>
   refine .cons ?_ (ih λ j hj=>Al j (Ao _ hj))
   have hi:=Al i Am
   obtain⟨u,e1,e2⟩:=rv.get (i:=i) (x:=ys[i]) (by simp[hi])
   have e3:its.getD i Value.none=u:=by simp[e1]
   have e4:ys.getD i .zj=ys[i]:=by simp[hi]
   show RelV (ys.getD i .zj) (its.getD i Value.none)
   rw[e3,e4];exact e2
end
end L4
namespace L2
open PySem PySem.Spec PyProof.Rows
noncomputable def wC (ty T:String):Bool:=ty == T||(ty == "bool"&&T == "int")
def lu (ty T:String):Bool:=PySem.W.kitMeta T&&decide ((fastBuiltinMro ty).map (λ l=>l.contains (Value.type T))=some (wC ty T))
def XT:(["NoneType","bool","int","str","tuple","list","dict"].all λ ty=>["int","bool","tuple","list","str"].all λ T=>lu ty T)=true:=by decide +kernel
def Qn {K:Ab}{ty T:String}(h:lu ty T=true):PySem.W.kitOne K (.type ty) (.type T)=some (wC ty T):=by
 unfold lu at h
 rw[BZ] at h
 unfold PySem.W.kitOne
 split
 ·rename_i e
  have e':ty=T:=by have:=eq_of_beq e;injection this
  subst e'
  simp[wC]
 ·show (if PySem.W.kitMeta T=true then PySem.W.subIn K (.type ty) (.type T) else none)=_
  rw[if_pos h.1]
  exact of_decide_eq_true h.2
noncomputable def Y1 (K:Ab) (H:Hp):V->String->Prop
 | .zj,t=>t="NoneType"
 | .bl _,t=>t="bool"
 | .int _,t=>t="int"
 | .str _,t=>t="str"
 | .ref a,t=>(t="tuple"/\∃ xs,zR K H a xs)\/(t="list"/\∃ xs,zL K H a xs)\/(t="dict"/\∃ Aa,H a=some (.dK Aa))
 | _,_=>False
def OK {X:Cx}:yB X (.builtin "isinstance") (λ xs H Q=>∃ x T ty,xs=[x,.ty T]/\Y1 X.K H x ty/\lu ty T=true/\Q (.bl (wC ty T)) H):=by
 intro pins s σ H xs us Q I r h
 obtain⟨x,T,ty,rfl,hx,hT,q⟩:=h
 obtain⟨u,c,rfl,ru,rc⟩:=vals2 r
 cases (show c=Value.type T from rc)
 have e:PySem.W.kitOne X.K (.type ty) (.type T)=some (wC ty T):=Qn hT
 have fin:∀ tk,EP X pins σ Q (.bool (wC ty T)) { s with toks:=tk }:=λ tk=>⟨.bl _,H,I.tok tk,rfl,q⟩
 cases x with
 | zj=>cases (show u=Value.none from ru);cases (show ty=_ from hx);exact PySem.W.kia_one PySem.W.kitx_none I.yz True.intro e (λ z=>nomatch z) fin
 | bl y=>cases (show u=Value.bool y from ru);cases (show ty=_ from hx);exact PySem.W.kia_one PySem.W.kitx_bool I.yz True.intro e (λ z=>nomatch z) fin
 | int i=>obtain⟨t,rfl⟩:=(show ∃ t,u=Value.int i t from ru);cases (show ty=_ from hx);exact PySem.W.kia_one PySem.W.kitx_int I.yz True.intro e (λ z=>nomatch z) fin
 | str y=>obtain⟨t,rfl⟩:=(show ∃ t,u=Value.str y t from ru);cases (show ty=_ from hx);exact PySem.W.kia_one PySem.W.kitx_str I.yz True.intro e (λ z=>nomatch z) fin
 | ref a=>
  cases (show u=Value.ref a from ru)
  rcases hx with ⟨rfl,ys,hq⟩ | ⟨rfl,ys,hq⟩ | ⟨rfl,Aa,hq⟩
  ·obtain⟨its,_,⟨o,h1,h2,_⟩,_⟩:=I.tuple hq
   exact PySem.W.kia_one PySem.W.kitx_tuple I.yz ⟨o,h1,h2⟩ e (λ z=>nomatch z) fin
  ·obtain⟨its,_,⟨o,n,h1,h2,_⟩,_⟩:=I.list hq
   exact PySem.W.kia_one PySem.W.kitx_list I.yz ⟨o,h1,h2⟩ e (λ z=>nomatch z) fin
  ·obtain⟨_,_,vs,_,p⟩:=(show yN X.prog X.w H s.heap a (.dK Aa) from I.zl a _ hq)
   obtain⟨o,es,ep,h1,h2,_⟩:=p
   exact PySem.W.kia_one PySem.W.kitx_dict I.yz ⟨o,h1,h2.1⟩ e (λ z=>nomatch z) fin
 | _=>exact hx.elim
end L2
namespace L3
open PySem PySem.Spec L2
open PyProof.Rows hiding St
section
variable {X:Cx}{K:Ab}{a b e:Expr}{es:List Expr}{te:zp}{tA:zY}{pos p q:Pos}
def qZ (hm:X.mg "len"=none) (ha:xh X (e::es) tA) (hg:Gl X "len":=by rfl) (he:starEach (e::es) X.env=(false,eval e X.env)::starEach es X.env:=by rfl) (Ah:(backTo pos (starEach es X.env)).any (·.1)=false:=by rfl):PD X (.Call (.Name "len" p) (e::es) [] pos) (xG ug tA):=
 sZ (tQ (OH.or OG) hg hm PySem.boot_len ha.pa (by decide) (by decide) he Ah) ug.mo ug.fits ha.mo
def i8 (hm:X.mg "list"=none) (ha:xh X (e::es) tA) (hg:Gl X "list":=by rfl) (he:starEach (e::es) X.env=(false,eval e X.env)::starEach es X.env:=by rfl) (Ah:(backTo pos (starEach es X.env)).any (·.1)=false:=by rfl):PD X (.Call (.Name "list" p) (e::es) [] pos) (xG uf tA):=
 sZ (oX OD hg hm PyProof.Rows.boot_list ha.pa (by decide) (by decide) he Ah) uf.mo uf.fits ha.mo
def qY (hm:X.mg "tuple"=none) (ha:xh X (e::es) tA) (hg:Gl X "tuple":=by rfl) (he:starEach (e::es) X.env=(false,eval e X.env)::starEach es X.env:=by rfl) (Ah:(backTo pos (starEach es X.env)).any (·.1)=false:=by rfl):PD X (.Call (.Name "tuple" p) (e::es) [] pos) (xG ud tA):=
 sZ (oX O1 hg hm PyProof.Rows.boot_tuple ha.pa (by decide) (by decide) he Ah) ud.mo ud.fits ha.mo
abbrev Zy:xB:=vB λ i j=>.int (if j>i then j else i)
abbrev Zx:xB:=vB λ i j=>.int (if j<i then j else i)
def ng (hm:X.mg "max"=none) (ha:xh X (e::es) tA) (hc:X.calm=true:=by rfl) (hg:Gl X "max":=by rfl) (he:starEach (e::es) X.env=(false,eval e X.env)::starEach es X.env:=by rfl) (Ah:(backTo pos (starEach es X.env)).any (·.1)=false:=by rfl):PD X (.Call (.Name "max" p) (e::es) [] pos) (xG Zy tA):=
 sZ (tQ (OC hc) hg hm boot_max ha.pa (by decide) (by decide) he Ah) vB.mo (vB.fits λ _ _ _=>by simp only[zg]) ha.mo
def lT (hm:X.mg "min"=none) (ha:xh X (e::es) tA) (hc:X.calm=true:=by rfl) (hg:Gl X "min":=by rfl) (he:starEach (e::es) X.env=(false,eval e X.env)::starEach es X.env:=by rfl) (Ah:(backTo pos (starEach es X.env)).any (·.1)=false:=by rfl):PD X (.Call (.Name "min" p) (e::es) [] pos) (xG Zx tA):=
 sZ (tQ (OB hc) hg hm boot_min ha.pa (by decide) (by decide) he Ah) vB.mo (vB.fits λ _ _ _=>by simp only[zg]) ha.mo
noncomputable def xQ (r:List Int):D:=.tup (r.map D.int)
theorem oH {H:Hp}:∀ {rows:List (List Int)}{ys:List V},zm K H (rows.map xQ) ys->(∀ r∈rows,r≠[])->Paired (λ v r=>r≠[]/\∃ b,v=V.ref b/\zR K H b (r.map V.int)) ys rows
 | [],ys,h,_=>by simp only[BA,zm] at h;subst h;exact .nil
 | r::rows,ys,h,hn=>by
  rw[Aq] at h
  simp only[zm,xQ,zg] at h
  obtain⟨x,ys',rfl,⟨a,xs,rfl,g1,g2⟩,h3⟩:=h
  rw[g2.ints] at g1
  exact .cons ⟨hn r Am,a,rfl,g1⟩ (oH h3 λ r' hr=>hn r' (Ao _ hr))
def af {α:Type}{rows:List α}{d:α}{idx:List Nat}(h:idx.Perm (List.range rows.length)):(idx.map λ i=>rows.getD i d).Perm rows:=by
 refine (h.map _).trans ?_
 have:(List.range rows.length).map (λ i=>rows.getD i d)=rows:=by
  refine BD (by simp) λ i h1 h2=>?_
  simp[h2]
 rw[this]
theorem zm.perm {H:Hp}{rows:List (List Int)}{ys:List V}(h:zm K H (rows.map xQ) ys):∀ {idx:List Nat},(∀ i∈idx,i<rows.length)->zm K H ((idx.map λ i=>rows.getD i []).map xQ) (idx.map λ i=>ys.getD i .zj)
 | [],_=>.nil
 | i::idx,hi=>by
  have h1:=hi i Am
  obtain⟨x,e1,e2⟩:=h.get (i:=i) (d:=xQ rows[i]) (by simp[h1])
  refine .cons ?_ (zm.perm h λ j hj=>hi j (Ao _ hj))
  have e3:ys.getD i .zj=x:=by simp[e1]
  have e4:rows.getD i []=rows[i]:=by simp[h1]
  show zg K H (xQ (rows.getD i [])) (ys.getD i .zj)
  rw[e3,e4];exact e2
def qX {tg:Expr}(hm:X.mg "range"=none) (ha:xh X [a] tA) (hg:Gl X "range":=by rfl) (hs:starEach [a] X.env=[(false,eval a X.env)]:=by rfl):sE X tg (.Call (.Name "range" p) [a] [] pos) (gm tA):=U9 (VO hg hm ha.pa hs) ha.mo
def U7 {tg:Expr}(hm:X.mg "range"=none) (ha:xh X [a,b] tA) (hg:Gl X "range":=by rfl) (hs:starEach [a,b] X.env=[(false,eval a X.env),(false,eval b X.env)]:=by rfl) (hs2:starEach [b] X.env=[(false,eval b X.env)]:=by rfl):sE X tg (.Call (.Name "range" p) [a,b] [] pos) (gk tA):=U8 (VN hg hm ha.pa hs hs2) ha.mo
noncomputable def sP (d:D) (S:SS):Option String:=match d with
 | .zj=>some "NoneType"
 | .bl _=>some "bool"
 | .int _=>some "int"
 | .str _=>some "str"
 | .tup _=>some "tuple"
 | .xD _=>some "list"
 | .ref p=>match S p with
  | some (.lst _)=>some "list"
  | some (.zI _)=>some "dict"
  | none=>none
 | .err _ _ _=>none
def nY (T:String) (te:zp):zp:=fun Y S Q=>te Y S λ x S1=>match sP x S1 with
 | some ty=>Q (.bl (wC ty T)) S1
 | none=>False
def sP.ok {H:Hp}{d:D}{v:V}{S:SS}{ty:String}(r:zg K H d v) (p:zC K H S) (h:sP d S=some ty):Y1 K H v ty/\ty∈["NoneType","bool","int","str","tuple","list","dict"]:=by
 cases d with
 | err _ _ _=>cases h
 | tup ds=>
  simp only[zg] at r
  obtain⟨a,xs,rfl,g1,_⟩:=r
  cases h
  exact⟨.inl ⟨rfl,xs,g1⟩,by simp⟩
 | xD ds=>
  simp only[zg] at r
  obtain⟨a,xs,rfl,g1,_⟩:=r
  cases h
  exact⟨.inr (.inl ⟨rfl,xs,g1.sq⟩),by simp⟩
 | ref a=>
  simp only[zg] at r
  subst r
  unfold sP at h
  dsimp only at h
  split at h
  ·rename_i e
   cases h
   obtain⟨xs,g1,_⟩:=p _ _ e
   exact⟨.inr (.inl ⟨rfl,xs,zL.of g1⟩),by simp⟩
  ·rename_i e
   cases h
   obtain⟨xs,g1,_⟩:=p _ _ e
   exact⟨.inr (.inr ⟨rfl,xs,g1⟩),by simp⟩
  ·cases h
 | _=>simp only[zg] at r;subst r;cases h;exact⟨rfl,by simp⟩
def iB {T:String}{x:Str}(hT:T∈["int","bool","tuple","list","str"]) (hm:X.mg "isinstance"=none) (hm2:X.mg x=none) (hv:bootBuiltins x=some (.type T)) (hg2:Gl X x) (hn:x≠"__name__") (hd:(x == ("__debug__":Str))=false) (he:PD X e te) (hg:Gl X "isinstance":=by rfl)
  (h1:starEach (e::[.Name x q]) X.env=(false,eval e X.env)::starEach [.Name x q] X.env:=by rfl) (h2:(backTo pos (starEach [.Name x q] X.env)).any (·.1)=false:=by rfl) (h3:starEach [.Name x q] X.env=(false,eval (.Name x q) X.env)::starEach [] X.env:=by rfl):
  PD X (.Call (.Name "isinstance" p) [e,.Name x q] [] pos) (nY T te):=by
 refine⟨fun Y S Q Q' hq z=>he.mo Y S _ _ (λ y S1 z=>?_) z,PE.imp (tQ OK hg hm boot_isinstance (uS he.pe (uS (bc (v:=.ty T) hg2 hm2 hv rfl hn hd) rf h3) h1) (by decide) (by decide) h1 h2) fun σ H Q hu=>?_⟩
 ·split at z
  ·exact hq _ _ z
  ·exact z
 ·obtain⟨Y,S,r1,r2,z⟩:=hu
  refine zJ.go he.mo r1 r2 z λ y S1 v H1 z1 q1 e1 p1=>?_
  split at z1
  ·rename_i ty ht
   obtain⟨g1,g2⟩:=sP.ok q1 p1 ht
   refine⟨v,T,ty,rfl,g1,?_,z1 _ H1 (by simp only[zg]) e1 p1⟩
   exact Cd.mp (Cd.mp XT ty g2) T hT
  ·exact z1.elim
def lV (T:Bt X.mg) (he:PD X e te) (hg:Gl X "isinstance":=by rfl) (hg2:Gl X "bool":=by rfl) (h1:starEach (e::[.Name "bool" q]) X.env=(false,eval e X.env)::starEach [.Name "bool" q] X.env:=by rfl) (h2:(backTo pos (starEach [.Name "bool" q] X.env)).any (·.1)=false:=by rfl) (h3:starEach [.Name "bool" q] X.env=(false,eval (.Name "bool" q) X.env)::starEach [] X.env:=by rfl):
  PD X (.Call (.Name "isinstance" p) [e,.Name "bool" q] [] pos) (nY "bool" te):=iB (by simp) T.isinstance T.bool PyProof.Rows.boot_bool hg2 (by decide) (by decide) he hg h1 h2 h3
def lU (T:Bt X.mg) (he:PD X e te) (hg:Gl X "isinstance":=by rfl) (hg2:Gl X "int":=by rfl) (h1:starEach (e::[.Name "int" q]) X.env=(false,eval e X.env)::starEach [.Name "int" q] X.env:=by rfl) (h2:(backTo pos (starEach [.Name "int" q] X.env)).any (·.1)=false:=by rfl) (h3:starEach [.Name "int" q] X.env=(false,eval (.Name "int" q) X.env)::starEach [] X.env:=by rfl):
  PD X (.Call (.Name "isinstance" p) [e,.Name "int" q] [] pos) (nY "int" te):=iB (by simp) T.isinstance T.int PyProof.Rows.boot_int hg2 (by decide) (by decide) he hg h1 h2 h3
def UH (T:Bt X.mg) (he:PD X e te) (hg:Gl X "isinstance":=by rfl) (hg2:Gl X "tuple":=by rfl) (h1:starEach (e::[.Name "tuple" q]) X.env=(false,eval e X.env)::starEach [.Name "tuple" q] X.env:=by rfl) (h2:(backTo pos (starEach [.Name "tuple" q] X.env)).any (·.1)=false:=by rfl) (h3:starEach [.Name "tuple" q] X.env=(false,eval (.Name "tuple" q) X.env)::starEach [] X.env:=by rfl):
  PD X (.Call (.Name "isinstance" p) [e,.Name "tuple" q] [] pos) (nY "tuple" te):=iB (by simp) T.isinstance T.tuple PyProof.Rows.boot_tuple hg2 (by decide) (by decide) he hg h1 h2 h3
def uR {o:Expr}{to:zp}{apos Ae:Pos}(ho:PD X o to) (he:PD X e te)
  (hbase:attributeBase o "append" X.env (eval o X.env)=eval o X.env:=by rfl)
  (AF:((backTo Ae (starEach [e] X.env)).all (λ x=>!x.1)&&(backToKw Ae (keywordEach [] X.env)).all (λ x=>x.1.isSome)
   && decide ([e].length+([]:List Keyword).length+(if ([]:List Keyword).isEmpty then 0 else 1)<30))=true:=by rfl)
  (hline:(apos.endLine == Ae.line)=true:=by rfl) (hs:starEach [e] X.env=(false,eval e X.env)::starEach [] X.env:=by rfl) (hplain:(backTo Ae (starEach [] X.env)).any (·.1)=false:=by rfl):
  PD X (.Call (.Attribute o "append" apos) [e] [] Ae) (rL to te):=
 UR (o:=o) (e:=e) (ba PySem.F.plainAttrs_list PySem.F.slot_list_append PySem.F.type_list_append ae ho.pe (uS he.pe rf hs) hbase AF hline hs hplain) ho.mo he.mo
structure FD (P:Program) (w:World) (K:Ab) (mg:Str->Option Value) (base:Heap) (x:Str) (k:Nat) (ps:List Str) (sp:wa):Prop where
 ex:∃ (f:Addr) (fd:FuncData),xa P w K mg base xq k f fd ps (tH K sp)/\mg x=some (.ref f)/\PySem.W.keepIn K (.ref f)=true/\Binds K fd ps []
 mo:pT sp
def UP {x:Str}{k:Nat}{ps:List Str}{sp:wa}(F:FD X.prog X.w X.K X.mg X.base x k ps sp) (hr:zV k X.A) (ha:xh X (e::es) tA) (hg:Gl X x:=by rfl) (AZ:(x == ("__debug__":Str))=false:=by decide)
  (he:starEach (e::es) X.env=(false,eval e X.env)::starEach es X.env:=by rfl) (Ah:(backTo pos (starEach es X.env)).any (·.1)=false:=by rfl):PD X (.Call (.Name x p) (e::es) [] pos) (kM sp tA):=by
 obtain⟨⟨f,fd,h1,h2,h3,h4⟩,hm⟩:=F
 exact UQ (E:=E0) (Us h1 hr hg h2 h3 h4 .nil UT ha.pa AZ he Ah) hm ha.mo
end
def Pw {S:SS}{p:Addr}{ds:List D}{Q:DK}(e:S p=some (.lst ds)) (h:Q (.tup ds) S):ud [.ref p] S Q:=by
 unfold ud;dsimp only;rw[e];exact h
def Px {S:SS}{d:D}{ds:List D}{Q:DK}(e:yj d S=some ds) (h:∀ p,S p=none->Q (.ref p) (ups S p (.lst ds))):uf [d] S Q:=by
 unfold uf;dsimp only;rw[e];exact h
def Py {S:SS}{d:D}{ds:List D}{Q:DK}(e:yj d S=some ds) (h:Q (.int ds.length) S):ug [d] S Q:=by
 unfold ug;dsimp only;rw[e];exact h
def X_ {S:SS}{p:Addr}{ds:List D}{Q:Bool->SS->Prop}(e:S p=some (.lst ds)) (h:Q (!ds.isEmpty) S):vp (.ref p) S Q:=by
 unfold vp;dsimp only;rw[e];exact h
def PB {S:SS}{p:Addr}{ds:List D}{i:Int}{d:D}{Q:DK}(e:S p=some (.lst ds)) (e2:L2.zQ ds i=some d) (h:Q d S):wg (.ref p) (.int i) S Q:=by
 unfold wg;dsimp only;rw[e];dsimp only;rw[e2];exact h
def Pz {S:SS}{ds:List D}{i:Int}{d:D}{Q:DK}(e2:L2.zQ ds i=some d) (h:Q d S):wg (.tup ds) (.int i) S Q:=by
 unfold wg;dsimp only;rw[e2];exact h
def P0 {S:SS}{ds:List D}{i:Int}{d:D}{Q:DK}(e2:L2.zQ ds i=some d) (h:Q d S):wg (.xD ds) (.int i) S Q:=by
 unfold wg;dsimp only;rw[e2];exact h
inductive T where
 | zj | bl (b:Bool) | int (i:Int) | str (x:Str) | tup (ts:List T) | lst (ts:List T) | yE | err (c f:Str) (t:T)
mutual
noncomputable def eqT:T->T->Bool
 | .zj,.zj=>true
 | .bl a,.bl b=>a == b
 | .bl a,.int b=>(if a then 1 else 0) == b
 | .int a,.bl b=>a == (if b then 1 else 0)
 | .int a,.int b=>a == b
 | .str a,.str b=>a == b
 | .tup a,.tup b=>xm a b
 | .lst a,.lst b=>xm a b
 | .yE,.yE=>true
 | .err a b t,.err c d u=>a == c&&(b == d&&eqT t u)
 | _,_=>false
noncomputable def xm:List T->List T->Bool
 | [],[]=>true
 | a::as,b::bs=>eqT a b&&xm as bs
 | _,_=>false
end
mutual
noncomputable def dep:T->Nat
 | .tup ts=>1+x8 ts
 | .lst ts=>1+x8 ts
 | .yE=>cLine
 | .err _ _ _=>cLine
 | _=>0
noncomputable def x8:List T->Nat
 | []=>0
 | t::ts=>max (dep t) (x8 ts)
end
noncomputable def iI:List T->Bool
 | []=>true
 | .int _::ts=>iI ts
 | _=>false
def Tu (ns:List Int):iI (ns.map T.int)=true:=by
 induction ns with
 | nil=>rfl
 | cons n ns ih=>exact ih
mutual
noncomputable def Sn (S:SS):T->D->Prop
 | .zj,d=>d=.zj
 | .bl b,d=>d=.bl b
 | .int i,d=>d=.int i
 | .str x,d=>d=.str x
 | .tup ts,d=>∃ ds,d=.tup ds/\zk S ts ds
 | .lst ts,d=>∃ ds,((d=.xD ds/\iI ts=true)\/∃ a,d=.ref a/\S a=some (.lst ds))/\zk S ts ds
 | .yE,d=>∃ a Aa,(d=.ref a/\Aa=[])/\S a=some (.zI Aa)
 | .err c f t,d=>∃ x,d=.err c f x/\Sn S t x
noncomputable def zk (S:SS):List T->List D->Prop
 | [],ds=>ds=[]
 | t::ts,ds=>∃ c cs,ds=c::cs/\Sn S t c/\zk S ts cs
end
mutual
theorem kC:∀ t:T,eqT t t=true
 | .zj=>by simp[eqT]
 | .bl b=>by simp[eqT]
 | .int i=>by simp[eqT]
 | .str x=>by simp[eqT]
 | .tup ts=>by simp only[eqT];exact kB ts
 | .lst ts=>by simp only[eqT];exact kB ts
 | .yE=>by simp[eqT]
 | .err _ _ t=>by simp[eqT,kC t]
theorem kB:∀ ts:List T,xm ts ts=true
 | []=>by simp[xm]
 | t::ts=>by simp only[xm,kC t,kB ts,Dv]
end
theorem gZ:∀ ts us:List T,xm ts us=((List.range (min ts.length us.length)).all (λ j=>eqT (ts.getD j .zj) (us.getD j .zj))&&ts.length == us.length)
 | [],[]=>by simp[xm]
 | [],_::_=>by simp[xm]
 | _::_,[]=>by simp[xm]
 | t::ts,u::us=>by
  simp only[xm,gZ ts us,AR]
  rw[show min (ts.length+1) (us.length+1)=min ts.length us.length+1 by lia,C0,List.all_cons,List.all_map]
  have:(ts.length+1 == us.length+1)=(ts.length == us.length):=by rw[BU];simp
  rw[this,Bool.and_assoc]
  rfl
theorem zk.length {S:SS}:∀ {ts:List T}{ds:List D},zk S ts ds->ts.length=ds.length
 | [],ds,h=>by simp only[zk] at h;subst h;rfl
 | t::ts,ds,h=>by
  simp only[zk] at h
  obtain⟨c,cs,rfl,_,h2⟩:=h
  simp[zk.length h2]
section
variable {X:Cx}{pins:List (Addr×Obj)}{σ:St}{H:Hp}{s:Shared}{S:SS}
def aO (I:Inv X pins σ H s) {a:Addr}{xs ys:List V}(h1:zR X.K H a xs) (h2:zL X.K H a ys):False:=by
 obtain⟨_,_,⟨o,e,c,_⟩,_⟩:=I.tuple h1
 obtain⟨_,_,⟨o',n,e',c',_⟩,_⟩:=I.list h2
 rw[e] at e';cases e'
 rw[c] at c'
 injection c' with q
 exact absurd q (by decide)
def Sn.uW (p:zC X.K H S) {ts:List T}{d:D}{x:V}(h:Sn S (.lst ts) d) (r:zg X.K H d x):∃ a xs ds,x=.ref a/\zL X.K H a xs/\zm X.K H ds xs/\zk S ts ds:=by
 simp only[Sn] at h
 obtain⟨ds,⟨h,_⟩ | ⟨a,h,e⟩,h2⟩:=h
 ·subst h
  simp only[zg] at r
  obtain⟨a,xs,rfl,g1,g2⟩:=r
  exact⟨a,xs,ds,rfl,g1.sq,g2,h2⟩
 ·subst h
  simp only[zg] at r
  obtain⟨xs,g1,g2⟩:=p _ _ e
  exact⟨a,xs,ds,r,zL.of g1,g2,h2⟩
def Sn.uO {ts:List T}{d:D}{x:V}(h:Sn S (.tup ts) d) (r:zg X.K H d x):∃ a xs ds,x=.ref a/\zR X.K H a xs/\zm X.K H ds xs/\zk S ts ds:=by
 simp only[Sn] at h
 obtain⟨ds,rfl,h2⟩:=h
 simp only[zg] at r
 obtain⟨a,xs,rfl,g1,g2⟩:=r
 exact⟨a,xs,ds,rfl,g1,g2,h2⟩
def Sn.rJ (p:zC X.K H S) {d:D}{x:V}(h:Sn S .yE d) (r:zg X.K H d x):∃ a vs,x=.ref a/\H a=some (.dK vs):=by
 simp only[Sn] at h
 obtain⟨a,Aa,⟨rfl,_⟩,e⟩:=h
 simp only[zg] at r
 obtain⟨xs,g1,g2⟩:=p _ _ e
 exact⟨a,xs,r,g1⟩
def aX (I:Inv X pins σ H s) {a:Addr}{vs:List (Key×V)}(h:H a=some (.dK vs)):∃ o,s.heap.get? a=some o/\o.cls=.type "dict":=by
 obtain⟨_,_,_,_,o,_,_,e,c⟩:=(show yN X.prog X.w H s.heap a (.dK vs) from I.zl a _ h)
 exact⟨o,e,c.1.1⟩
def aQ (I:Inv X pins σ H s) {a:Addr}{xs:List V}{vs:List (Key×V)}(h1:zR X.K H a xs) (h2:H a=some (.dK vs)):False:=by
 obtain⟨_,_,⟨o,e,c,_⟩,_⟩:=I.tuple h1
 obtain⟨o',e',c'⟩:=aX I h2
 rw[e] at e';cases e'
 rw[c] at c'
 injection c' with q
 exact absurd q (by decide)
def aW (I:Inv X pins σ H s) {a:Addr}{xs:List V}{vs:List (Key×V)}(h1:zL X.K H a xs) (h2:H a=some (.dK vs)):False:=by
 obtain⟨_,_,⟨o,n,e,c,_⟩,_⟩:=I.list h1
 obtain⟨o',e',c'⟩:=aX I h2
 rw[e] at e';cases e'
 rw[c] at c'
 injection c' with q
 exact absurd q (by decide)
theorem Sn.flat {t:T}{d:D}{x:V}(h:Sn S t d) (r:zg X.K H d x):match t with
  | .zj=>x=.zj
  | .bl b=>x=.bl b
  | .int i=>x=.int i
  | .str y=>x=.str y
  | _=>True:=by
 cases t <;> first
  | trivial
  | (simp only[Sn] at h;subst h;simpa only [zg] using r)
def Sn.t_ {c f:Str}{t:T}{d:D}{x:V}(h:Sn S (.err c f t) d) (r:zg X.K H d x):∃ e C dx w y,x=.ref e/\(uL X.K c C/\H e=some (wJ e C dx)/\H dx=some (.xd [(f,w)]))/\Sn S t y/\zg X.K H y w:=by
 simp only[Sn] at h
 obtain⟨y,rfl,h⟩:=h
 simp only[zg] at r
 obtain⟨e,C,dx,w,r1,r2,r3⟩:=r
 exact⟨e,C,dx,w,y,r1,r2,h,r3⟩
def ko (I:Inv X pins σ H s) {e C dx:Addr}(h:H e=some (wJ e C dx)):∃ oe vs,s.heap.get? e=some oe/\oe.cls=.ref C/\oe.dict=some dx/\oe.data=.fields vs:=(show yN X.prog X.w H s.heap e (wJ e C dx) from I.zl e _ h).1
def aP (I:Inv X pins σ H s) {a C dx:Addr}{xs:List V}(h1:zR X.K H a xs) (h2:H a=some (wJ a C dx)):False:=by
 obtain⟨_,_,⟨o,e,c,_⟩,_⟩:=I.tuple h1
 obtain⟨o',_,e',c',_⟩:=ko I h2
 rw[e] at e';cases e'
 rw[c] at c';cases c'
def aV (I:Inv X pins σ H s) {a C dx:Addr}{xs:List V}(h1:zL X.K H a xs) (h2:H a=some (wJ a C dx)):False:=by
 obtain⟨_,_,⟨o,n,e,c,_⟩,_⟩:=I.list h1
 obtain⟨o',_,e',c',_⟩:=ko I h2
 rw[e] at e';cases e'
 rw[c] at c';cases c'
def aY (I:Inv X pins σ H s) {a C dx:Addr}{vs:List (Key×V)}(h1:H a=some (.dK vs)) (h2:H a=some (wJ a C dx)):False:=by
 rw[h1] at h2;cases h2
def QC (I:Inv X pins σ H s) {e C dx C' dx':Addr}(h1:H e=some (wJ e C dx)) (h2:H e=some (wJ e C' dx')):C=C'/\dx=dx':=by
 obtain⟨o,_,e1,c1,d1,_⟩:=ko I h1
 obtain⟨o',_,e2,c2,d2,_⟩:=ko I h2
 rw[e1] at e2;cases e2
 rw[c1] at c2;rw[d1] at d2
 cases c2;cases d2
 exact⟨rfl,rfl⟩
def uL.inj {K:Ab}{c c':Str}{C:Addr}(h1:uL K c C) (h2:uL K c' C):c=c':=by
 obtain⟨_,_,_,⟨⟨⟨_,_,_,_,_,_,_,_,_,_,_,_,a⟩,_⟩,_,_,_,_⟩⟩:=h1
 obtain⟨_,_,_,⟨⟨⟨_,_,_,_,_,_,_,_,_,_,_,_,b⟩,_⟩,_,_,_,_⟩⟩:=h2
 rw[a] at b
 cases b;rfl
mutual
theorem lq (I:Inv X pins σ H s) (p:zC X.K H S):∀ (t u:T) {d e:D}{x:V},Sn S t d->Sn S u e->zg X.K H d x->zg X.K H e x->t=u
 | .tup ts,u,d,e,x,h1,h2,r1,r2=>by
  obtain⟨a,xs,ds,rfl,g1,g2,g3⟩:=h1.uO r1
  cases u with
  | yE=>obtain⟨_,_,q,g⟩:=h2.rJ p r2;cases q;exact (aQ I g1 g).elim
  | err _ _ _=>obtain⟨_,_,_,_,_,q,g,_⟩:=h2.t_ r2;cases q;exact (aP I g1 g.2.1).elim
  | tup us=>
   obtain⟨a',xs',ds',q,k1,k2,k3⟩:=h2.uO r2
   cases q
   have:=I.jq g1 k1
   subst this
   rw[jo I p ts us g3 k3 g2 k2]
  | lst us=>
   obtain⟨a',xs',ds',q,k1,k2,k3⟩:=h2.uW p r2
   cases q
   exact (aO I g1 k1).elim
  | _=>exact nomatch h2.flat r2
 | .lst ts,u,d,e,x,h1,h2,r1,r2=>by
  obtain⟨a,xs,ds,rfl,g1,g2,g3⟩:=h1.uW p r1
  cases u with
  | yE=>obtain⟨_,_,q,g⟩:=h2.rJ p r2;cases q;exact (aW I g1 g).elim
  | err _ _ _=>obtain⟨_,_,_,_,_,q,g,_⟩:=h2.t_ r2;cases q;exact (aV I g1 g.2.1).elim
  | lst us=>
   obtain⟨a',xs',ds',q,k1,k2,k3⟩:=h2.uW p r2
   cases q
   have:=I.h_ g1 k1
   subst this
   rw[jo I p ts us g3 k3 g2 k2]
  | tup us=>
   obtain⟨a',xs',ds',q,k1,k2,k3⟩:=h2.uO r2
   cases q
   exact (aO I k1 g1).elim
  | _=>exact nomatch h2.flat r2
 | .zj,u,d,e,x,h1,h2,r1,r2=>by
  have q:=h1.flat r1
  subst q
  cases u with
  | yE=>obtain⟨_,_,q,g⟩:=h2.rJ p r2;cases q
  | err _ _ _=>obtain⟨_,_,_,_,_,q,_⟩:=h2.t_ r2;cases q
  | zj=>rfl
  | tup us=>obtain⟨_,_,_,q,_⟩:=h2.uO r2;cases q
  | lst us=>obtain⟨_,_,_,q,_⟩:=h2.uW p r2;cases q
  | _=>exact nomatch h2.flat r2
 | .bl b,u,d,e,x,h1,h2,r1,r2=>by
  have q:=h1.flat r1
  subst q
  cases u with
  | yE=>obtain⟨_,_,q,g⟩:=h2.rJ p r2;cases q
  | err _ _ _=>obtain⟨_,_,_,_,_,q,_⟩:=h2.t_ r2;cases q
  | bl _=>have q:=h2.flat r2;cases q;rfl
  | tup us=>obtain⟨_,_,_,q,_⟩:=h2.uO r2;cases q
  | lst us=>obtain⟨_,_,_,q,_⟩:=h2.uW p r2;cases q
  | _=>exact nomatch h2.flat r2
 | .int b,u,d,e,x,h1,h2,r1,r2=>by
  have q:=h1.flat r1
  subst q
  cases u with
  | yE=>obtain⟨_,_,q,g⟩:=h2.rJ p r2;cases q
  | err _ _ _=>obtain⟨_,_,_,_,_,q,_⟩:=h2.t_ r2;cases q
  | int _=>have q:=h2.flat r2;cases q;rfl
  | tup us=>obtain⟨_,_,_,q,_⟩:=h2.uO r2;cases q
  | lst us=>obtain⟨_,_,_,q,_⟩:=h2.uW p r2;cases q
  | _=>exact nomatch h2.flat r2
 | .str b,u,d,e,x,h1,h2,r1,r2=>by
  have q:=h1.flat r1
  subst q
  cases u with
  | yE=>obtain⟨_,_,q,g⟩:=h2.rJ p r2;cases q
  | err _ _ _=>obtain⟨_,_,_,_,_,q,_⟩:=h2.t_ r2;cases q
  | str _=>have q:=h2.flat r2;cases q;rfl
  | tup us=>obtain⟨_,_,_,q,_⟩:=h2.uO r2;cases q
  | lst us=>obtain⟨_,_,_,q,_⟩:=h2.uW p r2;cases q
  | _=>exact nomatch h2.flat r2
 | .err c f t,u,d,e,x,h1,h2,r1,r2=>by
  obtain⟨a,C,dx,w,y,rfl,⟨g1,g2,g3⟩,g4,g5⟩:=h1.t_ r1
  cases u with
  | err c' f' t'=>
   obtain⟨a',C',dx',w',y',q,⟨k1,k2,k3⟩,k4,k5⟩:=h2.t_ r2
   cases q
   obtain⟨rfl,rfl⟩:=QC I g2 k2
   rw[g3] at k3;cases k3
   cases g1.inj k1
   rw[lq I p t t' g4 k4 g5 k5]
  | yE=>obtain⟨_,_,q,g⟩:=h2.rJ p r2;cases q;exact (aY I g g2).elim
  | tup us=>obtain⟨_,_,_,q,k1,_⟩:=h2.uO r2;cases q;exact (aP I k1 g2).elim
  | lst us=>obtain⟨_,_,_,q,k1,_⟩:=h2.uW p r2;cases q;exact (aV I k1 g2).elim
  | _=>exact nomatch h2.flat r2
 | .yE,u,d,e,x,h1,h2,r1,r2=>by
  obtain⟨a,vs,rfl,g⟩:=h1.rJ p r1
  cases u with
  | yE=>rfl
  | err _ _ _=>obtain⟨_,_,_,_,_,q,g',_⟩:=h2.t_ r2;cases q;exact (aY I g g'.2.1).elim
  | tup us=>obtain⟨_,_,_,q,g1,_⟩:=h2.uO r2;cases q;exact (aQ I g1 g).elim
  | lst us=>obtain⟨_,_,_,q,g1,_⟩:=h2.uW p r2;cases q;exact (aW I g1 g).elim
  | _=>exact nomatch h2.flat r2
theorem jo (I:Inv X pins σ H s) (p:zC X.K H S):∀ (ts us:List T) {ds es:List D}{xs:List V},zk S ts ds->zk S us es->zm X.K H ds xs->zm X.K H es xs->ts=us
 | [],us,ds,es,xs,h1,h2,r1,r2=>by
  have e:=h1.length.trans (r1.length.trans (r2.length.symm.trans h2.length.symm))
  cases us with
  | nil=>rfl
  | cons _ _=>simp at e
 | t::ts,[],ds,es,xs,h1,h2,r1,r2=>by
  have e:=h1.length.trans (r1.length.trans (r2.length.symm.trans h2.length.symm))
  simp at e
 | t::ts,u::us,ds,es,xs,h1,h2,r1,r2=>by
  simp only[zk] at h1 h2
  obtain⟨c,cs,rfl,a1,a2⟩:=h1
  obtain⟨c',cs',rfl,b1,b2⟩:=h2
  simp only[zm] at r1 r2
  obtain⟨y,ys,rfl,g1,g2⟩:=r1
  obtain⟨y',ys',q,k1,k2⟩:=r2
  cases q
  rw[lq I p t u a1 b1 g1 k1,jo I p ts us a2 b2 g2 k2]
end
def zk.get {ts:List T}{ds:List D}(h:zk S ts ds):∀ {j:Nat},j<ts.length->∃ c,ds[j]?=some c/\Sn S (ts.getD j .zj) c:=by
 induction ts generalizing ds with
 | nil=>intro j hj;simp at hj
 | cons t ts ih=>
  intro j hj
  simp only[zk] at h
  obtain⟨c,cs,rfl,h1,h2⟩:=h
  cases j with
  | zero=>exact⟨c,rfl,h1⟩
  | succ j=>
   obtain⟨c',e,h3⟩:=ih h2 (j:=j) (by simpa using hj)
   exact⟨c',by simpa using e,by simpa using h3⟩
theorem kH:∀ {ts:List T}{j:Nat},j<ts.length->dep (ts.getD j .zj)<=x8 ts
 | [],j,h=>by simp at h
 | t::ts,0,_=>by simp only[x8,List.getD_cons_zero];lia
 | t::ts,j+1,h=>by
  have:=kH (ts:=ts) (j:=j) (by simpa using h)
  simp only[x8,List.getD_cons_succ];lia
inductive qx (K:Ab) (H:Hp) (S:SS) (s:Shared):T->Value->Prop
 | zj:qx K H S s .zj .none
 | bl {b:Bool}:qx K H S s (.bl b) (.bool b)
 | int {i:Int}{k:Tok}:qx K H S s (.int i) (.int i k)
 | str {i:Str}{k:Tok}:qx K H S s (.str i) (.str i k)
 | tup {ts:List T}{ds:List D}{xs:List V}{us:List Value}{l:Addr}(g:zk S ts ds) (r:zm K H ds xs) (v:Vals xs us) (h:s.heap.IsTuple l us.toArray):qx K H S s (.tup ts) (.ref l)
 | lst {ts:List T}{ds:List D}{xs:List V}{us:List Value}{l:Addr}(g:zk S ts ds) (r:zm K H ds xs) (v:Vals xs us) (h:s.heap.IsList l us.toArray):qx K H S s (.lst ts) (.ref l)
def cm (I:Inv X pins σ H s) (p:zC X.K H S) {t:T}{d:D}{x:V}{a:Value}(h:Sn S t d) (r:zg X.K H d x) (v:RelV x a) (z:dep t<cLine):qx X.K H S s t a:=by
 cases t with
 | zj=>have q:=h.flat r;subst q;cases v;exact .zj
 | bl _=>have q:=h.flat r;subst q;cases v;exact .bl
 | int _=>have q:=h.flat r;subst q;obtain⟨_,rfl⟩:=v;exact .int
 | str _=>have q:=h.flat r;subst q;obtain⟨_,rfl⟩:=v;exact .str
 | tup _=>obtain⟨l,xs,ds,rfl,g,r,q⟩:=h.uO r;cases v;obtain⟨_,w,i,_⟩:=I.tuple g;exact .tup q r w i
 | lst _=>obtain⟨l,xs,ds,rfl,g,r,q⟩:=h.uW p r;cases v;obtain⟨_,w,i,_⟩:=I.list g;exact .lst q r w i.isList
 | _=>simp only[dep] at z;lia
abbrev J3 (A:Around) (s:Shared) (a b:Value) (k:Bool):Prop:=SeqAt.EqAt A s a b k/\SeqAt.RcAt A s a b k/\SeqAt.RcNeAt A s a b (!k)
def Nb (I:Inv X pins σ H s) (p:zC X.K H S):∀ (n:Nat) (t u:T) {A:Around}{d e:D}{x y:V}{a b:Value},dep t<n->A.units+dep t<cLine->A.units+dep u<cLine->Sn S t d->Sn S u e->zg X.K H d x->zg X.K H e y->RelV x a->RelV y b->J3 A s a b (eqT t u):=by
 intro n
 induction n with
 | zero=>intros;lia
 | succ n ih=>
  intro t u A d e x y a b hn hu hu' h1 h2 r1 r2 v1 v2
  have hq:a=b->t=u:=λ z=>by subst z;have:=v1.inj v2;subst this;exact lq I p t u h1 h2 r1 r2
  have c1:=cm I p h1 r1 v1 (by lia)
  have c2:=cm I p h2 r2 v2 (by lia)
  clear h1 h2 r1 r2 v1 v2
  have hA:A.units<cLine:=by lia
  have el:∀ {ts us:List T}{ds ds':List D}{xs xs':List V}{is is':List Value},1+x8 ts<n+1->A.units+(1+x8 ts)<cLine->A.units+(1+x8 us)<cLine->zk S ts ds->zk S us ds'->zm X.K H ds xs->zm X.K H ds' xs'->Vals xs is->Vals xs' is'->is.toArray.size=ts.length/\is'.toArray.size=us.length/\
    ∀ (j:Nat) (h1:j<is.toArray.size) (h2:j<is'.toArray.size),SeqAt.EqAt A.in1 s is.toArray[j] is'.toArray[j] (eqT (ts.getD j .zj) (us.getD j .zj)):=by
   intro ts us ds ds' xs xs' is is' a1 a2 a3 g1 g2 r1 r2 v1 v2
   have e1:is.toArray.size=ts.length:=by rw[Av,<- v1.length,<- r1.length,<- g1.length]
   have e2:is'.toArray.size=us.length:=by rw[Av,<- v2.length,<- r2.length,<- g2.length]
   refine⟨e1,e2,λ j h1 h2=>?_⟩
   obtain⟨_,k1,s1⟩:=g1.get (e1▸h1)
   obtain⟨_,k2,s2⟩:=g2.get (e2▸h2)
   obtain⟨_,f1,q1⟩:=r1.get k1
   obtain⟨_,f2,q2⟩:=r2.get k2
   obtain⟨w1,o1,m1⟩:=v1.get f1
   obtain⟨w2,o2,m2⟩:=v2.get f2
   have y1:=kH (e1▸h1)
   have y2:=kH (e2▸h2)
   obtain⟨_,z1⟩:=AD.mp o1
   obtain⟨_,z2⟩:=AD.mp o2
   rw[List.getElem_toArray,List.getElem_toArray,z1,z2]
   exact (ih _ _ (A:=A.in1) (by lia) (by show A.units+1+_<_;lia) (by show A.units+1+_<_;lia) s1 s2 q1 q2 m1 m2).1
  have en:∀ {l l':Addr}{ts us:List T},(Value.ref l=.ref l'->ts=us)->SeqAt.RcAt A s (.ref l) (.ref l') (xm ts us)/\SeqAt.RcNeAt A s (.ref l) (.ref l') (!xm ts us)->J3 A s (.ref l) (.ref l') (xm ts us):=λ{l l' ts us} h q=>by
   refine⟨?_,q⟩
   by_cases z:l=l'
   ·subst z
    rw[h rfl,kB]
    exact .same _
   ·exact .of_refs z q.1
  cases c1 <;> cases c2 <;> simp only[eqT,CP,CQ]
  ·exact⟨.same _,.none_none,.none_none⟩
  ·exact⟨.none_bool _,.none_bool _,.none_bool _⟩
  ·exact⟨.none_int _ _,.none_int _ _,.none_int _ _⟩
  ·exact⟨.none_str _ _,.none_str _ _,.none_str _ _⟩
  ·exact⟨.none_tuple ‹_› hA,.none_tuple ‹_› hA,.none_tuple ‹_› hA⟩
  ·exact⟨.none_list ‹_› hA,.none_list ‹_› hA,.none_list ‹_› hA⟩
  ·exact⟨.bool_none _,.bool_none _,.bool_none _⟩
  ·exact⟨.bool_bool _ _,.bool_bool _ _,.bool_bool _ _⟩
  ·exact⟨.bool_int _ _ _,.bool_int _ _ _,.bool_int _ _ _⟩
  ·exact⟨.bool_str _ _ _,.bool_str _ _ _,.bool_str _ _ _⟩
  ·exact⟨.bool_tuple _ ‹_› hA,.bool_tuple _ ‹_› hA,.bool_tuple _ ‹_› hA⟩
  ·exact⟨.bool_list _ ‹_› hA,.bool_list _ ‹_› hA,.bool_list _ ‹_› hA⟩
  ·exact⟨.int_none _ _,.int_none _ _,.int_none _ _⟩
  ·exact⟨.int_bool _ _ _,.int_bool _ _ _,.int_bool _ _ _⟩
  ·exact⟨.int_int _ _ _ _,.int_int _ _ _ _,.int_int _ _ _ _⟩
  ·exact⟨.int_str _ _ _ _,.int_str _ _ _ _,.int_str _ _ _ _⟩
  ·exact⟨.int_tuple _ _ ‹_› hA,.int_tuple _ _ ‹_› hA,.int_tuple _ _ ‹_› hA⟩
  ·exact⟨.int_list _ _ ‹_› hA,.int_list _ _ ‹_› hA,.int_list _ _ ‹_› hA⟩
  ·exact⟨.str_none _ _,.str_none _ _,.str_none _ _⟩
  ·exact⟨.str_bool _ _ _,.str_bool _ _ _,.str_bool _ _ _⟩
  ·exact⟨.str_int _ _ _ _,.str_int _ _ _ _,.str_int _ _ _ _⟩
  ·exact⟨.str_str _ _ _ _,.str_str _ _ _ _,.str_str _ _ _ _⟩
  ·exact⟨.str_tuple _ _ ‹_› hA,.str_tuple _ _ ‹_› hA,.str_tuple _ _ ‹_› hA⟩
  ·exact⟨.str_list _ _ ‹_› hA,.str_list _ _ ‹_› hA,.str_list _ _ ‹_› hA⟩
  ·exact⟨.tuple_none ‹_› hA,.tuple_none ‹_› hA,.tuple_none ‹_› hA⟩
  ·exact⟨.tuple_bool _ ‹_› hA,.tuple_bool _ ‹_› hA,.tuple_bool _ ‹_› hA⟩
  ·exact⟨.tuple_int _ _ ‹_› hA,.tuple_int _ _ ‹_› hA,.tuple_int _ _ ‹_› hA⟩
  ·exact⟨.tuple_str _ _ ‹_› hA,.tuple_str _ _ ‹_› hA,.tuple_str _ _ ‹_› hA⟩
  ·rename_i g1 r1 v1 k1 _ _ _ _ _ g2 r2 v2 k2
   simp only[dep] at hn hu hu'
   obtain⟨e1,e2,q⟩:=el hn hu hu' g1 g2 r1 r2 v1 v2
   refine en (λ z=>by cases hq z;rfl) ?_
   rw[gZ,<- e1,<- e2]
   exact⟨.tuples k1 k2 hA q,.tuples k1 k2 hA q⟩
  ·exact⟨.tuple_list ‹_› ‹_› hA,.tuple_list ‹_› ‹_› hA,.tuple_list ‹_› ‹_› hA⟩
  ·exact⟨.list_none ‹_› hA,.list_none ‹_› hA,.list_none ‹_› hA⟩
  ·exact⟨.list_bool _ ‹_› hA,.list_bool _ ‹_› hA,.list_bool _ ‹_› hA⟩
  ·exact⟨.list_int _ _ ‹_› hA,.list_int _ _ ‹_› hA,.list_int _ _ ‹_› hA⟩
  ·exact⟨.list_str _ _ ‹_› hA,.list_str _ _ ‹_› hA,.list_str _ _ ‹_› hA⟩
  ·exact⟨.list_tuple ‹_› ‹_› hA,.list_tuple ‹_› ‹_› hA,.list_tuple ‹_› ‹_› hA⟩
  ·rename_i i1 _ g1 r1 v1 k1 _ _ _ i2 _ g2 r2 v2 k2
   simp only[dep] at hn hu hu'
   obtain⟨e1,e2,q⟩:=el hn hu hu' g1 g2 r1 r2 v1 v2
   refine en (λ z=>by cases hq z;rfl) ?_
   rw[gZ,<- e1,<- e2]
   by_cases z:i1.toArray.size=i2.toArray.size
   ·rw[<- z,Nat.min_self,beq_self_eq_true,Bool.and_true]
    exact⟨.lists k1 k2 z hA q,.lists k1 k2 z hA q⟩
   ·rw[beq_eq_false_iff_ne.mpr z,CM]
    have z':=bne_iff_ne.mpr z
    exact⟨.lists_lengths k1 k2 z' hA,.lists_lengths k1 k2 z' hA⟩
def fP (I:Inv X pins σ H s) (p:zC X.K H S) (t u:T) {A:Around}{d e:D}{x y:V}{a b:Value}(hu:A.units+dep t<cLine) (hu':A.units+dep u<cLine) (h1:Sn S t d) (h2:Sn S u e) (r1:zg X.K H d x) (r2:zg X.K H e y) (v1:RelV x a) (v2:RelV y b):J3 A s a b (eqT t u):=Nb I p _ t u (Ce _) hu hu' h1 h2 r1 r2 v1 v2
end
def ip (K:Ab) (neg:Bool):R2:=λ x y H Q=>∃ S d e t u,zg K H d x/\zg K H e y/\zC K H S/\Sn S t d/\Sn S u e/\dep t<=60/\dep u<=60/\Q (.bl (cond neg (!eqT t u) (eqT t u))) H
def vj (neg:Bool):yG:=λ x y S Q=>∃ t u,Sn S t x/\Sn S u y/\dep t<=60/\dep u<=60/\Q (.bl (cond neg (!eqT t u) (eqT t u))) S
def vj.mo {neg:Bool}:y_ (vj neg):=λ _ _ _ _ _ hq ⟨t,u,a,b,c,d,h⟩=>⟨t,u,a,b,c,d,hq _ _ h⟩
def vj.fits {K:Ab}{neg:Bool}:xb K (vj neg) (ip K neg):=λ x y d e H S Q h1 h2 h3 ⟨t,u,a,b,c,c',h⟩=>⟨S,d,e,t,u,h1,h2,h3,a,b,c,c',h _ H (by simp only[zg]) (.refl H) h3⟩
section
variable {X:Cx}{a b:Expr}{ta tb:zp}{pos:Pos}
def bC (hu:X.A.units+64<cLine):zS X (compareOp .Eq) (ip X.K false):=by
 intro pins s σ H x y v u Q I rx ry h
 obtain⟨S,d,e,t,u',a1,a2,a3,a4,a5,a6,a7,q⟩:=h
 exact (fP I a3 t u' (A:=X.A) (by lia) (by lia) a4 a5 a1 a2 rx ry).2.1 X.prog X.w X.xe _ ⟨.bl _,H,I,rfl,q⟩
def UZ (hu:X.A.units+64<cLine):zS X (compareOp .NotEq) (ip X.K true):=by
 intro pins s σ H x y v u Q I rx ry h
 obtain⟨S,d,e,t,u',a1,a2,a3,a4,a5,a6,a7,q⟩:=h
 exact (fP I a3 t u' (A:=X.A) (by lia) (by lia) a4 a5 a1 a2 rx ry).2.2 X.prog X.w X.xe _ ⟨.bl _,H,I,rfl,q⟩
def iC {k:Nat}(hr:zV k X.A) (ha:PD X a ta) (hb:PD X b tb):PD X (.Compare a [.Eq] [b] pos) (yn (vj false) ta tb):=iD (bC hr.units) vj.fits vj.mo ha hb (rh _)
def uQ {k:Nat}(hr:zV k X.A) (ha:PD X a ta) (hb:PD X b tb):xo X (.Compare a [.Eq] [b] pos) (vD (yn (vj false) ta tb)):=qW (bC hr.units) vj.fits vj.mo ha hb (rh _)
def lO {k:Nat}(hr:zV k X.A) (ha:PD X a ta) (hb:PD X b tb):xo X (.Compare a [.NotEq] [b] pos) (vD (yn (vj true) ta tb)):=qW (UZ hr.units) vj.fits vj.mo ha hb (rh _)
def cL (K:Ab) (neg:Bool):R2:=λ x y H Q=>∃ S d e u ts ds,zg K H d x/\zg K H e y/\zC K H S/\Sn S u d/\yj e S=some ds/\zk S ts ds/\dep u<=60/\x8 ts<=60/\Q (.bl (cond neg (!(ts.any λ t=>eqT t u)) (ts.any λ t=>eqT t u))) H
def rD (neg:Bool):yG:=λ x y S Q=>∃ u ts ds,Sn S u x/\yj y S=some ds/\zk S ts ds/\dep u<=60/\x8 ts<=60/\Q (.bl (cond neg (!(ts.any λ t=>eqT t u)) (ts.any λ t=>eqT t u))) S
def rD.mo {neg:Bool}:y_ (rD neg):=λ _ _ _ _ _ hq ⟨u,ts,ds,a,b,c,d,e,h⟩=>⟨u,ts,ds,a,b,c,d,e,hq _ _ h⟩
def rD.fits {K:Ab}{neg:Bool}:xb K (rD neg) (cL K neg):=λ x y d e H S Q h1 h2 h3 ⟨u,ts,ds,a,b,c,c',c2,h⟩=>⟨S,d,e,u,ts,ds,h1,h2,h3,a,b,c,c',c2,h _ H (by simp only[zg]) (.refl H) h3⟩
open Classical in
def tu (its:List Value) (ts:List T) (u:T) (v:Value):Bool:=if h:∃ j,its[j]?=some v then eqT (ts.getD (Classical.choose h) .zj) u else false
def fO {pins:List (Addr×Obj)}{σ:St}{H:Hp}{s:Shared}{S:SS}(I:Inv X pins σ H s) (p:zC X.K H S) {ts:List T}{ds:List D}{xs:List V}{its:List Value}(h1:zk S ts ds) (h2:zm X.K H ds xs) (h3:Vals xs its) (u:T) {j:Nat}{v:Value}(hj:its[j]?=some v):
  tu its ts u v=eqT (ts.getD j .zj) u:=by
 have h:∃ j,its[j]?=some v:=⟨j,hj⟩
 unfold tu
 rw[dif_pos h]
 have hc:=Classical.choose_spec h
 have lt:∀ i,its[i]?=some v->i<ts.length:=λ i hi=>by
  rw[h1.length,h2.length,h3.length]
  exact (AD.mp hi).1
 obtain⟨c1,e1,s1⟩:=h1.get (lt _ hc)
 obtain⟨c2,e2,s2⟩:=h1.get (lt _ hj)
 obtain⟨x1,f1,r1⟩:=h2.get e1
 obtain⟨x2,f2,r2⟩:=h2.get e2
 obtain⟨v1,g1,q1⟩:=h3.get f1
 obtain⟨v2,g2,q2⟩:=h3.get f2
 rw[hc] at g1;cases g1
 rw[hj] at g2;cases g2
 have hx:=q1.inj q2
 subst hx
 rw[lq I p _ _ s1 s2 r1 r2]
def Yx {pins:List (Addr×Obj)}{σ:St}{H:Hp}{s:Shared}{S:SS}(I:Inv X pins σ H s) (p:zC X.K H S) {ts:List T}{ds:List D}{xs:List V}{its:List Value}(h1:zk S ts ds) (h2:zm X.K H ds xs) (h3:Vals xs its) (u:T):its.any (tu its ts u)=ts.any λ t=>eqT t u:=by
 have hl:ts.length=its.length:=by rw[h1.length,h2.length,h3.length]
 rw[BU,Bj,Bj]
 constructor
 ·rintro⟨v,hv,h⟩
  obtain⟨j,hj,rfl⟩:=Cq.mp hv
  rw[fO I p h1 h2 h3 u (j:=j) (by simp[hj])] at h
  have hj':j<ts.length:=by lia
  exact⟨ts[j],C3 hj',by simpa [hj'] using h⟩
 ·rintro⟨t,ht,h⟩
  obtain⟨j,hj,rfl⟩:=Cq.mp ht
  have hj':j<its.length:=by lia
  exact⟨its[j],C3 hj',by rw[fO I p h1 h2 h3 u (j:=j) (by simp[hj'])];simpa [hj] using h⟩
def Yy {pins:List (Addr×Obj)}{σ:St}{H:Hp}{s:Shared}{S:SS}(I:Inv X pins σ H s) (p:zC X.K H S) {ts:List T}{ds:List D}{xs:List V}{its:List Value}(h1:zk S ts ds) (h2:zm X.K H ds xs) (h3:Vals xs its) {u:T}{d:D}{x:V}{v:Value}(hu:Sn S u d) (hd:zg X.K H d x) (hx:RelV x v) {A:Around}(b1:A.units+x8 ts<cLine) (b2:A.units+dep u<cLine) {y:Value}(hy:y∈its):
  SeqAt.EqAt A s y v (tu its ts u y):=by
 obtain⟨j,hj,rfl⟩:=Cq.mp hy
 have hjt:j<ts.length:=by rw[h1.length,h2.length,h3.length];exact hj
 rw[fO I p h1 h2 h3 u (j:=j) (by simp[hj])]
 obtain⟨c1,e1,s1⟩:=h1.get hjt
 obtain⟨x1,f1,r1⟩:=h2.get e1
 obtain⟨v1,g1,q1⟩:=h3.get f1
 have:its[j]=v1:=by
  have:=AD.mp g1
  exact this.2
 rw[this]
 have:=kH hjt
 exact (fP I p _ u (A:=A) (by lia) b2 s1 hu r1 hd q1 hx).1
def Th (hu:X.A.units+64<cLine):zS X (compareOp .In) (cL X.K false):=by
 intro pins s σ H x y v w Q I rx ry h
 obtain⟨S,d,e,u,ts,ds,a1,a2,a3,a4,a5,a6,a7,a8,q⟩:=h
 obtain⟨l,xs,rfl,g1,g2⟩:=yj.sq a2 a3 a5
 cases ry
 rcases g1 with g1 | g1
 ·obtain⟨its,w1,pl,_⟩:=I.list g1
  refine SeqAt.in_listAt (tu its ts u) pl.isList (λ y hy=>Yy I a3 a6 g2 w1 a4 a1 rx (A:=X.A.in1) (by show X.A.units+1+_<_;lia) (by show X.A.units+1+_<_;lia) (by simpa using hy)) ⟨.bl _,H,I,rfl,?_⟩
  rw[show its.toArray.any (tu its ts u)=its.any (tu its ts u) by simp,Yx I a3 a6 g2 w1]
  exact q
 ·obtain⟨its,w1,pt,_⟩:=I.tuple g1
  refine SeqAt.in_tupleAt (tu its ts u) pt (λ y hy=>Yy I a3 a6 g2 w1 a4 a1 rx (A:=X.A.in1) (by show X.A.units+1+_<_;lia) (by show X.A.units+1+_<_;lia) (by simpa using hy)) ⟨.bl _,H,I,rfl,?_⟩
  rw[show its.toArray.any (tu its ts u)=its.any (tu its ts u) by simp,Yx I a3 a6 g2 w1]
  exact q
def U0 {k:Nat}(hr:zV k X.A) (ha:PD X a ta) (hb:PD X b tb) (hm:behindInMarks .In b=false:=by rfl):xo X (.Compare a [.In] [b] pos) (vD (yn (rD false) ta tb)):=qW (Th hr.units) rD.fits rD.mo ha hb hm
end
end L3
namespace L2
open PySem PySem.Spec PyProof.Rows
section
variable {κ:Type}[DecidableEq κ]
noncomputable def wb (Aa:List (κ × V)) (k:κ):Option V:=(Aa.find? λ kv=>decide (kv.1=k)).map (·.2)
noncomputable def putK (Aa:List (κ × V)) (k:κ) (v:V):List (κ × V):=
 if (Aa.any λ kv=>decide (kv.1=k))=true then Aa.map (λ kv=>if kv.1=k then (kv.1,v) else kv) else Aa++[(k,v)]
def jl {p:κ × V}{r:List (κ × V)}{k:κ}(e:p.1=k):wb (p::r) k=some p.2:=by simp[wb,Cp,e]
def jm {p:κ × V}{r:List (κ × V)}{k:κ}(e:¬ p.1=k):wb (p::r) k=wb r k:=by simp[wb,Cp,e]
theorem d7 (k:κ):∀ Aa:List (κ × V),(Aa.any λ kv=>decide (kv.1=k))=(wb Aa k).isSome
 | []=>rfl
 | p::r=>by
  rw[Bx]
  by_cases e:p.1=k
  ·simp only[jl e,zaD e,Bool.true_or,Option.isSome_some]
  ·rw[jm e,za4 e,Bool.false_or];exact d7 k r
def av (Aa:List (κ × V)) (k:κ) (v:V):(putK Aa k v).length<=Aa.length+1:=by
 unfold putK
 split
 ·rw[Au];lia
 ·rw[B2,AR,Ct];lia
def vI.Q3 {o:Option V}{u:Option Value}(r:vI o u):o.isSome=u.isSome:=by
 cases o with
 | none=>cases u with
  | none=>rfl
  | some _=>exact (show False from r).elim
 | some _=>cases u with
  | none=>exact (show False from r).elim
  | some _=>rfl
theorem vI.getD {o:Option V}{u:Option Value}{d:V}{d':Value}(r:vI o u) (rd:RelV d d'):RelV (o.getD d) (u.getD d'):=by
 cases o with
 | none=>cases u with
  | none=>exact rd
  | some _=>exact (show False from r).elim
 | some _=>cases u with
  | none=>exact (show False from r).elim
  | some _=>exact r
def KV.val {Aa:List (κ × V)}{vs:List (κ × Value)}(r:KV Aa vs) (k:κ):vI (wb Aa k) (valueAt vs k):=by
 unfold KV at r
 induction r with
 | nil=>exact True.intro
 | @cons p q ps qs h t ih=>
  obtain⟨h1,h2⟩:=h
  by_cases e:p.1=k
  ·have e':q.1=k:=h1.symm.trans e
   have b:valueAt (q::qs) k=some q.2:=by simp[valueAt,Cp,e']
   rw[jl e,b];exact h2
  ·have e':¬ q.1=k:=λ z=>e (h1.trans z)
   have b:valueAt (q::qs) k=valueAt qs k:=by simp[valueAt,Cp,e']
   rw[jm e,b];exact ih
theorem KV.any {Aa:List (κ × V)}{vs:List (κ × Value)}(r:KV Aa vs) (k:κ):(Aa.any λ kv=>decide (kv.1=k))=vs.any λ kv=>decide (kv.1=k):=by
 unfold KV at r
 induction r with
 | nil=>rfl
 | cons h t ih=>rw[Bx,Bx,ih,h.1]
def KV.uP {Aa:List (κ × V)}{vs:List (κ × Value)}(r:KV Aa vs) (k:κ) {y:V}{u:Value}(ry:RelV y u):
  KV (Aa.map λ kv=>if kv.1=k then (kv.1,y) else kv) (vs.map λ kv=>if kv.1=k then (kv.1,u) else kv):=by
 unfold KV at r ⊢
 induction r with
 | nil=>exact .nil
 | @cons p q ps qs h t ih=>
  rw[Aq,Aq]
  refine .cons ?_ ih
  obtain⟨h1,h2⟩:=h
  by_cases e:p.1=k
  ·rw[if_pos e,if_pos (h1.symm.trans e)];exact⟨h1,ry⟩
  ·rw[if_neg e,if_neg (λ z=>e (h1.trans z))];exact⟨h1,h2⟩
def KV.put {Aa:List (κ × V)}{vs:List (κ × Value)}(r:KV Aa vs) (k:κ) {y:V}{u:Value}(ry:RelV y u):KV (putK Aa k y) (stored vs k u):=by
 unfold putK stored
 rw[r.any k]
 by_cases e:(vs.any λ kv=>decide (kv.1=k))=true
 ·rw[if_pos e,if_pos e];exact r.uP k ry
 ·rw[if_neg e,if_neg e];exact Paired.snoc r ⟨rfl,ry⟩
theorem KV.length {Aa:List (κ × V)}{vs:List (κ × Value)}(r:KV Aa vs):Aa.length=vs.length:=Paired.length r
end
def kj {P:Program}{w:World}{k:Key}{u:Value}(r:RelV (kV k) u):(wB P w).is k u=true:=by
 cases k with
 | inl i=>obtain⟨t,e⟩:=(show ∃ t,u=Value.int i t from r);subst e;exact RI P w i t
 | inr x=>obtain⟨t,e⟩:=(show ∃ t,u=Value.str x t from r);subst e;exact RH P w x t
theorem aK {P:Program}{w:World}:∀ {ks:List Key}{us:List Value},Vals (ks.map kV) us->ItemsAre (wB P w) ks us
 | [],_,r=>by rw[BA] at r;cases r;exact .nil
 | k::ks,_,r=>by
  rw[Aq] at r
  cases r with
  | cons h t=>exact .cons (kj h) (aK t)
abbrev KT (H:Hp):List (List Key×V)->List (List Key×Addr×Value)->Prop:=Paired λ p q=>p.1=q.1/\H q.2.1=some (.tup (p.1.map kV))/\RelV p.2 q.2.2
def KT.val {H:Hp}{Aa:List (List Key×V)}{xs:List (List Key×Addr×Value)}(r:KT H Aa xs) (k:List Key):vI (wb Aa k) ((atKey xs k).map (·.2)):=by
 induction r with
 | nil=>exact True.intro
 | @cons p q ps qs h t ih=>
  obtain⟨h1,_,h2⟩:=h
  by_cases e:p.1=k
  ·have e':q.1=k:=h1.symm.trans e
   have b:atKey (q::qs) k=some q.2:=by simp[atKey,Cp,e']
   rw[jl e,b];exact h2
  ·have e':¬ q.1=k:=λ z=>e (h1.trans z)
   have b:atKey (q::qs) k=atKey qs k:=by simp[atKey,Cp,e']
   rw[jm e,b];exact ih
def KT.uP {H:Hp}{Aa:List (List Key×V)}{xs:List (List Key×Addr×Value)}(r:KT H Aa xs) (k:List Key) {y:V}{u:Value}(ry:RelV y u):
  KT H (Aa.map λ kv=>if kv.1=k then (kv.1,y) else kv) (xs.map (putAt k u)):=by
 induction r with
 | nil=>exact .nil
 | @cons p q ps qs h t ih=>
  rw[Aq,Aq]
  refine .cons ?_ ih
  obtain⟨h1,h2,h3⟩:=h
  unfold putAt
  by_cases e:p.1=k
  ·rw[if_pos e,if_pos (h1.symm.trans e)];exact⟨h1,h2,ry⟩
  ·rw[if_neg e,if_neg (λ z=>e (h1.trans z))];exact⟨h1,h2,h3⟩
def KT.put {H:Hp}{Aa:List (List Key×V)}{xs:List (List Key×Addr×Value)}(r:KT H Aa xs) (k:List Key) {b:Addr}{y:V}{u:Value}(hb:H b=some (.tup (k.map kV))) (ry:RelV y u):
  KT H (putK Aa k y) (storedH xs k b u):=by
 have e:(Aa.any λ kv=>decide (kv.1=k))=(atKey xs k).isSome:=by
  rw[d7,(r.val k).Q3,Option.isSome_map]
 unfold putK storedH
 rw[e]
 by_cases q:(atKey xs k).isSome=true
 ·rw[if_pos q,if_pos q];exact r.uP k ry
 ·rw[if_neg q,if_neg q];exact Paired.snoc r ⟨rfl,hb,ry⟩
def KT.keeps {H H':Hp}{Aa:List (List Key×V)}{xs:List (List Key×Addr×Value)}(r:KT H Aa xs) (ht:∀ b ys,H b=some (.tup ys)->H' b=some (.tup ys)):KT H' Aa xs:=
 Paired.kf r λ _ _ z=>⟨z.1,ht _ _ z.2.1,z.2.2⟩
section
variable {P:Program}{w:World}{H:Hp}{h:Heap}{a:Addr}
def cE {u:HO}(ok:zZ P w H h) (e:Rd H a u):yN P w H h a u:=e.ok ok
def pE {Aa:List (Key×V)}(ok:zZ P w H h) (e:Rd H a (.dK Aa)):Aa.length<=sizeLine/\(a == sysModules)=false/\∃ vs,KV Aa vs/\h.DictOf (wB P w) a vs:=
 show yN P w H h a (.dK Aa) from cE ok e
def PZ {Aa:List (Key×V)}(ok:zZ P w H h) (e:H a=some (.dK Aa)):Aa.length<=sizeLine/\(a == sysModules)=false/\∃ vs,KV Aa vs/\h.DictOf (wB P w) a vs:=pE ok (.inl e)
def ki {ks:List Key}(ok:zZ P w H h) (e:H a=some (.tup (ks.map kV))):(tupleKind (wB P w)).is h ks a:=by
 obtain⟨_,its,r,o,h1,h2,n,h3⟩:=(show yN P w H h a (.tup (ks.map kV)) from ok a _ e)
 exact⟨o,its.toArray,n,h1,h2,h3,by simpa using aK r⟩
def nU {Aa:List (List Key×V)}(ok:zZ P w H h) (e:Rd H a (.dT Aa)):Aa.length<=sizeLine/\(a == sysModules)=false/\
  ∃ xs,KT H Aa xs/\h.DictOfH (tupleKind (wB P w)) a xs:=by
 obtain⟨z,y,xs,r,o,es,ep,h1,h2,h3,h4,h5⟩:=(show yN P w H h a (.dT Aa) from cE ok e)
 refine⟨z,y,xs,r,o,es,ep,h1,h2,h3,h4,λ x hx=>?_,h5⟩
 have all:∀ {l:List (List Key×V)}{m:List (List Key×Addr×Value)},KT H l m->∀ x∈m,(tupleKind (wB P w)).is h x.1 x.2.1:=by
  intro l m q
  induction q with
  | nil=>intro x hx;exact nomatch hx
  | @cons p q ps qs hq t ih=>
   intro x hx
   rcases Ak.mp hx with e | hx
   ·subst e
    exact ki ok (by rw[<- hq.1];exact hq.2.1)
   ·exact ih x hx
 exact all r x hx
def PR {Aa:List (List Key×V)}(ok:zZ P w H h) (e:H a=some (.dT Aa)):Aa.length<=sizeLine/\(a == sysModules)=false/\
  ∃ xs,KT H Aa xs/\h.DictOfH (tupleKind (wB P w)) a xs:=nU ok (.inl e)
end
def sJ (H:Hp) (a:Addr) (y:V) (r:Option V):Prop:=
 (∃ Aa k,Rd H a (.dK Aa)/\y=kV k/\r=wb Aa k)\/∃ Aa k b,Rd H a (.dT Aa)/\y=.ref b/\H b=some (.tup (k.map kV))/\r=wb Aa k
def m_ (H:Hp) (a:Addr) (y v:V) (H':Hp):Prop:=
 (∃ Aa k,H a=some (.dK Aa)/\y=kV k/\Aa.length<sizeLine/\H'=upd H a (.dK (putK Aa k v)))\/
 ∃ Aa k b,H a=some (.dT Aa)/\y=.ref b/\H b=some (.tup (k.map kV))/\Aa.length<sizeLine/\H'=upd H a (.dT (putK Aa k v))
theorem sJ.k {H:Hp}{a:Addr}{Aa:List (Key×V)}{k:Key}(e:H a=some (.dK Aa)):sJ H a (kV k) (wb Aa k):=.inl ⟨Aa,k,.inl e,rfl,rfl⟩
theorem m_.k {H:Hp}{a:Addr}{Aa:List (Key×V)}{k:Key}{v:V}(e:H a=some (.dK Aa)) (hl:Aa.length<sizeLine):m_ H a (kV k) v (upd H a (.dK (putK Aa k v))):=.inl ⟨Aa,k,e,rfl,hl,rfl⟩
section
variable {X:Cx}{pins:List (Addr×Obj)}{σ:St}{H:Hp}{s:Shared}{a:Addr}{y v:V}{u r:Value}{o:Option V}{A:Around}{E:Value->Shared->Prop}
def Inv.big (I:Inv X pins σ H s):sysModules<s.heap.objs.size:=by
 have h:mainGlobals<s.heap.objs.size:=(I.mod.glob.keeps I.bk).lt
 exact C2 (by decide) h
def Oi {Q:Value->Shared->Prop}(hu:A.units+1<cLine) (I:Inv X pins σ H s) (g:sJ H a y (some v)) (ry:RelV y u) (h:∀ w' s',Inv X pins σ H s'->RelV v w'->Q w' s'):
  wpAny (model X.prog X.w) A (getItem (.ref a) u) Q E s:=by
 rcases g with ⟨Aa,k,e,ey,l⟩ | ⟨Aa,k,b,e,ey,eb,l⟩
 ·subst ey
  obtain⟨z,hd,vs,rel,dd⟩:=pE I.zl e
  obtain⟨w',hw,rw'⟩:=vI.some_of (v:=v) (o:=valueAt vs k) (by rw[l];exact rel.val k)
  exact wpAny_getItem_of (kj ry) dd.mapOf hw (h w' _ (I.tok _) rw')
 ·subst ey
  cases (show u=Value.ref b from ry)
  obtain⟨z,hd,xs,rel,dd⟩:=nU I.zl e
  obtain⟨w',hw,rw'⟩:=vI.some_of (v:=v) (o:=(atKey xs k).map (·.2)) (by rw[l];exact rel.val k)
  obtain⟨p,hp,QL⟩:=AA.mp hw
  refine wpAny_getItem_heap (tupleKind_room_in1 hu) (ki I.zl eb) dd hp ?_
  rw[QL]
  exact h w' _ (I.tok _) rw'
def ZN {h':Heap}{t':Nat}{ob:HO}(I:Inv X pins σ H s) (mu:mE (H a)) (hs:Heap.SameBut a s.heap h') (he:∃ q,h'.get? a=some q) (new:yN X.prog X.w (upd H a ob) h' a ob):
  Inv X pins σ (upd H a ob) { s with heap:=h',toks:=t' }:=
 I.write (x:=a) (e:=a) mu (.inl rfl) (λ b q hb z=>(hs.2 b hb).trans z) he new
def P_ {P:Program}{w:World}{H':Hp}{h':Heap}{Aa:List (Key×V)}{vs:List (Key×Value)}(z:Aa.length<=sizeLine) (hd:(a == sysModules)=false) (rel:KV Aa vs) (dd:h'.DictOf (wB P w) a vs):
  yN P w H' h' a (.dK Aa):=⟨z,hd,vs,rel,dd⟩
def Oe {H':Hp}{Q:Unit->Shared->Prop}(hu:A.units+1<cLine) (I:Inv X pins σ H s) (g:m_ H a y v H') (ry:RelV y u) (rv:RelV v r) (h:∀ s',Inv X pins σ H' s'->Q () s'):
  wpAny (model X.prog X.w) A (setItem (.ref a) u r) Q E s:=by
 rcases g with ⟨Aa,k,e,ey,l,eH⟩ | ⟨Aa,k,b,e,ey,eb,l,eH⟩
 ·subst ey eH
  obtain⟨z,hd,vs,rel,dd⟩:=PZ I.zl e
  have hz:vs.length<=sizeLine:=by rw[<- rel.length];exact z
  have hl:(putK Aa k v).length<=sizeLine:=by have:=av Aa k v;lia
  refine wpAny_setItem_pairs (hsz:=hz) (kj ry) dd λ h' dd' hs=>h _ ?_
  have he:∃ q,h'.get? a=some q:=let ⟨q,_,_,hq,_⟩:=dd';⟨q,hq⟩
  exact ZN I (by rw[e];exact True.intro) hs he (P_ hl hd (rel.put k rv) dd')
 ·subst ey eH
  cases (show u=Value.ref b from ry)
  obtain⟨z,hd,xs,rel,dd⟩:=PR I.zl e
  have hz:xs.length<=sizeLine:=by rw[<- Paired.length rel];exact z
  have hl:(putK Aa k v).length<=sizeLine:=by have:=av Aa k v;lia
  refine wpAny_setItem_heap (hsz:=hz) (tupleKind_room_in1 hu) (ki I.zl eb) dd λ h' dd' hs=>h _ ?_
  obtain⟨q,es,ep,hq,h2,h3,h4,_,h5⟩:=dd'
  refine ZN I (by rw[e];exact True.intro) hs ⟨q,hq⟩ ⟨hl,hd,_,(rel.put k eb rv).keeps λ c ys ec=>?_,q,es,ep,hq,h2,h3,h4,h5⟩
  rw[zG (vX ec e (λ z=>nomatch z))]
  exact ec
end
section
variable {X:Cx}{pins:List (Addr×Obj)}{σ:St}{H:Hp}{s:Shared}{a:Addr}{Aa:List (Key×V)}{A:Around}{E:Value->Shared->Prop}
def Oh {Q:Value->Shared->Prop}(I:Inv X pins σ H s) (e:Rd H a (.dK Aa)) (h:∀ t s',Inv X pins σ H s'->Q (.int Aa.length t) s'):wpAny (model X.prog X.w) A (call (.builtin "len") [.ref a]) Q E s:=by
 obtain⟨z,hd,vs,rel,dd⟩:=pE I.zl e
 refine call_len_dict hd dd (by rw[<- rel.length];rw[sizeLine_eq] at z;lia) ?_
 rw[<- rel.length]
 exact h _ _ (I.tok _)
end
def fZ (i:Expr):Prop:=∀ ov iv,subscripted i false ov iv=operate [ov,iv] (getItem ov iv)
def Wx {prog:Program}{w:World}{A:Around}{E:Value->Shared->Prop}{s:Shared}{env:Env}{value slice:Expr}{pos:Pos}{T id:String}{Q:Value->Shared->Prop}
  (hl:typeLookup (.type T) "__getitem__"=pure (some (.builtin id))) (hs:fZ slice)
  (h:wpAny (model prog w) A (eval value env) (λ o s₁=>wpAny (model prog w) A (eval slice env) (λ i s₂=>s₂.TypeIs o T/\wpAny (model prog w) A (getItem o i) Q E s₂) E s₁) E s):
  wpAny (model prog w) A (eval (.Subscript value slice pos) env) Q E s:=by
 refine Subscript_ (za3 h (λ o s₁ h₁=>za3 h₁ (λ i s₂ h₂=>?_) λ _ _ x=>x) λ _ _ x=>x)
 obtain⟨hT,h₂⟩:=h₂
 unfold subscriptTail
 refine za0 ?_
 rw[getitemInPython_of_ne hT.not_modules]
 refine za0 (wpAny_specialOf hT hl ?_)
 have fin:wpAny (model prog w) A (subscripted slice false o i) (λ r s₃=>wpAny (model prog w) A (letTemporaryGo value o r >>= λ _=>pure r) Q E s₃) E s₂:=by
  rw[hs o i]
  exact wpAny_operating (za3 h₂ (λ r s₃ h₃=>za0 (wpAny_letTemporaryGo (Ac h₃))) λ _ _ x=>x)
 first
  | exact Ac (za0 fin)
  | exact za0 (Ac (za0 fin))
  | exact za0 fin
def Ob {X:Cx}{pins:List (Addr×Obj)}{σ:St}{H:Hp}{s:Shared}{a:Addr}{y:V}{o:Option V}(I:Inv X pins σ H s) (g:sJ H a y o):s.TypeIs (.ref a) "dict":=by
 rcases g with ⟨Aa,k,e,_,_⟩ | ⟨Aa,k,b,e,_,_,_⟩
 ·obtain⟨_,_,vs,_,dd⟩:=pE I.zl e
  exact dd.typeIs
 ·obtain⟨_,_,xs,_,dd⟩:=nU I.zl e
  exact dd.typeIs
def Wu (td ty:TE):TE:=fun σ H Q=>td σ H λ x H1=>ty σ H1 λ y H2=>∃ a v,x=.ref a/\sJ H2 a y (some v)/\Q v H2
def Vb (td ty tv:TE):TS:=λ D σ H=>tv σ H λ v H1=>td σ H1 λ x H2=>ty σ H2 λ y H3=>∃ a H4,x=.ref a/\m_ H3 a y v H4/\D.nx σ H4
section
variable {X:Cx}{o i value:Expr}{pos pos':Pos}{td ty tv:TE}
def Uo (hu:X.A.units+1<cLine) (ho:PE X o td) (hi:PE X i ty) (hs:fZ i):PE X (.Subscript o i pos) (Wu td ty):=by
 intro pins s σ H Q I h
 refine Wx PySem.F.slot_dict_getitem.lookup hs (zw (ho pins s σ H _ I h) λ u s1 ⟨x,H1,I1,rx,q1⟩=>zw (hi pins s1 σ H1 _ I1 q1) λ iv s2 ⟨y,H2,I2,ry,a,v,ex,g,q2⟩=>?_)
 subst ex
 obtain rfl:u=Value.ref a:=rx
 exact⟨Ob I2 g,Oi hu I2 g ry λ w' s3 I3 rw'=>⟨v,H2,I3,rw',q2⟩⟩
def VD (hu:X.A.units+1<cLine) (ho:PE X o td) (hi:PE X i ty) (hv:PE X value tv) (hs:swapsWith value (some (.Subscript o i pos')) pos.line X.env=pure false):
  PS X (.Assign [.Subscript o i pos'] value pos) (Vb td ty tv):=by
 intro pins s σ H D I h
 refine wpAny_Assign_Subscript (zw (hv pins s σ H _ I h) λ r s1 ⟨v,H1,I1,rv,q1⟩=>zw (ho pins s1 σ H1 _ I1 q1) λ u s2 ⟨x,H2,I2,rx,q2⟩=>zw (hi pins s2 σ H2 _ I2 q2) λ iv s3 ⟨y,H3,I3,ry,a,H4,ex,g,q3⟩=>?_) hs
 subst ex
 obtain rfl:u=Value.ref a:=rx
 exact Oe hu I3 g ry rv λ s4 I4=>⟨σ,H4,I4,q3⟩
end
def Oa {P:Program}{w:World}{H:Hp}(h:Heap) (hb:sysModules<h.objs.size):yN P w H (h.push { cls:=.type "dict",data:=.dict #[] }) h.objs.size (.dK []):=
 ⟨AI _,beq_eq_false_iff_ne.mpr (Ne.symm (Ap hb)),[],.nil,Heap.DictOf.new h⟩
def Ws:TE:=λ _ H Q=>∀ p,H p=none->Q (.ref p) (upd H p (.dK []))
section
variable {X:Cx}{pos:Pos}
def Ul:PE X (.Dict [] [] pos) Ws:=λ pins s σ H Q I h=>
 wpAny_Dict_empty ⟨.ref s.heap.objs.size,_,I.laid (a:=s.heap.objs.size) (o:=.dK []) (t':=s.toks) (λ _ _ q=>za1 _ q) (Af _) (Oa s.heap I.big),rfl,h _ (I.zl.fresh (Af _))⟩
end
structure M2 (X:Cx) (o:Expr) (m:Str) (apos:Pos) (e f:Expr) (Ae:Pos):Prop where
 base:attributeBase o m X.env (eval o X.env)=eval o X.env
 nM:((backTo Ae (starEach [e,f] X.env)).all (λ x=>!x.1)&&(backToKw Ae (keywordEach [] X.env)).all (λ x=>x.1.isSome)
  && decide (([e,f]:List Expr).length+([]:List Keyword).length+(if ([]:List Keyword).isEmpty then 0 else 1)<30))=true
 line:(apos.endLine == Ae.line)=true
 trees:backTo Ae (starEach [e,f] X.env)=[(false,eval e X.env),(false,eval f X.env)]
def YC (H:Hp) (a:Addr):Prop:=(∃ Aa,Rd H a (.dK Aa))\/∃ Aa,Rd H a (.dT Aa)
def Q8 {X:Cx}{pins:List (Addr×Obj)}{σ:St}{H:Hp}{s:Shared}{a:Addr}(I:Inv X pins σ H s) (d:YC H a):
  s.TypeIs (.ref a) "dict"/\(∀ b,Value.ref a=.ref b->∃ ob,s.heap.get? b=some ob/\ob.dict=none)/\(a == sysModules)=false:=by
 rcases d with ⟨Aa,e⟩ | ⟨Aa,e⟩
 ·obtain⟨_,hd,vs,_,dd⟩:=pE I.zl e
  refine⟨dd.typeIs,λ b q=>?_,hd⟩
  cases q
  obtain⟨ob,_,_,h1,h2,_⟩:=dd
  exact⟨ob,h1,h2.2.1⟩
 ·obtain⟨_,hd,xs,_,dd⟩:=nU I.zl e
  refine⟨dd.typeIs,λ b q=>?_,hd⟩
  cases q
  obtain⟨ob,_,_,h1,h2,_⟩:=dd
  exact⟨ob,h1,h2.2.1⟩
section
variable {X:Cx}{pins:List (Addr×Obj)}{σ:St}{H:Hp}{s:Shared}{a:Addr}{y d:V}{u r:Value}{o:Option V}{A:Around}{E:Value->Shared->Prop}
def Oj {Q:Value->Shared->Prop}(hu:A.units+1<cLine) (I:Inv X pins σ H s) (g:sJ H a y o) (ry:RelV y u) (rd:RelV d r) (h:∀ w' s',Inv X pins σ H s'->RelV (o.getD d) w'->Q w' s'):
  wpAny (model X.prog X.w) A (call (.builtin "dict.get") [.ref a,u,r]) Q E s:=by
 rcases g with ⟨Aa,k,e,ey,l⟩ | ⟨Aa,k,b,e,ey,eb,l⟩
 ·subst ey
  obtain⟨z,hd,vs,rel,dd⟩:=pE I.zl e
  refine call_meetsIn PySem.F.slot_dict_get dd.typeIs PySem.F.entry_dict_get (PySem.F.args_dict_get_3 _ _ _) (meets_dict_get_default (wB X.prog X.w) a (kj ry) hd r) ⟨_,dd.mapOf,h _ _ (I.tok _) ?_⟩
  rw[l]
  exact (rel.val k).getD rd
 ·subst ey
  cases (show u=Value.ref b from ry)
  obtain⟨z,hd,xs,rel,dd⟩:=nU I.zl e
  refine call_meetsIn PySem.F.slot_dict_get dd.typeIs PySem.F.entry_dict_get (PySem.F.args_dict_get_3 _ _ _) (meetsH_dict_get_default (tupleKind (wB X.prog X.w)) a b hd r) ⟨tupleKind_room_in1 hu,k,xs,ki I.zl eb,dd,h _ _ (I.tok _) ?_⟩
  rw[l]
  exact (rel.val k).getD rd
end
def Wt (td ty tx:TE):TE:=fun σ H Q=>td σ H λ x H1=>∃ a,x=.ref a/\YC H1 a/\ty σ H1 λ y H2=>tx σ H2 λ z H3=>∃ o,sJ H3 a y o/\Q (o.getD z) H3
section
variable {X:Cx}{o e f:Expr}{apos Ae:Pos}{td ty tx:TE}
def Um (hu:X.A.units+1<cLine) (ho:PE X o td) (he:PE X e ty) (hf:PE X f tx) (m:M2 X o "get" apos e f Ae):PE X (.Call (.Attribute o "get" apos) [e,f] [] Ae) (Wt td ty tx):=by
 intro pins s σ H Q I h
 refine wpAny_Call_method m.base m.nM m.line PySem.F.plainAttrs_dict PySem.F.slot_dict_get PySem.F.type_dict_get (zw (ho pins s σ H _ I h) λ u s1 ⟨x,H1,I1,rx,a,ex,d,q1⟩=>?_)
 subst ex
 obtain rfl:u=Value.ref a:=rx
 obtain⟨t1,t2,_⟩:=Q8 I1 d
 refine⟨t1,t2,?_⟩
 rw[m.trees]
 refine Calls.callWith_builtin rfl (Calls.evalArgs_plain (Calls.spliced_cons (zw (he pins s1 σ H1 _ I1 q1) λ iv s2 ⟨y,H2,I2,ry,q2⟩=>
  Calls.spliced_cons (zw (hf pins s2 σ H2 _ I2 q2) λ fv s3 ⟨z,H3,I3,rz,ov,g,q3⟩=>Calls.spliced_nil ?_))))
 exact Oj hu I3 g ry rz λ w' s4 I4 rw'=>⟨_,H3,I4,rw',q3⟩
end
end L2
namespace L3
open PySem PySem.Spec L2
open PyProof.Rows hiding St
noncomputable def vN (Aa:List (Key×D)) (k:Key):Option D:=(Aa.find? λ kv=>decide (kv.1=k)).map (·.2)
noncomputable def putD (Aa:List (Key×D)) (k:Key) (v:D):List (Key×D):=
 if (Aa.any λ kv=>decide (kv.1=k))=true then Aa.map (λ kv=>if kv.1=k then (kv.1,v) else kv) else Aa++[(k,v)]
section
variable {K:Ab}{H:Hp}
theorem yM.val:∀ {Aa:List (Key×D)}{vs:List (Key×V)},yM K H Aa vs->∀ k,(vN Aa k=none/\wb vs k=none)\/∃ d v,vN Aa k=some d/\wb vs k=some v/\zg K H d v
 | _,_,.nil,k=>.inl ⟨rfl,rfl⟩
 | (a,d)::Aa,(b,v)::vs,.cons ⟨e,r⟩ t,k=>by
  have e':a=b:=e
  subst e'
  by_cases h:a=k
  ·subst h
   exact .inr ⟨d,v,by simp[vN],by simp[wb],r⟩
  ·rcases yM.val t k with ⟨h1,h2⟩ | ⟨d',v',h1,h2,h3⟩
   ·exact .inl ⟨by simpa [vN,h] using h1,by simpa [wb,h] using h2⟩
   ·exact .inr ⟨d',v',by simpa [vN,h] using h1,by simpa [wb,h] using h2,h3⟩
theorem yM.any {Aa:List (Key×D)}{vs:List (Key×V)}(h:yM K H Aa vs) (k:Key):(Aa.any λ kv=>decide (kv.1=k))=vs.any λ kv=>decide (kv.1=k):=by
 induction h with
 | nil=>rfl
 | cons r _ ih=>rw[Bx,Bx,ih,r.1]
def yM.len {Aa:List (Key×D)}{vs:List (Key×V)}(h:yM K H Aa vs):Aa.length=vs.length:=Paired.length h
theorem yM.uP {k:Key}{d:D}{v:V}(r:zg K H d v):∀ {Aa:List (Key×D)}{vs:List (Key×V)},yM K H Aa vs->yM K H (Aa.map λ kv=>if kv.1=k then (kv.1,d) else kv) (vs.map λ kv=>if kv.1=k then (kv.1,v) else kv)
 | _,_,.nil=>.nil
 | (a1,a2)::_,(b1,b2)::_,.cons ⟨e,q⟩ t=>by
  have e':a1=b1:=e
  subst e'
  refine .cons ?_ (yM.uP r t)
  by_cases hk:a1=k
  ·simp[hk,r]
  ·simpa [hk] using q
theorem yM.snoc {k:Key}{d:D}{v:V}(r:zg K H d v):∀ {Aa:List (Key×D)}{vs:List (Key×V)},yM K H Aa vs->yM K H (Aa++[(k,d)]) (vs++[(k,v)])
 | _,_,.nil=>.cons ⟨rfl,r⟩ .nil
 | _,_,.cons q t=>.cons q (yM.snoc r t)
def yM.put {Aa:List (Key×D)}{vs:List (Key×V)}(h:yM K H Aa vs) (k:Key) {d:D}{v:V}(r:zg K H d v):yM K H (putD Aa k d) (putK vs k v):=by
 unfold putD putK
 rw[h.any k]
 split
 ·exact yM.uP r h
 ·exact yM.snoc r h
end
section
variable {X:Cx}{o i e f v:Expr}{td ty tx tv:zp}{pos pos' apos Ae:Pos}
def ZX:zp:=λ _ S Q=>∀ p,S p=none->Q (.ref p) (ups S p (.zI []))
def UM:PD X (.Dict [] [] pos) ZX:=by
 refine⟨λ _ _ _ _ hq z p hp=>hq _ _ (z p hp),PE.imp Ul fun σ H Q hu p hp=>?_⟩
 obtain⟨Y,S,r1,r2,z⟩:=hu
 exact z p (r2.none hp) _ _ (by simp only[zg]) (.new hp _) (r2.ups (.new hp _) ⟨[],yd,.nil⟩)
def Z_ (td ty:zp):zp:=fun Y S Q=>td Y S λ x S1=>ty Y S1 λ y S2=>∃ p Aa k d,x=.ref p/\y=.int k/\S2 p=some (.zI Aa)/\vN Aa (.inl k)=some d/\Q d S2
def b6 {k:Nat}(hr:zV k X.A) (ho:PD X o td) (hi:PD X i ty) (hs:fZ i:=by exact λ _ _=>rfl):PD X (.Subscript o i pos) (Z_ td ty):=by
 refine⟨fun Y S Q Q' hq z=>ho.mo Y S _ _ (λ x S1 z=>hi.mo Y S1 _ _ (λ y S2 ⟨p,Aa,k,d,a,b,c,e,h⟩=>⟨p,Aa,k,d,a,b,c,e,hq _ _ h⟩) z) z,PE.imp (Uo (gu hr) ho.pe hi.pe hs) fun σ H Q hu=>?_⟩
 obtain⟨Y,S,r1,r2,z⟩:=hu
 refine zJ.go ho.mo r1 r2 z λ x S1 w H1 h1 q1 e1 p1=>?_
 refine zJ.go hi.mo (r1.ext e1) p1 h1 λ y S2 w2 H2 h2 q2 e2 p2=>?_
 obtain⟨p,Aa,k,d,rfl,rfl,c1,c2,h⟩:=h2
 simp only[zg] at q1 q2
 subst q1 q2
 obtain⟨vs,g1,g2⟩:=p2 _ _ c1
 rcases yM.val g2 (.inl k) with ⟨n1,_⟩ | ⟨d',v',n1,n2,n3⟩
 ·rw[c2] at n1;cases n1
 ·rw[c2] at n1;cases n1
  exact⟨p,v',rfl,n2▸sJ.k (k:=Sum.inl k) g1,h v' H2 n3 (e1.trans e2) p2⟩
def ZZ (td ty tx:zp):zp:=fun Y S Q=>td Y S λ x S1=>∃ p,x=.ref p/\(∃ Aa,S1 p=some (.zI Aa))/\ty Y S1 λ y S2=>tx Y S2 λ z S3=>∃ k Aa,y=.int k/\S3 p=some (.zI Aa)/\Q ((vN Aa (.inl k)).getD z) S3
def UN {k:Nat}(hr:zV k X.A) (ho:PD X o td) (he:PD X e ty) (hf:PD X f tx) (m:M2 X o "get" apos e f Ae:=by exact⟨rfl,rfl,rfl,rfl⟩):PD X (.Call (.Attribute o "get" apos) [e,f] [] Ae) (ZZ td ty tx):=by
 refine⟨fun Y S Q Q' hq z=>ho.mo Y S _ _ (λ x S1 ⟨p,a,b,z⟩=>⟨p,a,b,he.mo Y S1 _ _ (λ y S2 z=>hf.mo Y S2 _ _ (λ w S3 ⟨k,Aa,a,b,h⟩=>⟨k,Aa,a,b,hq _ _ h⟩) z) z⟩) z,PE.imp (Um (gu hr) ho.pe he.pe hf.pe m) fun σ H Q hu=>?_⟩
 obtain⟨Y,S,r1,r2,z⟩:=hu
 refine zJ.go ho.mo r1 r2 z λ x S1 w H1 h1 q1 e1 p1=>?_
 obtain⟨p,rfl,⟨kvs0,c0⟩,h1⟩:=h1
 simp only[zg] at q1
 subst q1
 obtain⟨vs0,g0,_⟩:=p1 _ _ c0
 refine⟨p,rfl,.inl ⟨vs0,.inl g0⟩,?_⟩
 refine zJ.go he.mo (r1.ext e1) p1 h1 λ y S2 w2 H2 h2 q2 e2 p2=>?_
 refine zJ.go hf.mo ((r1.ext e1).ext e2) p2 h2 λ y3 S3 w3 H3 h3 q3 e3 p3=>?_
 obtain⟨k,Aa,rfl,c1,h⟩:=h3
 simp only[zg] at q2
 subst q2
 obtain⟨vs,g1,g2⟩:=p3 _ _ c1
 refine⟨wb vs (.inl k),sJ.k (k:=Sum.inl k) g1,?_⟩
 rcases yM.val g2 (.inl k) with ⟨n1,n2⟩ | ⟨d',v',n1,n2,n3⟩
 ·rw[n1] at h;rw[n2]
  exact h _ H3 q3 ((e1.trans e2).trans e3) p3
 ·rw[n1] at h;rw[n2]
  exact h _ H3 n3 ((e1.trans e2).trans e3) p3
def ZY (td ty tv:zp):yg:=λ E Y S=>tv Y S λ v S1=>td Y S1 λ x S2=>ty Y S2 λ y S3=>∃ p Aa k,x=.ref p/\y=.int k/\S3 p=some (.zI Aa)/\Aa.length<sizeLine/\E.nx Y (ups S3 p (.zI (putD Aa (.inl k) v)))
theorem Ext.dK {H:Hp}{p:Addr}{Aa:List (Key×V)}(h:H p=some (.dK Aa)) (o:HO):Ext H (upd H p o):=
 ⟨λ b ys q=>by rw[zG (vX q h (by intro z;cases z))];exact q,λ b ob u q=>by rw[zG (vX q h (by intro z;cases z))];exact q,λ b u q=>by rw[zG (vX q h (by intro z;cases z))];exact q,λ b u q=>by rw[zG (vX q h (by intro z;cases z))];exact q⟩
def U6 {k:Nat}(hr:zV k X.A) (ho:PD X o td) (hi:PD X i ty) (hv:PD X v tv) (hs:swapsWith v (some (.Subscript o i pos')) pos.line X.env=pure false:=by rfl):vm X (.Assign [.Subscript o i pos'] v pos) (ZY td ty tv):=by
 refine⟨λ E E' Y S hE z=>hv.mo Y S _ _ (λ w S1 z=>ho.mo Y S1 _ _ (λ x S2 z=>hi.mo Y S2 _ _ (λ y S3 ⟨p,Aa,k,a,b,c,d,h⟩=>⟨p,Aa,k,a,b,c,d,hE.nx _ _ h⟩) z) z) z,PS.imp (VD (gu hr) ho.pe hi.pe hv.pe hs) λ D σ H hu=>?_⟩
 obtain⟨Y,S,r1,r2,z⟩:=hu
 refine zJ.go hv.mo r1 r2 z λ w S1 w1 H1 h1 q1 e1 p1=>?_
 refine zJ.go ho.mo (r1.ext e1) p1 h1 λ x S2 w2 H2 h2 q2 e2 p2=>?_
 refine zJ.go hi.mo ((r1.ext e1).ext e2) p2 h2 λ y S3 w3 H3 h3 q3 e3 p3=>?_
 obtain⟨p,Aa,k,rfl,rfl,c1,c2,h⟩:=h3
 simp only[zg] at q2 q3
 subst q2 q3
 obtain⟨vs,g1,g2⟩:=p3 _ _ c1
 have e4:Ext H3 (upd H3 p (.dK (putK vs (.inl k) w1))):=.dK g1 _
 refine⟨p,_,rfl,m_.k (k:=Sum.inl k) g1 (by rw[<- g2.len];exact c2),?_⟩
 exact h σ _ ((((r1.ext e1).ext e2).ext e3).ext e4) (((e1.trans e2).trans e3).trans e4) (p3.ups e4 ⟨_,yd,(yM.put g2 _ (zg.ext (e2.trans e3) w q1)).ext e4⟩)
def OI:yB X (.builtin "len") (λ xs H Q=>∃ p Aa,xs=[.ref p]/\H p=some (.dK Aa)/\Q (.int Aa.length) H):=by
 intro pins s σ H xs us Q I r h
 obtain⟨p,Aa,rfl,e,q⟩:=h
 obtain⟨u,rfl,ru⟩:=vals1 r
 cases ru
 exact Oh I (.inl e) λ t s' I'=>⟨.int _,H,I',⟨_,rfl⟩,q⟩
def Zz:xB:=λ ds S Q=>∃ p Aa,ds=[.ref p]/\S p=some (.zI Aa)/\Q (.int Aa.length) S
def UL {es:List Expr}{tA:zY}{p:Pos}(hm:X.mg "len"=none) (ha:xh X (e::es) tA) (hg:Gl X "len":=by rfl) (he:starEach (e::es) X.env=(false,eval e X.env)::starEach es X.env:=by rfl) (Ah:(backTo pos (starEach es X.env)).any (·.1)=false:=by rfl):PD X (.Call (.Name "len" p) (e::es) [] pos) (xG Zz tA):=
 sZ (tQ OI hg hm PySem.boot_len ha.pa (by decide) (by decide) he Ah) (λ _ _ _ _ hq ⟨p,Aa,a,b,h⟩=>⟨p,Aa,a,b,hq _ _ h⟩) (λ xs ds H S Q h0 h2 ⟨p,Aa,a,b,h⟩=>by
  subst a
  obtain⟨x,rfl,h1⟩:=h0.one
  simp only[zg] at h1
  subst h1
  obtain⟨vs,g1,g2⟩:=h2 _ _ b
  refine⟨p,vs,rfl,g1,?_⟩
  rw[<- g2.len]
  exact h _ H (by simp only[zg]) (.refl H) h2) ha.mo
end
end L3
namespace L3
open PySem L2
section
variable {S S':SS}
mutual
theorem Sn.sx (h:Sx S S'):∀ (t:T) {d:D},Sn S t d->Sn S' t d
 | .zj,d,q=>by simpa only [Sn] using q
 | .bl b,d,q=>by simpa only [Sn] using q
 | .int i,d,q=>by simpa only [Sn] using q
 | .str x,d,q=>by simpa only [Sn] using q
 | .tup ts,d,q=>by
  simp only[Sn] at q ⊢
  obtain⟨ds,q1,q2⟩:=q
  exact⟨ds,q1,zk.sx h ts q2⟩
 | .lst ts,d,q=>by
  simp only[Sn] at q ⊢
  obtain⟨ds,q1,q2⟩:=q
  refine⟨ds,?_,zk.sx h ts q2⟩
  rcases q1 with q1 | ⟨a,q1,q3⟩
  ·exact .inl q1
  ·exact .inr ⟨a,q1,h _ _ q3⟩
 | .err _ _ t,d,q=>by
  simp only[Sn] at q ⊢
  obtain⟨x,q1,q2⟩:=q
  exact⟨x,q1,Sn.sx h t q2⟩
 | .yE,d,q=>by
  simp only[Sn] at q ⊢
  obtain⟨a,Aa,q1,q2⟩:=q
  exact⟨a,Aa,q1,h _ _ q2⟩
theorem zk.sx (h:Sx S S'):∀ (ts:List T) {ds:List D},zk S ts ds->zk S' ts ds
 | [],ds,q=>by simpa only [zk] using q
 | t::ts,ds,q=>by
  simp only[zk] at q ⊢
  obtain⟨c,cs,q1,q2,q3⟩:=q
  exact⟨c,cs,q1,Sn.sx h t q2,zk.sx h ts q3⟩
end
def zk.nil:zk S [] []:=by simp only[zk]
def zk.cons {t:T}{ts:List T}{d:D}{ds:List D}(h:Sn S t d) (h':zk S ts ds):zk S (t::ts) (d::ds):=by
 simp only[zk];exact⟨d,ds,rfl,h,h'⟩
theorem zk.append:∀ {ts us:List T}{ds es:List D},zk S ts ds->zk S us es->zk S (ts++us) (ds++es)
 | [],us,ds,es,h,h'=>by simp only[zk] at h;subst h;simpa using h'
 | t::ts,us,ds,es,h,h'=>by
  simp only[zk] at h
  obtain⟨c,cs,rfl,h1,h2⟩:=h
  exact zk.cons h1 (zk.append h2 h')
theorem zk.gH:∀ {ts:List T}{ds:List D}{i:Nat}{t:T},zk S ts ds->ts[i]?=some t->∃ d,ds[i]?=some d/\Sn S t d
 | [],_,i,t,_,e=>by simp at e
 | u::ts,ds,i,t,h,e=>by
  simp only[zk] at h
  obtain⟨c,cs,rfl,h1,h2⟩:=h
  cases i with
  | zero=>simp at e;subst e;exact⟨c,rfl,h1⟩
  | succ i=>
   obtain⟨y,e1,e2⟩:=zk.gH (i:=i) h2 (by simpa using e)
   exact⟨y,by simpa using e1,e2⟩
theorem zk.gJ:∀ {ts:List T}{ds:List D}{i:Nat}{d:D},zk S ts ds->ds[i]?=some d->∃ t,ts[i]?=some t/\Sn S t d
 | [],ds,i,t,h,e=>by simp only[zk] at h;subst h;simp at e
 | u::ts,ds,i,t,h,e=>by
  simp only[zk] at h
  obtain⟨c,cs,rfl,h1,h2⟩:=h
  cases i with
  | zero=>simp at e;subst e;exact⟨u,rfl,h1⟩
  | succ i=>
   obtain⟨y,e1,e2⟩:=zk.gJ (i:=i) h2 (by simpa using e)
   exact⟨y,by simpa using e1,e2⟩
def zk.len {ts:List T}{ds:List D}(h:zk S ts ds):ds.length=ts.length:=(L3.zk.length h).symm
theorem zk.at {ts:List T}{ds:List D}{i:Int}{t:T}(h:zk S ts ds) (e:L2.zQ ts i=some t):∃ d,L2.zQ ds i=some d/\Sn S t d:=by
 unfold L2.zQ at e ⊢
 rw[h.len]
 cases q:L2.wQ ts.length i with
 | none=>rw[q] at e;cases e
 | some j=>
  rw[q] at e
  exact h.gH e
theorem zk.cq:∀ {ts:List T}{ds:List D}{t:T}{d:D}(i:Nat),zk S ts ds->Sn S t d->zk S (ts.set i t) (ds.set i d)
 | [],ds,t,d,i,h,_=>by simp only[zk] at h;subst h;simpa using zk.nil
 | u::ts,ds,t,d,0,h,hd=>by
  simp only[zk] at h
  obtain⟨c,cs,rfl,h1,h2⟩:=h
  exact zk.cons hd h2
 | u::ts,ds,t,d,i+1,h,hd=>by
  simp only[zk] at h
  obtain⟨c,cs,rfl,h1,h2⟩:=h
  exact zk.cons h1 (zk.cq i h2 hd)
def zk.empty {ts:List T}{ds:List D}(h:zk S ts ds):ds.isEmpty=ts.isEmpty:=by
 have:=h.len
 cases ds <;> cases ts <;> simp_all
end
end L3
namespace L5
open PySem L2 L3
noncomputable def zK (S:SS) (Z:Addr->Prop):SS:=open Classical in λ a=>if Z a then none else S a
section
variable {S S':SS}{Z Z':Addr->Prop}{a p:Addr}
def v_ (h:¬ Z a):zK S Z a=S a:=if_neg h
def gw (h:Z a):zK S Z a=none:=if_pos h
def uY {o:O}(h:zK S Z a=some o):¬ Z a/\S a=some o:=by
 by_cases z:Z a
 ·rw[gw z] at h;cases h
 ·rw[v_ z] at h;exact⟨z,h⟩
def ku (S:SS) (Z:Addr->Prop):Sx (zK S Z) S:=λ _ _ h=>(uY h).2
def wD (h:Sx S S'):Sx (zK S Z) (zK S' Z):=λ b o q=>by
 obtain⟨q1,q2⟩:=uY q
 rw[v_ q1];exact h _ _ q2
def uc (h:∀ a,Z' a->Z a):Sx (zK S Z) (zK S Z'):=λ b o q=>by
 obtain⟨q1,q2⟩:=uY q
 rw[v_ (λ z=>q1 (h _ z))];exact q2
def pB (h:Sx S S') (hp:S p=none):Sx (zK S Z) (zK S' λ a=>Z a\/a=p):=λ b o q=>by
 obtain⟨q1,q2⟩:=uY q
 rw[v_]
 ·exact h _ _ q2
 ·rintro (z | z)
  ·exact q1 z
  ·subst z;rw[hp] at q2;cases q2
def QM {o:O}(h:Z p):zK (ups S p o) Z=zK S Z:=by
 funext b
 by_cases z:Z b
 ·rw[gw z,gw z]
 ·rw[v_ z,v_ z,tG (λ e=>z (by rw[e];exact h))]
end
inductive C where
 | lst (ts:List T) | zI (Aa:List (Key×T))
noncomputable def yx (S:SS):List (Key×T)->List (Key×D)->Prop
 | [],l=>l=[]
 | (k,t)::r,l=>∃ d m,l=(k,d)::m/\Sn S t d/\yx S r m
theorem yx.sx {S S':SS}(h:Sx S S'):∀ {a:List (Key×T)}{b:List (Key×D)},yx S a b->yx S' a b
 | [],_,q=>q
 | (k,t)::r,_,q=>by
  obtain⟨d,m,q1,q2,q3⟩:=q
  exact⟨d,m,q1,Sn.sx h t q2,yx.sx h q3⟩
noncomputable def t7 (S:SS):C->O->Prop
 | .lst ts,.lst ds=>zk S ts ds
 | .zI a,.zI b=>yx S a b
 | _,_=>False
theorem t7.sx {S S':SS}(h:Sx S S'):∀ {c:C}{o:O},t7 S c o->t7 S' c o
 | .lst ts,.lst ds,q=>zk.sx h ts q
 | .zI a,.zI b,q=>yx.sx h q
inductive W where
 | im (t:T) | own (c:C)
abbrev Ev:=List (Option W)
structure ER (S:SS) (Z:Addr->Prop) (Y:zU) (J:Ev):Prop where
 zd:∀ a,Z a->S a≠none
 im:∀ (i:Nat) t,J[i]?=some (some (.im t))->∃ d,Y[i]?=some (some d)/\Sn (zK S Z) t d
 ow:∀ (i:Nat) c,J[i]?=some (some (.own c))->∃ p o,Y[i]?=some (some (.ref p))/\S p=some o/\t7 (zK S Z) c o/\Z p
def Vw (S:SS) (Z:Addr->Prop) (y:T) (d:D):Prop:=Sn (zK S Z) y d\/∃ ts p ds,y=.lst ts/\d=.ref p/\S p=some (.lst ds)/\zk (zK S Z) ts ds/\Z p
abbrev Rk:=SS->SS->(Addr->Prop)->T->D->Prop
def Y2:Rk:=λ _ S' Z y d=>Vw S' Z y d
def xJ:Rk:=λ _ S' Z y d=>Sn (zK S' Z) y d
def zE:Rk:=λ S S' Z y d=>Sn (zK S' Z) y d/\∀ ts,y=.lst ts->∃ p ds,d=.ref p/\S p=none/\S' p=some (.lst ds)/\zk (zK S' λ a=>Z a\/a=p) ts ds
class Cl (R:Rk):Prop where
 cl:∀ {S S1 S':SS}{Z:Addr->Prop}{y:T}{d:D},Sx S S1->R S1 S' Z y d->R S S' Z y d
 of:∀ {S S':SS}{Z:Addr->Prop}{y:T}{d:D},(∀ ts,y≠.lst ts)->Sn (zK S' Z) y d->R S S' Z y d
instance:Cl Y2:=⟨λ _ h=>h,λ _ h=>.inl h⟩
instance:Cl xJ:=⟨λ _ h=>h,λ _ h=>h⟩
instance:Cl zE:=⟨λ s h=>⟨h.1,λ ts e=>by
 obtain⟨p,ds,h1,h2,h3⟩:=h.2 ts e
 exact⟨p,ds,h1,s.none h2,h3⟩⟩,λ n h=>⟨h,λ ts e=>absurd e (n ts)⟩⟩
section
variable {S S':SS}{Z:Addr->Prop}{Y:zU}{J:Ev}{y:T}{d:D}
def ER.grow (h:ER S Z Y J) (s:Sx S S'):ER S' Z Y J:=
 ⟨λ a z q=>h.zd a z (s.none q),λ i t e=>by
  obtain⟨d,h1,h2⟩:=h.im i t e
  exact⟨d,h1,Sn.sx (wD s) t h2⟩,λ i ts e=>by
  obtain⟨p,ds,h1,h2,h3,h4⟩:=h.ow i ts e
  exact⟨p,ds,h1,s _ _ h2,t7.sx (wD s) h3,h4⟩⟩
def Vw.grow (h:Vw S Z y d) (s:Sx S S'):Vw S' Z y d:=by
 rcases h with h | ⟨ts,p,ds,h1,h2,h3,h4,h5⟩
 ·exact .inl (Sn.sx (wD s) y h)
 ·exact .inr ⟨ts,p,ds,h1,h2,s _ _ h3,zk.sx (wD s) ts h4,h5⟩
def Vw.sn (h:Vw S Z y d):Sn S y d:=by
 rcases h with h | ⟨ts,p,ds,rfl,rfl,h3,h4,_⟩
 ·exact Sn.sx (ku S Z) y h
 ·simp only[Sn]
  exact⟨ds,.inr ⟨p,rfl,h3⟩,zk.sx (ku S Z) ts h4⟩
theorem Vw.zj (h:Vw S Z .zj d):d=.zj:=by
 rcases h with h | ⟨_,_,_,h,_⟩
 ·simpa only [Sn] using h
 ·cases h
theorem Vw.bl {b:Bool}(h:Vw S Z (.bl b) d):d=.bl b:=by
 rcases h with h | ⟨_,_,_,h,_⟩
 ·simpa only [Sn] using h
 ·cases h
theorem Vw.int {b:Int}(h:Vw S Z (.int b) d):d=.int b:=by
 rcases h with h | ⟨_,_,_,h,_⟩
 ·simpa only [Sn] using h
 ·cases h
theorem Vw.str {b:Str}(h:Vw S Z (.str b) d):d=.str b:=by
 rcases h with h | ⟨_,_,_,h,_⟩
 ·simpa only [Sn] using h
 ·cases h
theorem Vw.tup {ts:List T}(h:Vw S Z (.tup ts) d):∃ ds,d=.tup ds/\zk (zK S Z) ts ds:=by
 rcases h with h | ⟨_,_,_,h,_⟩
 ·simpa only [Sn] using h
 ·cases h
theorem Vw.lst {ts:List T}(h:Vw S Z (.lst ts) d):∃ ds,(d=.xD ds\/∃ a,d=.ref a/\S a=some (.lst ds))/\zk (zK S Z) ts ds:=by
 rcases h with h | ⟨us,p,ds,h1,h2,h3,h4,_⟩
 ·simp only[Sn] at h
  obtain⟨ds,h1,h2⟩:=h
  refine⟨ds,?_,h2⟩
  rcases h1 with h1 | ⟨a,h1,h3⟩
  ·exact .inl h1.1
  ·exact .inr ⟨a,h1,(uY h3).2⟩
 ·cases h1
  exact⟨ds,.inr ⟨p,h2,h3⟩,h4⟩
noncomputable def wK:T->Option (List T)
 | .tup ts=>some ts
 | .lst ts=>some ts
 | _=>none
@[simp] theorem zab (ts:List T):wK (.tup ts)=some ts:=rfl
@[simp] theorem zac (ts:List T):wK (.lst ts)=some ts:=rfl
def Vw.seq {ts:List T}(h:Vw S Z y d) (e:wK y=some ts):∃ ds,yj d S=some ds/\zk (zK S Z) ts ds:=by
 cases y with
 | tup us=>cases e;obtain⟨ds,rfl,h2⟩:=h.tup;exact⟨ds,rfl,h2⟩
 | lst us=>
  cases e
  obtain⟨ds,h1 | ⟨a,rfl,h1⟩,h2⟩:=h.lst
  ·subst h1;exact⟨ds,rfl,h2⟩
  ·exact⟨ds,by unfold yj;dsimp only;rw[h1],h2⟩
 | _=>cases e
theorem Vw.yE (h:Vw S Z .yE d):∃ a Aa,(d=.ref a/\Aa=[])/\S a=some (.zI Aa):=by
 rcases h with h | ⟨_,_,_,h,_⟩
 ·simp only[Sn] at h
  obtain⟨a,Aa,h1,h2⟩:=h
  exact⟨a,Aa,h1,(uY h2).2⟩
 ·cases h
def cg:Sn S .zj .zj:=by simp only[Sn]
def vb {b:Bool}:Sn S (.bl b) (.bl b):=by simp only[Sn]
def wx {i:Int}:Sn S (.int i) (.int i):=by simp only[Sn]
def cf {x:Str}:Sn S (.str x) (.str x):=by simp only[Sn]
def o7 {ts:List T}{ds:List D}(h:zk S ts ds):Sn S (.tup ts) (.tup ds):=by simp only[Sn];exact⟨ds,rfl,h⟩
def sU {ts:List T}{ds:List D}{p:Addr}(hz:∀ a,Z a->S a≠none) (hp:S p=none) (h:zk (zK S Z) ts ds):zE S (ups S p (.lst ds)) Z (.lst ts) (.ref p):=by
 have nz:¬ Z p:=λ z=>hz p z hp
 have s:Sx S (ups S p (.lst ds)):=.new hp _
 refine⟨?_,λ us e=>?_⟩
 ·simp only[Sn]
  exact⟨ds,.inr ⟨p,rfl,by rw[v_ nz,sO]⟩,zk.sx (wD s) ts h⟩
 ·cases e
  exact⟨p,ds,rfl,hp,sO,zk.sx (pB s hp) ts h⟩
end
def yY (R:Rk) (f:Ev->Option T) (t:zp):Prop:=∀ S Z Y J y Q,ER S Z Y J->f J=some y->(∀ d S',Sx S S'->R S S' Z y d->Q d S')->t Y S Q
abbrev wH:=yY xJ
abbrev yr:=yY Y2
abbrev xi:=yY zE
def yY.imp {R R':Rk}{f:Ev->Option T}{t:zp}(h:yY R f t) (i:∀ S S' Z y d,R S S' Z y d->R' S S' Z y d):yY R' f t:=λ S Z Y J y Q hE e hq=>h S Z Y J y Q hE e λ d S' s r=>hq d S' s (i _ _ _ _ _ r)
def yY.er {f:Ev->Option T}{t:zp}(h:wH f t):yr f t:=h.imp λ _ _ _ _ _ r=>.inl r
def yY.fe {f:Ev->Option T}{t:zp}(h:xi f t):wH f t:=h.imp λ _ _ _ _ _ r=>r.1
def yY.fr {f:Ev->Option T}{t:zp}(h:xi f t):yr f t:=h.fe.er
@[simp] noncomputable def zr (i:Nat):Ev->Option T:=fun J=>match J[i]? with
 | some (some (.im t))=>some t
 | _=>none
@[simp] noncomputable def zf (i:Nat):Ev->Option T:=fun J=>match J[i]? with
 | some (some (.im t))=>some t
 | some (some (.own (.lst ts)))=>some (.lst ts)
 | _=>none
@[simp] noncomputable def cS (t:T):Ev->Option T:=λ _=>some t
def bL (i:Nat):wH (zr i) (ym i):=λ S Z Y J y Q hE e hq=>by
 unfold zr at e
 split at e
 ·rename_i t h
  cases e
  obtain⟨d,h1,h2⟩:=hE.im i _ h
  unfold ym;rw[h1]
  exact hq d S (.refl S) h2
 ·cases e
def vx (i:Nat):yr (zf i) (ym i):=λ S Z Y J y Q hE e hq=>by
 unfold zf at e
 split at e
 ·rename_i t h
  cases e
  obtain⟨d,h1,h2⟩:=hE.im i _ h
  unfold ym;rw[h1]
  exact hq d S (.refl S) (.inl h2)
 ·rename_i ts h
  cases e
  obtain⟨p,o,h1,h2,h3,h4⟩:=hE.ow i _ h
  unfold ym;rw[h1]
  cases o with
  | zI _=>exact h3.elim
  | lst ds=>exact hq _ S (.refl S) (.inr ⟨ts,p,ds,rfl,rfl,h2,h3,h4⟩)
 ·cases e
def yU (i:Int):xi (cS (.int i)) (dC (.int i)):=λ S Z Y J y Q hE e hq=>by cases e;exact hq _ S (.refl S) (Cl.of (λ _=>nofun) wx)
def Rn (i:Bool):xi (cS (.bl i)) (dC (.bl i)):=λ S Z Y J y Q hE e hq=>by cases e;exact hq _ S (.refl S) (Cl.of (λ _=>nofun) vb)
def Se (i:Str):xi (cS (.str i)) (dC (.str i)):=λ S Z Y J y Q hE e hq=>by cases e;exact hq _ S (.refl S) (Cl.of (λ _=>nofun) cf)
def So:xi (cS .zj) (dC .zj):=λ S Z Y J y Q hE e hq=>by cases e;exact hq _ S (.refl S) (Cl.of (λ _=>nofun) cg)
@[simp] noncomputable def zc (f:T->T->Option T) (fa fb:Ev->Option T):Ev->Option T:=fun J=>(fa J).bind λ x=>(fb J).bind λ y=>f x y
def Good2 (R:Rk) (f:T->T->Option T) (g:yG):Prop:=∀ S Z x y z d e Q,(∀ a,Z a->S a≠none)->Vw S Z x d->Vw S Z y e->f x y=some z->(∀ c S',Sx S S'->R S S' Z z c->Q c S')->g d e S Q
def w6 {R:Rk} [Cl R] {f:T->T->Option T}{g:yG}{fa fb:Ev->Option T}{ta tb:zp}(hg:Good2 R f g) (ha:yr fa ta) (hb:yr fb tb):yY R (zc f fa fb) (yn g ta tb):=λ S Z Y J y Q hE e hq=>by
 unfold zc at e
 obtain⟨x,e1,e⟩:=Ag.mp e
 obtain⟨z,e2,e⟩:=Ag.mp e
 refine ha S Z Y J x _ hE e1 λ d S1 s1 r1=>?_
 refine hb S1 Z Y J z _ (hE.grow s1) e2 λ d2 S2 s2 r2=>?_
 exact hg S2 Z x z y d d2 Q ((hE.grow (s1.trans s2)).zd) (Vw.grow r1 s2) r2 e λ c S' s r=>hq c S' ((s1.trans s2).trans s) (Cl.cl (s1.trans s2) r)
@[simp] noncomputable def i2 (g:Int->Int->T):T->T->Option T
 | .int i,.int j=>some (g i j)
 | _,_=>none
instance {i j:Int}:Decidable (vM i j):=by unfold vM;infer_instance
instance {i j:Int}:Decidable (xM i j):=by unfold xM;infer_instance
instance {i j:Int}:Decidable (sL i j):=by unfold sL;infer_instance
@[simp] noncomputable def ql (C:Int->Int->Prop) [∀ i j,Decidable (C i j)] (g:Int->Int->T):T->T->Option T
 | .int i,.int j=>if C i j then some (g i j) else none
 | _,_=>none
def gE {g:Int->Int->T}{g':Int->Int->D}(h:∀ i j S,Sn S (g i j) (g' i j)) (n:∀ i j ts,g i j≠.lst ts):Good2 zE (i2 g) (xl g'):=λ S Z x y z d e Q hz hx hy ef hq=>by
 unfold i2 at ef
 split at ef
 ·cases ef
  cases hx.int;cases hy.int
  exact hq _ S (.refl S) (Cl.of (n _ _) (h _ _ _))
 ·cases ef
def nK {C:Int->Int->Prop} [∀ i j,Decidable (C i j)] {g:Int->Int->T}{g':Int->Int->D}(h:∀ i j S,Sn S (g i j) (g' i j)) (n:∀ i j ts,g i j≠.lst ts):Good2 zE (ql C g) (fI C g'):=λ S Z x y z d e Q hz hx hy ef hq=>by
 unfold ql at ef
 split at ef
 ·split at ef
  ·rename_i hh
   cases ef
   cases hx.int;cases hy.int
   exact⟨hh,hq _ S (.refl S) (Cl.of (n _ _) (h _ _ _))⟩
  ·cases ef
 ·cases ef
@[simp] def tI:T->T->Option T:=i2 λ i j=>.int (i-j)
@[simp] def yv:T->T->Option T:=ql (λ _ j=>0<j) λ i j=>.int (i%j)
@[simp] def vh:T->T->Option T:=ql xM λ i j=>.int (i/j)
@[simp] def xj:T->T->Option T:=ql sL λ i j=>.int (i ^ j.toNat)
@[simp] def rq:T->T->Option T:=i2 λ i j=>.bl (decide (i<=j))
@[simp] def gK:T->T->Option T:=i2 λ i j=>.bl (decide (j<=i))
section
variable {fa fb:Ev->Option T}{ta tb:zp}
def Sd (ha:yr fa ta) (hb:yr fb tb):xi (zc tI fa fb) (yn (xl λ i j=>.int (i-j)) ta tb):=w6 (gE (λ _ _ _=>wx) λ _ _ _=>nofun) ha hb
def n4 (ha:yr fa ta) (hb:yr fb tb):xi (zc yv fa fb) (yn (fI (λ _ j=>0<j) λ i j=>.int (i%j)) ta tb):=w6 (nK (λ _ _ _=>wx) λ _ _ _=>nofun) ha hb
def SW (ha:yr fa ta) (hb:yr fb tb):xi (zc vh fa fb) (yn (fI xM λ i j=>.int (i/j)) ta tb):=w6 (nK (λ _ _ _=>wx) λ _ _ _=>nofun) ha hb
def rg (ha:yr fa ta) (hb:yr fb tb):xi (zc xj fa fb) (yn (fI sL λ i j=>.int (i ^ j.toNat)) ta tb):=w6 (nK (λ _ _ _=>wx) λ _ _ _=>nofun) ha hb
end
def yb (neg:Bool):T->T->Option T:=λ x y=>if dep x<=60/\dep y<=60 then some (.bl (cond neg (!eqT x y) (eqT x y))) else none
def p9 (neg:Bool):T->T->Option T:=λ x y=>match wK y with
 | some ts=>if dep x<=60/\x8 ts<=60 then some (.bl (cond neg (!(ts.any λ t=>eqT t x)) (ts.any λ t=>eqT t x))) else none
 | none=>none
def Zi {neg:Bool}:Good2 zE (yb neg) (vj neg):=λ S Z x y z d e Q hz hx hy ef hq=>by
 unfold yb at ef
 split at ef
 ·rename_i h
  cases ef
  exact⟨x,y,hx.sn,hy.sn,h.1,h.2,hq _ S (.refl S) (Cl.of (λ _=>nofun) vb)⟩
 ·cases ef
def Pe {neg:Bool}:Good2 zE (p9 neg) (rD neg):=λ S Z x y z d e Q hz hx hy ef hq=>by
 unfold p9 at ef
 split at ef
 ·rename_i ts ht
  split at ef
  ·rename_i h
   cases ef
   obtain⟨ds,h1,h2⟩:=hy.seq ht
   exact⟨x,ts,ds,hx.sn,h1,zk.sx (ku S Z) ts h2,h.1,h.2,hq _ S (.refl S) (Cl.of (λ _=>nofun) vb)⟩
  ·cases ef
 ·cases ef
@[simp] def zq:T->T->Option T:=λ x y=>match wK x,y with
 | some ts,.int i=>L2.zQ ts i
 | _,_=>none
def Zg:Good2 xJ zq wg:=λ S Z x y z d e Q hz hx hy ef hq=>by
 unfold zq at ef
 split at ef
 ·rename_i ts i ht
  cases hy.int
  obtain⟨ds,h1,h2⟩:=hx.seq ht
  obtain⟨c,h3,h4⟩:=h2.at ef
  unfold yj at h1
  split at h1
  ·cases h1;exact Pz h3 (hq c S (.refl S) h4)
  ·cases h1;exact P0 h3 (hq c S (.refl S) h4)
  ·split at h1
   ·rename_i q
    cases h1
    exact PB q h3 (hq c S (.refl S) h4)
   ·cases h1
  ·cases h1
 ·cases ef
@[simp] noncomputable def yp:T->T->Option T
 | .int i,.int j=>some (.int (i+j))
 | .str i,.str j=>if i.length+j.length<=sizeLine then some (.str (i++j)) else none
 | .lst ts,.lst us=>if ts.length+us.length<=sizeLine then some (.lst (ts++us)) else none
 | .tup ts,.tup us=>if ts.length+us.length<=sizeLine then some (.tup (ts++us)) else none
 | _,_=>none
def uh:yG:=λ x y S Q=>match x,y with
 | .int i,.int j=>Q (.int (i+j)) S
 | .str i,.str j=>i.length+j.length<=sizeLine/\Q (.str (i++j)) S
 | .tup ds,.tup es=>ds.length+es.length<=sizeLine/\Q (.tup (ds++es)) S
 | .zj,_=>False
 | .bl _,_=>False
 | .int _,_=>False
 | .str _,_=>False
 | .tup _,_=>False
 | x,y=>match yj x S,yj y S with
  | some ds,some es=>(∀ ts,y≠.tup ts)/\ds.length+es.length<=sizeLine/\∀ r,S r=none->Q (.ref r) (ups S r (.lst (ds++es)))
  | _,_=>False
def good_add:Good2 zE yp uh:=λ S Z x y z d e Q hz hx hy ef hq=>by
 unfold yp at ef
 split at ef
 ·cases ef;cases hx.int;cases hy.int
  exact hq _ S (.refl S) (Cl.of (λ _=>nofun) wx)
 ·split at ef
  ·rename_i h
   cases ef;cases hx.str;cases hy.str
   exact⟨h,hq _ S (.refl S) (Cl.of (λ _=>nofun) cf)⟩
  ·cases ef
 ·split at ef
  ·rename_i h
   cases ef
   obtain⟨ds,h1,h2⟩:=hx.seq rfl
   obtain⟨es,h3,h4⟩:=hy.seq rfl
   have nt:∀ ts,e≠.tup ts:=by
    obtain⟨_,q | ⟨_,q,_⟩,_⟩:=hy.lst <;> subst q <;> exact λ _=>nofun
   have key:(∀ ts,e≠.tup ts)/\ds.length+es.length<=sizeLine/\∀ r,S r=none->Q (.ref r) (ups S r (.lst (ds++es))):=
    ⟨nt,by rw[h2.len,h4.len];exact h,λ r hr=>hq _ _ (.new hr _) (sU hz hr (h2.append h4))⟩
   obtain⟨_,q | ⟨a,q,_⟩,_⟩:=hx.lst
   ·subst q;unfold uh;dsimp only;rw[h1,h3];exact key
   ·subst q;unfold uh;dsimp only;rw[h1,h3];exact key
  ·cases ef
 ·split at ef
  ·rename_i h
   cases ef
   obtain⟨ds,rfl,h2⟩:=hx.tup
   obtain⟨es,rfl,h4⟩:=hy.tup
   exact⟨by rw[h2.len,h4.len];exact h,hq _ S (.refl S) (Cl.of (λ _=>nofun) (o7 (h2.append h4)))⟩
  ·cases ef
 ·cases ef
def wX (f:Ev->Option Bool) (t:y6):Prop:=∀ S Z Y J y Q,ER S Z Y J->f J=some y->(∀ S',Sx S S'->Q y S')->t Y S Q
@[simp] noncomputable def yP (f:Ev->Option T):Ev->Option Bool:=fun J=>(f J).bind λ x=>match x with
 | .bl b=>some b
 | _=>none
@[simp] noncomputable def sR:T->Option Bool
 | .zj=>some false
 | .bl b=>some b
 | .int i=>some (i != 0)
 | .str x=>if x.length<=sizeLine then some ((x.length:Int) != 0) else none
 | .tup ts=>some (!ts.isEmpty)
 | .lst ts=>some (!ts.isEmpty)
 | .yE=>none
 | .err _ _ _=>none
@[simp] def xr (f:Ev->Option T):Ev->Option Bool:=fun J=>(f J).bind sR
@[simp] noncomputable def kF (f g:Ev->Option Bool):Ev->Option Bool:=fun J=>(f J).bind λ b=>if b=true then g J else some false
@[simp] noncomputable def kE (f g:Ev->Option Bool):Ev->Option Bool:=fun J=>(f J).bind λ b=>if b=true then some true else g J
@[simp] noncomputable def rG (f:Ev->Option Bool):Ev->Option Bool:=fun J=>(f J).map (!·)
section
variable {f g:Ev->Option T}{t u:zp}{fb gb:Ev->Option Bool}{tb ub:y6}{R:Rk}
def bM (h:yr f t):wX (yP f) (vD t):=λ S Z Y J y Q hE e hq=>by
 obtain⟨x,e1,e2⟩:=Ag.mp e
 refine h S Z Y J x _ hE e1 λ d S1 s1 r1=>?_
 split at e2
 ·cases e2
  cases Vw.bl r1
  exact hq S1 s1
 ·cases e2
def Sb (h:yr f t):wX (xr f) (ZF t):=λ S Z Y J y Q hE e hq=>by
 obtain⟨x,e1,e2⟩:=Ag.mp e
 refine h S Z Y J x _ hE e1 λ d S1 s1 r1=>?_
 cases x with
 | zj=>cases Vw.zj r1;cases e2;exact hq S1 s1
 | bl b=>cases Vw.bl r1;cases e2;exact hq S1 s1
 | int b=>cases Vw.int r1;cases e2;exact hq S1 s1
 | str b=>
  cases Vw.str r1
  simp only[sR] at e2
  split at e2
  ·rename_i hh
   cases e2;exact⟨hh,hq S1 s1⟩
  ·cases e2
 | tup ts=>
  obtain⟨ds,rfl,h2⟩:=Vw.tup r1
  cases e2
  show Q (!ds.isEmpty) S1
  rw[h2.empty];exact hq S1 s1
 | lst ts=>
  obtain⟨ds,rfl | ⟨a,rfl,h1⟩,h2⟩:=Vw.lst r1
  ·cases e2
   show Q (!ds.isEmpty) S1
   rw[h2.empty];exact hq S1 s1
  ·cases e2
   refine X_ h1 ?_
   rw[h2.empty];exact hq S1 s1
 | _=>cases e2
def Ra (h:wX fb tb) (h':wX gb ub):wX (kF fb gb) (nS tb ub):=λ S Z Y J y Q hE e hq=>by
 obtain⟨b,e1,e2⟩:=Ag.mp e
 refine h S Z Y J b _ hE e1 λ S1 s1=>?_
 split at e2
 ·rename_i hb;rw[if_pos hb]
  exact h' S1 Z Y J y _ (hE.grow s1) e2 λ S2 s2=>hq S2 (s1.trans s2)
 ·rename_i hb;rw[if_neg hb];cases e2;exact hq S1 s1
def SX (h:wX fb tb) (h':wX gb ub):wX (kE fb gb) (nQ tb ub):=λ S Z Y J y Q hE e hq=>by
 obtain⟨b,e1,e2⟩:=Ag.mp e
 refine h S Z Y J b _ hE e1 λ S1 s1=>?_
 split at e2
 ·rename_i hb;rw[if_pos hb];cases e2;exact hq S1 s1
 ·rename_i hb;rw[if_neg hb]
  exact h' S1 Z Y J y _ (hE.grow s1) e2 λ S2 s2=>hq S2 (s1.trans s2)
def SY (h:wX fb tb):wX (rG fb) (nR tb):=λ S Z Y J y Q hE e hq=>by
 unfold rG at e
 obtain⟨b,e1,rfl⟩:=AA.mp e
 exact h S Z Y J b _ hE e1 λ S1 s1=>hq S1 s1
@[simp] noncomputable def pO (f g:Ev->Option T):Ev->Option T:=fun J=>(f J).bind λ x=>match x with
 | .bl k=>if k=true then g J else some (.bl false)
 | _=>none
@[simp] noncomputable def bS (f:Ev->Option T):Ev->Option T:=fun J=>(f J).bind λ x=>match x with
 | .bl k=>some (.bl (!k))
 | _=>none
@[simp] noncomputable def gs (c:Ev->Option Bool) (f g:Ev->Option T):Ev->Option T:=fun J=>(c J).bind λ b=>if b=true then f J else g J
def Rp [Cl R] (h:yr f t) (h':yY R g u):yY R (pO f g) (ma t u):=λ S Z Y J y Q hE e hq=>by
 obtain⟨x,e1,e2⟩:=Ag.mp e
 refine h S Z Y J x _ hE e1 λ d S1 s1 r1=>?_
 split at e2
 ·cases Vw.bl r1
  split at e2
  ·rename_i hb
   dsimp only;rw[if_pos hb]
   exact h' S1 Z Y J y _ (hE.grow s1) e2 λ d S2 s2 r2=>hq d S2 (s1.trans s2) (Cl.cl s1 r2)
  ·rename_i hb
   dsimp only;rw[if_neg hb]
   cases e2
   exact hq _ S1 s1 (Cl.of (λ _=>nofun) vb)
 ·cases e2
def Sk [Cl R] (h:yr f t):yY R (bS f) (nX t):=λ S Z Y J y Q hE e hq=>by
 obtain⟨x,e1,e2⟩:=Ag.mp e
 refine h S Z Y J x _ hE e1 λ d S1 s1 r1=>?_
 split at e2
 ·cases Vw.bl r1
  cases e2
  exact hq _ S1 s1 (Cl.of (λ _=>nofun) vb)
 ·cases e2
def SU [Cl R] (hc:wX fb tb) (h:yY R f t) (h':yY R g u):yY R (gs fb f g) (nZ tb t u):=λ S Z Y J y Q hE e hq=>by
 obtain⟨b,e1,e2⟩:=Ag.mp e
 refine hc S Z Y J b _ hE e1 λ S1 s1=>?_
 split at e2
 ·rename_i hb;rw[if_pos hb]
  exact h S1 Z Y J y _ (hE.grow s1) e2 λ d S2 s2 r2=>hq d S2 (s1.trans s2) (Cl.cl s1 r2)
 ·rename_i hb;rw[if_neg hb]
  exact h' S1 Z Y J y _ (hE.grow s1) e2 λ d S2 s2 r2=>hq d S2 (s1.trans s2) (Cl.cl s1 r2)
end
noncomputable def m6 (S:SS) (Z:Addr->Prop):List T->List D->Prop
 | [],ds=>ds=[]
 | t::ts,ds=>∃ c cs,ds=c::cs/\Vw S Z t c/\m6 S Z ts cs
def qB (f:Ev->Option (List T)) (t:zY):Prop:=∀ S Z Y J ys Q,ER S Z Y J->f J=some ys->(∀ ds S',Sx S S'->m6 S' Z ys ds->Q ds S')->t Y S Q
def qA (f:Ev->Option (List T)) (t:zY):Prop:=∀ S Z Y J ys Q,ER S Z Y J->f J=some ys->(∀ ds S',Sx S S'->zk (zK S' Z) ys ds->Q ds S')->t Y S Q
@[simp] noncomputable def zi:Ev->Option (List T):=λ _=>some []
@[simp] noncomputable def zb (f:Ev->Option T) (g:Ev->Option (List T)):Ev->Option (List T):=fun J=>(f J).bind λ x=>(g J).bind λ xs=>some (x::xs)
section
variable {f:Ev->Option T}{g:Ev->Option (List T)}{t:zp}{u:zY}
def lX:qB zi kJ:=λ S Z Y J y Q hE e hq=>by cases e;exact hq [] S (.refl S) rfl
def bK:qA zi kJ:=λ S Z Y J y Q hE e hq=>by cases e;exact hq [] S (.refl S) .nil
def lY (h:yr f t) (h':qB g u):qB (zb f g) (qp t u):=λ S Z Y J y Q hE e hq=>by
 obtain⟨x,e1,e0⟩:=Ag.mp e
 obtain⟨xs,e2,e3⟩:=Ag.mp e0
 cases e3
 refine h S Z Y J x _ hE e1 λ d S1 s1 r1=>?_
 refine h' S1 Z Y J xs _ (hE.grow s1) e2 λ ds S2 s2 r2=>?_
 exact hq _ S2 (s1.trans s2) ⟨d,ds,rfl,Vw.grow r1 s2,r2⟩
def TV (h:wH f t) (h':qA g u):qA (zb f g) (qp t u):=λ S Z Y J y Q hE e hq=>by
 obtain⟨x,e1,e0⟩:=Ag.mp e
 obtain⟨xs,e2,e3⟩:=Ag.mp e0
 cases e3
 refine h S Z Y J x _ hE e1 λ d S1 s1 r1=>?_
 refine h' S1 Z Y J xs _ (hE.grow s1) e2 λ ds S2 s2 r2=>?_
 exact hq _ S2 (s1.trans s2) (.cons (Sn.sx (wD s2) x r1) r2)
@[simp] noncomputable def tupS (g:Ev->Option (List T)):Ev->Option T:=fun J=>(g J).bind λ xs=>if xs.length<=sizeLine then some (.tup xs) else none
@[simp] noncomputable def xu (g:Ev->Option (List T)):Ev->Option T:=fun J=>(g J).bind λ xs=>if xs.length<=sizeLine then some (.lst xs) else none
def TZ (h:qA g u):xi (tupS g) (ZQ u):=λ S Z Y J y Q hE e hq=>by
 obtain⟨xs,e1,e2⟩:=Ag.mp e
 split at e2
 ·rename_i hl
  cases e2
  refine h S Z Y J xs _ hE e1 λ ds S1 s1 r1=>⟨by rw[r1.len];exact hl,hq _ S1 s1 (Cl.of (λ _=>nofun) (o7 r1))⟩
 ·cases e2
def bN (h:qA g u):xi (xu g) (ZU u):=λ S Z Y J y Q hE e hq=>by
 obtain⟨xs,e1,e2⟩:=Ag.mp e
 split at e2
 ·rename_i hl
  cases e2
  refine h S Z Y J xs _ hE e1 λ ds S1 s1 r1=>⟨by rw[r1.len];exact hl,λ p hp=>hq _ _ (s1.trans (.new hp _)) (Cl.cl s1 (sU (hE.grow s1).zd hp r1))⟩
 ·cases e2
end
@[simp] noncomputable def zx (F:List T->Option T) (g:Ev->Option (List T)):Ev->Option T:=fun J=>(g J).bind F
def uw (R:Rk) (F:List T->Option T) (f:xB):Prop:=∀ S Z ys z ds Q,(∀ a,Z a->S a≠none)->m6 S Z ys ds->F ys=some z->(∀ c S',Sx S S'->R S S' Z z c->Q c S')->f ds S Q
def bR {R:Rk} [Cl R] {F:List T->Option T}{f:xB}{g:Ev->Option (List T)}{u:zY}(hf:uw R F f) (h:qB g u):yY R (zx F g) (xG f u):=λ S Z Y J y Q hE e hq=>by
 obtain⟨xs,e1,e2⟩:=Ag.mp e
 refine h S Z Y J xs _ hE e1 λ ds S1 s1 r1=>?_
 exact hf S1 Z xs y ds Q (hE.grow s1).zd r1 e2 λ c S' s r=>hq c S' (s1.trans s) (Cl.cl s1 r)
@[simp] noncomputable def uA:List T->Option T
 | [.str z]=>if z.length<=sizeLine then some (.int z.length) else none
 | [y]=>(wK y).map λ ts=>.int ts.length
 | _=>none
def u5 {S:SS}{Z:Addr->Prop}{y:T}{ds:List D}(h:m6 S Z [y] ds):∃ d,ds=[d]/\Vw S Z y d:=by
 obtain⟨c,cs,rfl,h1,h2⟩:=h
 cases h2
 exact⟨c,rfl,h1⟩
def dv {S:SS}{Z:Addr->Prop}{y z:T}{ds:List D}(h:m6 S Z [y,z] ds):∃ d e,ds=[d,e]/\Vw S Z y d/\Vw S Z z e:=by
 obtain⟨c,cs,rfl,h1,c2,cs2,rfl,h2,h3⟩:=h
 cases h3
 exact⟨c,c2,rfl,h1,h2⟩
def Pc:uw zE uA ug:=λ S Z ys z ds Q hz hv e hq=>by
 unfold uA at e
 split at e
 ·obtain⟨d,rfl,h1⟩:=u5 hv
  split at e
  ·rename_i hl
   cases e
   cases h1.str
   exact⟨hl,hq _ S (.refl S) (Cl.of (λ _=>nofun) wx)⟩
  ·cases e
 ·obtain⟨d,rfl,h1⟩:=u5 hv
  obtain⟨ts,e1,rfl⟩:=AA.mp e
  obtain⟨es,h2,h3⟩:=h1.seq e1
  refine Py h2 ?_
  rw[h3.len]
  exact hq _ S (.refl S) (Cl.of (λ _=>nofun) wx)
 ·cases e
@[simp] noncomputable def listS:List T->Option T
 | [y]=>(wK y).map .lst
 | _=>none
def Pb:uw zE listS uf:=λ S Z ys z ds Q hz hv e hq=>by
 unfold listS at e
 split at e
 ·obtain⟨d,rfl,h1⟩:=u5 hv
  obtain⟨ts,e1,rfl⟩:=AA.mp e
  obtain⟨es,h2,h3⟩:=h1.seq e1
  exact Px h2 λ p hp=>hq _ _ (.new hp _) (sU hz hp h3)
 ·cases e
@[simp] noncomputable def sQ:List T->Option T
 | [y]=>(wK y).map .tup
 | _=>none
def QU:uw zE sQ ud:=λ S Z ys z ds Q hz hv e hq=>by
 unfold sQ at e
 split at e
 ·rename_i y
  obtain⟨d,rfl,h1⟩:=u5 hv
  obtain⟨ts,e1,rfl⟩:=AA.mp e
  obtain⟨es,h2,h3⟩:=h1.seq e1
  have k:Q (.tup es) S:=hq _ S (.refl S) (Cl.of (λ _=>nofun) (o7 h3))
  unfold yj at h2
  split at h2
  ·cases h2;exact k
  ·cases h2;exact k
  ·split at h2
   ·rename_i q
    cases h2;exact Pw q k
   ·cases h2
  ·cases h2
 ·cases e
@[simp] noncomputable def pA (g:Int->Int->Int):List T->Option T
 | [.int i,.int j]=>some (.int (g i j))
 | _=>none
def Zh {g:Int->Int->Int}:uw zE (pA g) (vB λ i j=>.int (g i j)):=λ S Z ys z ds Q hz hv e hq=>by
 unfold pA at e
 split at e
 ·obtain⟨d,d',rfl,h1,h2⟩:=dv hv
  cases e;cases h1.int;cases h2.int
  exact hq _ S (.refl S) (Cl.of (λ _=>nofun) wx)
 ·cases e
@[simp] def pj:List T->Option T:=pA λ i j=>if j>i then j else i
@[simp] def nB:List T->Option T:=pA λ i j=>if j<i then j else i
structure FR (S0:SS) (Z0:Addr->Prop) (S:SS) (Z:Addr->Prop) (Y:zU) (J:Ev):Prop where
 er:ER S Z Y J
 len:Y.length=J.length
 sx:Sx S0 S
 z0:∀ a,Z0 a->S0 a≠none
 zz:∀ a,Z0 a->Z a
 zn:∀ a,Z a->Z0 a\/S0 a=none
 fr:∀ (i:Nat) ts p,J[i]?=some (some (.own ts))->Y[i]?=some (some (.ref p))->S0 p=none
 dj:∀ (i j:Nat) ts us p,i≠j->J[i]?=some (some (.own ts))->J[j]?=some (some (.own us))->Y[i]?=some (some (.ref p))->Y[j]?=some (some (.ref p))->False
def yu {α:Type}{l:List α}{i j:Nat}{a b:α}(h:(l.set i a)[j]?=some b):(i=j/\i<l.length/\b=a)\/(i≠j/\l[j]?=some b):=by
 rw[CL] at h
 by_cases e:i=j
 ·subst e
  rw[if_pos rfl] at h
  by_cases hl:i<l.length
  ·rw[if_pos hl] at h;cases h;exact .inl ⟨rfl,hl,rfl⟩
  ·rw[if_neg hl] at h;cases h
 ·rw[if_neg e] at h;exact .inr ⟨e,h⟩
def xy {α:Type}{l:List α}{i j:Nat}{a:α}(h:i≠j):(l.set i a)[j]?=l[j]?:=by rw[CL,if_neg h]
def pC {α:Type}{l:List α}{i:Nat}{a:α}(h:i<l.length):(l.set i a)[i]?=some a:=by rw[CL,if_pos rfl,if_pos h]
section
variable {S0 S S':SS}{Z0 Z:Addr->Prop}{Y:zU}{J:Ev}{y:T}{d:D}
theorem FR.grow (h:FR S0 Z0 S Z Y J) (s:Sx S S'):FR S0 Z0 S' Z Y J:=⟨h.er.grow s,h.len,h.sx.trans s,h.z0,h.zz,h.zn,h.fr,h.dj⟩
def FR.rZ (h:FR S0 Z0 S Z Y J) (i:Nat) (r:Sn (zK S Z) y d):FR S0 Z0 S Z (Y.set i (some d)) (J.set i (some (.im y))):=by
 refine⟨⟨h.er.zd,λ j t e=>?_,λ j ts e=>?_⟩,by simp[h.len],h.sx,h.z0,h.zz,h.zn,λ j ts p e e'=>?_,λ j k ts us p n e1 e2 e3 e4=>?_⟩
 ·rcases yu e with ⟨rfl,hl,e⟩ | ⟨n,e⟩
  ·cases e;exact⟨d,pC (by rw[h.len];exact hl),r⟩
  ·rw[xy n];exact h.er.im j t e
 ·rcases yu e with ⟨rfl,hl,e⟩ | ⟨n,e⟩
  ·cases e
  ·rw[xy n];exact h.er.ow j ts e
 ·rcases yu e with ⟨rfl,hl,e⟩ | ⟨n,e⟩
  ·cases e
  ·rw[xy n] at e';exact h.fr j ts p e e'
 ·rcases yu e1 with ⟨rfl,hl,e⟩ | ⟨n1,e1⟩
  ·cases e
  rcases yu e2 with ⟨rfl,hl,e⟩ | ⟨n2,e2⟩
  ·cases e
  rw[xy n1] at e3;rw[xy n2] at e4
  exact h.dj j k ts us p n e1 e2 e3 e4
def FR.cp {ts:C}{ds:O}{p:Addr}(h:FR S0 Z0 S Z Y J) (s:Sx S S') (i:Nat) (hp:S p=none) (hd:S' p=some ds) (r:t7 (zK S' λ a=>Z a\/a=p) ts ds):
  FR S0 Z0 S' (λ a=>Z a\/a=p) (Y.set i (some (.ref p))) (J.set i (some (.own ts))):=by
 have np:∀ (j:Nat) us q,J[j]?=some (some (.own us))->Y[j]?=some (some (.ref q))->q≠p:=λ j us q e e' z=>by
  subst z
  obtain⟨p',ds',h1,h2,_⟩:=h.er.ow j us e
  rw[e'] at h1;cases h1;rw[hp] at h2;cases h2
 refine⟨⟨λ a z=>?_,λ j t e=>?_,λ j us e=>?_⟩,by simp[h.len],h.sx.trans s,h.z0,λ a z=>.inl (h.zz a z),λ a z=>z.elim (h.zn a) (λ q=>.inr (by subst q;exact h.sx.none hp)),λ j us q e e'=>?_,λ j k us vs q n e1 e2 e3 e4=>?_⟩
 ·rcases z with z | rfl
  ·exact λ q=>h.er.zd a z (s.none q)
  ·rw[hd];nofun
 ·rcases yu e with ⟨rfl,hl,e⟩ | ⟨n,e⟩
  ·cases e
  ·rw[xy n]
   obtain⟨d,h1,h2⟩:=h.er.im j t e
   exact⟨d,h1,Sn.sx (pB s hp) t h2⟩
 ·rcases yu e with ⟨rfl,hl,e⟩ | ⟨n,e⟩
  ·cases e;exact⟨p,ds,pC (by rw[h.len];exact hl),hd,r,.inr rfl⟩
  ·rw[xy n]
   obtain⟨q,es,h1,h2,h3,h4⟩:=h.er.ow j us e
   exact⟨q,es,h1,s _ _ h2,t7.sx (pB s hp) h3,.inl h4⟩
 ·rcases yu e with ⟨rfl,hl,e⟩ | ⟨n,e⟩
  ·rw[pC (by rw[h.len];exact hl)] at e';cases e';exact h.sx.none hp
  ·rw[xy n] at e';exact h.fr j us q e e'
 ·rcases yu e1 with ⟨rfl,hl,e⟩ | ⟨n1,e1⟩
  ·rcases yu e2 with ⟨rfl,_,_⟩ | ⟨n2,e2⟩
   ·exact n rfl
   ·rw[pC (by rw[h.len];exact hl)] at e3;cases e3
    rw[xy n2] at e4
    exact np k vs p e2 e4 rfl
  ·rcases yu e2 with ⟨rfl,hl,_⟩ | ⟨n2,e2⟩
   ·rw[pC (by rw[h.len];exact hl)] at e4;cases e4
    rw[xy n1] at e3
    exact np j us p e1 e3 rfl
   ·rw[xy n1] at e3;rw[xy n2] at e4
    exact h.dj j k us vs q n e1 e2 e3 e4
def FR.forget (h:FR S0 Z0 S Z Y J) (i:Nat):FR S0 Z0 S Z Y (J.set i none):=by
 refine⟨⟨h.er.zd,λ j t e=>?_,λ j ts e=>?_⟩,by simp[h.len],h.sx,h.z0,h.zz,h.zn,λ j ts p e e'=>?_,λ j k ts us p n e1 e2 e3 e4=>?_⟩
 ·rcases yu e with ⟨rfl,hl,e⟩ | ⟨n,e⟩
  ·cases e
  ·exact h.er.im j t e
 ·rcases yu e with ⟨rfl,hl,e⟩ | ⟨n,e⟩
  ·cases e
  ·exact h.er.ow j ts e
 ·rcases yu e with ⟨rfl,hl,e⟩ | ⟨n,e⟩
  ·cases e
  ·exact h.fr j ts p e e'
 ·rcases yu e1 with ⟨rfl,hl,e⟩ | ⟨n1,e1⟩
  ·cases e
  rcases yu e2 with ⟨rfl,hl,e⟩ | ⟨n2,e2⟩
  ·cases e
  exact h.dj j k ts us p n e1 e2 e3 e4
@[simp] noncomputable def yA (is:List Nat) (J:Ev):Ev:=is.foldl (fun J i=>J.set i none) J
theorem FR.yA:∀ (is:List Nat) {J:Ev},FR S0 Z0 S Z Y J->FR S0 Z0 S Z Y (yA is J)
 | [],_,h=>h
 | i::is,_,h=>FR.yA is (h.forget i)
def FR.freeze {ts:List T}{p:Addr}(h:FR S0 Z0 S Z Y J) (i:Nat) (e:J[i]?=some (some (.own (.lst ts)))) (ed:Y[i]?=some (some (.ref p))):
  FR S0 Z0 S (λ a=>Z a/\a≠p) Y (J.set i (some (.im (.lst ts))))/\Sn (zK S λ a=>Z a/\a≠p) (.lst ts) (.ref p):=by
 obtain⟨p',o,h1,h2,h3,h4⟩:=h.er.ow i _ e
 rw[ed] at h1;cases h1
 obtain⟨ds,rfl⟩:∃ ds,o=.lst ds:=by
  cases o with
  | lst ds=>exact⟨ds,rfl⟩
  | zI _=>exact h3.elim
 replace h3:zk (zK S Z) ts ds:=h3
 have hS:Sn (zK S λ a=>Z a/\a≠p) (.lst ts) (.ref p):=by
  simp only[Sn]
  exact⟨ds,.inr ⟨p,rfl,by rw[v_ (λ z=>z.2 rfl)];exact h2⟩,zk.sx (uc λ a z=>z.1) ts h3⟩
 refine⟨?_,hS⟩
 refine⟨⟨λ a z=>h.er.zd a z.1,λ j t e'=>?_,λ j us e'=>?_⟩,by simp[h.len],h.sx,h.z0,λ a z=>⟨h.zz a z,λ q=>?_⟩,λ a z=>h.zn a z.1,λ j us q e' ed'=>?_,λ j k us vs q n e1 e2 e3 e4=>?_⟩
 ·rcases yu e' with ⟨rfl,hl,e'⟩ | ⟨n,e'⟩
  ·cases e';exact⟨_,ed,hS⟩
  ·obtain⟨d,g1,g2⟩:=h.er.im j t e'
   exact⟨d,g1,Sn.sx (uc λ a z=>z.1) t g2⟩
 ·rcases yu e' with ⟨rfl,hl,e'⟩ | ⟨n,e'⟩
  ·cases e'
  ·obtain⟨q,es,g1,g2,g3,g4⟩:=h.er.ow j us e'
   exact⟨q,es,g1,g2,t7.sx (uc λ a z=>z.1) g3,g4,λ z=>by subst z;exact h.dj i j _ us q n e e' ed g1⟩
 ·subst q;exact h.z0 a z (h.fr i _ a e ed)
 ·rcases yu e' with ⟨rfl,hl,e'⟩ | ⟨n,e'⟩
  ·cases e'
  ·exact h.fr j us q e' ed'
 ·rcases yu e1 with ⟨rfl,hl,e⟩ | ⟨n1,e1⟩
  ·cases e
  rcases yu e2 with ⟨rfl,hl,e⟩ | ⟨n2,e2⟩
  ·cases e
  exact h.dj j k us vs q n e1 e2 e3 e4
def FR.mut {ts us:C}{es:O}{p:Addr}(h:FR S0 Z0 S Z Y J) (i:Nat) (e:J[i]?=some (some (.own ts))) (ed:Y[i]?=some (some (.ref p))) (r:t7 (zK S Z) us es):
  FR S0 Z0 (ups S p es) Z Y (J.set i (some (.own us))):=by
 obtain⟨p',ds,h1,h2,h3,h4⟩:=h.er.ow i ts e
 rw[ed] at h1;cases h1
 have hh:zK (ups S p es) Z=zK S Z:=QM h4
 have hpn:=h.fr i ts p e ed
 refine⟨⟨λ a z=>?_,λ j t e'=>?_,λ j vs e'=>?_⟩,by simp[h.len],λ b o q=>?_,h.z0,h.zz,h.zn,λ j vs q e' ed'=>?_,λ j k vs ws q n e1 e2 e3 e4=>?_⟩
 ·by_cases hp:a=p
  ·subst hp;rw[sO];nofun
  ·rw[tG hp];exact h.er.zd a z
 ·rw[hh]
  rcases yu e' with ⟨rfl,hl,e'⟩ | ⟨n,e'⟩
  ·cases e'
  ·exact h.er.im j t e'
 ·rw[hh]
  rcases yu e' with ⟨rfl,hl,e'⟩ | ⟨n,e'⟩
  ·cases e';exact⟨p,es,ed,sO,r,h4⟩
  ·obtain⟨q,es',g1,g2,g3,g4⟩:=h.er.ow j vs e'
   refine⟨q,es',g1,?_,g3,g4⟩
   rw[tG (λ z=>by subst z;exact h.dj i j ts vs q n e e' ed g1)];exact g2
 ·rw[tG (λ z=>by subst z;rw[hpn] at q;cases q)];exact h.sx b o q
 ·rcases yu e' with ⟨rfl,hl,_⟩ | ⟨n,e'⟩
  ·rw[ed] at ed';cases ed';exact hpn
  ·exact h.fr j vs q e' ed'
 ·rcases yu e1 with ⟨rfl,hl,_⟩ | ⟨n1,e1⟩
  ·rcases yu e2 with ⟨rfl,hl,_⟩ | ⟨n2,e2⟩
   ·exact n rfl
   ·exact h.dj _ k ts ws q n e e2 e3 e4
  ·rcases yu e2 with ⟨rfl,hl,_⟩ | ⟨n2,e2⟩
   ·exact h.dj j _ vs ts q n e1 e e3 e4
   ·exact h.dj j k vs ws q n e1 e2 e3 e4
noncomputable def ig (S0 S:SS) (Z:Addr->Prop):SS:=open Classical in λ a=>if S0 a=none/\Z a then none else S a
def lK {a:Addr}(h:¬ (S0 a=none/\Z a)):ig S0 S Z a=S a:=if_neg h
def ic {a:Addr}(h:S0 a=none/\Z a):ig S0 S Z a=none:=if_pos h
def FR.rebase (h:FR S0 Z0 S Z Y J):∃ S1,Sx S0 S1/\FR S1 Z0 S Z Y J/\Sx (zK S Z) S1:=by
 refine⟨ig S0 S Z,λ b o q=>?_,⟨h.er,h.len,λ b o q=>?_,λ a z=>?_,h.zz,λ a z=>?_,λ i ts p e ed=>?_,h.dj⟩,λ b o q=>?_⟩
 ·rw[lK (λ z=>by rw[z.1] at q;cases q)];exact h.sx _ _ q
 ·by_cases w:S0 b=none/\Z b
  ·rw[ic w] at q;cases q
  ·rw[lK w] at q;exact q
 ·rw[lK (λ q=>h.z0 a z q.1)]
  exact h.er.zd a (h.zz a z)
 ·rcases h.zn a z with w | w
  ·exact .inl w
  ·exact .inr (ic ⟨w,z⟩)
 ·obtain⟨p',ds,h1,h2,h3,h4⟩:=h.er.ow i ts e
  rw[ed] at h1;cases h1
  exact ic ⟨h.fr i ts p e ed,h4⟩
 ·obtain⟨q1,q2⟩:=uY q
  rw[lK (λ z=>q1 z.2)];exact q2
def FR.back {S1:SS}(h:FR S1 Z0 S Z Y J) (s:Sx S0 S1) (z0:∀ a,Z0 a->S0 a≠none):FR S0 Z0 S Z Y J:=⟨h.er,h.len,s.trans h.sx,z0,h.zz,λ a z=>(h.zn a z).imp id s.none,λ i ts p e ed=>s.none (h.fr i ts p e ed),h.dj⟩
def FR.WJ {S1:SS}{Z1:Addr->Prop}(h:FR S0 Z0 S Z Y J) (b:Sx (zK S1 Z1) S0) (zz:∀ a,Z0 a->Z1 a):Sx (zK S1 Z1) (zK S Z):=λ a o q=>by
 have q0:=b _ _ q
 obtain⟨q1,q2⟩:=uY q
 rw[v_]
 ·exact h.sx _ _ q0
 ·intro z
  rcases h.zn a z with w | w
  ·exact q1 (zz a w)
  ·rw[w] at q0;cases q0
end
inductive Out where
 | nx (J:Ev) | rt (t:T) | bk (J:Ev) | ct (J:Ev)
abbrev Sm:=Ev->Option Out
def Nk (R:Rk) (S0:SS) (Z0:Addr->Prop) (o:Out) (E:tE):Prop:=match o with
 | .nx J=>∀ S Z Y,FR S0 Z0 S Z Y J->E.nx Y S
 | .bk J=>∀ S Z Y,FR S0 Z0 S Z Y J->E.bk Y S
 | .ct J=>∀ S Z Y,FR S0 Z0 S Z Y J->E.ct Y S
 | .rt y=>∀ d S,Sx S0 S->R S0 S Z0 y d->E.rt d S
def yh (R:Rk) (g:Sm) (t:yg):Prop:=∀ S0 Z0 S Z Y J o E,FR S0 Z0 S Z Y J->g J=some o->Nk R S0 Z0 o E->t E Y S
class Lo (R:Rk):Prop extends Cl R where
 lo:∀ {S0 S S':SS}{Z0 Z:Addr->Prop}{y:T}{d:D},Sx S0 S->(∀ a,Z0 a->Z a)->R S S' Z y d->R S0 S' Z0 y d
instance:Lo xJ:=⟨λ _ z h=>Sn.sx (uc z) _ h⟩
instance:Lo zE:=⟨λ s z h=>⟨Sn.sx (uc z) _ h.1,λ ts e=>by
 obtain⟨p,ds,h1,h2,h3,h4⟩:=h.2 ts e
 exact⟨p,ds,h1,s.none h2,h3,zk.sx (uc λ a q=>q.imp (z a) id) ts h4⟩⟩⟩
@[simp] noncomputable def zv (g h:Sm):Sm:=fun J=>(g J).bind λ o=>match o with
 | .nx J'=>h J'
 | o=>some o
@[simp] noncomputable def xP:Sm:=fun J=>some (.nx J)
@[simp] noncomputable def yc (i:Nat) (f:Ev->Option T):Sm:=fun J=>(f J).map λ y=>.nx (J.set i (some (.im y)))
@[simp] noncomputable def uH (i:Nat) (f:Ev->Option T):Sm:=fun J=>(f J).bind λ y=>match y with
 | .lst ts=>some (.nx (J.set i (some (.own (.lst ts)))))
 | y=>some (.nx (J.set i (some (.im y))))
@[simp] noncomputable def fg (f:Ev->Option T):Sm:=fun J=>(f J).map λ _=>.nx J
@[simp] noncomputable def retS (f:Ev->Option T):Sm:=fun J=>(f J).map .rt
@[simp] noncomputable def tN (i:Nat):Sm:=fun J=>match J[i]? with
 | some (some (.own (.lst ts)))=>some (.rt (.lst ts))
 | _=>none
@[simp] noncomputable def xU (c:Ev->Option Bool) (g h:Sm):Sm:=fun J=>(c J).bind λ b=>if b=true then g J else h J
@[simp] noncomputable def gN (i:Nat) (J:Ev):Ev:=match J[i]? with
 | some (some (.own (.lst ts)))=>J.set i (some (.im (.lst ts)))
 | _=>J
@[simp] def gL (i:Nat) (g:Sm):Sm:=fun J=>g (gN i J)
section
variable {R:Rk}{g h:Sm}{t u:yg}{f:Ev->Option T}{te:zp}
def tT (hg:yh R g t) (hh:yh R h u):yh R (zv g h) (qo t u):=λ S0 Z0 S Z Y J o E F e P=>by
 obtain⟨o1,e1,e2⟩:=Ag.mp e
 refine hg S0 Z0 S Z Y J o1 { E with nx:=u E } F e1 ?_
 cases o1 with
 | nx J1=>exact λ S1 Z1 Y1 F1=>hh S0 Z0 S1 Z1 Y1 J1 o E F1 e2 P
 | rt y=>cases e2;exact P
 | bk y=>cases e2;exact P
 | ct y=>cases e2;exact P
def bF:yh R xP fu:=λ S0 Z0 S Z Y J o E F e P=>by cases e;exact P S Z Y F
def ny (i:Nat) (hf:wH f te):yh R (yc i f) (vk te (hName i)):=λ S0 Z0 S Z Y J o E F e P=>by
 obtain⟨y,e1,rfl⟩:=AA.mp e
 exact hf S Z Y J y _ F.er e1 λ d S1 s1 r1=>P S1 Z _ ((F.grow s1).rZ i r1)
def bI (i:Nat) (hf:xi f te):yh R (uH i f) (vk te (hName i)):=λ S0 Z0 S Z Y J o E F e P=>by
 obtain⟨y,e1,e2⟩:=Ag.mp e
 refine hf S Z Y J y _ F.er e1 λ d S1 s1 r1=>?_
 cases y with
 | lst ts=>
  cases e2
  obtain⟨p,ds,rfl,h1,h2,h3⟩:=r1.2 ts rfl
  exact P S1 _ _ (F.cp (ts:=.lst ts) (ds:=.lst ds) s1 i h1 h2 h3)
 | _=>cases e2;exact P S1 Z _ ((F.grow s1).rZ i r1.1)
def T7 (hf:yr f te):yh R (fg f) (kL te):=λ S0 Z0 S Z Y J o E F e P=>by
 obtain⟨y,e1,rfl⟩:=AA.mp e
 exact hf S Z Y J y _ F.er e1 λ d S1 s1 r1=>P S1 Z _ (F.grow s1)
def T3 [Lo R] (hf:yY R f te):yh R (retS f) (fq te):=λ S0 Z0 S Z Y J o E F e P=>by
 obtain⟨y,e1,rfl⟩:=AA.mp e
 exact hf S Z Y J y _ F.er e1 λ d S1 s1 r1=>P d S1 (F.sx.trans s1) (Lo.lo F.sx F.zz r1)
def nv (i:Nat):yh zE (tN i) (fq (ym i)):=λ S0 Z0 S Z Y J o E F e P=>by
 unfold tN at e
 split at e
 ·rename_i ts h
  cases e
  obtain⟨p,ob,h1,h2,h3,h4⟩:=F.er.ow i _ h
  obtain⟨ds,rfl⟩:∃ ds,ob=.lst ds:=by
   cases ob with
   | lst ds=>exact⟨ds,rfl⟩
   | zI _=>exact h3.elim
  replace h3:zk (zK S Z) ts ds:=h3
  have hn:=F.fr i _ p h h1
  have nz:¬ Z0 p:=λ z=>F.z0 p z hn
  show ym i Y S E.rt
  unfold ym;rw[h1]
  refine P _ S F.sx ⟨?_,λ us e=>?_⟩
  ·simp only[Sn]
   exact⟨ds,.inr ⟨p,rfl,by rw[v_ nz];exact h2⟩,zk.sx (uc F.zz) ts h3⟩
  ·cases e
   exact⟨p,ds,rfl,hn,h2,zk.sx (uc λ a q=>q.elim (F.zz a) λ q=>q▸h4) ts h3⟩
 ·cases e
def yh.fv (h:yh zE g t):yh xJ g t:=λ S0 Z0 S Z Y J o E F e P=>by
 refine h S0 Z0 S Z Y J o E F e ?_
 cases o with
 | rt y=>exact λ d S s r=>P d S s r.1
 | _=>exact P
def bH {c:Ev->Option Bool}{tc:y6}(hc:wX c tc) (hg:yh R g t) (hh:yh R h u):yh R (xU c g h) (fx tc t u):=λ S0 Z0 S Z Y J o E F e P=>by
 obtain⟨b,e1,e2⟩:=Ag.mp e
 refine hc S Z Y J b _ F.er e1 λ S1 s1=>?_
 split at e2
 ·rename_i hb;rw[if_pos hb];exact hg S0 Z0 S1 Z Y J o E (F.grow s1) e2 P
 ·rename_i hb;rw[if_neg hb];exact hh S0 Z0 S1 Z Y J o E (F.grow s1) e2 P
def FR.fz {S0 S:SS}{Z0 Z:Addr->Prop}{Y:zU}{J:Ev}(F:FR S0 Z0 S Z Y J) (i:Nat):∃ Z',FR S0 Z0 S Z' Y (gN i J):=by
 unfold gN
 split
 ·rename_i ts h
  obtain⟨p,ds,h1,_⟩:=F.er.ow i _ h
  exact⟨_,(F.freeze i h h1).1⟩
 ·exact⟨Z,F⟩
def T5 (i:Nat) (hg:yh R g t):yh R (gL i g) t:=λ S0 Z0 S Z Y J o E F e P=>by
 obtain⟨Z',F'⟩:=F.fz i
 exact hg S0 Z0 S Z' Y _ o E F' e P
def mC (g:T->Ev->Option Ev) (t:yV):Prop:=∀ S0 Z0 S Z Y J J' y d Q,FR S0 Z0 S Z Y J->Sn (zK S Z) y d->g y J=some J'->(∀ Y',FR S0 Z0 S Z Y' J'->Q Y' S)->t d Y S Q
def kT (g:List T->Ev->Option Ev) (t:wF):Prop:=∀ S0 Z0 S Z Y J J' ys ds Q,FR S0 Z0 S Z Y J->zk (zK S Z) ys ds->g ys J=some J'->(∀ Y',FR S0 Z0 S Z Y' J'->Q Y' S)->t ds Y S Q
@[simp] noncomputable def zF (i:Nat):T->Ev->Option Ev:=λ y J=>some (J.set i (some (.im y)))
@[simp] noncomputable def uT:List T->Ev->Option Ev
 | [],J=>some J
 | _::_,_=>none
@[simp] noncomputable def xA (g:T->Ev->Option Ev) (h:List T->Ev->Option Ev):List T->Ev->Option Ev
 | y::ys,J=>(g y J).bind fun J'=>h ys J'
 | [],_=>none
@[simp] noncomputable def vO (n:Nat) (g:List T->Ev->Option Ev):T->Ev->Option Ev
 | .tup ys,J=>if ys.length=n then g ys J else none
 | _,_=>none
def iM (i:Nat):mC (zF i) (hName i):=λ S0 Z0 S Z Y J J' y d Q F r e hq=>by cases e;exact hq _ (F.rZ i r)
def TJ:kT uT gy:=λ S0 Z0 S Z Y J J' ys ds Q F r e hq=>by
 cases ys with
 | nil=>simp only[zk] at r;subst r;cases e;exact⟨rfl,hq _ F⟩
 | cons _ _=>cases e
def TK {g:T->Ev->Option Ev}{h:List T->Ev->Option Ev}{t:yV}{u:wF}(hg:mC g t) (hh:kT h u):kT (xA g h) (gz t u):=λ S0 Z0 S Z Y J J' ys ds Q F r e hq=>by
 cases ys with
 | nil=>cases e
 | cons y ys=>
  simp only[zk] at r
  obtain⟨c,cs,rfl,r1,r2⟩:=r
  obtain⟨J1,e1,e2⟩:=Ag.mp e
  exact hg S0 Z0 S Z Y J J1 y c _ F r1 e1 fun Y1 F1=>hh S0 Z0 S Z Y1 J1 J' ys cs Q F1 r2 e2 hq
def TL {n:Nat}{g:List T->Ev->Option Ev}{t:wF}(hg:kT g t):mC (vO n g) (kx n t):=λ S0 Z0 S Z Y J J' y d Q F r e hq=>by
 cases y with
 | tup ys=>
  simp only[Sn] at r
  obtain⟨ds,rfl,r⟩:=r
  simp only[vO] at e
  split at e
  ·rename_i hl
   exact⟨by rw[r.len];exact hl,hg S0 Z0 S Z Y J J' ys ds Q F r e hq⟩
  ·cases e
 | _=>cases e
@[simp] noncomputable def js (f:Ev->Option T) (g:T->Ev->Option Ev):Sm:=fun J=>(f J).bind λ y=>(g y J).map .nx
def Tx {g:T->Ev->Option Ev}{tg:yV}(hf:wH f te) (hg:mC g tg):yh R (js f g) (vk te tg):=λ S0 Z0 S Z Y J o E F e P=>by
 obtain⟨y,e1,e2⟩:=Ag.mp e
 obtain⟨J',e3,rfl⟩:=AA.mp e2
 exact hf S Z Y J y _ F.er e1 λ d S1 s1 r1=>hg S0 Z0 S1 Z Y J J' y d _ (F.grow s1) r1 e3 fun Y' F'=>P S1 Z Y' F'
def q8 (free:Bool) (f:Ev->Option (List T)) (ti:wq):Prop:=∀ S Z Y J ts Q,ER S Z Y J->f J=some ts->(∀ I S',Sx S S'->zk (zK S' Z) ts I.items->(∀ S'',Sx (if free=true then zK S' Z else S') S''->I.keep S'')->Q I S')->ti Y S Q
@[simp] def xw (f:Ev->Option T):Ev->Option (List T):=fun J=>(f J).bind wK
def TB {f:Ev->Option T}{te:zp}(hf:yr f te):q8 false (xw f) (gj te):=λ S Z Y J ts Q hE e hq=>by
 obtain⟨y,e1,e2⟩:=Ag.mp e
 refine hf S Z Y J y _ hE e1 λ d S1 s1 r1=>?_
 cases y with
 | tup us=>
  cases e2
  obtain⟨ds,rfl,h2⟩:=Vw.tup r1
  exact hq _ S1 s1 h2 λ _ _=>trivial
 | lst us=>
  cases e2
  obtain⟨ds,rfl | ⟨a,rfl,h1⟩,h2⟩:=Vw.lst r1
  ·exact hq _ S1 s1 h2 λ _ _=>trivial
  ·dsimp only;rw[h1]
   exact hq ⟨ds,_⟩ S1 s1 h2 λ S'' s=>s _ _ h1
 | _=>cases e2
def TC {f:Ev->Option T}{te:zp}(hf:wH f te):q8 true (xw f) (gj te):=λ S Z Y J ts Q hE e hq=>by
 obtain⟨y,e1,e2⟩:=Ag.mp e
 refine hf S Z Y J y _ hE e1 λ d S1 s1 r1=>?_
 cases y with
 | tup us=>
  cases e2
  obtain⟨ds,rfl,h2⟩:=Vw.tup (.inl r1)
  exact hq _ S1 s1 h2 λ _ _=>trivial
 | lst us=>
  cases e2
  have r2:=r1
  unfold xJ at r2
  simp only[Sn] at r2
  obtain⟨ds,⟨rfl,_⟩ | ⟨a,rfl,h1⟩,h2⟩:=r2
  ·exact hq _ S1 s1 h2 λ _ _=>trivial
  ·dsimp only;rw[(uY h1).2]
   exact hq ⟨ds,_⟩ S1 s1 h2 λ S'' s=>s _ _ h1
 | _=>cases e2
noncomputable def rangeT (lo:Int) (n:Nat):List T:=(List.range n).map λ(k:Nat)=>T.int (lo+(k:Int))
def j4 {S:SS}(lo:Int) (n:Nat):zk S (rangeT lo n) (vc lo n):=by
 unfold rangeT vc
 induction List.range n with
 | nil=>exact .nil
 | cons k l ih=>exact .cons wx ih
noncomputable def inR (j:Int):Bool:=decide (-100000000<=j)&&decide (j<=100000000)
def kq {j:Int}:inR j=true↔-100000000<=j/\j<=100000000:=by simp[inR]
def kr {j:Int}(h:inR j=true):-(2 ^ 62)<=j/\j<2 ^ 62:=by have:=kq.mp h;lia
noncomputable def tM:List T->Option (List T)
 | [.int j]=>if inR j=true then some (rangeT 0 j.toNat) else none
 | _=>none
noncomputable def oK:List T->Option (List T)
 | [.int i,.int j]=>if inR i=true/\inR j=true then some (rangeT i (j-i).toNat) else none
 | _=>none
@[simp] noncomputable def ve (F:List T->Option (List T)) (g:Ev->Option (List T)):Ev->Option (List T):=fun J=>(g J).bind F
def iL {b:Bool}{g:Ev->Option (List T)}{tA:zY}(h:qB g tA):q8 b (ve tM g) (gm tA):=λ S Z Y J ts Q hE e hq=>by
 obtain⟨ys,e1,e2⟩:=Ag.mp e
 refine h S Z Y J ys _ hE e1 λ ds S1 s1 r1=>?_
 unfold tM at e2
 split at e2
 ·split at e2
  ·rename_i hc
   cases e2
   obtain⟨d,rfl,h1⟩:=u5 r1
   cases h1.int
   exact⟨kr hc,hq _ S1 s1 (j4 _ _) λ _ _=>trivial⟩
  ·cases e2
 ·cases e2
def TF {b:Bool}{g:Ev->Option (List T)}{tA:zY}(h:qB g tA):q8 b (ve oK g) (gk tA):=λ S Z Y J ts Q hE e hq=>by
 obtain⟨ys,e1,e2⟩:=Ag.mp e
 refine h S Z Y J ys _ hE e1 λ ds S1 s1 r1=>?_
 unfold oK at e2
 split at e2
 ·split at e2
  ·rename_i hc
   cases e2
   obtain⟨d,d',rfl,h1,h2⟩:=dv r1
   cases h1.int;cases h2.int
   exact⟨⟨(kr hc.1).1,(kr hc.1).2,kr hc.2⟩,hq _ S1 s1 (j4 _ _) λ _ _=>trivial⟩
  ·cases e2
 ·cases e2
noncomputable def xv (is:List Nat) (g:T->Ev->Option Ev) (b:Sm):List T->Ev->Option Out
 | [],J=>some (.nx (yA is J))
 | y::ys,J=>(g y (yA is J)).bind fun J1=>(b J1).bind λ o=>match o with
  | .nx J2=>xv is g b ys J2
  | .ct J2=>xv is g b ys J2
  | .bk J2=>some (.nx (yA is J2))
  | .rt t=>some (.rt t)
@[simp] def vg (is:List Nat) (f:Ev->Option (List T)) (g:T->Ev->Option Ev) (b:Sm):Sm:=fun J=>(f J).bind λ ts=>xv is g b ts J
def iJ {is:List Nat}{fi:Ev->Option (List T)}{ti:wq}{g:T->Ev->Option Ev}{tg:yV}{b:Sm}{tb:yg} [Lo R] (hi:q8 true fi ti) (hg:mC g tg) (hb:yh R b tb):yh R (vg is fi g b) (n_ ti tg tb):=λ S0 Z0 S Z Y J o E F e P=>by
 obtain⟨ts,e1,e2⟩:=Ag.mp e
 refine hi S Z Y J ts _ F.er e1 λ I S1 s1 r1 hk=>?_
 rw[if_pos rfl] at hk
 obtain⟨SB,b1,FB,b2⟩:=(F.grow s1).rebase
 have lo:∀ S' d y,R SB S' Z0 y d->R S0 S' Z0 y d:=λ S' d y r=>Lo.lo b1 (λ _ z=>z) r
 have zz:=F.zz
 refine⟨λ i Y' S'=>∃ Z' J',FR SB Z0 S' Z' Y' J'/\xv is g b (ts.drop i) J'=some o,⟨Z,J,FB,e2⟩,λ i Y' S' ⟨Z',J',F',_⟩=>hk S' (b2.trans F'.sx),λ i d Y' S' hd ⟨Z',J',F',e'⟩=>?_,fun Y' S' ⟨Z',J',F',e'⟩=>?_⟩
 ·obtain⟨y,hy,r2⟩:=r1.gJ hd
  have Al:=(AD.mp hy).1
  have CV:ts.drop i=y::ts.drop (i+1):=by
   rw[List.drop_eq_getElem_cons Al,(AD.mp hy).2]
  rw[CV] at e'
  unfold xv at e'
  obtain⟨J1,g1,e'⟩:=Ag.mp e'
  obtain⟨o1,g2,e'⟩:=Ag.mp e'
  refine hg SB Z0 S' Z' Y' _ J1 y d _ (F'.yA is) (Sn.sx (F'.WJ b2 zz) y r2) g1 fun Y2 F2=>?_
  refine hb SB Z0 S' Z' Y2 J1 o1 _ F2 g2 ?_
  cases o1 with
  | nx J2=>exact λ S3 Z3 Y3 F3=>⟨Z3,J2,F3,e'⟩
  | ct J2=>exact λ S3 Z3 Y3 F3=>⟨Z3,J2,F3,e'⟩
  | bk J2=>cases e';exact λ S3 Z3 Y3 F3=>P S3 Z3 Y3 ((F3.yA is).back b1 F.z0)
  | rt y=>cases e';exact λ d S3 s3 r3=>P d S3 (b1.trans s3) (lo _ _ _ r3)
 ·rw[show I.items.length=ts.length from r1.len,List.drop_length] at e'
  unfold xv at e'
  cases e'
  exact P S' Z' Y' ((F'.yA is).back b1 F.z0)
end
@[simp] noncomputable def xZ (i:Nat) (f:Ev->Option T):Sm:=fun J=>match J[i]? with
 | some (some (.own (.lst ts)))=>(f J).bind λ y=>if ts.length<sizeLine then some (.nx (J.set i (some (.own (.lst (ts++[y])))))) else none
 | _=>none
section
variable {R:Rk}{f:Ev->Option T}{te:zp}
def iK (i:Nat) (hf:wH f te):yh R (xZ i f) (kL (rL (ym i) te)):=λ S0 Z0 S Z Y J o E F e P=>by
 unfold xZ at e
 split at e
 ·rename_i ts h
  obtain⟨y,e1,e2⟩:=Ag.mp e
  split at e2
  ·rename_i hl
   cases e2
   obtain⟨p,ob,h1,h2,h3,h4⟩:=F.er.ow i _ h
   obtain⟨ds,rfl⟩:∃ ds,ob=.lst ds:=by
    cases ob with
    | lst ds=>exact⟨ds,rfl⟩
    | zI _=>exact h3.elim
   replace h3:zk (zK S Z) ts ds:=h3
   show rL (ym i) te Y S _
   unfold rL ym
   rw[h1]
   refine⟨⟨ds,h2⟩,hf S Z Y J y _ F.er e1 λ d S1 s1 r1=>?_⟩
   dsimp only
   rw[s1 _ _ h2]
   have F1:=F.grow s1
   refine⟨by rw[h3.len];exact hl,P _ Z Y (F1.mut (us:=.lst (ts++[y])) (es:=.lst (ds++[d])) i h h1 ((zk.sx (wD s1) ts h3).append (.cons r1 .nil)))⟩
  ·cases e2
 ·cases e
end
def sf (pick:List (Option Nat)) (ti:wq) (g:yV) (tc:y6) (te:zp):zp:=fun Y S Q=>ti Y S λ I S1=>I.items.length<=sizeLine/\(∀ S,Sx S1 S->I.keep S)/\∀ p,S1 p=none->∃ W:Nat->SS->List D->Prop,W 0 S1 []/\
 (∀ i S S' acc,(∀ b o,b≠p->S b=some o->S' b=some o)->W i S acc->W i S' acc)/\
 (∀ i d S acc,I.items[i]?=some d->Sx S1 S->S p=some (.lst acc)->W i S acc->g d (vW pick Y) S fun Y2 S2=>qw (vW pick Y) Y2/\tc Y2 S2 λ b S3=>if b=true then te Y2 S3 λ y S4=>Sx S S4/\W (i+1) S4 (acc++[y]) else Sx S S3/\W (i+1) S3 acc)/\
 ∀ S2 acc,Sx S1 S2->S2 p=some (.lst acc)->W I.items.length S2 acc->Q (.ref p) S2
@[simp] noncomputable def oW (pick:List (Option Nat)) (J:Ev):Ev:=pick.map λ o=>o.bind λ i=>(J[i]?).join
noncomputable def rM (h:T->Option (Option T)):List T->Option (List T)
 | []=>some []
 | y::ys=>(h y).bind λ o=>(rM h ys).map λ zs=>match o with
  | some z=>z::zs
  | none=>zs
@[simp] def tU (pick:List (Option Nat)) (g:T->Ev->Option Ev) (c:Ev->Option Bool) (f:Ev->Option T) (J:Ev) (y:T):Option (Option T):=
 (g y (oW pick J)).bind fun J2=>(c J2).bind λ b=>if b=true then (f J2).map some else some none
def xS (pick:List (Option Nat)) (it:Ev->Option (List T)) (g:T->Ev->Option Ev) (c:Ev->Option Bool) (f:Ev->Option T):Ev->Option T:=fun J=>(it J).bind λ ts=>if ts.length<=sizeLine then (rM (tU pick g c f J) ts).map .lst else none
@[simp] noncomputable def sj:Ev->Option Bool:=λ _=>some true
def T_:wX sj ZE:=λ S Z Y J y Q hE e hq=>by cases e;exact hq S (.refl S)
def kW (pick:List (Option Nat)) (g:T->Ev->Option Ev) (t:yV):Prop:=∀ B S Z Y J J' y d Q,(∀ i:Nat,pick[i]?=some none->B[i]?=some none)->qw B Y->Y.length=J.length->ER S Z Y J->Sn (zK S Z) y d->g y J=some J'->
 (∀ Y',ER S Z Y' J'->qw B Y'->Y'.length=J'.length->Q Y' S)->t d Y S Q
def kU (pick:List (Option Nat)) (g:List T->Ev->Option Ev) (t:wF):Prop:=∀ B S Z Y J J' y d Q,(∀ i:Nat,pick[i]?=some none->B[i]?=some none)->qw B Y->Y.length=J.length->ER S Z Y J->zk (zK S Z) y d->g y J=some J'->
 (∀ Y',ER S Z Y' J'->qw B Y'->Y'.length=J'.length->Q Y' S)->t d Y S Q
def ER.rZ {S:SS}{Z:Addr->Prop}{Y:zU}{J:Ev}{y:T}{d:D}(h:ER S Z Y J) (hl:Y.length=J.length) (i:Nat) (r:Sn (zK S Z) y d):ER S Z (Y.set i (some d)) (J.set i (some (.im y))):=by
 refine⟨h.zd,λ j t e=>?_,λ j ts e=>?_⟩
 ·rcases yu e with ⟨rfl,hl',e⟩ | ⟨n,e⟩
  ·cases e;exact⟨d,pC (by rw[hl];exact hl'),r⟩
  ·rw[xy n];exact h.im j t e
 ·rcases yu e with ⟨rfl,hl',e⟩ | ⟨n,e⟩
  ·cases e
  ·rw[xy n];exact h.ow j ts e
variable {pick:List (Option Nat)}
def TU (i:Nat) (hi:pick[i]?=some none:=by rfl):kW pick (zF i) (hName i):=λ B S Z Y J J' y d Q hB hs hl hE r e hq=>by
 cases e
 refine hq _ (hE.rZ hl i r) ⟨by rw[CN];exact hs.1,λ j c q=>?_⟩ (by simp[hl])
 by_cases hj:i=j
 ·subst hj;rw[hB i hi] at q;cases q
 ·rw[xy hj];exact hs.2 j c q
def TN:kU pick uT gy:=λ B S Z Y J J' y d Q hB hs hl hE r e hq=>by
 cases y with
 | nil=>simp only[zk] at r;subst r;cases e;exact⟨rfl,hq _ hE hs hl⟩
 | cons _ _=>cases e
def TQ {g:T->Ev->Option Ev}{h:List T->Ev->Option Ev}{t:yV}{u:wF}(hg:kW pick g t) (hh:kU pick h u):kU pick (xA g h) (gz t u):=λ B S Z Y J J' y d Q hB hs hl hE r e hq=>by
 cases y with
 | nil=>cases e
 | cons y ys=>
  simp only[zk] at r
  obtain⟨c,cs,rfl,r1,r2⟩:=r
  obtain⟨J1,e1,e2⟩:=Ag.mp e
  exact hg B S Z Y J J1 y c _ hB hs hl hE r1 e1 fun Y1 E1 s1 l1=>hh B S Z Y1 J1 J' ys cs Q hB s1 l1 E1 r2 e2 hq
def TR {n:Nat}{g:List T->Ev->Option Ev}{t:wF}(hg:kU pick g t):kW pick (vO n g) (kx n t):=λ B S Z Y J J' y d Q hB hs hl hE r e hq=>by
 cases y with
 | tup ys=>
  simp only[Sn] at r
  obtain⟨ds,rfl,r⟩:=r
  simp only[vO] at e
  split at e
  ·rename_i hn
   exact⟨by rw[r.len];exact hn,hg B S Z Y J J' ys ds Q hB hs hl hE r e hq⟩
  ·cases e
 | _=>cases e
def cX {J:Ev}{i:Nat}{w:W}(h:(oW pick J)[i]?=some (some w)):∃ j:Nat,pick[i]?=some (some j)/\J[j]?=some (some w):=by
 unfold oW at h
 rw[Ax] at h
 cases q:pick[i]? with
 | none=>rw[q] at h;cases h
 | some o=>
  rw[q] at h
  cases o with
  | none=>simp at h
  | some j=>
   simp only[Option.map_some,BJ,Option.some.injEq] at h
   refine⟨j,rfl,?_⟩
   cases q2:J[j]? with
   | none=>rw[q2] at h;cases h
   | some o2=>rw[q2] at h;simp only[Option.join_some] at h;rw[h]
def cY {Y:zU}{i j:Nat}{d:D}(h:pick[i]?=some (some j)) (h':Y[j]?=some (some d)):(vW pick Y)[i]?=some (some d):=by
 unfold vW
 rw[Ax,h]
 simp[h']
def ER.VL {S:SS}{Z:Addr->Prop}{Y:zU}{J:Ev}(h:ER S Z Y J):ER S Z (vW pick Y) (oW pick J):=by
 refine⟨h.zd,λ i t e=>?_,λ i ts e=>?_⟩
 ·obtain⟨j,h1,h2⟩:=cX e
  obtain⟨d,h3,h4⟩:=h.im j t h2
  exact⟨d,cY h1 h3,h4⟩
 ·obtain⟨j,h1,h2⟩:=cX e
  obtain⟨p,ds,h3,h4⟩:=h.ow j ts h2
  exact⟨p,ds,cY h1 h3,h4⟩
def ER.hide {S S':SS}{Z:Addr->Prop}{Y:zU}{J:Ev}{p:Addr}(h:ER S Z Y J) (s:Sx S S') (hp:S p=none) (hp':S' p≠none):ER S' (λ a=>Z a\/a=p) Y J:=by
 refine⟨λ a z q=>?_,λ i t e=>?_,λ i ts e=>?_⟩
 ·rcases z with z | rfl
  ·exact h.zd a z (s.none q)
  ·exact hp' q
 ·obtain⟨d,h1,h2⟩:=h.im i t e
  exact⟨d,h1,Sn.sx (pB s hp) t h2⟩
 ·obtain⟨q,ds,h1,h2,h3,h4⟩:=h.ow i ts e
  exact⟨q,ds,h1,s _ _ h2,t7.sx (pB s hp) h3,.inl h4⟩
def Sy {it:Ev->Option (List T)}{ti:wq}{g:T->Ev->Option Ev}{tg:yV}{c:Ev->Option Bool}{tc:y6}{f:Ev->Option T}{te:zp}{b:Bool}(hi:q8 b it ti) (hg:kW pick g tg) (hc:wX c tc) (hf:wH f te):
  xi (xS pick it g c f) (sf pick ti tg tc te):=λ S Z Y J y Q hE e hq=>by
 obtain⟨ts,e1,e2⟩:=Ag.mp e
 split at e2
 case isFalse=>cases e2
 rename_i hlen
 obtain⟨zs,e3,rfl⟩:=AA.mp e2
 refine hi S Z Y J ts _ hE e1 λ I S1 s1 r1 hk=>⟨by rw[r1.len];exact hlen,λ S' s'=>hk S' ?_,λ p hp=>?_⟩
 ·cases b
  ·exact s'
  ·exact (ku _ _).trans s'
 have E1:=hE.grow s1
 have nz:¬ Z p:=λ z=>E1.zd p z hp
 refine⟨λ i S' acc=>∃ us ws,zk (zK S' λ a=>Z a\/a=p) us acc/\rM (tU pick g c f J) (ts.drop i)=some ws/\zs=us++ws,⟨[],zs,.nil,e3,rfl⟩,λ i S' S'' acc hh ⟨us,ws,h1,h2⟩=>⟨us,ws,zk.sx (λ a o q=>?_) us h1,h2⟩,λ i d S2 acc hd s2 AJ ⟨us,ws,h1,h2,h3⟩=>?_,λ S2 acc s2 AJ ⟨us,ws,h1,h2,h3⟩=>?_⟩
 ·obtain⟨q1,q2⟩:=uY q
  rw[v_ q1]
  exact hh a o (λ z=>q1 (.inr z)) q2
 ·obtain⟨x,hx,rx⟩:=r1.gJ hd
  have Al:=(AD.mp hx).1
  have CV:ts.drop i=x::ts.drop (i+1):=by rw[List.drop_eq_getElem_cons Al,(AD.mp hx).2]
  rw[CV] at h2
  unfold rM at h2
  obtain⟨o,o1,h2⟩:=Ag.mp h2
  obtain⟨ws',o2,rfl⟩:=AA.mp h2
  have E2:=(E1.hide s2 hp (by rw[AJ];nofun)).VL (pick:=pick)
  unfold tU at o1
  obtain⟨J2,g1,o1⟩:=Ag.mp o1
  obtain⟨bb,g2,o1⟩:=Ag.mp o1
  refine hg (vW pick Y) S2 _ _ _ J2 x d _ (λ j hj=>?_) ⟨rfl,λ _ _ q=>q⟩ (by unfold vW oW;simp) E2 (Sn.sx (pB s2 hp) x rx) g1 fun Y2 E3 l3 _=>⟨l3,?_⟩
  ·unfold vW;rw[Ax,hj];rfl
  refine hc S2 _ Y2 J2 bb _ E3 g2 λ S3 s3=>?_
  split at o1
  ·rename_i hb
   rw[if_pos hb]
   obtain⟨z,g3,rfl⟩:=AA.mp o1
   refine hf S3 _ Y2 J2 z _ (E3.grow s3) g3 λ dz S4 s4 r4=>⟨s3.trans s4,us++[z],ws',?_,o2,by rw[h3];simp⟩
   exact (zk.sx (wD (s3.trans s4)) us h1).append (.cons r4 .nil)
  ·rename_i hb
   rw[if_neg hb]
   cases o1
   exact⟨s3,us,ws',zk.sx (wD s3) us h1,o2,h3⟩
 ·rw[show I.items.length=ts.length from r1.len,List.drop_length] at h2
  cases h2
  rw[Cw] at h3
  subst h3
  refine hq _ S2 (s1.trans s2) ⟨?_,λ vs e=>?_⟩
  ·simp only[Sn]
   exact⟨acc,.inr ⟨p,rfl,by rw[v_ nz];exact AJ⟩,zk.sx (uc λ a z=>.inl z) zs h1⟩
  ·cases e
   exact⟨p,acc,rfl,s1.none hp,AJ,h1⟩
class Sr (R:Rk):Prop extends Lo R where
 sn:∀ {S S':SS}{Z:Addr->Prop}{y:T}{d:D},R S S' Z y d->Sn (zK S' Z) y d
instance:Sr xJ:=⟨λ h=>h⟩
instance:Sr zE:=⟨λ h=>h.1⟩
def zM (R:Rk) (F:List T->Option T):wa:=λ ds S Q=>∃ Z ys y,(∀ a,Z a->S a≠none)/\zk (zK S Z) ys ds/\F ys=some y/\∀ d S',Sx S S'->R S S' Z y d->Q d S'
def zM.mo {R:Rk}{F:List T->Option T}:pT (zM R F):=λ _ _ _ _ hq ⟨Z,ys,y,h1,h2,h3,h4⟩=>⟨Z,ys,y,h1,h2,h3,λ d S' s r=>hq _ _ (h4 d S' s r)⟩
def iO {R:Rk} [Lo R] {F:List T->Option T}{g:Ev->Option (List T)}{u:zY}(h:qA g u):yY R (zx F g) (kM (zM R F) u):=λ S Z Y J y Q hE e hq=>by
 obtain⟨xs,e1,e2⟩:=Ag.mp e
 refine h S Z Y J xs _ hE e1 λ ds S1 s1 r1=>?_
 exact⟨Z,xs,y,(hE.grow s1).zd,r1,e2,λ d S' s r=>hq d S' (s1.trans s) (Cl.cl s1 r)⟩
@[simp] noncomputable def qM (N:List Str) (ys:List T):Ev:=ys.map (λ y=>some (.im y))++List.replicate (N.length-ys.length) none
@[simp] noncomputable def b9:Option Out->Option T
 | some (.rt y)=>some y
 | some (.nx _)=>some .zj
 | _=>none
@[simp] def ye (N:List Str) (n:Nat) (g:Sm):List T->Option T:=λ ys=>if ys.length=n then b9 (g (qM N ys)) else none
theorem zM.len {R:Rk}{N:List Str}{n:Nat}{g:Sm}{ds:List D}{S:SS}{Q:DK}(hs:zM R (ye N n g) ds S Q):ds.length=n:=by
 obtain⟨Z,ys,y,hz,r,e,hq⟩:=hs
 unfold ye at e
 split at e
 ·rename_i h;rw[r.len];exact h
 ·cases e
def W4 {N:List Str}{ds:List D}{i:Nat}{d:D}(h:ds[i]?=some d):(u6 N ds)[i]?=some (some d):=by
 have hi:=(AD.mp h).1
 unfold u6
 rw[Cu (by simpa using hi),Ax,h];rfl
def l6 {N:List Str}{ys:List T}{i:Nat}{w:W}(h:(qM N ys)[i]?=some (some w)):∃ y,ys[i]?=some y/\w=.im y:=by
 unfold qM at h
 have hi:i<ys.length:=by
  rcases Bo i ys.length with q | q
  ·exact q
  ·rw[Cv (by simpa using q),Dx] at h
   split at h <;> cases h
 rw[Cu (by simpa using hi),Ax] at h
 cases q:ys[i]? with
 | none=>rw[q] at h;cases h
 | some y=>rw[q] at h;cases h;exact⟨y,rfl,rfl⟩
def Yl {R:Rk} [Lo R] {N:List Str}{n:Nat}{g:Sm}{t:yg}(h:yh R g t) {ds:List D}{S:SS}{Q:DK}(hs:zM R (ye N n g) ds S Q):t { nx:=λ _ S'=>Q .zj S',rt:=Q } (u6 N ds) S:=by
 obtain⟨Z,ys,y,hz,r,e,hq⟩:=hs
 unfold ye at e
 split at e
 case isFalse=>cases e
 obtain⟨o,e1,e2⟩:∃ o,g (qM N ys)=some o/\b9 (some o)=some y:=by
  cases q:g (qM N ys) with
  | none=>rw[q] at e;cases e
  | some o=>exact⟨o,rfl,by rw[<- q];exact e⟩
 refine h S Z S Z _ _ o _ ⟨⟨hz,λ i t e=>?_,λ i ts e=>?_⟩,?_,.refl S,hz,λ _ z=>z,λ _ z=>.inl z,λ i ts p e _=>?_,λ i j ts us p _ e _ _ _=>?_⟩ e1 ?_
 ·obtain⟨y',h1,h2⟩:=l6 e
  cases h2
  obtain⟨d,h3,h4⟩:=r.gH h1
  exact⟨d,W4 h3,h4⟩
 ·obtain⟨y',h1,h2⟩:=l6 e
  cases h2
 ·unfold u6 qM
  have:=r.len
  simp[this]
 ·obtain⟨y',h1,h2⟩:=l6 e
  cases h2
 ·obtain⟨y',h1,h2⟩:=l6 e
  cases h2
 ·cases o with
  | rt y'=>cases e2;exact λ d S' s r=>hq d S' s r
  | nx J'=>
   cases e2
   exact λ S' Z' Y' F=>hq .zj S' F.sx (Cl.of (λ _=>nofun) cg)
  | _=>cases e2
noncomputable def yW (Aa:List (Key×T)) (k:Key):Option T:=(Aa.find? λ kv=>decide (kv.1=k)).map (·.2)
noncomputable def vT (Aa:List (Key×T)) (k:Key) (v:T):List (Key×T):=
 if (Aa.any λ kv=>decide (kv.1=k))=true then Aa.map (λ kv=>if kv.1=k then (kv.1,v) else kv) else Aa++[(k,v)]
section
variable {S:SS}
theorem yx.len:∀ {a:List (Key×T)}{b:List (Key×D)},yx S a b->b.length=a.length
 | [],_,h=>by cases h;rfl
 | (k,t)::r,_,h=>by
  obtain⟨d,m,rfl,_,h2⟩:=h
  simp[yx.len h2]
theorem yx.val:∀ {a:List (Key×T)}{b:List (Key×D)}(k:Key),yx S a b->(yW a k=none/\vN b k=none)\/∃ t d,yW a k=some t/\vN b k=some d/\Sn S t d
 | [],_,k,h=>by cases h;exact .inl ⟨rfl,rfl⟩
 | (j,t)::r,_,k,h=>by
  obtain⟨d,m,rfl,h1,h2⟩:=h
  by_cases e:j=k
  ·subst e;exact .inr ⟨t,d,by simp[yW],by simp[vN],h1⟩
  ·rcases yx.val k h2 with ⟨g1,g2⟩ | ⟨t',d',g1,g2,g3⟩
   ·exact .inl ⟨by simpa [yW,e] using g1,by simpa [vN,e] using g2⟩
   ·exact .inr ⟨t',d',by simpa [yW,e] using g1,by simpa [vN,e] using g2,g3⟩
theorem yx.any:∀ {a:List (Key×T)}{b:List (Key×D)}(k:Key),yx S a b->(b.any λ kv=>decide (kv.1=k))=a.any λ kv=>decide (kv.1=k)
 | [],_,k,h=>by cases h;rfl
 | (j,t)::r,_,k,h=>by
  obtain⟨d,m,rfl,h1,h2⟩:=h
  rw[Bx,Bx,yx.any k h2]
theorem yx.uP {k:Key}{t:T}{d:D}(r:Sn S t d):∀ {a:List (Key×T)}{b:List (Key×D)},yx S a b->yx S (a.map λ kv=>if kv.1=k then (kv.1,t) else kv) (b.map λ kv=>if kv.1=k then (kv.1,d) else kv)
 | [],_,h=>by cases h;rfl
 | (j,u)::a,_,h=>by
  obtain⟨e,m,rfl,h1,h2⟩:=h
  rw[Aq,Aq]
  by_cases q:j=k
  ·rw[if_pos q,if_pos q];exact⟨d,_,rfl,r,yx.uP r h2⟩
  ·rw[if_neg q,if_neg q];exact⟨e,_,rfl,h1,yx.uP r h2⟩
theorem yx.snoc {k:Key}{t:T}{d:D}(r:Sn S t d):∀ {a:List (Key×T)}{b:List (Key×D)},yx S a b->yx S (a++[(k,t)]) (b++[(k,d)])
 | [],_,h=>by cases h;exact⟨d,[],rfl,r,rfl⟩
 | (j,u)::a,_,h=>by
  obtain⟨e,m,rfl,h1,h2⟩:=h
  exact⟨e,_,rfl,h1,yx.snoc r h2⟩
def yx.put {a:List (Key×T)}{b:List (Key×D)}(h:yx S a b) (k:Key) {t:T}{d:D}(r:Sn S t d):yx S (vT a k t) (putD b k d):=by
 unfold vT putD
 rw[h.any k]
 split
 ·exact yx.uP r h
 ·exact yx.snoc r h
end
@[simp] noncomputable def ZI (i:Nat):Sm:=fun J=>some (.nx (J.set i (some (.own (.zI [])))))
@[simp] def fj (i:Nat) (f:Ev->Option T):Ev->Option T:=fun J=>(f J).bind λ y=>match J[i]?,y with
 | some (some (.own (.zI Aa))),.int k=>yW Aa (.inl k)
 | _,_=>none
@[simp] def ZK (i:Nat) (f g:Ev->Option T):Ev->Option T:=fun J=>(f J).bind λ y=>(g J).bind λ z=>match J[i]?,y with
 | some (some (.own (.zI Aa))),.int k=>some ((yW Aa (.inl k)).getD z)
 | _,_=>none
@[simp] def ZH (i:Nat) (f v:Ev->Option T):Sm:=fun J=>(v J).bind λ z=>(f J).bind λ y=>match J[i]?,y with
 | some (some (.own (.zI Aa))),.int k=>if Aa.length<sizeLine then some (.nx (J.set i (some (.own (.zI (vT Aa (.inl k) z)))))) else none
 | _,_=>none
@[simp] noncomputable def fh (i:Nat):Ev->Option T:=fun J=>match J[i]? with
 | some (some (.own (.zI Aa)))=>some (.int Aa.length)
 | _=>none
def lW {S:SS}{Z:Addr->Prop}{Y:zU}{J:Ev}(hE:ER S Z Y J) {i:Nat}{Aa:List (Key×T)}(h:J[i]?=some (some (.own (.zI Aa)))):∃ p b,Y[i]?=some (some (.ref p))/\S p=some (.zI b)/\yx (zK S Z) Aa b:=by
 obtain⟨p,o,h1,h2,h3,_⟩:=hE.ow i _ h
 cases o with
 | zI b=>exact⟨p,b,h1,h2,h3⟩
 | lst _=>exact h3.elim
section
variable {R:Rk}{f g v:Ev->Option T}{ty tx tv:zp}
def T9 (i:Nat):yh R (ZI i) (vk ZX (hName i)):=λ S0 Z0 S Z Y J o E F e P=>by
 cases e
 intro p hp
 exact P _ _ _ (F.cp (ts:=.zI []) (ds:=.zI []) (.new hp _) i hp sO rfl)
def bP (i:Nat) (hf:yr f ty):wH (fj i f) (Z_ (ym i) ty):=λ S Z Y J y Q hE e hq=>by
 obtain⟨x,e1,e2⟩:=Ag.mp e
 split at e2
 ·rename_i Aa k h
  obtain⟨p,b,h1,h2,h3⟩:=lW hE h
  show ym i Y S _
  unfold ym;rw[h1]
  refine hf S Z Y J _ _ hE e1 λ d S1 s1 r1=>?_
  cases Vw.int r1
  rcases (yx.sx (wD s1) h3).val (.inl k) with ⟨g1,_⟩ | ⟨t,d,g1,g2,g3⟩
  ·rw[g1] at e2;cases e2
  ·rw[g1] at e2;cases e2
   exact⟨p,b,k,d,rfl,rfl,s1 _ _ h2,g2,hq d S1 s1 g3⟩
 ·cases e2
def bQ (i:Nat) (hf:yr f ty) (hg:wH g tx):wH (ZK i f g) (ZZ (ym i) ty tx):=λ S Z Y J y Q hE e hq=>by
 obtain⟨x,e1,e⟩:=Ag.mp e
 obtain⟨z,e2,e3⟩:=Ag.mp e
 split at e3
 ·rename_i Aa k h
  cases e3
  obtain⟨p,b,h1,h2,h3⟩:=lW hE h
  show ym i Y S _
  unfold ym;rw[h1]
  refine⟨p,rfl,⟨b,h2⟩,hf S Z Y J _ _ hE e1 λ d S1 s1 r1=>?_⟩
  cases Vw.int r1
  refine hg S1 Z Y J z _ (hE.grow s1) e2 λ dz S2 s2 r2=>⟨k,b,rfl,(s1.trans s2) _ _ h2,?_⟩
  rcases (yx.sx (wD (s1.trans s2)) h3).val (.inl k) with ⟨g1,g2⟩ | ⟨t,d,g1,g2,g3⟩
  ·rw[g2];rw[g1] at hq;exact hq _ S2 (s1.trans s2) r2
  ·rw[g2];rw[g1] at hq;exact hq _ S2 (s1.trans s2) g3
 ·cases e3
def T8 (i:Nat) (hf:yr f ty) (hv:wH v tv):yh R (ZH i f v) (ZY (ym i) ty tv):=λ S0 Z0 S Z Y J o E F e P=>by
 obtain⟨z,e1,e⟩:=Ag.mp e
 obtain⟨x,e2,e3⟩:=Ag.mp e
 split at e3
 ·rename_i Aa k h
  split at e3
  ·rename_i hl
   cases e3
   refine hv S Z Y J z _ F.er e1 λ dz S1 s1 r1=>?_
   have F1:=F.grow s1
   obtain⟨p,b,h1,h2,h3⟩:=lW F1.er h
   show ym i Y S1 _
   unfold ym;rw[h1]
   refine hf S1 Z Y J _ _ F1.er e2 λ d S2 s2 r2=>?_
   cases Vw.int r2
   have h4:=yx.sx (wD s2) h3
   exact⟨p,b,k,rfl,rfl,s2 _ _ h2,by rw[h4.len];exact hl,P _ Z Y ((F1.grow s2).mut (us:=.zI (vT Aa (.inl k) z)) (es:=.zI (putD b (.inl k) dz)) i h h1 (h4.put _ (Sn.sx (wD s2) z r1)))⟩
  ·cases e3
 ·cases e3
def Rb (i:Nat):xi (fh i) (xG Zz (qp (ym i) kJ)):=λ S Z Y J y Q hE e hq=>by
 unfold fh at e
 split at e
 ·rename_i Aa h
  cases e
  obtain⟨p,b,h1,h2,h3⟩:=lW hE h
  show ym i Y S _
  unfold ym;rw[h1]
  refine⟨p,b,rfl,h2,?_⟩
  rw[h3.len]
  exact hq _ S (.refl S) (Cl.of (λ _=>nofun) wx)
 ·cases e
end
@[simp] noncomputable def ka (f:Ev->Option T):Ev->Option T:=fun J=>(f J).bind λ x=>match x with
 | .int i=>some (.int (-i))
 | _=>none
def ZT (ta:zp):zp:=fun Y S Q=>ta Y S λ x S1=>match x with
 | .int i=>Q (.int (-i)) S1
 | _=>False
def Su {f:Ev->Option T}{te:zp}(h:yr f te):xi (ka f) (ZT te):=λ S Z Y J y Q hE e hq=>by
 obtain⟨x,e1,e2⟩:=Ag.mp e
 refine h S Z Y J x _ hE e1 λ d S1 s1 r1=>?_
 split at e2
 ·cases Vw.int r1
  cases e2
  exact hq _ S1 s1 (Cl.of (λ _=>nofun) wx)
 ·cases e2
def Q_:uw zE pj Zy:=Zh
def QZ:uw zE nB Zx:=Zh
noncomputable def vY:List T->Option (List Int)
 | []=>some []
 | .int i::ts=>(vY ts).map (i::·)
 | _::_=>none
noncomputable def vS:List T->Option (List (List Int))
 | []=>some []
 | .tup r::ts=>(vY r).bind λ x=>(vS ts).map (x::·)
 | _::_=>none
noncomputable def zO (r:List Int):T:=.tup (r.map T.int)
theorem nI:∀ {ts:List T}{is:List Int},vY ts=some is->ts=is.map T.int
 | [],is,h=>by cases h;rfl
 | .int b::ts,is,h=>by
  unfold vY at h
  obtain⟨cs,h1,rfl⟩:=AA.mp h
  rw[Aq,<- nI h1]
 | .zj::ts,bs,h=>by cases h
 | .bl _::ts,bs,h=>by cases h
 | .str _::ts,bs,h=>by cases h
 | .tup _::ts,bs,h=>by cases h
 | .lst _::ts,bs,h=>by cases h
theorem j_:∀ {ts:List T}{rs:List (List Int)},vS ts=some rs->ts=rs.map zO
 | [],is,h=>by cases h;rfl
 | .tup r::ts,is,h=>by
  unfold vS at h
  obtain⟨x,h1,h⟩:=Ag.mp h
  obtain⟨cs,h2,rfl⟩:=AA.mp h
  rw[Aq,<- j_ h2,nI h1];rfl
 | .zj::ts,bs,h=>by cases h
 | .bl _::ts,bs,h=>by cases h
 | .str _::ts,bs,h=>by cases h
 | .int _::ts,bs,h=>by cases h
 | .lst _::ts,bs,h=>by cases h
def a_ (is:List Int):vY (is.map T.int)=some is:=by
 induction is with
 | nil=>rfl
 | cons b bs ih=>rw[Aq];unfold vY;rw[ih];rfl
def ia (rs:List (List Int)):vS (rs.map zO)=some rs:=by
 induction rs with
 | nil=>rfl
 | cons b bs ih=>
  show vS (.tup (b.map T.int)::bs.map zO)=_
  unfold vS;rw[a_,ih];rfl
theorem tL {S:SS}:∀ {is:List Int}{ds:List D},zk S (is.map T.int) ds↔ds=is.map D.int
 | [],ds=>by simp only[BA,zk]
 | i::is,ds=>by
  rw[Aq]
  simp only[zk,Sn]
  constructor
  ·rintro⟨c,cs,rfl,rfl,h⟩
   rw[tL.mp h];rfl
  ·rintro rfl
   exact⟨.int i,_,rfl,rfl,tL.mpr rfl⟩
theorem qO {S:SS}:∀ {rs:List (List Int)}{ds:List D},zk S (rs.map zO) ds↔ds=rs.map xQ
 | [],ds=>by simp only[BA,zk]
 | r::rs,ds=>by
  rw[Aq]
  simp only[zk,zO,Sn]
  constructor
  ·rintro⟨c,cs,rfl,⟨es,rfl,h1⟩,h⟩
   rw[qO.mp h,tL.mp h1];rfl
  ·rintro rfl
   exact⟨xQ r,_,rfl,⟨_,rfl,tL.mpr rfl⟩,qO.mpr rfl⟩
@[simp] noncomputable def XS:T->Option String
 | .zj=>some "NoneType"
 | .bl _=>some "bool"
 | .int _=>some "int"
 | .str _=>some "str"
 | .tup _=>some "tuple"
 | .lst _=>some "list"
 | .yE=>some "dict"
 | .err _ _ _=>none
@[simp] def instS (ty:String) (f:Ev->Option T):Ev->Option T:=fun J=>(f J).bind λ x=>(XS x).map λ t=>.bl (wC t ty)
theorem Vw.err {S:SS}{Z:Addr->Prop}{c f:Str}{t:T}{d:D}(h:Vw S Z (.err c f t) d):∃ x,d=.err c f x/\Sn (zK S Z) t x:=by
 rcases h with h | ⟨_,_,_,h,_⟩
 ·simpa only [Sn] using h
 ·cases h
def SR {ty:String}{f:Ev->Option T}{te:zp}(hf:yr f te):xi (instS ty f) (nY ty te):=λ S Z Y J y Q hE e hq=>by
 obtain⟨x,e1,e2⟩:=Ag.mp e
 obtain⟨n,e3,rfl⟩:=AA.mp e2
 refine hf S Z Y J x _ hE e1 λ d S1 s1 r1=>?_
 have key:sP d S1=some n:=by
  rw[<- e3]
  cases x with
  | zj=>cases Vw.zj r1;rfl
  | bl _=>cases Vw.bl r1;rfl
  | int _=>cases Vw.int r1;rfl
  | str _=>cases Vw.str r1;rfl
  | tup _=>obtain⟨ds,rfl,_⟩:=Vw.tup r1;rfl
  | lst _=>
   obtain⟨ds,rfl | ⟨a,rfl,h1⟩,h2⟩:=Vw.lst r1
   ·rfl
   ·unfold sP;dsimp only;rw[h1];rfl
  | yE=>
   obtain⟨a,Aa,⟨rfl,_⟩,h1⟩:=Vw.yE r1
   unfold sP;dsimp only;rw[h1];rfl
  | err _ _ _=>cases e3
 rw[key]
 exact hq _ S1 s1 (Cl.of (λ _=>nofun) vb)
@[simp] noncomputable def isNone:T->Bool
 | .zj=>true
 | _=>false
noncomputable def p8:D->Bool
 | .zj=>true
 | _=>false
noncomputable def zt (p:Int×Int):T:=.tup [.int p.1,.int p.2]
noncomputable def wL (ns:List Int):T:=.lst (ns.map .int)
@[simp] theorem zaa:sizeLine=16777216:=rfl
def RW {n:Nat}(h:n<=10000):n<=sizeLine:=Bp h (by decide)
def uG {α:Type}{xs:List α}{k:Nat}{x:α}(h:xs[k]?=some x):L2.zQ xs (k:Int)=some x:=by
 unfold L2.zQ L2.wQ
 have hk:=(AD.mp h).1
 rw[if_pos (by lia),if_pos (by lia)]
 simpa using h
@[simp] theorem fJ {α:Type}{xs:List α}{x:α}:L2.zQ (xs++[x]) (-1)=some x:=by
 unfold L2.zQ L2.wQ
 rw[if_neg (by lia),if_pos (by simp;lia)]
 have:(-1+((xs++[x]).length:Int)).toNat=xs.length:=by simp;lia
 rw[BJ,this]
 simp
@[simp] theorem zaq {α:Type}{x:α}{xs:List α}:L2.zQ (x::xs) 0=some x:=uG (k:=0) rfl
@[simp] theorem zap {α:Type}{x y:α}{xs:List α}:L2.zQ (x::y::xs) 1=some y:=uG (k:=1) rfl
@[simp] theorem zao {α:Type}{x y z:α}{xs:List α}:L2.zQ (x::y::z::xs) 2=some z:=uG (k:=2) rfl
@[simp] theorem zan {α:Type}{x y z w:α}{xs:List α}:L2.zQ (x::y::z::w::xs) 3=some w:=uG (k:=3) rfl
theorem f9 {α:Type}(enc:α->T) (g:α->Option T) (h:T->Option (Option T)):∀ (xs:List α),(∀ x∈xs,h (enc x)=some (g x))->rM h (xs.map enc)=some (xs.filterMap g)
 | [],_=>rfl
 | x::xs,hh=>by
  rw[Aq]
  unfold rM
  rw[hh x Am,f9 enc g h xs λ y hy=>hh y (Ao _ hy)]
  cases q:g x <;> simp[q]
def Ot {α:Type}(enc:α->T) (g:α->T) (h:T->Option (Option T)) (xs:List α) (hh:∀ x∈xs,h (enc x)=some (some (g x))):rM h (xs.map enc)=some (xs.map g):=by
 rw[f9 enc (λ x=>some (g x)) h xs hh]
 simp
def qh {α:Type}(enc:α->T) (h:α->T) {pick:List (Option Nat)}{it:Ev->Option (List T)}{g:T->Ev->Option Ev}{c:Ev->Option Bool}{f:Ev->Option T}{J:Ev}(xs:List α) (hi:it J=some (xs.map enc)) (hl:xs.length<=16777216)
  (hh:∀ x∈xs,tU pick g c f J (enc x)=some (some (h x))):xS pick it g c f J=some (.lst (xs.map h)):=by
 unfold xS
 rw[hi,BJ,if_pos (by rw[Au];exact hl),Ot enc h _ xs hh];rfl
def kh {α:Type}(enc:α->T) (h:α->Option T) {pick:List (Option Nat)}{it:Ev->Option (List T)}{g:T->Ev->Option Ev}{c:Ev->Option Bool}{f:Ev->Option T}{J:Ev}(xs:List α) (hi:it J=some (xs.map enc)) (hl:xs.length<=16777216)
  (hh:∀ x∈xs,tU pick g c f J (enc x)=some (h x)):xS pick it g c f J=some (.lst (xs.filterMap h)):=by
 unfold xS
 rw[hi,BJ,if_pos (by rw[Au];exact hl),f9 enc h _ xs hh];rfl
section
variable {α:Type}{is:List Nat}{g:T->Ev->Option Ev}{b:Sm}
noncomputable def turn (g:T->Ev->Option Ev) (b:Sm) (y:T) (J:Ev):Option Out:=(g y J).bind b
theorem hX (y:T) (ys:List T) (J:Ev):xv is g b (y::ys) J=(turn g b y (yA is J)).bind λ o=>match o with
  | .nx J2=>xv is g b ys J2
  | .ct J2=>xv is g b ys J2
  | .bk J2=>some (.nx (yA is J2))
  | .rt t=>some (.rt t):=by
 unfold turn
 rw[xv]
 cases g y (yA is J) <;> rfl
theorem ak (enc:α->T) (test:α->Bool) (v:T) (J0:Ev):∀ (xs:List α) (J:Ev),yA is J=J0->(∀ x∈xs,∃ J',yA is J'=J0/\turn g b (enc x) J0=some (if test x=true then .rt v else .nx J'))->xv is g b (xs.map enc) J=some (if xs.any test=true then .rt v else .nx J0)
 | [],J,h,_=>by rw[BA,xv,h];rfl
 | x::xs,J,h,hs=>by
  obtain⟨J',h1,h2⟩:=hs x Am
  rw[Aq,hX,h,h2,Bx]
  cases q:test x with
  | true=>simp
  | false=>
   have ih:=ak enc test v J0 xs J' h1 λ y hy=>hs y (Ao _ hy)
   simpa using ih
theorem ai (enc:α->T) (I:List α->Ev->Prop):∀ (xs:List α) (pre:List α) (J:Ev),I pre (yA is J)->
  (∀ p x q,pre++xs=p++x::q->∀ J,I p J->∃ J',turn g b (enc x) J=some (.nx J')/\I (p++[x]) (yA is J'))->∃ J',xv is g b (xs.map enc) J=some (.nx J')/\I (pre++xs) J'
 | [],pre,J,h,_=>⟨yA is J,by rw[BA,xv],by simpa using h⟩
 | x::xs,pre,J,h,hs=>by
  obtain⟨J',h1,h2⟩:=hs pre x xs rfl _ h
  rw[Aq,hX,h1]
  have ih:=ai enc I xs (pre++[x]) J' h2 λ p y q e=>hs p y q (by rw[<- e];simp)
  simpa using ih
def uX (enc:α->T) (I:List α->Ev->Prop) (xs:List α) (J:Ev) (h:I [] (yA is J))
  (hs:∀ p x q,xs=p++x::q->∀ J,I p J->∃ J',turn g b (enc x) J=some (.nx J')/\I (p++[x]) (yA is J')):∃ J',xv is g b (xs.map enc) J=some (.nx J')/\I xs J':=ai enc I xs [] J h hs
end
def oO (n:Nat) (h:n<=100000):tM [.int (n:Int)]=some ((List.range n).map λ(k:Nat)=>T.int (0+(k:Int))):=by
 show (if inR (n:Int)=true then some (rangeT 0 (n:Int).toNat) else none)=_
 rw[if_pos (kq.mpr ⟨by lia,by lia⟩)]
 rfl
def Vg (a n:Nat) (h:a<=100000) (h':n<=100000):oK [.int (a:Int),.int (n:Int)]=some ((List.range (n-a)).map λ(k:Nat)=>T.int ((a:Int)+(k:Int))):=by
 show (if inR (a:Int)=true/\inR (n:Int)=true then some (rangeT a ((n:Int)-a).toNat) else none)=_
 rw[if_pos ⟨kq.mpr ⟨by lia,by lia⟩,kq.mpr ⟨by lia,by lia⟩⟩,show ((n:Int)-a).toNat=n-a by lia]
 rfl
def rX (a:Key) (b:T) (Aa:List (Key×T)) (j:Key):yW ((a,b)::Aa) j=if a=j then some b else yW Aa j:=by
 by_cases h:a=j <;> simp[yW,h]
theorem dB (k j:Key) (d:T):∀ Aa:List (Key×T),yW (Aa.map λ kv=>if kv.1=k then (kv.1,d) else kv) j=(yW Aa j).map λ x=>if j=k then d else x
 | []=>rfl
 | (a,b)::Aa=>by
  have ih:=dB k j d Aa
  rw[Aq]
  by_cases hk:a=k
  ·rw[if_pos hk,rX,rX,ih]
   by_cases hj:a=j
   ·subst hj;subst hk;simp
   ·rw[if_neg hj,if_neg hj]
  ·rw[if_neg hk,rX,rX,ih]
   by_cases hj:a=j
   ·subst hj;simp[hk]
   ·rw[if_neg hj,if_neg hj]
theorem dA (k j:Key) (d:T):∀ Aa:List (Key×T),(∀ kv∈Aa,¬ kv.1=k)->yW (Aa++[(k,d)]) j=if j=k then some d else yW Aa j
 | [],_=>by
  show yW [(k,d)] j=_
  rw[rX]
  by_cases h:j=k
  ·subst h;simp
  ·rw[if_neg h,if_neg (λ z=>h z.symm)]
 | (a,b)::Aa,hn=>by
  have ih:=dA k j d Aa λ kv Eh=>hn kv (Ao _ Eh)
  have ha:¬ a=k:=hn (a,b) Am
  show yW ((a,b)::(Aa++[(k,d)])) j=_
  rw[rX,rX,ih]
  by_cases hj:a=j
  ·subst hj;simp[ha]
  ·rw[if_neg hj,if_neg hj]
def Yw (Aa:List (Key×T)) (k:Key):(Aa.any λ kv=>decide (kv.1=k))=(yW Aa k).isSome:=by
 unfold yW
 rw[Option.isSome_map,BU,Bj,List.find?_isSome]
def lh (Aa:List (Key×T)) (k j:Key) (d:T):yW (vT Aa k d) j=if j=k then some d else yW Aa j:=by
 unfold vT
 split
 ·rename_i h
  rw[Yw] at h
  rw[dB]
  by_cases hj:j=k
  ·subst hj
   obtain⟨x,hx⟩:=Dy.mp h
   simp[hx]
  ·simp[hj]
 ·rename_i h
  exact dA k j d Aa λ kv Eh z=>h (Bj.mpr ⟨kv,Eh,zaD z⟩)
def ax (Aa:List (Key×T)) (k:Key) (d:T):(vT Aa k d).length=if (yW Aa k).isSome=true then Aa.length else Aa.length+1:=by
 have e:=Yw Aa k
 unfold vT
 rw[e]
 split <;> simp
noncomputable def vq (p:Int×Int):List Int:=[p.1,p.2]
def tK (ps:List (Int×Int)):List (Int×Int):=(L4.xt (ps.map vq)).map λ r=>(r.getD 0 0,r.getD 1 0)
def dZ (ps:List (Int×Int)):(tK ps).map vq=L4.xt (ps.map vq):=by
 unfold tK
 rw[AQ]
 conv=>rhs;rw[<- List.map_id (L4.xt (ps.map vq))]
 refine CK λ r hr=>?_
 obtain⟨p,_,rfl⟩:=An.mp ((L4.tJ _).mem_iff.mp hr)
 rfl
def j0 (ps:List (Int×Int)):(tK ps).Perm ps:=by
 have h:=L4.tJ (ps.map vq)
 have:(tK ps).Perm ((ps.map vq).map λ r=>(r.getD 0 0,r.getD 1 0)):=h.map _
 rwa [AQ,show ((λ r:List Int=>(r.getD 0 0,r.getD 1 0)) ∘ vq)=id from rfl,List.map_id] at this
def pq (p q:Int×Int):Prop:=p.1<q.1\/(p.1=q.1/\p.2<=q.2)
def dY (ps:List (Int×Int)):(tK ps).Pairwise pq:=by
 have h:=L4.jz (ps.map vq)
 rw[<- dZ,Ca] at h
 refine h.imp λ{p q} CD=>?_
 unfold vq at CD
 rw[HT.rp,HT.rp] at CD
 unfold pq
 by_cases e:q.1=p.1
 ·rw[if_pos e] at CD
  by_cases e2:q.2=p.2
  ·lia
  ·rw[if_neg e2] at CD
   have:=of_decide_eq_false CD
   lia
 ·rw[if_neg e] at CD
  have:=of_decide_eq_false CD
  lia
def Ve (ps:List (Int×Int)):vS (ps.map zt)=some (ps.map vq):=by
 have:=ia (ps.map vq)
 rwa [AQ,show zO ∘ vq=zt from rfl] at this
noncomputable def wU (q p:Int×Int):Bool:=decide (p.1<=q.1)&&decide (p.2<=q.2)
def yk (ps:List (Int×Int)) (q:Int×Int):Bool:=ps.any (wU q)
def xg {ps:List (Int×Int)}{q:Int×Int}:yk ps q=true↔∃ p∈ps,p.1<=q.1/\p.2<=q.2:=by
 unfold yk wU
 simp[Bj]
def Ol {ps qs:List (Int×Int)}(h:ps.Perm qs) (q:Int×Int):yk ps q=yk qs q:=by
 rw[BU,xg,xg]
 exact⟨λ⟨p,h1,h2⟩=>⟨p,h.mem_iff.mp h1,h2⟩,λ⟨p,h1,h2⟩=>⟨p,h.mem_iff.mpr h1,h2⟩⟩
def Om (ps qs:List (Int×Int)) (q:Int×Int):yk (ps++qs) q=(yk ps q||yk qs q):=by
 unfold yk;rw[List.any_append]
def vo (ps:List (Int×Int)):Prop:=ps.Pairwise λ p q=>p.1<q.1/\q.2<p.2
theorem vo.eq:∀ {ps qs:List (Int×Int)},vo ps->vo qs->(∀ q,yk ps q=yk qs q)->ps=qs
 | [],[],_,_,_=>rfl
 | [],q::qs,_,_,h=>by
  have:=h q
  rw[show yk [] q=false from rfl] at this
  have h2:yk (q::qs) q=true:=xg.mpr ⟨q,Am,AK _,AK _⟩
  rw[h2] at this;cases this
 | p::ps,[],_,_,h=>by
  have:=h p
  rw[show yk [] p=false from rfl] at this
  have h2:yk (p::ps) p=true:=xg.mpr ⟨p,Am,AK _,AK _⟩
  rw[h2] at this;cases this
 | p::ps,q::qs,hp,hq,h=>by
  have hp1:=Bn.mp hp
  have hq1:=Bn.mp hq
  have a1:∃ r∈q::qs,r.1<=p.1/\r.2<=p.2:=xg.mp (by rw[<- h];exact xg.mpr ⟨p,Am,AK _,AK _⟩)
  have a2:∃ r∈p::ps,r.1<=q.1/\r.2<=q.2:=xg.mp (by rw[h];exact xg.mpr ⟨q,Am,AK _,AK _⟩)
  obtain⟨r,hr,r1,r2⟩:=a1
  obtain⟨u,hu,u1,u2⟩:=a2
  have qr:q.1<=r.1:=by
   rcases Ak.mp hr with e | e
   ·subst e;exact AK _
   ·exact Int.le_of_lt (hq1.1 r e).1
  have pu:p.1<=u.1:=by
   rcases Ak.mp hu with e | e
   ·subst e;exact AK _
   ·exact Int.le_of_lt (hp1.1 u e).1
  have e1:p.1=q.1:=by lia
  have er:r=q:=by
   rcases Ak.mp hr with e | e
   ·exact e
   ·have:=(hq1.1 r e).1;lia
  have eu:u=p:=by
   rcases Ak.mp hu with e | e
   ·exact e
   ·have:=(hp1.1 u e).1;lia
  subst er eu
  have e2:u.2=r.2:=by lia
  have epq:u=r:=Prod.ext e1 e2
  subst epq
  rw[vo.eq hp1.2 hq1.2 λ x=>?_]
  have hx:=h x
  unfold yk at hx ⊢
  rw[Bx,Bx] at hx
  cases g:wU x u with
  | false=>rw[g] at hx;simpa using hx
  | true=>
   have gx:u.1<=x.1/\u.2<=x.2:=by simpa [wU] using g
   have key:∀ {l:List (Int×Int)},(∀ v∈l,u.1<v.1/\v.2<u.2)->l.any (wU x)=l.any (wU (x.1,u.2-1)):=by
    intro l hl
    rw[BU,Bj,Bj]
    constructor
    ·rintro⟨v,hv,hg⟩
     have:=hl v hv
     have hg':v.1<=x.1/\v.2<=x.2:=by simpa [wU] using hg
     exact⟨v,hv,by simp[wU];lia⟩
    ·rintro⟨v,hv,hg⟩
     have:=hl v hv
     have hg':v.1<=x.1/\v.2<=u.2-1:=by simpa [wU] using hg
     exact⟨v,hv,by simp[wU];lia⟩
   rw[key hp1.1,key hq1.1]
   have hy:=h (x.1,u.2-1)
   unfold yk at hy
   rw[Bx,Bx] at hy
   have gn:wU (x.1,u.2-1) u=false:=by
    unfold wU
    rw[show decide (u.2<=(x.1,u.2-1).2)=false from za4 (by show ¬ u.2<=u.2-1;lia),CM]
   rw[gn] at hy
   simpa using hy
noncomputable def tq (l:Option Int) (x:Int):Bool:=match l with
 | none=>true
 | some m=>decide (x<m)
noncomputable def yC:List (Int×Int)->Option Int->List (Int×Int)
 | [],_=>[]
 | p::ps,l=>if tq l p.2=true then p::yC ps (some p.2) else yC ps l
def wO (ps:List (Int×Int)):List (Int×Int):=yC (tK ps) none
theorem nJ:∀ (ps:List (Int×Int)) (l:Option Int) (q:Int×Int),q∈yC ps l->q∈ps/\∀ m,l=some m->q.2<m
 | [],l,q,h=>by simp[yC] at h
 | p::ps,l,q,h=>by
  unfold yC at h
  split at h
  ·rename_i c
   have hm:∀ m,l=some m->p.2<m:=λ m e=>by subst e;simpa [tq] using c
   rcases Ak.mp h with e | e
   ·subst e;exact⟨Am,hm⟩
   ·obtain⟨h1,h2⟩:=nJ ps _ q e
    exact⟨Ao _ h1,λ m e=>by have:=h2 _ rfl;have:=hm m e;lia⟩
  ·obtain⟨h1,h2⟩:=nJ ps _ q h
   exact⟨Ao _ h1,h2⟩
theorem gA:∀ (ps:List (Int×Int)) (l:Option Int),ps.Pairwise pq->vo (yC ps l)
 | [],l,_=>by simp[yC,vo]
 | p::ps,l,h=>by
  have h1:=Bn.mp h
  unfold yC
  split
  ·refine Bn.mpr ⟨λ q hq=>?_,gA ps _ h1.2⟩
   obtain⟨g1,g2⟩:=nJ ps _ q hq
   have:=h1.1 q g1
   have:=g2 _ rfl
   unfold pq at *
   lia
  ·exact gA ps _ h1.2
theorem gB:∀ (ps:List (Int×Int)) (l:Option Int),ps.Pairwise pq->∀ p∈ps,(∃ q∈yC ps l,q.1<=p.1/\q.2<=p.2)\/∃ m,l=some m/\m<=p.2
 | [],l,_,p,hp=>by cases hp
 | r::ps,l,h,p,hp=>by
  have h1:=Bn.mp h
  unfold yC
  split
  ·rename_i c
   rcases Ak.mp hp with e | e
   ·subst e;exact .inl ⟨p,Am,AK _,AK _⟩
   ·rcases gB ps (some r.2) h1.2 p e with ⟨q,q1,q2⟩ | ⟨m,e1,e2⟩
    ·exact .inl ⟨q,Ao _ q1,q2⟩
    ·cases e1
     have:=h1.1 p e
     unfold pq at this
     exact .inl ⟨r,Am,by lia,e2⟩
  ·rename_i c
   rcases Ak.mp hp with e | e
   ·subst e
    cases l with
    | none=>simp[tq] at c
    | some m=>exact .inr ⟨m,rfl,by simpa [tq] using c⟩
   ·exact gB ps l h1.2 p e
def gh (ps:List (Int×Int)):vo (wO ps):=gA _ _ (dY ps)
def Qb {ps:List (Int×Int)}{q:Int×Int}(h:q∈wO ps):q∈ps:=(j0 ps).mem_iff.mp (nJ _ _ q h).1
def kg (ps:List (Int×Int)) (q:Int×Int):yk (wO ps) q=yk ps q:=by
 rw[<- Ol (j0 ps) q,BU,xg,xg]
 constructor
 ·rintro⟨p,h1,h2⟩
  exact⟨p,(nJ _ _ p h1).1,h2⟩
 ·rintro⟨p,h1,h2⟩
  rcases gB (tK ps) none (dY ps) p h1 with ⟨r,r1,r2⟩ | ⟨m,e,_⟩
  ·exact⟨r,r1,by lia,by lia⟩
  ·cases e
end L5
namespace L2
open PySem PySem.Spec PyProof.Rows
section
variable {X:Cx}
def cP (K:Ab):R2:=λ x y H Q=>∃ l b xs zs,x=.ref l/\y=.ref b/\zL K H l xs/\zL K H b zs/\xs.length+zs.length<=sizeLine/\∀ p,H p=none->Q (.ref p) (upd H p (.lst (xs++zs)))
def Tr:zS X (binaryOp .Add) (cP X.K):=by
 intro pins s σ H x y v u Q I rx ry h
 obtain⟨l,b,xs,zs,rfl,rfl,hH,hB,hz,q⟩:=h
 cases rx
 cases ry
 obtain⟨its,r,p1,_⟩:=I.list hH
 obtain⟨its2,r2,p2,_⟩:=I.list hB
 obtain⟨⟨cls,dd,data,sl⟩,ho,hc,n,hd⟩:=p1.isList
 obtain⟨⟨cls2,dd2,data2,sl2⟩,ho2,hc2,n2,hd2⟩:=p2.isList
 simp only at hc hd hc2 hd2
 subst hc hd hc2 hd2
 have e:its.toArray++its2.toArray=(its++its2).toArray:=by simp
 refine concat_meets ⟨_,ho,rfl⟩ ⟨_,ho2,rfl⟩ noFill_list_add seq_list_add PySem.F.slot_list_add PySem.F.entry_list_add (PySem.F.args_list_add_2 _ _) (list_addW l b its.toArray its2.toArray n n2 dd dd2 sl sl2 (by rw[Av,Av,<- r.length,<- r2.length];exact hz)) ⟨ho,ho2,?_⟩
 rw[e]
 exact⟨.ref _,_,I.RT (t':=s.toks) (r.append r2) (by rw[B2];lia),rfl,q _ I.fresh⟩
def cN (K:Ab):R2:=λ x y H Q=>∃ a b ys,x=.ref a/\y=.ref b/\zR K H a []/\zR K H b ys/\Q (.ref b) H
def Tp:zS X (binaryOp .Add) (cN X.K):=by
 intro pins s σ H x y v u Q I rx ry h
 obtain⟨l,b,ys,rfl,rfl,hH,hB,q⟩:=h
 cases rx
 cases ry
 obtain⟨its,r,p1,_⟩:=I.tuple hH
 obtain⟨its2,r2,p2,_⟩:=I.tuple hB
 obtain⟨⟨cls,dd,data,sl⟩,ho,hc,n,hd⟩:=id p1
 obtain⟨⟨cls2,dd2,data2,sl2⟩,ho2,hc2,n2,hd2⟩:=id p2
 simp only at hc hd hc2 hd2
 subst hc hd hc2 hd2
 exact concat_meets ⟨_,ho,rfl⟩ ⟨_,ho2,rfl⟩ noFill_tuple_add seq_tuple_add PySem.F.slot_tuple_add PySem.F.entry_tuple_add (PySem.F.args_tuple_add_2 _ _)
   (tuple_addW0 l b its.toArray its2.toArray n n2 dd dd2 sl sl2 (by cases r;rfl)) ⟨ho,ho2,⟨.ref b,H,I,rfl,q⟩⟩
end
end L2
namespace L5
open PySem PySem.Spec L2 L3
open PyProof.Rows hiding St
section
variable {X:Cx}{K:Ab}{a b c e:Expr}{es:List Expr}{ta tb tc te:zp}{pos p:Pos}
def uh.mo:y_ uh:=λ x y S Q Q' hq h=>by
 cases x with
 | int i=>cases y <;> first | exact hq _ _ h | exact h
 | str i=>cases y <;> first | exact⟨h.1,hq _ _ h.2⟩ | exact h
 | tup i=>cases y <;> first | exact⟨h.1,hq _ _ h.2⟩ | exact h
 | xD ds=>
  unfold uh at h ⊢
  dsimp only at h ⊢
  split at h
  ·exact⟨h.1,h.2.1,λ r hr=>hq _ _ (h.2.2 r hr)⟩
  ·exact h.elim
 | ref q=>
  unfold uh at h ⊢
  dsimp only at h ⊢
  split at h
  ·exact⟨h.1,h.2.1,λ r hr=>hq _ _ (h.2.2 r hr)⟩
  ·exact h.elim
 | _=>exact h
def qQ {H:Hp}{S:SS}{d:D}{v:V}{ds:List D}(r:zg K H d v) (p:zC K H S) (e:yj d S=some ds) (n:∀ ts,d≠.tup ts):∃ a xs,v=.ref a/\zL K H a xs/\zm K H ds xs:=by
 unfold yj at e
 split at e
 ·exact absurd rfl (n _)
 ·cases e
  simp only[zg] at r
  obtain⟨a,xs,h1,h2,h3⟩:=r
  exact⟨a,xs,h1,h2.sq,h3⟩
 ·split at e
  ·rename_i q
   cases e
   simp only[zg] at r
   subst r
   obtain⟨xs,h1,h2⟩:=p _ _ q
   exact⟨_,xs,rfl,zL.of h1,h2⟩
  ·cases e
 ·cases e
abbrev cR (K:Ab):R2:=λ x y H Q=>vt (λ i j=>.int (i+j)) x y H Q\/((∃ i j,x=.str i/\y=.str j/\i.length+j.length<=sizeLine/\Q (.str (i++j)) H)\/(cP K x y H Q\/(cN K x y H Q\/cO K x y H Q)))
def uh.fits:xb K uh (cR K):=λ x y d e H S Q h1 h2 h3 h=>by
 have lst:(∀ ts,d≠.tup ts)->(match yj d S,yj e S with
  | some ds,some es=>(∀ ts,e≠.tup ts)/\ds.length+es.length<=sizeLine/\∀ r,S r=none->xX K H Q (.ref r) (ups S r (.lst (ds++es)))
  | _,_=>False)->cR K x y H Q:=λ n h=>by
  split at h
  ·rename_i ds es q1 q2
   obtain⟨a,xs,rfl,g1,g2⟩:=qQ h1 h3 q1 n
   obtain⟨b,ys,rfl,g3,g4⟩:=qQ h2 h3 q2 h.1
   refine .inr (.inr (.inl ⟨a,b,xs,ys,rfl,rfl,g1,g3,by rw[<- g2.length,<- g4.length];exact h.2.1,λ p hp=>?_⟩))
   exact h.2.2 p (h3.none hp) _ _ (by simp only[zg]) (.new hp _) (h3.ups (.new hp _) ⟨_,yd,zm.ext (.new hp _) _ (g2.append g4)⟩)
  ·exact h.elim
 cases d with
 | int i=>
  cases e with
  | int j=>
   simp only[zg] at h1 h2
   exact .inl ⟨_,_,h1,h2,h _ H (by simp only[zg]) (.refl H) h3⟩
  | _=>exact h.elim
 | str i=>
  cases e with
  | str j=>
   simp only[zg] at h1 h2
   exact .inr (.inl ⟨_,_,h1,h2,h.1,h.2 _ H (by simp only[zg]) (.refl H) h3⟩)
  | _=>exact h.elim
 | tup ds=>
  cases e with
  | tup es=>
   have h1':=h1
   have h2':=h2
   simp only[zg] at h1 h2
   obtain⟨a,xs,rfl,g1,g2⟩:=h1
   obtain⟨b,ys,rfl,g3,g4⟩:=h2
   have hl:=g2.length
   have hl':=g4.length
   by_cases hx:xs=[]
   ·subst hx
    have:ds=[]:=by cases ds <;> simp_all
    subst this
    exact .inr (.inr (.inr (.inl ⟨a,b,ys,rfl,rfl,g1,g3,h.2 _ H h2' (.refl H) h3⟩)))
   ·refine .inr (.inr (.inr (.inr ⟨a,b,xs,ys,rfl,rfl,g1,g3,hx,by rw[<- hl,<- hl'];exact h.1,λ hy=>?_,λ hy p hp=>?_⟩)))
    ·subst hy
     have:es=[]:=by cases es <;> simp_all
     subst this
     refine h.2 _ H ?_ (.refl H) h3
     rw[Cw];exact h1'
    ·refine h.2 _ _ ?_ (.new hp _) (h3.new hp)
     simp only[zg]
     exact⟨p,_,rfl,zR.of yd,zm.ext (.new hp _) _ (g2.append g4)⟩
  | _=>exact h.elim
 | xD ds=>exact lst (λ _=>nofun) h
 | ref q=>exact lst (λ _=>nofun) h
 | _=>exact h.elim
def xc (ha:PD X a ta) (hb:PD X b tb):PD X (.BinOp a .Add b pos) (yn uh ta tb):=sY (Tt.or (Ts.or (Tr.or (Tp.or Tq)))) uh.fits uh.mo ha hb
def Q4 {H:Hp}{d:D}{v:V}(r:zg K H d v):decide (v=.zj)=p8 d:=by
 cases d with
 | tup _=>simp only[zg] at r;obtain⟨a,xs,rfl,_⟩:=r;rfl
 | xD _=>simp only[zg] at r;obtain⟨a,xs,rfl,_⟩:=r;rfl
 | err _ _ _=>simp only[zg] at r;obtain⟨a,_,_,_,rfl,_⟩:=r;rfl
 | _=>simp only[zg] at r;subst r;rfl
def i6 (ha:PD X a ta):PD X (.UnaryOp .USub a pos) (ZT ta):=by
 refine⟨fun Y S Q Q' hq h=>ha.mo Y S _ _ (λ x S1 z=>by
  cases x <;> first
   | exact hq _ _ z
   | exact z) h,PE.imp (VZ XN ha.pe) fun σ H Q hu=>?_⟩
 obtain⟨Y,S,r1,r2,h⟩:=hu
 refine zJ.go ha.mo r1 r2 h λ x S1 v H1 h1 q1 e1 p1=>?_
 cases x with
 | int i=>simp only[zg] at q1;exact⟨i,q1,h1 _ H1 (by simp only[zg]) e1 p1⟩
 | _=>exact h1.elim
section
variable {N':List Str}{pick:List (Option Nat)}{scope:Scope}{tg elt iter:Expr}{ifs:List Expr}{ti:wq}{g:yV}{tcc:y6}
def sf.mo (hi:kX ti):yi (sf pick ti g tcc te):=fun Y S Q Q' hq z=>hi Y S _ _ (λ I S1 ⟨h1,h2,h3⟩=>⟨h1,h2,λ p hp=>by
 obtain⟨W,w0,w1,w2,w3⟩:=h3 p hp
 exact⟨W,w0,w1,w2,λ S2 acc a b c=>hq _ _ (w3 S2 acc a b c)⟩⟩) z
def dE (hi:kX ti) (hg:mF g) (hc:wI tcc) (he:yi te) {σ:St}{H:Hp}{Q:VK}(hu:zJ K (sf pick ti g tcc te) σ H Q):jt pick (wu K ti) (ot K g) (xN K tcc) (zJ K te) σ H Q:=by
 obtain⟨Y,S,r1,r2,z⟩:=hu
 refine⟨Y,S,r1,r2,hi Y S _ _ (λ I S1 hF J H1 e1 p1 rep D hD=>?_) z⟩
 obtain⟨hlen,hk,hF⟩:=hF
 have hS1:S1 D=none:=p1.none hD
 obtain⟨W,w0,wm,wstep,wfin⟩:=hF D hS1
 refine⟨λ i m σ H2=>m=I.items.length-i/\i<=I.items.length/\Ext H1 H2/\yq K H2 (vW pick Y) σ/\∃ S2 acc,zC K H2 S2/\Sx S1 S2/\S2 D=some (.lst acc)/\acc.length<=i/\W i S2 acc,⟨_,rfl,AI _,.new hD _,((r1.ext e1).pick pick).ext (.new hD _),ups S1 D (.lst []),[],?_,.new hS1 _,sO,Af _,?_⟩,?_⟩
 ·exact p1.ups (.new hD _) ⟨[],yd,.nil⟩
 ·exact wm 0 S1 _ [] (λ b o hb q=>by rw[tG hb];exact q) w0
 rintro i m σ2 H2 ⟨rfl,hi',x2,q1,S2,acc,q2,sx,hS2,AJ,hW⟩
 obtain⟨g1,g2⟩:=rep i H2 S2 x2 q2 (hk S2 sx)
 by_cases hl:i<I.items.length
 ·have hd:I.items[i]?=some I.items[i]:=by simp[hl]
  obtain⟨go,yl⟩:=g1 _ hd
  refine .inr ⟨go,λ x H3 hy=>?_⟩
  obtain⟨x3,p3,d3⟩:=yl x H3 hy
  refine⟨_,_,S2,d3,q1.ext x3,p3,hg _ _ S2 _ _ (fun Y4 S4 z4 σ4 H4 a1 a2 a3=>?_) (wstep i _ S2 acc hd sx hS2 hW)⟩
  obtain⟨hle,z4⟩:=z4
  refine xN.go hc a1 a3 z4 λ b S5 H5 z5 x5 p5=>we (λ z5=>?_) (λ z5=>?_) z5
  ·refine zJ.go he (a1.ext x5) p5 z5 λ y S6 v H6 z6 q6 x6 p6=>?_
   obtain⟨s6,hW6⟩:=z6
   obtain⟨ys,h6,r6⟩:=p6 _ _ (s6 _ _ hS2)
   have e6:Ext H6 (upd H6 D (.lst (ys++[v]))):=.lst h6 _
   have hlen2:ys.length<=i:=by rw[<- r6.length];exact AJ
   refine⟨ys,I.items.length-(i+1),h6,by lia,by lia,rfl,hl,((((x2.trans x3).trans a2).trans x5).trans x6).trans e6,hle.rep ((a1.ext (x5.trans x6)).ext e6),ups S6 D (.lst (acc++[y])),acc++[y],?_,λ b o hb=>?_,sO,by simp;lia,?_⟩
   ·exact p6.ups e6 ⟨_,yd,zm.ext e6 _ (r6.snoc q6)⟩
   ·rw[tG (by intro q;subst q;rw[hS1] at hb;cases hb)]
    exact s6 _ _ (sx _ _ hb)
   ·exact wm _ S6 _ _ (λ b o hb q=>by rw[tG hb];exact q) hW6
  ·obtain⟨s5,hW5⟩:=z5
   exact⟨I.items.length-(i+1),by lia,rfl,hl,((x2.trans x3).trans a2).trans x5,hle.rep (a1.ext x5),S5,acc,p5,sx.trans s5,s5 _ _ hS2,by lia,hW5⟩
 ·have e:i=I.items.length:=by lia
  subst e
  exact .inl ⟨g2 (Af _),wfin S2 acc sx hS2 hW _ H2 (by simp only[zg]) (e1.trans x2) q2⟩
def s_ (Sc:qH X N' pick scope) (hc:X.calm=true) (hi:sE X tg iter ti) (hg:∀ cl C s H fp,sF (yH X N' scope cl C s H fp) tg g) (hf:∀ cl C s H fp,kR (yH X N' scope cl C s H fp) ifs tcc) (he:∀ cl C s H fp,PD (yH X N' scope cl C s H fp) elt te)
  (hs:∀ x,foldedSetIterable iter X.env x=pure x:=by intro _;rfl):
  PD X (.ListComp elt [⟨tg,iter,ifs,0⟩] scope pos) (sf pick ti g tcc te):=
 ⟨sf.mo hi.mo,λ pins s σ H Q I hu=>Uh (g:=ot X.K g) (tc:=xN X.K tcc) (te:=zJ X.K te) Sc hc hi.pi (λ cl C s H fp=>(hg cl C s H fp).pg) (λ cl C s H fp=>(hf cl C s H fp).pf) (λ cl C s H fp=>(he cl C s H fp).pe) hs pins s σ H Q I (dE hi.mo (hg [] 0 s H []).mo (hf [] 0 s H []).mo (he [] 0 s H []).mo hu)⟩
def lP {i:Nat}{y:Str}{py BK:Pos}(Sc:qH X N' pick scope) (hc:X.calm=true) (hi:sE X tg iter ti) (hg:∀ cl C s H fp,sF (yH X N' scope cl C s H fp) tg g) (hf:∀ cl C s H fp,kR (yH X N' scope cl C s H fp) ifs tcc) (he:∀ cl C s H fp,PD (yH X N' scope cl C s H fp) elt te)
  (hN:X.N.Nodup) (hy:X.N[i]?=some y) (hx:Loc X.env.scope y)
  (BM:swapsWith (.ListComp elt [⟨tg,iter,ifs,0⟩] scope pos) (some (.Name y py)) BK.line X.env=pure true:=by rfl)
  (B7:X.fn y=true\/X.env.scope.names.lookup y=some .local:=by first | exact .inl rfl | exact .inr rfl | assumption)
  (hs:∀ x,foldedSetIterable iter X.env x=pure x:=by intro _;rfl):
  vm X (.Assign [.Name y py] (.ListComp elt [⟨tg,iter,ifs,0⟩] scope pos) BK) (vk (sf pick ti g tcc te) (hName i)):=by
 refine⟨vk.mo (sf.mo hi.mo) λ _ _ _ _ _ hq z=>hq _ _ z,λ pins s σ H D I hu=>V7 (g:=ot X.K g) (tc:=xN X.K tcc) (te:=zJ X.K te) Sc hc hi.pi (λ cl C s H fp=>(hg cl C s H fp).pg) (λ cl C s H fp=>(hf cl C s H fp).pf) (λ cl C s H fp=>(he cl C s H fp).pe) hN hy hx BM B7 hs pins s σ H D I ?_⟩
 obtain⟨Y,S,r1,r2,z⟩:=hu
 refine dE hi.mo (hg [] 0 s H []).mo (hf [] 0 s H []).mo (he [] 0 s H []).mo ⟨Y,S,r1,r2,sf.mo hi.mo Y S _ _ (λ x S1 z v H1 q1 e1 p1=>?_) z⟩
 exact z _ H1 ((r1.ext e1).set i q1) e1 p1
end
end
section
variable {P:Program}{w:World}{K:Ab}{mg:Str->Option Value}{base:Heap}{f:Addr}{fd:FuncData}
def Zr {R:Rk} [Lo R] {x:Str}{st:Stmt}{N ps:List Str}{k n:Nat}{g:Sm}(F:wY K x x st f fd) (Sc:zW N ps (zu st)) (hn:n=ps.length)
  (hbody:∀ (Ad:Value) (A:Around) (outer:List Env) (s:Shared) (H:Hp) (E:XK),zV k (A.deeper (envOfC x (zu st) s.heap.objs.size f Ad))->
   ∃ t,ur (wj xq P w K mg base N x (zu st) f Ad A outer s H E).vy (x9 st) t/\yh R g t):xa P w K mg base xq (k+1) f fd ps (tH K (zM R (ye N n g))):=
 Pk F Sc (λ ds S Q h=>by rw[h.len,hn]) λ Ad A outer s H E hr=>by
  obtain⟨t,h1,h2⟩:=hbody Ad A outer s H E hr
  exact⟨t,h1,λ ds S Q h=>Yl h2 h⟩
def Pu {R:Rk} [Lo R] {x:Str}{st:Stmt}{N ps:List Str}{k n:Nat}{g:Sm}(F:wY K x x st f fd) (hm:mg x=some (.ref f)) (Sc:zW N ps (zu st)) (hn:n=ps.length)
  (hb:∀ (kV doc pm:Value) (an:Option Addr) (Ad ct:Value) (us:List Value),us.length=ps.length->bindArgs (PySem.W.fnOf x x (uj st) (x9 st) (zu st) .none kV doc pm an Ad ct) ⟨us,[]⟩=pure (ps.zip us))
  (hbody:∀ (Ad:Value) (A:Around) (outer:List Env) (s:Shared) (H:Hp) (E:XK),zV k (A.deeper (envOfC x (zu st) s.heap.objs.size f Ad))->
   ∃ t,ur (wj xq P w K mg base N x (zu st) f Ad A outer s H E).vy (x9 st) t/\yh R g t):FD P w K mg base x (k+1) ps (zM R (ye N n g)):=
 ⟨⟨f,fd,Zr F Sc hn hbody,hm,F.kp,F.binds hb⟩,zM.mo⟩
def Qk {R:Rk} [Sr R] {F:List T->Option T}(hF:∀ ns:List Int,ns.length<=63->F [.lst (ns.map T.int)]=some (.bl true)) {H:Hp}{a:Addr}{ns:List Int}{E:XK}(hO:kS H) (hS:zL K H a (ns.map V.int)) (hl:ns.length<=63):tH K (zM R F) [.ref a] H (λ v _=>v=.bl true) E:=by
 have hFz:pR K H a (ns.map V.int):=by
  rcases hS with (h | h) | h
  ·rcases hO a with z | ⟨o,xs,z⟩
   ·rw[h] at z;cases z
   ·rw[h] at z;cases z
  ·exact .inl h
  ·exact .inr h
 refine⟨[.xD (ns.map D.int)],λ _=>none,.cons ?_ .nil,(λ a o z=>nomatch z),λ _=>False,[.lst (ns.map T.int)],.bl true,nofun,.cons ?_ .nil,hF ns hl,λ d S' s r v H' rv _ _=>?_⟩
 ·simp only[zg]
  exact⟨a,_,rfl,hFz,zm.iP ns⟩
 ·simp only[Sn]
  exact⟨_,.inl ⟨rfl,Tu ns⟩,tL.mpr rfl⟩
 ·have:=Sr.sn r
  simp only[Sn] at this
  subst this
  simpa only [zg] using rv
end
end L5
namespace ST
open PySem PySem.SetTable
def uI (xs:List Nat):Prop:=xs.Pairwise (· < ·)
def gI {xs:Array Nat}{m d:Nat}(h:m<xs.size):xs.getD m d=xs[m]:=by simp[Array.getD,h]
theorem fH (xs:Array Nat) (j:Nat) (hr:uI xs.toList):∀ (f lo hi:Nat),hi-lo<=f->lo<=hi->hi<=xs.size->(∀ i (h:i<xs.size),i<lo->xs[i]<j)->(∀ i (h:i<xs.size),hi<=i->j<=xs[i])->
  below.go xs j f lo hi<=xs.size/\(∀ i (h:i<xs.size),i<below.go xs j f lo hi->xs[i]<j)/\∀ i (h:i<xs.size),below.go xs j f lo hi<=i->j<=xs[i]
 | 0,lo,hi,h1,h2,h3,h4,h5=>by
  unfold below.go
  have:lo=hi:=by lia
  subst this
  exact⟨h3,h4,h5⟩
 | f+1,lo,hi,h1,h2,h3,h4,h5=>by
  unfold below.go
  have wy:∀ i k (hi:i<xs.size) (hk:k<xs.size),i<=k->xs[i]<=xs[k]:=λ i k hi hk DC=>by
   rcases Bo i k with q | q
   ·have r:=Cs.mp hr i k (by simpa using hi) (by simpa using hk) q
    rw[Co,Co] at r
    exact BI r
   ·have:i=k:=by lia
    subst this;exact Af _
  by_cases hl:lo<hi
  ·rw[if_pos hl]
   dsimp only
   have hm:(lo+hi)/2<xs.size:=by lia
   rw[gI hm]
   by_cases c:xs[(lo+hi)/2]<j
   ·rw[if_pos c]
    refine fH xs j hr f _ hi (by lia) (by lia) h3 (λ i hi' Al=>?_) h5
    have:=wy i ((lo+hi)/2) hi' hm (by lia)
    lia
   ·rw[if_neg c]
    refine fH xs j hr f lo _ (by lia) (by lia) (by lia) h4 (λ i hi' hge=>?_)
    have:=wy ((lo+hi)/2) i hm hi' hge
    lia
  ·rw[if_neg hl]
   have:lo=hi:=by lia
   subst this
   exact⟨h3,h4,h5⟩
def kO {xs:Array Nat}{j:Nat}(hr:uI xs.toList):below xs j<=xs.size/\(∀ i (h:i<xs.size),i<below xs j->xs[i]<j)/\∀ i (h:i<xs.size),below xs j<=i->j<=xs[i]:=
 fH xs j hr xs.size 0 xs.size (by lia) (by lia) (Af _) (λ i h q=>by lia) (λ i h q=>by lia)
def below_at {xs:Array Nat}{j i:Nat}(hr:uI xs.toList) (h:xs[i]?=some j):below xs j=i:=by
 obtain⟨h1,h2,h3⟩:=kO (j:=j) hr
 obtain⟨hi,e⟩:=Array.getElem?_eq_some_iff.mp h
 have a:¬ i<below xs j:=λ q=>by have:=h2 i hi q;lia
 have b:¬ below xs j<i:=λ q=>by
  have:=h3 (below xs j) (by lia) (Af _)
  have r:=Cs.mp hr (below xs j) i (by simp;lia) (by simpa using hi) q
  simp at r
  lia
 lia
def OV {xs:Array Nat}{j:Nat}(hr:uI xs.toList):(xs[below xs j]?=some j)↔j∈xs.toList:=by
 constructor
 ·intro h
  obtain⟨hi,e⟩:=Array.getElem?_eq_some_iff.mp h
  rw[<- e];simp
 ·intro h
  obtain⟨i,hi,e⟩:=Cq.mp h
  have hx:xs[i]?=some j:=by
   simp at hi
   simp[hi] at e ⊢;exact e
  rw[below_at hr hx];exact hx
noncomputable def uo (M:Nat) (p:Probe):Probe:=
 if p.more>0 then { p with j:=p.j+1,more:=p.more-1 } else
 let (i,perturb):=leap M p.i p.perturb
 { p with j:=i,more:=runEnd M i-i,i,perturb }
def fS (t:SetTable) (p:Probe):t.advance p=uo t.mask p:=rfl
noncomputable def qS (M i perturb:Nat):Probe:={ j:=i,more:=runEnd M i-i,i:=i,perturb:=perturb,dummy:=none }
noncomputable def way (M:Nat) (h:Int):Nat->Probe
 | 0=>qS M (bits h%(M+1)) (bits h)
 | k+1=>uo M (way M h k)
def Nd (M:Nat) (p:Probe) (h:p.dummy=none):(uo M p).dummy=none:=by
 unfold uo
 split
 ·exact h
 ·exact h
theorem jk (M:Nat) (h:Int):∀ k,(way M h k).dummy=none
 | 0=>rfl
 | k+1=>Nd M _ (jk M h k)
noncomputable def zP (M:Nat) (h:Int):Nat->Nat×Nat
 | 0=>(bits h%(M+1),bits h)
 | n+1=>leap M (zP M h n).1 (zP M h n).2
theorem jZ (M i pt:Nat) (h:Int) (k:Nat) (hk:way M h k=qS M i pt):∀ m,m<=runEnd M i-i->way M h (k+m)={ j:=i+m,more:=runEnd M i-i-m,i:=i,perturb:=pt,dummy:=none }
 | 0,_=>by rw[Nat.add_zero,hk];rfl
 | m+1,hm=>by
  have ih:=jZ M i pt h k hk m (by lia)
  show uo M (way M h (k+m))=_
  rw[ih]
  unfold uo
  rw[if_pos (by show runEnd M i-i-m>0;lia)]
  simp only[Probe.mk.injEq]
  exact⟨by lia,by lia,trivial,trivial,trivial⟩
def Vd (M i:Nat):runEnd M i-i<=9:=by unfold runEnd;split <;> lia
def cz (M:Nat) (h:Int) (n k:Nat) (hk:way M h k=qS M (zP M h n).1 (zP M h n).2):way M h (k+(runEnd M (zP M h n).1-(zP M h n).1)+1)=qS M (zP M h (n+1)).1 (zP M h (n+1)).2:=by
 have:=jZ M _ _ h k hk _ (Af _)
 show uo M (way M h (k+_))=_
 rw[this]
 unfold uo
 rw[if_neg (by show ¬ _-_-(_-_)>0;lia)]
 rfl
theorem c6 (M:Nat) (h:Int):∀ n,∃ k,k<=10*n/\way M h k=qS M (zP M h n).1 (zP M h n).2
 | 0=>⟨0,by lia,rfl⟩
 | n+1=>by
  obtain⟨k,h1,h2⟩:=c6 M h n
  have:=Vd M (zP M h n).1
  exact⟨_,by lia,cz M h n k h2⟩
def OT (h:Int):bits h<2 ^ 64:=by
 unfold bits
 have h1:=BG h (show (2 ^ 64:Int)≠0 by decide)
 have h2:=BF h (show (0:Int)<2 ^ 64 by decide)
 lia
theorem cZ (M:Nat) (h:Int):∀ n,(zP M h n).2*32 ^ n<=bits h
 | 0=>by simp[zP]
 | n+1=>by
  have ih:=cZ M h n
  show ((zP M h n).2/32)*32 ^ (n+1)<=_
  have:(zP M h n).2/32*32<=(zP M h n).2:=Nat.div_mul_le_self _ _
  calc (zP M h n).2/32*32 ^ (n+1)=((zP M h n).2/32*32)*32 ^ n:=by rw[Nat.pow_succ,Du (32 ^ n) 32,Nat.mul_assoc]
   _<=(zP M h n).2*32 ^ n:=Nat.mul_le_mul_right _ this
   _<=_:=ih
def VX (M:Nat) (h:Int) (n:Nat) (hn:13<=n):(zP M h n).2=0:=by
 rcases DP (zP M h n).2 with q | q
 ·exact q
 ·have h1:=cZ M h n
  have h2:=OT h
  have h3:32 ^ 13<=32 ^ n:=Nat.pow_le_pow_right (by decide) hn
  have h4:1*32 ^ n<=(zP M h n).2*32 ^ n:=Nat.mul_le_mul_right _ q
  have h5:(2:Nat) ^ 64<32 ^ 13:=by decide
  lia
noncomputable def tS (M:Nat) (i:Nat):Nat->Nat
 | 0=>i
 | n+1=>(tS M i n*5+1)%(M+1)
theorem aA (M:Nat) (h:Int):∀ n,(zP M h (13+n)).1=tS M (zP M h 13).1 n
 | 0=>rfl
 | n+1=>by
  have ih:=aA M h n
  have hz:=VX M h (13+n) (by lia)
  show ((zP M h (13+n)).1*5+1+(zP M h (13+n)).2/32)%(M+1)=_
  rw[hz,ih]
  rfl
theorem nq (M i:Nat):∀ a b,tS M i (a+b)=tS M (tS M i a) b
 | a,0=>rfl
 | a,b+1=>by
  show (tS M i (a+b)*5+1)%(M+1)=_
  rw[nq M i a b];rfl
noncomputable def nk (M:Nat):Nat->Nat->List Nat
 | 0,_=>[]
 | n+1,i=>i::nk M n ((i*5+1)%(M+1))
theorem iG (M:Nat):∀ n i x,x∈nk M n i->∃ k,k<n/\tS M i k=x
 | 0,i,x,h=>by cases h
 | n+1,i,x,h=>by
  rcases Ak.mp h with e | e
  ·exact⟨0,by lia,e.symm⟩
  ·obtain⟨k,h1,h2⟩:=iG M n _ x e
   exact⟨k+1,by lia,by rw[Nat.add_comm,nq];exact h2⟩
def vn (M:Nat):Prop:=M=7\/M=31\/M=127
def UW (M:Nat) (hM:vn M):(∀ e,e<=M->e∈nk M (M+1) 0)/\tS M 0 (M+1)=0:=by
 have key:∀ M,((List.range (M+1)).all λ e=>(nk M (M+1) 0).contains e)=true->∀ e,e<=M->e∈nk M (M+1) 0:=λ M h e he=>by
  have:=Cd.mp h e (AO.mpr (by lia))
  simpa using this
 rcases hM with rfl | rfl | rfl
 ·exact⟨key 7 (by decide +kernel),by decide +kernel⟩
 ·exact⟨key 31 (by decide +kernel),by decide +kernel⟩
 ·exact⟨key 127 (by decide +kernel),by decide +kernel⟩
def UU (M:Nat) (hM:vn M) (i e:Nat) (hi:i<=M) (he:e<=M):∃ n,n<=M/\tS M i n=e:=by
 obtain⟨h1,h2⟩:=UW M hM
 obtain⟨a,a1,a2⟩:=iG M _ _ _ (h1 i hi)
 obtain⟨b,b1,b2⟩:=iG M _ _ _ (h1 e he)
 rcases Bo b a with q | q
 ·refine⟨M+1+b-a,by lia,?_⟩
  rw[<- a2,<- nq,show a+(M+1+b-a)=(M+1)+b by lia,nq,h2,b2]
 ·refine⟨b-a,by lia,?_⟩
  rw[<- a2,<- nq,show a+(b-a)=b by lia,b2]
theorem Qc (M:Nat) (h:Int):∀ n,(zP M h n).1<=M
 | 0=>by have:=CZ (bits h) (show 0<M+1 by lia);show bits h%(M+1)<=M;lia
 | n+1=>by
  have:=CZ ((zP M h n).1*5+1+(zP M h n).2/32) (show 0<M+1 by lia)
  show (_%(M+1):Nat)<=M
  lia
def aB (M:Nat) (hM:vn M) (h:Int) (e:Nat) (he:e<=M):∃ n,n<M+14/\(zP M h n).1=e:=by
 obtain⟨n,h1,h2⟩:=UU M hM (zP M h 13).1 e (Qc M h 13) he
 exact⟨13+n,by lia,by rw[aA,h2]⟩
def XD (M:Nat) (hM:vn M) (h:Int) (e:Nat) (he:e<=M):∃ k,k<10*(M+15)/\(way M h k).j=e:=by
 obtain⟨n,h1,h2⟩:=aB M hM h e he
 obtain⟨k,k1,k2⟩:=c6 M h n
 exact⟨k,by lia,by rw[k2];exact h2⟩
theorem du (M:Nat) (h:Int):∀ k,(way M h k).j+(way M h k).more<=M/\(way M h k).i<=M
 | 0=>by
  have h1:bits h%(M+1)<=M:=by have:=CZ (bits h) (show 0<M+1 by lia);lia
  refine⟨?_,h1⟩
  show bits h%(M+1)+(runEnd M (bits h%(M+1))-bits h%(M+1))<=M
  unfold runEnd;split <;> lia
 | k+1=>by
  obtain⟨h1,h2⟩:=du M h k
  show (uo M (way M h k)).j+(uo M (way M h k)).more<=M/\(uo M (way M h k)).i<=M
  unfold uo
  split
  ·rename_i c
   exact⟨by show (way M h k).j+1+((way M h k).more-1)<=M;lia,h2⟩
  ·have h3:((way M h k).i*5+1+(way M h k).perturb/32)%(M+1)<=M:=by have:=CZ ((way M h k).i*5+1+(way M h k).perturb/32) (show 0<M+1 by lia);lia
   refine⟨?_,h3⟩
   show _%(M+1)+(runEnd M (_%(M+1))-_%(M+1))<=M
   unfold runEnd;split <;> lia
def jj (M:Nat) (h:Int) (k:Nat):(way M h k).j<=M:=by have:=(du M h k).1;lia
structure Tab (t:SetTable) (hs:List Int):Prop where
 mask:vn t.mask
 rH:t.dummies=#[]
 len:t.place.size=hs.length
 wy:uI t.place.toList
 top:∀ j∈t.place.toList,j<=t.mask
 oS:∀ (i:Nat) h j,hs[i]?=some h->t.place[i]?=some j->∃ k,(way t.mask h k).j=j/\∀ k'<k,(way t.mask h k').j∈t.place.toList
theorem Tab.live {t:SetTable}{hs:List Int}(T:Tab t hs) {i j:Nat}(h:t.place[i]?=some j):t.slot j=.live i:=by
 unfold SetTable.slot
 dsimp only
 rw[below_at T.wy h,if_pos (by rw[h];simp)]
theorem Tab.empty {t:SetTable}{hs:List Int}(T:Tab t hs) {j:Nat}(h:j∉t.place.toList):t.slot j=.empty:=by
 unfold SetTable.slot
 dsimp only
 have n1:¬ (t.place[below t.place j]? == some j)=true:=λ q=>h ((OV T.wy).mp (by simpa using q))
 rw[if_neg n1,if_neg (by rw[T.rH];simp[has])]
theorem Tab.at {t:SetTable}{hs:List Int}(T:Tab t hs) {j:Nat}(h:j∈t.place.toList):∃ (i:Nat) (g:Int),t.place[i]?=some j/\hs[i]?=some g:=by
 obtain⟨i,hi,e⟩:=Cq.mp h
 have hi':i<t.place.size:=by simpa using hi
 refine⟨i,hs[i]'(by rw[<- T.len];exact hi'),?_,by simp⟩
 rw[Ba hi']
 rw[Co] at e
 rw[e]
theorem Zk {t:SetTable}{hs:List Int}(T:Tab t hs) {hashAt:Nat->Int}(hA:∀ (i:Nat) g,hs[i]?=some g->hashAt i=g) (h:Int):∀ (f k:Nat),(∃ e,k<=e/\e<k+f/\(way t.mask h e).j∉t.place.toList)->
  ∃ k1,k<=k1/\(∀ m,k<=m->m<k1->∃ (i:Nat) (g:Int),t.place[i]?=some (way t.mask h m).j/\hs[i]?=some g/\g≠h)/\
   ((way t.mask h k1).j∉t.place.toList/\probe.go t hashAt h f (way t.mask h k)=some (.empty (way t.mask h k1).j none)\/
    ∃ i,t.place[i]?=some (way t.mask h k1).j/\hs[i]?=some h/\probe.go t hashAt h f (way t.mask h k)=some (.candidate (way t.mask h k1).j i (way t.mask h (k1+1))))
 | 0,k,⟨e,h1,h2,_⟩=>by lia
 | f+1,k,⟨e,h1,h2,h3⟩=>by
  by_cases hm:(way t.mask h k).j∈t.place.toList
  ·obtain⟨i,g,p1,p2⟩:=T.at hm
   by_cases hg:g=h
   ·refine⟨k,Af _,λ m a b=>by lia,.inr ⟨i,p1,by rw[<- hg];exact p2,?_⟩⟩
    unfold probe.go
    rw[T.live p1]
    dsimp only
    rw[hA i g p2,if_pos (by simp[hg]),fS]
    rfl
   ·have Aj:e≠k:=λ q=>by subst q;exact h3 hm
    obtain⟨k1,q1,q2,q3⟩:=Zk T hA h f (k+1) ⟨e,by lia,by lia,h3⟩
    have eq:probe.go t hashAt h (f+1) (way t.mask h k)=probe.go t hashAt h f (way t.mask h (k+1)):=by
     conv=>lhs;unfold probe.go
     rw[T.live p1]
     dsimp only
     rw[hA i g p2,if_neg (by simp[hg]),fS]
     rfl
    rw[eq]
    refine⟨k1,by lia,λ m a b=>?_,q3⟩
    rcases Nat.eq_or_lt_of_le a with w | w
    ·subst w;exact⟨i,g,p1,p2,hg⟩
    ·exact q2 m w b
  ·refine⟨k,Af _,λ m a b=>by lia,.inl ⟨hm,?_⟩⟩
   unfold probe.go
   rw[T.empty hm,jk]
def bV {xs ys:List Nat}(hx:xs.Nodup) (h:∀ x∈xs,x∈ys):xs.length<=ys.length:=by
 induction xs generalizing ys with
 | nil=>simp
 | cons x xs ih=>
  have h1:=Cc.mp hx
  have hxy:=h x Am
  have:=ih h1.2 (ys:=ys.erase x) λ z hz=>by
   have Aj:z≠x:=λ e=>h1.1 (e▸hz)
   exact (DN Aj).mpr (h z (Ao _ hz))
  rw[DM hxy] at this
  have hp:=DL hxy
  simp only[AR]
  lia
def least {P:Nat->Prop}(k:Nat) (h:P k):∃ m,m<=k/\P m/\∀ m'<m,¬ P m':=by
 induction k using Nat.strongRecOn with
 | ind k ih=>
  rcases Classical.em (∃ m',m'<k/\P m') with ⟨m',h1,h2⟩ | q
  ·obtain⟨m,g1,g2⟩:=ih m' h1 h2
   exact⟨m,by lia,g2⟩
  ·exact⟨k,Af _,h,λ m' hm hp=>q ⟨m',hm,hp⟩⟩
def Pn {xs:List Nat}{M:Nat}(h:xs.length<=M):∃ e,e<=M/\e∉xs:=by
 rcases Classical.em (∃ e,e<=M/\e∉xs) with q | q
 ·exact q
 ·have:=bV (xs:=List.range (M+1)) (ys:=xs) DJ λ e he=>by
   have:=AO.mp he
   rcases Classical.em (e∈xs) with w | w
   ·exact w
   ·exact absurd ⟨e,by lia,w⟩ q
  simp at this
  lia
def ei (t:SetTable) (h:Int) (j:Nat):Prop:=j∉t.place.toList/\∃ k,(way t.mask h k).j=j/\∀ k'<k,(way t.mask h k').j∈t.place.toList
def Tab.first {t:SetTable}{hs:List Int}(T:Tab t hs) (hl:hs.length<=t.mask) (h:Int):∃ K,K<10*(t.mask+15)/\(way t.mask h K).j∉t.place.toList/\∀ k'<K,(way t.mask h k').j∈t.place.toList:=by
 obtain⟨e,e1,e2⟩:=Pn (xs:=t.place.toList) (M:=t.mask) (by rw[Br,T.len];exact hl)
 obtain⟨k,k1,k2⟩:=XD t.mask T.mask h e e1
 obtain⟨K,q1,q2,q3⟩:=least (P:=λ n=>(way t.mask h n).j∉t.place.toList) k (by rw[k2];exact e2)
 exact⟨K,by lia,q2,λ k' hk=>Classical.not_not.mp (q3 k' hk)⟩
def Vh {xs:List Nat}{j p:Nat}(h:uI xs) (h1:∀ x∈xs.take p,x<j) (h2:∀ x∈xs.drop p,j<x):uI (xs.take p++j::xs.drop p):=by
 refine List.pairwise_append.mpr ⟨h.sublist (List.take_sublist _ _),Bn.mpr ⟨h2,h.sublist (List.drop_sublist _ _)⟩,λ a ha b hb=>?_⟩
 rcases Ak.mp hb with e | e
 ·subst e;exact h1 a ha
 ·have:=h1 a ha;have:=h2 b e;lia
def Za {α:Type}{xs:List α}{p i:Nat}{x y:α}(hp:p<=xs.length) (h:(xs.take p++x::xs.drop p)[i]?=some y):(i=p/\y=x)\/(i<p/\xs[i]?=some y)\/(p<i/\xs[i-1]?=some y):=by
 have hl:(xs.take p).length=p:=by rw[DR];lia
 rcases Dt i p with q | q | q
 ·rw[Cu (by lia),List.getElem?_take,if_pos q] at h
  exact .inr (.inl ⟨q,h⟩)
 ·subst q
  rw[Cv (by lia),hl] at h
  simp at h
  exact .inl ⟨rfl,h.symm⟩
 ·rw[Cv (by lia),hl] at h
  obtain⟨d,hd⟩:∃ d,i-p=d+1:=⟨i-p-1,by lia⟩
  rw[hd] at h
  simp only[DI,List.getElem?_drop] at h
  refine .inr (.inr ⟨q,?_⟩)
  rw[show i-1=p+d by lia];exact h
theorem Tab.put {t:SetTable}{hs:List Int}(T:Tab t hs) {h:Int}{j:Nat}(F:ei t h j):
  (t.put j).2<=hs.length/\(t.put j).1={ t with place:=insertAt t.place (t.put j).2 j }/\Tab (t.put j).1 (hs.take (t.put j).2++h::hs.drop (t.put j).2):=by
 obtain⟨b1,b2,b3⟩:=kO (xs:=t.place) (j:=j) T.wy
 obtain⟨fn,K,k1,k2⟩:=F
 have e2:(t.put j).2=below t.place j:=rfl
 have e1:(t.put j).1={ t with place:=insertAt t.place (t.put j).2 j }:=by
  show ({ t with place:=insertAt t.place (below t.place j) j,dummies:=_ }:SetTable)=_
  rw[if_neg (by rw[T.rH];simp[has]),e2]
 have pl:(insertAt t.place (below t.place j) j).toList=t.place.toList.take (below t.place j)++j::t.place.toList.drop (below t.place j):=toList_insertAt _ _ _
 have old:∀ x∈t.place.toList,x∈(insertAt t.place (below t.place j) j).toList:=λ x hx=>by
  rw[pl]
  have:=DH (below t.place j) t.place.toList
  rw[<- this] at hx
  rcases AU.mp hx with q | q
  ·exact Cy _ q
  ·exact AN _ (Ao _ q)
 rw[e2] at e1 ⊢
 refine⟨by rw[<- T.len];exact b1,e1,?_⟩
 rw[e1]
 refine⟨T.mask,T.rH,?_,?_,?_,?_⟩
 ·show (insertAt t.place (below t.place j) j).size=_
  rw[<- Br,pl]
  simp[T.len]
 ·show uI (insertAt t.place (below t.place j) j).toList
  rw[pl]
  refine Vh T.wy (λ x hx=>?_) (λ x hx=>?_)
  ·obtain⟨i,hi,e⟩:=Cq.mp hx
   rw[DR] at hi
   rw[List.getElem_take,Co] at e
   rw[<- e];exact b2 i (by simp at hi;lia) (by lia)
  ·obtain⟨i,hi,e⟩:=Cq.mp hx
   rw[List.length_drop] at hi
   rw[List.getElem_drop,Co] at e
   have h3:=b3 (below t.place j+i) (by simp at hi;lia) (by lia)
   have hm:x∈t.place.toList:=List.mem_of_mem_drop hx
   have Aj:x≠j:=λ q=>fn (q▸hm)
   lia
 ·intro x hx
  show x<=t.mask
  have hx:x∈(insertAt t.place (below t.place j) j).toList:=hx
  rw[pl] at hx
  rcases AU.mp hx with q | q
  ·exact T.top x (List.mem_of_mem_take q)
  ·rcases Ak.mp q with e | e
   ·subst e;rw[<- k1];exact jj _ _ _
   ·exact T.top x (List.mem_of_mem_drop e)
 ·intro i g x hg hx
  show ∃ k,(way t.mask g k).j=x/\∀ k'<k,(way t.mask g k').j∈(insertAt t.place (below t.place j) j).toList
  have hx:(insertAt t.place (below t.place j) j)[i]?=some x:=hx
  rw[<- BC,pl] at hx
  have Ah:below t.place j<=t.place.toList.length:=by simpa using b1
  have D5:below t.place j<=hs.length:=by rw[<- T.len];exact b1
  rcases Za Ah hx with ⟨c1,c2⟩ | ⟨c1,c2⟩ | ⟨c1,c2⟩ <;> rcases Za D5 hg with ⟨d1,d2⟩ | ⟨d1,d2⟩ | ⟨d1,d2⟩ <;> first
   | lia
   | (subst c2 d2;exact⟨K,k1,λ k' hk=>old _ (k2 k' hk)⟩)
   | (obtain⟨k,g1,g2⟩:=T.oS _ g x d2 (by rw[<- BC];exact c2)
      exact⟨k,g1,λ k' hk=>old _ (g2 k' hk)⟩)
def rP (owner:Array (Option Nat)) (j:Nat):Prop:=∃ k,owner[j]?=some (some k)
def Pr {P:Nat->Bool}{n k:Nat}(h:(List.range n).find? P=some k):k<n/\P k=true/\∀ k'<k,P k'=false:=by
 obtain⟨h1,as,bs,h2,h3⟩:=List.find?_eq_some_iff_append.mp h
 have hlen:as.length=k:=by
  have e:(List.range n)[as.length]?=some k:=by rw[h2];simp
  have:=(AD.mp e)
  obtain⟨q1,q2⟩:=this
  rw[DQ] at q2
  exact q2
 have hk:k<n:=by
  have:k∈List.range n:=by rw[h2];simp
  exact AO.mp this
 refine⟨hk,h1,λ k' hk'=>?_⟩
 have:k'∈as:=by
  have e:(List.range n)[k']?=some k':=List.getElem?_range (by lia)
  rw[h2,Cu (by lia)] at e
  exact Bb e
 have:=h3 k' this
 simpa using this
def getD_none {owner:Array (Option Nat)}{j:Nat}(h:((owner.getD j (some 0)).isNone)=true):owner[j]?=some none:=by
 unfold Array.getD at h
 split at h
 ·rename_i hj
  have e:owner[j]=none:=by simpa using h
  rw[Ba hj,e]
 ·simp at h
def Zm {owner:Array (Option Nat)}{j:Nat}(hj:j<owner.size) (h:((owner.getD j (some 0)).isNone)=false):rP owner j:=by
 unfold Array.getD at h
 rw[dif_pos hj] at h
 cases q:owner[j] with
 | none=>simp[q] at h
 | some k=>exact⟨k,by rw[Ba hj,q]⟩
theorem Zp (M:Nat) (owner:Array (Option Nat)) (hsz:owner.size=M+1) (h:Int):∀ (fuel n kn:Nat),way M h kn=qS M (zP M h n).1 (zP M h n).2->(∀ q<kn,rP owner (way M h q).j)->
  (∃ n',n<=n'/\n'<n+fuel/\owner[(zP M h n').1]?=some none)->
  ∃ j q,layClean.free M owner fuel (zP M h n).1 (zP M h n).2=some j/\(way M h q).j=j/\owner[j]?=some none/\∀ q'<q,rP owner (way M h q').j
 | 0,n,kn,_,_,⟨n',h1,h2,_⟩=>by lia
 | fuel+1,n,kn,hk,ho,⟨n',h1,h2,h3⟩=>by
  have hre:runEnd M (zP M h n).1+1-(zP M h n).1=runEnd M (zP M h n).1-(zP M h n).1+1:=by unfold runEnd;split <;> lia
  have hwalk:∀ m,m<=runEnd M (zP M h n).1-(zP M h n).1->(way M h (kn+m)).j=(zP M h n).1+m:=λ m hm=>by rw[jZ M _ _ h kn hk m hm]
  unfold layClean.free
  cases hf:(List.range (runEnd M (zP M h n).1+1-(zP M h n).1)).find? (λ k=>(owner.getD ((zP M h n).1+k) (some 0)).isNone) with
  | some k=>
   obtain⟨f1,f2,f3⟩:=Pr hf
   refine⟨_,kn+k,rfl,hwalk k (by lia),getD_none f2,λ q' hq=>?_⟩
   rcases Bo q' kn with w | w
   ·exact ho q' w
   ·have e:(way M h q').j=(zP M h n).1+(q'-kn):=by
     have:=hwalk (q'-kn) (by lia)
     rwa [show kn+(q'-kn)=q' by lia] at this
    have hle:=jj M h q'
    rw[e] at hle ⊢
    exact Zm (by lia) (f3 (q'-kn) (by lia))
  | none=>
   have f3:=List.find?_eq_none.mp hf
   have occ:∀ m,m<=runEnd M (zP M h n).1-(zP M h n).1->rP owner ((zP M h n).1+m):=λ m hm=>by
    have hle:=jj M h (kn+m)
    rw[hwalk m hm] at hle
    exact Zm (by lia) (Bool.eq_false_iff.mpr (f3 m (AO.mpr (by lia))))
   have Aj:n'≠n:=λ e=>by
    subst e
    obtain⟨k,hk'⟩:=occ 0 (AI _)
    rw[Nat.add_zero] at hk'
    rw[hk'] at h3;cases h3
   dsimp only
   obtain⟨j,q,r1,r2⟩:=Zp M owner hsz h fuel (n+1) _ (cz M h n kn hk) (λ q hq=>by
    rcases Bo q kn with w | w
    ·exact ho q w
    ·have e:=hwalk (q-kn) (by lia)
     rw[show kn+(q-kn)=q by lia] at e
     rw[e];exact occ _ (by lia)) ⟨n',by lia,by lia,h3⟩
   exact⟨j,q,r1,r2⟩
structure Lay (M:Nat) (hs:List Int) (owner:Array (Option Nat)) (m:Nat):Prop where
 size:owner.size=M+1
 below:∀ (j k:Nat),owner[j]?=some (some k)->k<m
 each:∀ (k:Nat),k<m->∃ (j:Nat),owner[j]?=some (some k)
 once:∀ (i j k:Nat),owner[i]?=some (some k)->owner[j]?=some (some k)->i=j
 oS:∀ (j k:Nat) h,owner[j]?=some (some k)->hs[k]?=some h->∃ q,(way M h q).j=j/\∀ q'<q,rP owner (way M h q').j
theorem Lay.none {M:Nat}(hM:vn M) {hs:List Int}{owner:Array (Option Nat)}{m:Nat}(L:Lay M hs owner m) (hm:m<=M):∃ (e:Nat),e<=M/\owner[e]?=some Option.none:=by
 rcases Classical.em (∃ (e:Nat),e<=M/\owner[e]?=some Option.none) with q | q
 ·exact q
 ·exfalso
  have Az:∀ (e:Nat),e<=M->∃ (k:Nat),owner[e]?=some (some k):=λ e he=>by
   have Al:e<owner.size:=by rw[L.size];lia
   cases w:owner[e] with
   | none=>exact absurd ⟨e,he,by rw[Ba Al,w]⟩ q
   | some k=>exact⟨k,by rw[Ba Al,w]⟩
  have:=bV (xs:=(List.range (M+1)).map λ e=>((owner[e]?).getD Option.none).getD 0) (ys:=List.range m) (by
   refine Ca.mpr (List.Pairwise.imp_of_mem ?_ DJ)
   intro a b ha hb Aj e
   refine Aj ?_
   obtain⟨k,hk⟩:=Az a (by have:=AO.mp ha;lia)
   obtain⟨k',hk'⟩:=Az b (by have:=AO.mp hb;lia)
   rw[hk,hk'] at e
   simp at e
   subst e
   exact L.once a b k hk hk') (λ x hx=>by
   obtain⟨e,he,rfl⟩:=An.mp hx
   obtain⟨k,hk⟩:=Az e (by have:=AO.mp he;lia)
   rw[hk]
   exact AO.mpr (L.below e k hk))
  simp at this
  lia
def lA {α:Type}{xs:Array α}{j i:Nat}{a b:α}(h:(xs.setIfInBounds j a)[i]?=some b):(i=j/\b=a)\/(i≠j/\xs[i]?=some b):=by
 rw[Ds] at h
 by_cases e:j=i
 ·subst e
  rw[if_pos rfl] at h
  split at h
  ·cases h;exact .inl ⟨rfl,rfl⟩
  ·cases h
 ·rw[if_neg e] at h;exact .inr ⟨λ q=>e q.symm,h⟩
def Lay.step {M:Nat}(hM:vn M) {hs:List Int}{owner:Array (Option Nat)}{m:Nat}{h:Int}(L:Lay M hs owner m) (hm:m<=M) (hh:hs[m]?=some h):
  ∃ j,layClean.free M owner (turns M) (bits h%(M+1)) (bits h)=some j/\Lay M hs (owner.setIfInBounds j (some m)) (m+1):=by
 obtain⟨e,e1,e2⟩:=L.none hM hm
 obtain⟨n',n1,n2⟩:=aB M hM h e e1
 obtain⟨j,q,r1,r2,r3,r4⟩:=Zp M owner L.size h (turns M) 0 0 rfl (λ q hq=>by lia) ⟨n',by lia,by unfold turns;lia,by rw[n2];exact e2⟩
 have hj:j<owner.size:=(Array.getElem?_eq_some_iff.mp r3).1
 have keep:∀ x,rP owner x->rP (owner.setIfInBounds j (some m)) x:=λ x ⟨k,hk⟩=>by
  have Aj:j≠x:=λ w=>by subst w;rw[r3] at hk;cases hk
  exact⟨k,by rw[Ds,if_neg Aj];exact hk⟩
 have self:(owner.setIfInBounds j (some m))[j]?=some (some m):=by rw[Ds,if_pos rfl,if_pos hj]
 refine⟨j,r1,⟨by simp[L.size],λ x k hx=>?_,λ k hk=>?_,λ x y k hx hy=>?_,λ x k g hx hg=>?_⟩⟩
 ·rcases lA hx with ⟨_,w⟩ | ⟨_,w⟩
  ·cases w;lia
  ·have:=L.below x k w;lia
 ·rcases Bo k m with w | w
  ·obtain⟨x,hx⟩:=L.each k w
   have Aj:j≠x:=λ w=>by subst w;rw[r3] at hx;cases hx
   exact⟨x,by rw[Ds,if_neg Aj];exact hx⟩
  ·have:k=m:=by lia
   subst this;exact⟨j,self⟩
 ·rcases lA hx with ⟨w1,w⟩ | ⟨w1,w⟩ <;> rcases lA hy with ⟨v1,v⟩ | ⟨v1,v⟩
  ·lia
  ·cases w;have:=L.below y _ v;lia
  ·cases v;have:=L.below x _ w;lia
  ·exact L.once x y k w v
 ·rcases lA hx with ⟨w1,w⟩ | ⟨w1,w⟩
  ·cases w
   rw[hh] at hg;cases hg
   subst w1
   exact⟨q,r2,λ q' hq=>keep _ (r4 q' hq)⟩
  ·obtain⟨q,g1,g2⟩:=L.oS x k g w hg
   exact⟨q,g1,λ q' hq=>keep _ (g2 q' hq)⟩
theorem aD {M:Nat}(hM:vn M) {hs:List Int}(hl:hs.length<=M+1):∀ (rest:List Int) (owner:Array (Option Nat)) (m:Nat),m<=hs.length->hs.drop m=rest->Lay M hs owner m->
  ∃ owner',rest.foldl (λ acc h=>do
   let (owner,k) <- acc
   let j <- layClean.free M owner (turns M) (bits h%(M+1)) (bits h)
   pure (owner.setIfInBounds j (some k),k+1)) (some (owner,m))=some (owner',hs.length)/\Lay M hs owner' hs.length
 | [],owner,m,hl2,hd,L=>by
  have hm:hs.length<=m:=List.drop_eq_nil_iff.mp hd
  have e:m=hs.length:=by lia
  subst e;exact⟨owner,rfl,L⟩
 | h::rest,owner,m,hl2,hd,L=>by
  have hm:hs[m]?=some h:=by
   have:=congrArg (λ l=>l[0]?) hd
   simpa using this
  have Al:m<hs.length:=(AD.mp hm).1
  obtain⟨j,j1,j2⟩:=L.step hM (by lia) hm
  have hd':hs.drop (m+1)=rest:=by
   have:=congrArg List.tail hd
   simpa using this
  obtain⟨o',h1,h2⟩:=aD hM hl rest _ (m+1) (by lia) hd' j2
  refine⟨o',?_,h2⟩
  rw[Dr,<- h1]
  show _=_
  congr 1
  show ((layClean.free M owner (turns M) (bits h%(M+1)) (bits h)).bind λ j=>some (owner.setIfInBounds j (some m),m+1))=_
  rw[j1];rfl
def Qf (M:Nat) (hs:List Int):Lay M hs (Array.replicate (M+1) Option.none) 0:=by
 have no:∀ (j k:Nat),(Array.replicate (M+1) (Option.none:Option Nat))[j]?≠some (some k):=λ j k h=>by
  rw[Array.getElem?_replicate] at h
  split at h <;> cases h
 exact⟨by simp,λ j k h=>absurd h (no j k),λ k hk=>by lia,λ i j k h=>absurd h (no i k),λ j k h e=>absurd e (no j k)⟩
def Qg {M:Nat}(hM:vn M) (hashes:Array Int) (hl:hashes.size<=M+1):∃ owner,layClean M hashes=some owner/\Lay M hashes.toList owner hashes.size:=by
 obtain⟨o,h1,h2⟩:=aD hM (hs:=hashes.toList) (by simpa using hl) hashes.toList _ 0 (AI _) (by simp) (Qf M _)
 refine⟨o,?_,by simpa using h2⟩
 unfold layClean
 rw[<- Array.foldl_toList,h1]
 rfl
noncomputable def lives (M:Nat) (owner:Array (Option Nat)):List (Nat×Nat):=(List.range (M+1)).filterMap λ j=>(owner.getD j Option.none).map (j,·)
def getD_some {owner:Array (Option Nat)}{j k:Nat}:owner.getD j Option.none=some k↔owner[j]?=some (some k):=by
 unfold Array.getD
 split
 ·rename_i h
  rw[Ba h]
  simp
 ·rename_i h
  rw[CJ (by lia)]
  simp
def qf {M:Nat}{owner:Array (Option Nat)}(hs:owner.size=M+1) {j k:Nat}:(j,k)∈lives M owner↔owner[j]?=some (some k):=by
 unfold lives
 rw[CO]
 constructor
 ·rintro⟨x,hx,e⟩
  obtain⟨y,e1,e2⟩:=AA.mp e
  cases e2
  exact getD_some.mp e1
 ·intro h
  have hj:=(Array.getElem?_eq_some_iff.mp h).1
  exact⟨j,AO.mpr (by lia),by rw[getD_some.mpr h];rfl⟩
def ar (M:Nat) (owner:Array (Option Nat)):(lives M owner).Pairwise λ a b=>a.1<b.1:=by
 unfold lives
 rw[List.pairwise_filterMap]
 refine List.Pairwise.imp ?_ List.pairwise_lt_range
 intro a b CW x hx y hy
 obtain⟨_,_,e1⟩:=AA.mp hx
 obtain⟨_,_,e2⟩:=AA.mp hy
 subst e1 e2
 exact CW
def aE {M:Nat}(hM:vn M) (finger moves:Nat) (led plain:Bool) (hashes:Array Int) (hl:hashes.size<=M+1):
  ∃ t order,laid M finger moves led plain hashes=some (t,order)/\t.mask=M/\t.finger=finger/\t.led=led/\t.plain=plain/\order.toList.Perm (List.range hashes.size)/\Tab t (order.toList.map λ k=>hashes.toList.getD k 0):=by
 obtain⟨owner,h1,L⟩:=Qg hM hashes hl
 refine⟨_,_,by unfold laid;rw[h1];rfl,rfl,rfl,rfl,rfl,?_,?_⟩
 ·show ((lives M owner).map (·.2)).toArray.toList.Perm _
  rw[CY]
  refine (DG ?_ DJ).mpr λ k=>?_
  ·refine Ca.mpr (List.Pairwise.imp_of_mem ?_ (ar M owner))
   intro a b ha hb CW e
   have h2:=(qf L.size (j:=a.1) (k:=a.2)).mp ha
   have h3:=(qf L.size (j:=b.1) (k:=b.2)).mp hb
   have e:a.2=b.2:=e
   rw[e] at h2
   have:=L.once _ _ _ h2 h3
   lia
  ·rw[AO]
   constructor
   ·intro h
    obtain⟨⟨j,k'⟩,h2,rfl⟩:=An.mp h
    exact L.below j _ ((qf L.size).mp h2)
   ·intro h
    obtain⟨j,hj⟩:=L.each k h
    exact An.mpr ⟨(j,k),(qf L.size).mpr hj,rfl⟩
 ·have pl:∀ x,x∈(lives M owner).map (·.1)↔rP owner x:=λ x=>by
   constructor
   ·intro h
    obtain⟨⟨j,k⟩,h2,rfl⟩:=An.mp h
    exact⟨k,(qf L.size).mp h2⟩
   ·rintro⟨k,hk⟩
    exact An.mpr ⟨(x,k),(qf L.size).mpr hk,rfl⟩
  refine⟨hM,rfl,?_,?_,?_,?_⟩
  ·show ((lives M owner).map (·.1)).toArray.size=(((lives M owner).map (·.2)).toArray.toList.map _).length
   simp
  ·show uI ((lives M owner).map (·.1)).toArray.toList
   rw[CY]
   exact Ca.mpr (ar M owner)
  ·intro x hx
   show x<=M
   have hx:x∈((lives M owner).map (·.1)).toArray.toList:=hx
   rw[CY] at hx
   obtain⟨k,hk⟩:=(pl x).mp hx
   have:=(Array.getElem?_eq_some_iff.mp hk).1
   rw[L.size] at this
   lia
  ·intro i g x hg hx
   have hx:((lives M owner).map (·.1)).toArray[i]?=some x:=hx
   have hg:(((lives M owner).map (·.2)).toArray.toList.map λ k=>hashes.toList.getD k 0)[i]?=some g:=hg
   rw[List.getElem?_toArray,Ax] at hx
   rw[CY,Ax,Ax] at hg
   obtain⟨p,p1,p2⟩:=AA.mp hx
   rw[p1] at hg
   simp only[Option.map_some,Option.some.injEq] at hg
   obtain⟨j,k⟩:=p
   cases p2
   have hm:=(qf L.size).mp (Bb p1)
   have hk:=L.below _ _ hm
   obtain⟨q,q1,q2⟩:=L.oS _ k g hm (by rw[<- hg];simp[hk])
   refine⟨q,q1,λ q' hq=>?_⟩
   show _∈((lives M owner).map (·.1)).toArray.toList
   rw[CY]
   exact (pl _).mpr (q2 q' hq)
section
variable {prog:Program}{w:World}{A:Around}{E:Value->Shared->Prop}{s:Shared}
abbrev rk (prog:Program) (w:World):HeapKind prog w (List Int):=tupleKind (intKind prog w)
def items_int {ks:List Int}{vs:List Value}(h:ItemsAre (intKind prog w) ks vs):∀ v∈vs,∃ n t,v=.int n t:=by
 induction h with
 | nil=>intro v hv;cases hv
 | cons h1 _ ih=>
  intro v hv
  rcases Ak.mp hv with rfl | hv
  ·obtain⟨t,e⟩:=Value.isInt_shape h1
   exact⟨_,t,e⟩
  ·exact ih v hv
def bX {ks:List Int}{a:Addr}{Q:Bool->Shared->Prop}(hk:IsTupleKey (intKind prog w) s.heap ks a) (h:Q false s):wpAny (model prog w) A (ofAClassStatement 8 (.ref a)) Q E s:=by
 have hT:=hk.typeIs
 obtain⟨o,items,n,ho,_,hd,hi⟩:=hk
 unfold ofAClassStatement
 refine za0 (wpAny_typeOf hT ?_)
 show wpAny _ _ (pure true >>= _) _ _ s
 refine za0 (Ac ?_)
 simp only[CP,A7,if_false]
 refine za0 (wpAny_seqItems ho hd ?_)
 dsimp only
 refine za0 ?_
 show wpAny _ _ (forIn items _ _) _ _ s
 rw[<- Array.forIn_toList]
 refine wpAny_forIn_list _ (λ rest r s'=>r.1=none/\s'=s/\∀ v∈rest,∃ n t,v=.int n t) _ ?_ ?_ _ _ ⟨rfl,rfl,items_int hi⟩
 ·rintro v rest r s' ⟨hr,rfl,Az⟩
  obtain⟨m,t,rfl⟩:=Az v Am
  show wpAny _ _ (pure false >>= _) _ _ _
  refine za0 (Ac ?_)
  simp only[A7,if_false]
  exact Ac ⟨rfl,rfl,λ u hu=>Az u (Ao _ hu)⟩
 ·rintro⟨r1,r2⟩ s' ⟨hr,rfl,_⟩
  simp only at hr
  subst hr
  exact Ac h
def QP {ks:List Int}{a:Addr}{Q:Bool->Shared->Prop}(hk:IsTupleKey (intKind prog w) s.heap ks a) (h:Q true s):wpAny (model prog w) A (hashByValue 8 (.ref a)) Q E s:=by
 have hT:=hk.typeIs
 obtain⟨o,items,n,ho,_,hd,hi⟩:=hk
 unfold hashByValue
 refine za0 (wpAny_specialOf hT F.slot_tuple_hash.lookup ?_)
 dsimp only
 refine za0 (wpAny_seqItems ho hd ?_)
 refine za0 ?_
 show wpAny _ _ (forIn items _ _) _ _ s
 rw[<- Array.forIn_toList]
 refine wpAny_forIn_list _ (λ rest r s'=>r.1=none/\s'=s/\∀ v∈rest,∃ n t,v=.int n t) _ ?_ ?_ _ _ ⟨rfl,rfl,items_int hi⟩
 ·rintro v rest r s' ⟨hr,rfl,Az⟩
  obtain⟨m,t,rfl⟩:=Az v Am
  show wpAny _ _ (pure true >>= _) _ _ _
  refine za0 (Ac ?_)
  simp only[CP,A7,if_false]
  exact Ac ⟨rfl,rfl,λ u hu=>Az u (Ao _ hu)⟩
 ·rintro⟨r1,r2⟩ s' ⟨hr,rfl,_⟩
  simp only at hr
  subst hr
  exact Ac h
def XJ {ks:List Int}{b:Addr}{Q:Bool->Shared->Prop}(hk:IsTupleKey (intKind prog w) s.heap ks b) (l:List Value) (hl:∀ v∈l,∃ k c,v=.ref c/\IsTupleKey (intKind prog w) s.heap k c) (h:Q false s):
  wpAny (model prog w) A (searchCouldBeSeen (.ref b) l) Q E s:=by
 unfold searchCouldBeSeen
 refine za0 ?_
 refine wpAny_forIn_list _ (λ rest r s'=>r.1=none/\s'=s/\∀ v∈rest,∃ k c,v=.ref c/\IsTupleKey (intKind prog w) s.heap k c) _ ?_ ?_ _ _ ⟨rfl,rfl,hl⟩
 ·rintro v rest r s' ⟨hr,rfl,Az⟩
  obtain⟨k,c,rfl,hc⟩:=Az v Am
  have rest':∀ u∈rest,∃ k c,u=Value.ref c/\IsTupleKey (intKind prog w) s'.heap k c:=λ u hu=>Az u (Ao _ hu)
  dsimp only
  by_cases e:(b == c||(carriedByValue (.ref b)&&carriedByValue (.ref c)))=true
  ·rw[if_pos e]
   exact Ac ⟨rfl,rfl,rest'⟩
  ·rw[if_neg e]
   refine za0 ((rk prog w).quiet hk ?_)
   simp only[CP,A7,if_false]
   refine za0 ((rk prog w).quiet hc ?_)
   simp only[CP,A7,if_false]
   refine za0 (bX hk ?_)
   simp only[A7,if_false]
   refine za0 (bX hc ?_)
   simp only[A7,if_false]
   exact Ac ⟨rfl,rfl,rest'⟩
 ·rintro⟨r1,r2⟩ s' ⟨hr,rfl,_⟩
  simp only at hr
  subst hr
  exact Ac h
structure rV (h:Heap) (es:Array (Int×Value)) (t:SetTable) (xs:List (List Int×Addr)):Prop where
 es:es.toList=xs.map λ e=>((rk prog w).hash e.1,Value.ref e.2)
 is:∀ e∈xs,IsTupleKey (intKind prog w) h e.1 e.2
 tab:Tab t (xs.map λ e=>(rk prog w).hash e.1)
 nM:xs.length<=t.mask
theorem rV.fits {h:Heap}{es:Array (Int×Value)}{t:SetTable}{xs:List (List Int×Addr)}(X:rV (prog:=prog) (w:=w) h es t xs):t.fits es.size=true:=by
 have hl:es.size=xs.length:=by have:=congrArg List.length X.es;simpa using this
 have h1:=X.tab.len
 rw[Au] at h1
 have h2:=X.nM
 unfold SetTable.fits SetTable.fill
 rw[X.tab.rH,hl,h1]
 simp
 lia
def rV.at {h:Heap}{es:Array (Int×Value)}{t:SetTable}{xs:List (List Int×Addr)}(X:rV (prog:=prog) (w:=w) h es t xs) {i:Nat}{e:List Int×Addr}(he:xs[i]?=some e):es[i]?=some ((rk prog w).hash e.1,Value.ref e.2):=by
 rw[<- BC,X.es,Ax,he];rfl
theorem cu {a:Addr}{o:Obj}{es:Array (Int×Value)}{ep:Nat}{t:SetTable}{xs:List (List Int×Addr)}{key:List Int}{b:Addr}{Q:SetFound->Shared->Prop}
  (hu:A.units<cLine) (ho:s.heap.get? a=some o) (hd:o.data=.set es ep t) (X:rV (prog:=prog) (w:=w) s.heap es t xs) (hb:IsTupleKey (intKind prog w) s.heap key b)
  (h1:key∈xs.map (·.1)->Q (.there none) s) (h2:key∉xs.map (·.1)->∀ j,ei t ((rk prog w).hash key) j->Q (.free j false) s):
  ∀ (fuel k:Nat) (stand:Option Probe),stand.getD (t.probeStart ((rk prog w).hash key))=way t.mask ((rk prog w).hash key) k->(∀ m<k,∃ (i:Nat) (e:List Int×Addr),t.place[i]?=some (way t.mask ((rk prog w).hash key) m).j/\xs[i]?=some e/\e.1≠key)->(∃ K,k<=K/\K<k+fuel/\K<10*(t.mask+15)/\(way t.mask ((rk prog w).hash key) K).j∉t.place.toList/\∀ m<K,(way t.mask ((rk prog w).hash key) m).j∈t.place.toList)->
   wpAny (model prog w) A (setSearchFrom a (.ref b) ((rk prog w).hash key) true fuel stand) Q E s
 | 0,k,stand,_,_,⟨K,q1,q2,_⟩=>by lia
 | fuel+1,k,stand,Ay,hpast,⟨K,q1,q2,q3,q4,q5⟩=>by
  have T:=X.tab
  have D_:t.gaveWay=false:=by
   unfold SetTable.gaveWay
   rcases T.mask with e | e | e <;> rw[e] <;> rfl
  unfold setSearchFrom
  refine za0 (za9 ho hd X.fits ?_)
  dsimp only
  rw[D_]
  simp only[A7,if_false]
  have hA:∀ (i:Nat) g,(xs.map λ e=>(rk prog w).hash e.1)[i]?=some g->((es[i]?).map (·.1)).getD 0=g:=λ i g hg=>by
   rw[Ax] at hg
   obtain⟨e,e1,e2⟩:=AA.mp hg
   rw[X.at e1];exact e2
  obtain⟨k1,g1,g2,g3⟩:=Zk T (hashAt:=λ i=>((es[i]?).map (·.1)).getD 0) hA ((rk prog w).hash key) (10*turns t.mask) k ⟨K,q1,by unfold turns;lia,q4⟩
  rw[Ay]
  have look:∀ (i:Nat) g,(xs.map λ e=>(rk prog w).hash e.1)[i]?=some g->∃ e,xs[i]?=some e/\(rk prog w).hash e.1=g:=λ i g hg=>by
   rw[Ax] at hg
   obtain⟨e,e1,e2⟩:=AA.mp hg
   exact⟨e,e1,e2⟩
  have hpast':∀ m<k1,∃ (i:Nat) (e:List Int×Addr),t.place[i]?=some (way t.mask ((rk prog w).hash key) m).j/\xs[i]?=some e/\e.1≠key:=λ m hm=>by
   rcases Bo m k with c | c
   ·exact hpast m c
   ·obtain⟨i,g,p1,p2,p3⟩:=g2 m c hm
    obtain⟨e,e1,e2⟩:=look i g p2
    exact⟨i,e,p1,e1,λ q=>p3 (by rw[<- e2,q])⟩
  rcases g3 with ⟨n1,n2⟩ | ⟨i,n1,n2,n3⟩
  ·have n2':t.probe _ ((rk prog w).hash key) (way t.mask ((rk prog w).hash key) k)=_:=n2
   simp only[SetTable.probe] at n2' ⊢
   erw [n2]
   dsimp only
   refine Ac (h2 (λ hm=>?_) _ ⟨n1,k1,rfl,λ m hm=>?_⟩)
   ·obtain⟨e,he,ek⟩:=An.mp hm
    obtain⟨i,hi⟩:=Dq.mp he
    have hh:(xs.map λ e=>(rk prog w).hash e.1)[i]?=some ((rk prog w).hash key):=by rw[Ax,hi,<- ek];rfl
    have CT:i<t.place.size:=by rw[T.len];exact (AD.mp hh).1
    obtain⟨kk,w1,w2⟩:=T.oS i _ _ hh (Ba CT)
    rcases Dt kk k1 with c | c | c
    ·obtain⟨i',e',p1,p2,p3⟩:=hpast' kk c
     rw[w1] at p1
     have:i=i':=by
      rw[<- below_at T.wy (Ba CT),<- below_at T.wy p1]
     subst this
     rw[hi] at p2;cases p2
     exact p3 ek
    ·subst c;rw[w1] at n1;exact n1 (by simp)
    ·exact n1 (w2 k1 c)
   ·obtain⟨i',e',p1,_⟩:=hpast' m hm
    exact Bb (by rw[BC];exact p1)
  ·simp only[SetTable.probe]
   erw [n3]
   dsimp only
   obtain⟨e,e1,e2⟩:=look i _ n2
   have hes:=X.at e1
   have hey:=X.is e (Bb e1)
   have main:wpAny (model prog w) A (holding [Value.ref e.2] (eqBool (.ref e.2) (.ref b)) >>= λ equal=>setState a >>= λ x=>match x with
     | (es',_,t')=>if (true&&equal)=true then pure (SetFound.there none) else
      match t'.sameMemory t.moves t.mask with
      | some same=>
       have jp:=λ still=>match still with
        | none=>do
         rule "set.search.anew"
         setSearchFrom a (.ref b) ((rk prog w).hash key) true fuel none
        | some i'=>if equal=true then pure (SetFound.there (some i')) else setSearchFrom a (.ref b) ((rk prog w).hash key) true fuel (some (way t.mask ((rk prog w).hash key) (k1+1)))
       match if same=true then t'.slot (way t.mask ((rk prog w).hash key) k1).j else Slot.empty with
       | .live i'=>match es'[i']? with
        | some (_,y')=>do
         let r <- isSame y' (.ref e.2)
         let still <- pure (if r=true then some i' else none)
         jp still
        | none=>do
         let still <- pure none
         jp still
       | _=>do
        let still <- pure none
        jp still
      | _=>unsupported "set.changed-during-lookup:is-the-new-block-at-the-old-address") Q E s:=by
    refine za0 (za5 ((rk prog w).eqBool hu hey hb ?_))
    refine za0 (za9 ho hd X.fits ?_)
    dsimp only
    by_cases hk:e.1=key
    ·rw[zaD hk]
     simp only[Dv,if_true]
     exact Ac (h1 (An.mpr ⟨e,Bb e1,hk⟩))
    ·rw[za4 hk]
     simp only[CM,A7,if_false]
     have sm:t.sameMemory t.moves t.mask=some true:=by unfold SetTable.sameMemory;simp
     rw[sm]
     dsimp only
     rw[if_pos rfl,T.live n1]
     dsimp only
     rw[hes]
     dsimp only
     refine za0 (wpAny_isSame_ref_self ?_)
     refine za0 (Ac ?_)
     rw[if_pos rfl]
     dsimp only
     have hKk:k1<K:=by
      rcases Dt K k1 with c | c | c
      ·obtain⟨i',e',p1,_⟩:=hpast' K c
       exact absurd (Bb (by rw[BC];exact p1)) q4
      ·subst c
       exact absurd (Bb (by rw[BC];exact n1)) q4
      ·exact c
     refine cu hu ho hd X hb h1 h2 fuel (k1+1) _ rfl (λ m hm=>?_) ⟨K,by lia,by lia,q3,q4,q5⟩
     rcases Bo m k1 with c | c
     ·exact hpast' m c
     ·have:m=k1:=by lia
      subst this
      exact⟨i,e,n1,e1,hk⟩
   rw[hes]
   by_cases hl:t.led=true
   ·rw[hl]
    simp only[CP,A7,if_false]
    exact main
   ·have hl':t.led=false:=by simpa using hl
    rw[hl']
    simp only[CQ,if_true]
    refine za0 (XJ hb _ (λ v hv=>?_) ?_)
    ·obtain⟨p,hp,rfl⟩:=An.mp hv
     rw[Array.toList_filter,A_,X.es] at hp
     obtain⟨⟨e',he',rfl⟩,_⟩:=(And.intro (An.mp hp.1) hp.2)
     exact⟨e'.1,e'.2,rfl,X.is e' he'⟩
    ·simp only[A7,if_false]
     exact main
structure vG (prog:Program) (w:World) (h:Heap) (a:Addr) (xs:List (List Int×Addr)) (led:Bool):Prop where
 ex:∃ es ep t,h.get? a=some { cls:=.type "set",dict:=none,data:=.set es ep t }/\rV (prog:=prog) (w:=w) h es t xs/\t.led=led/\t.plain=true/\xs.length*5<t.mask*3
 nd:(xs.map (·.1)).Nodup
def jr {h h':Heap}{ks:List Int}{b a:Addr}{es:Array (Int×Value)}{ep:Nat}{t:SetTable}{c:Value}{d:Option Addr}{sl:Array (Option Value)}(x:IsTupleKey (intKind prog w) h ks b) (ho:h.get? a=some { cls:=c,dict:=d,data:=.set es ep t,slots:=sl }) (hs:Heap.SameBut a h h'):IsTupleKey (intKind prog w) h' ks b:=by
 obtain⟨o',items,n,ho',hc,hd',hi⟩:=x
 have Aj:b≠a:=by
  rintro rfl
  obtain rfl:o'=_:=A4 (ho'.symm.trans ho)
  cases hd'
 exact⟨o',items,n,(hs.2 b Aj).trans ho',hc,hd',hi⟩
def lN {h:Heap}{a:Addr}{es es':Array (Int×Value)}{ep:Nat}{t t':SetTable}(ho:h.get? a=some { cls:=.type "set",dict:=none,data:=.set es ep t }):(h.update a (Obj.putSet es' t')).get? a=some { cls:=.type "set",dict:=none,data:=.set es' (ep+1) t' }:=by
 have e:Obj.putSet es' t' { cls:=.type "set",dict:=none,data:=.set es ep t }={ cls:=.type "set",dict:=none,data:=.set es' (ep+1) t' }:=putSet_of es' t' rfl
 have:=za6 (Obj.putSet es' t') ho (by rw[e];rfl)
 rw[e] at this;exact this
theorem iw {α β:Type}(l:List α) (f:α->β) (d:β):∀ (order:List Nat),(∀ k∈order,k<l.length)->order.map (λ k=>(l.map f).getD k d)=(order.filterMap λ k=>l[k]?).map f
 | [],_=>rfl
 | k::order,h=>by
  have hk:=h k Am
  have ih:=iw l f d order λ j hj=>h j (Ao _ hj)
  rw[Aq,Cz,A5 hk]
  dsimp only
  rw[Aq,ih]
  congr 1
  simp[hk]
def Vk {a:Addr}{es:Array (Int×Value)}{ep:Nat}{t:SetTable}{xs:List (List Int×Addr)}{led:Bool}{wanted M:Nat}{Q:Unit->Shared->Prop}
  (ho:s.heap.get? a=some { cls:=.type "set",dict:=none,data:=.set es ep t }) (X:rV (prog:=prog) (w:=w) s.heap es t xs) (Bv:t.led=led) (Ah:t.plain=true) (hM:vn M) (hw:sizeAbove wanted=M+1) (AF:xs.length*5<M*3) (Bg:(xs.map (·.1)).Nodup)
  (h:∀ h' xs',Heap.SameBut a s.heap h'->vG prog w h' a xs' led->xs'.Perm xs->Q () { s with heap:=h' }):wpAny (model prog w) A (setRelay a wanted) Q E s:=by
 have hlen:es.size=xs.length:=by have:=congrArg List.length X.es;simpa using this
 have Em:(es.map (·.1)).toList=xs.map λ e=>(rk prog w).hash e.1:=by rw[Array.toList_map,X.es,AQ];rfl
 have hsz:(es.map (·.1)).size=xs.length:=by rw[C1,hlen]
 obtain⟨t',order,h1,h2,h3,h4,h5,h6,h7⟩:=aE hM t.finger (t.movedTo M) t.led t.plain (es.map (·.1)) (by rw[hsz];lia)
 rw[hsz] at h6
 have Al:∀ k∈order.toList,k<xs.length:=λ k hk=>by simpa using h6.mem_iff.mp hk
 unfold setRelay
 refine za0 (za9 ho rfl X.fits ?_)
 dsimp only
 rw[if_neg (by rw[hw];rcases hM with e | e | e <;> rw[e] <;> decide)]
 have hr:t.relaid (es.map (·.1)) wanted=some (t',order):=by
  unfold SetTable.relaid
  rw[hw,Nat.add_sub_cancel];exact h1
 rw[hr]
 have BQ:(order.filterMap (es[·]?)).toList=(order.toList.filterMap λ k=>xs[k]?).map λ e=>((rk prog w).hash e.1,Value.ref e.2):=by
  rw[Array.toList_filterMap,List.map_filterMap]
  congr 1
  funext k
  rw[<- BC,X.es,Ax]
 have hperm:(order.toList.filterMap λ k=>xs[k]?).Perm xs:=(h6.filterMap _).trans (by rw[List.filterMap_getElem?_range_length])
 have BL:(order.filterMap (es[·]?)).size=es.size:=by
  rw[<- Br,BQ,Au,hperm.length_eq,hlen]
 refine za0 (m:=_) ?_
 show wpAny _ _ (do
  let some (t,order):=some (t',order) | unsupported "internal:set-table-without-room"
  let es':=order.filterMap (es[·]?)
  if es'.size != es.size then unsupported "internal:set-table-lost-an-element"
  pure (es',t)) _ _ _
 dsimp only
 rw[if_neg (by rw[BL];simp)]
 refine Ac ?_
 have Bl:(order.filterMap (es[·]?)).size<=sizeLine:=by
  rw[BL,hlen]
  have:sizeLine=16777216:=rfl
  rcases hM with e | e | e <;> subst e <;> lia
 refine wpAny_storeSet_of ho rfl ?_ Bl
 have sb:=Heap.SameBut.update s.heap a (Obj.putSet (order.filterMap (es[·]?)) t')
 refine h _ _ sb ⟨⟨_,ep+1,t',lN ho,⟨BQ,λ e he=>jr (X.is e (hperm.mem_iff.mp he)) ho sb,?_,?_⟩,by rw[h4];exact Bv,by rw[h5];exact Ah,?_⟩,(hperm.map _).nodup_iff.mpr Bg⟩ hperm
 ·rw[<- iw xs (λ e=>(rk prog w).hash e.1) 0 order.toList Al,<- Em]
  exact h7
 ·rw[hperm.length_eq,h2];lia
 ·rw[hperm.length_eq,h2];exact AF
def ck (n:Nat) (M:Nat) (hM:vn M) (h1:n*5<M*3) (h2:M*3<=(n+1)*5) (hn:n<70):∃ M',vn M'/\sizeAbove (grown (n+1))=M' + 1/\(n+1)*5<M'*3:=by
 rcases hM with e | e | e <;> subst e
 ·have:n=4:=by lia
  subst this;exact⟨31,.inr (.inl rfl),by decide +kernel,by lia⟩
 ·have:n=18:=by lia
  subst this;exact⟨127,.inr (.inr rfl),by decide +kernel,by lia⟩
 ·lia
def Nf {a:Addr}{xs:List (List Int×Addr)}{key:List Int}{b:Addr}{led:Bool}{Q:Bool->Shared->Prop}(hu:A.units<cLine) (S:vG prog w s.heap a xs led) (hb:IsTupleKey (intKind prog w) s.heap key b) (hn:xs.length<70)
  (h:∀ h' xs' r,Heap.SameBut a s.heap h'->vG prog w h' a xs' led->(key∈xs.map (·.1)/\xs'=xs\/key∉xs.map (·.1)/\xs'.Perm (xs++[(key,b)]))->Q r { s with heap:=h' }):
  wpAny (model prog w) A (setAddHashed a (.ref b) ((rk prog w).hash key)) Q E s:=by
 obtain⟨⟨es,ep,t,ho,X,Bv,Ah,AF⟩,Bg⟩:=S
 have hlen:es.size=xs.length:=by have:=congrArg List.length X.es;simpa using this
 unfold setAddHashed setAddHashedIn
 refine za5 (za0 (za9 ho rfl X.fits ?_))
 dsimp only
 rw[if_neg (by simp[byScan,Value.scannable])]
 obtain⟨K,k1,k2,k3⟩:=X.tab.first (by rw[Au];exact X.nM) ((rk prog w).hash key)
 have hmk:t.mask<=127:=by rcases X.tab.mask with e | e | e <;> lia
 refine za0 ?_
 unfold setSearch
 refine cu (key:=key) (b:=b) hu ho rfl X hb (λ hm=>?_) (λ hm j F=>?_) 100000 0 none rfl (λ m hm=>by lia) ⟨K,by lia,by lia,k1,k2,k3⟩
 ·dsimp only
  refine Ac ?_
  have:=h s.heap xs false ⟨rfl,λ _ _=>rfl⟩ ⟨⟨es,ep,t,ho,X,Bv,Ah,AF⟩,Bg⟩ (.inl ⟨hm,rfl⟩)
  exact this
 ·dsimp only
  refine za0 (za9 ho rfl X.fits ?_)
  dsimp only
  obtain⟨p1,p2,p3⟩:=X.tab.put F
  rw[Au] at p1
  have CC:(t.put j).1.plain=true:=by rw[p2];exact Ah
  have B6:(t.put j).1.mask=t.mask:=by rw[p2]
  have Al:(t.put j).1.led=led:=by rw[p2];exact Bv
  generalize hT:(t.put j)=P at *
  obtain⟨t1,p⟩:=P
  dsimp only at *
  rw[CC]
  simp only[if_true]
  refine za0 (QP hb ?_)
  simp only[if_true]
  let xs1:=xs.take p++(key,b)::xs.drop p
  have hperm:xs1.Perm (xs++[(key,b)]):=by
   have e:xs.take p++xs.drop p=xs:=DH p xs
   have:xs1.Perm ((key,b)::(xs.take p++xs.drop p)):=List.perm_middle
   rw[e] at this
   exact this.trans (List.perm_append_singleton _ _).symm
  have hl1:xs1.length=xs.length+1:=by rw[hperm.length_eq];simp
  have hes1:(insertAt es p ((rk prog w).hash key,Value.ref b)).toList=xs1.map λ e=>((rk prog w).hash e.1,Value.ref e.2):=by
   rw[toList_insertAt,X.es]
   simp[xs1,Dp,Dn]
  have hsz1:(insertAt es p ((rk prog w).hash key,Value.ref b)).size=xs.length+1:=by rw[<- Br,hes1,Au,hl1]
  have Bl:(insertAt es p ((rk prog w).hash key,Value.ref b)).size<=sizeLine:=by
   rw[hsz1]
   have:sizeLine=16777216:=rfl
   lia
  refine za0 (wpAny_storeSet_of ho rfl ?_ Bl)
  have sb:=Heap.SameBut.update s.heap a (Obj.putSet (insertAt es p ((rk prog w).hash key,Value.ref b)) t1)
  have ho1:=lN (es':=insertAt es p ((rk prog w).hash key,Value.ref b)) (t':=t1) ho
  have hm7:7<=t.mask:=by rcases X.tab.mask with e | e | e <;> lia
  have X1:rV (prog:=prog) (w:=w) (s.heap.update a (Obj.putSet (insertAt es p ((rk prog w).hash key,Value.ref b)) t1)) (insertAt es p ((rk prog w).hash key,Value.ref b)) t1 xs1:=by
   refine⟨hes1,λ e he=>?_,?_,by rw[hl1,B6];lia⟩
   ·rcases AU.mp (hperm.mem_iff.mp he) with q | q
    ·exact jr (X.is e q) ho sb
    ·cases AM.mp q;exact jr hb ho sb
   ·have:xs1.map (λ e=>(rk prog w).hash e.1)=(xs.map λ e=>(rk prog w).hash e.1).take p++(rk prog w).hash key::(xs.map λ e=>(rk prog w).hash e.1).drop p:=by simp[xs1,Dp,Dn]
    rw[this];exact p3
  have hnd1:(xs1.map (·.1)).Nodup:=by
   refine (hperm.map _).nodup_iff.mpr ?_
   rw[BH,List.nodup_append]
   refine⟨Bg,by simp,λ x hx y hy=>?_⟩
   simp at hy
   subst hy
   exact λ e=>hm (e▸hx)
  by_cases hf:t1.tooFull=true
  ·rw[hf]
   simp only[CQ,Dv,if_true]
   have hfill:t1.fill=xs.length+1:=by
    unfold SetTable.fill
    rw[p3.rH,p3.len]
    simp
    lia
   have hfull:t.mask*3<=(xs.length+1)*5:=by
    have:=hf
    unfold SetTable.tooFull at this
    rw[hfill,B6] at this
    simpa using this
   obtain⟨M',g1,g2,g3⟩:=ck xs.length t.mask X.tab.mask AF hfull hn
   rw[hlen]
   refine za0 (Vk (led:=led) ho1 X1 Al CC g1 g2 (by rw[hl1];exact g3) hnd1 λ h' xs' sb' S' pm=>?_)
   refine Ac ?_
   exact h h' xs' true (sb.trans sb') S' (.inr ⟨hm,pm.trans hperm⟩)
  ·have hf':t1.tooFull=false:=by simpa using hf
   rw[hf']
   simp only[CQ,CM,A7,if_false]
   refine Ac ?_
   have hfill:t1.fill=xs.length+1:=by
    unfold SetTable.fill
    rw[p3.rH,p3.len]
    simp
    lia
   have hfull:(xs.length+1)*5<t.mask*3:=by
    have:=hf'
    unfold SetTable.tooFull at this
    rw[hfill,B6] at this
    simpa using this
   exact h _ xs1 true sb ⟨⟨_,ep+1,t1,ho1,X1,Al,CC,by rw[hl1,B6];exact hfull⟩,hnd1⟩ (.inr ⟨hm,hperm⟩)
end
noncomputable def v7 (w:World):Bool:=!w.params.followText "set-order"
def yJ (w:World):Obj:={ cls:=.type "set",dict:=none,data:=.set #[] 0 (.fresh 0 0 (v7 w)) }
section
variable {prog:Program}{w:World}{A:Around}{E:Value->Shared->Prop}{s:Shared}
set_option maxHeartbeats 3200000 in
def Yb (a:Value) {Q:Value->Shared->Prop}(h:Q (.ref s.heap.objs.size) { s with heap:=s.heap.push (yJ w) }):
  codeAny (model prog w) A (.call (.builtin "set.__new__") ⟨[.type "set",a],[]⟩) (wants Q E) s:=by
 refine codeAny_of_tree ?_
 show wpAny _ A.in1 (checkBuiltinCall "set.__new__" ⟨[.type "set",a],[]⟩ >>= λ _=>again (.builtin "set.__new__" ⟨[.type "set",a],[]⟩)) _ _ s
 refine za0 (wpAny_of_eq (F.newCall_set_1 a) (Ac ⟨plainId_quiet F.plain_set_new _,codeAny_builtin F.entry_set_new ?_⟩))
 rw[Around.under_plainId F.plain_set_new _]
 unfold Builtin.«set.__new__» Builtin.Frozenset.newClass newSet setsByText
 have sub:=sub_set_self
 obtain⟨hp,g,d,tk,os⟩:=s
 dsimp only
 wp_walk
 refine zaL (Ac ?_)
 dsimp only
 simp only[newObj]
 exact za0 (wpAny_alloc (Ac (Ac h)))
def WH {h:Heap}{a:Addr}(ho:h.get? a=some (yJ w)):vG prog w h a [] (v7 w):=
 ⟨⟨#[],0,_,ho,⟨rfl,λ e he=>(by cases he),⟨.inl rfl,rfl,rfl,.nil,λ j hj=>(by cases hj),λ i g j hg=>(by cases hg)⟩,by simp⟩,rfl,rfl,by show 0*5<7*3;lia⟩,.nil⟩
end
end ST
namespace ST
open PySem PySem.SetTable PyProof.Rows
structure Up (its:Array Value) (rows:List (List Int)) (i:Nat) (xs:List (List Int×Addr)):Prop where
 own:∀ e∈xs,∃ j,j<i/\its[j]?=some (.ref e.2)/\rows[j]?=some e.1
 all:∀ (j:Nat) r,j<i->rows[j]?=some r->r∈xs.map (·.1)
def Up.len {its:Array Value}{rows:List (List Int)}{i:Nat}{xs:List (List Int×Addr)}(U:Up its rows i xs) (nd:(xs.map (·.1)).Nodup):xs.length<=i:=by
 have:∀ x∈xs.map (·.1),x∈(List.range i).map λ j=>rows.getD j []:=λ x hx=>by
  obtain⟨e,he,rfl⟩:=An.mp hx
  obtain⟨j,h1,_,h3⟩:=U.own e he
  refine An.mpr ⟨j,AO.mpr h1,?_⟩
  rw[Bk,h3];rfl
 have key:∀ (l m:List (List Int)),l.Nodup->(∀ x∈l,x∈m)->l.length<=m.length:=by
  intro l
  induction l with
  | nil=>intro m _ _;exact AI _
  | cons x l ih=>
   intro m hn hs
   have h1:=Cc.mp hn
   have hx:=hs x Am
   have:=ih (m.erase x) h1.2 λ z hz=>(DN (λ e:z=x=>h1.1 (by rw[<- e];exact hz))).mpr (hs z (Ao _ hz))
   rw[DM hx] at this
   have:=DL hx
   simp only[AR];lia
 have:=key _ _ nd this
 simpa using this
def Up.step {its:Array Value}{rows:List (List Int)}{i:Nat}{xs xs':List (List Int×Addr)}{key:List Int}{b:Addr}(U:Up its rows i xs) (hi:its[i]?=some (.ref b)) (hr:rows[i]?=some key)
  (h:key∈xs.map (·.1)/\xs'=xs\/key∉xs.map (·.1)/\xs'.Perm (xs++[(key,b)])):Up its rows (i+1) xs':=by
 rcases h with ⟨hm,rfl⟩ | ⟨_,hp⟩
 ·refine⟨λ e he=>?_,λ j r hj Bc=>?_⟩
  ·obtain⟨j,h1,h2⟩:=U.own e he
   exact⟨j,by lia,h2⟩
  ·rcases Bo j i with q | q
   ·exact U.all j r q Bc
   ·have:j=i:=by lia
    subst this
    rw[hr] at Bc;cases Bc;exact hm
 ·refine⟨λ e he=>?_,λ j r hj Bc=>?_⟩
  ·rcases AU.mp (hp.mem_iff.mp he) with q | q
   ·obtain⟨j,h1,h2⟩:=U.own e q
    exact⟨j,by lia,h2⟩
   ·cases AM.mp q
    exact⟨i,by lia,hi,hr⟩
  ·have hp':=hp.map (·.1)
   rw[hp'.mem_iff,BH]
   rcases Bo j i with q | q
   ·exact Cy _ (U.all j r q Bc)
   ·have:j=i:=by lia
    subst this
    rw[hr] at Bc;cases Bc
    exact AN _ Am
section
variable {prog:Program}{w:World}{A:Around}{R:Result->Shared->Prop}{I:Addr}{fp wr:List Addr}{G:Array GenState->Array GenState->Prop}{n:Nat}{P:Nat->Value->Prop}{St:Nat->Shared->Prop}
def qv (prog:Program) (w:World) (h:Heap) (its:Array Value) (rows:List (List Int)):Prop:=∀ (i:Nat) v,its[i]?=some v->∃ b r,v=.ref b/\rows[i]?=some r/\IsTupleKey (intKind prog w) h r b
def qv.at {h h':Heap}{its:Array Value}{rows:List (List Int)}(T:qv prog w h its rows) (k:∀ (i:Nat) b,its[i]?=some (.ref b)->∀ o,h.get? b=some o->h'.get? b=some o):qv prog w h' its rows:=λ i v hv=>by
 obtain⟨b,r,rfl,h1,o,items,m,h2,h3⟩:=T i v hv
 exact⟨b,r,rfl,h1,o,items,m,k i b hv o h2,h3⟩
def RQ (W:WalksS prog w A.in1 I fp wr G n (λ i v=>P i v) St) (Sa:Addr) (hSf:Sa∉fp) {its:Array Value}{rows:List (List Int)}(hP:∀ i v,P i v->its[i]?=some v) (hn:n<70) (hu:A.units+1<cLine) (led:Bool)
  (B5:∀ (i:Nat) b,its[i]?=some (.ref b)->b∉Sa::wr):∀ (k i:Nat) (s:Shared) (xs:List (List Int×Addr)),n-i=k->i<=n->St i s->vG prog w s.heap Sa xs led->qv prog w s.heap its rows->Up its rows i xs->
   (∀ s' xs',Moved (Sa::wr) G s s'->vG prog w s'.heap Sa xs' led->Up its rows n xs'->R (.ok (.ret .none)) s')->
   codeAny (model prog w) A (.builtin "set.update.loop" ⟨[.ref Sa,.ref I],[]⟩) R s:=by
 have hSw:Sa∉wr:=λ z=>hSf (W.sub _ z)
 have more:∀ b∈wr,b∈Sa::wr:=λ b hb=>Ao _ hb
 have keepS:∀ {s s':Shared}{xs:List (List Int×Addr)}{wr':List Addr},Sa∉wr'->(∀ e∈xs,e.2∉wr')->Moved wr' G s s'->vG prog w s.heap Sa xs led->vG prog w s'.heap Sa xs led:=λ{s s' xs wr'} h1 h2 hm ⟨⟨es,ep,t,ho,X,r1,r2,r3⟩,nd⟩=>
  ⟨⟨es,ep,t,hm.heap Sa _ h1 ho,⟨X.es,λ e he=>by
   obtain⟨o,items,m,g1,g2⟩:=X.is e he
   exact⟨o,items,m,hm.heap _ _ (h2 e he) g1,g2⟩,X.tab,X.nM⟩,r1,r2,r3⟩,nd⟩
 intro k
 induction k with
 | zero=>
  intro i s xs hk hi Ay hS hT hU hR
  have e:i=n:=by lia
  subst e
  refine codeAny_builtin F.entry_set_update_loop ?_
  rw[Around.under_plainId F.plain_set_update_loop _]
  show wpAny _ A.in1 (pyNext (.ref I) >>= _) _ _ s
  refine za0 (W.done s _ _ Ay λ s' hm=>?_)
  refine Ac (hR s' xs (hm.mono more) (keepS hSw (λ e he=>?_) hm hS) hU)
  obtain⟨j,_,h2,_⟩:=hU.own e he
  exact λ z=>B5 j e.2 h2 (more _ z)
 | succ k ih=>
  intro i s xs hk hi Ay hS hT hU hR
  have Al:i<n:=by lia
  refine codeAny_builtin F.entry_set_update_loop ?_
  rw[Around.under_plainId F.plain_set_update_loop _]
  show wpAny _ A.in1 (pyNext (.ref I) >>= _) _ _ s
  refine za0 (W.item i s _ _ Al Ay λ v s1 hPv hst1 hm=>?_)
  have hv:=hP i v hPv
  have T1:qv prog w s1.heap its rows:=hT.at λ j b hj o e=>hm.heap b o (λ z=>B5 j b hj (more _ z)) e
  obtain⟨b,r,rfl,hr,hb⟩:=T1 i v hv
  have S1:vG prog w s1.heap Sa xs led:=keepS hSw (λ e he=>by
   obtain⟨j,_,h2,_⟩:=hU.own e he
   exact λ z=>B5 j e.2 h2 (more _ z)) hm hS
  have hl:xs.length<70:=by have:=hU.len hS.nd;lia
  show wpAny _ A.in1 (holding [Value.ref b] (setAdd Sa (.ref b)) >>= _) _ _ s1
  refine za0 (za5 ?_)
  unfold setAdd
  refine za5 (za0 ((rk prog w).pyHash (k:=r) (a:=b) (A:=A.in1) hu hb ?_))
  refine Nf (s:={ s1 with toks:=s1.toks+(rk prog w).draws r }) (A:=A.in1) hu S1 hb hl λ h' xs' rr sb S' hx=>?_
  have fr:=W.frame (i+1) s1 h' (s1.toks+(rk prog w).draws r) hst1 (Dm _ _) λ c hc o e=>(sb.2 c (λ z:c=Sa=>hSf (z▸hc))).trans e
  refine Ac ⟨plainId_quiet F.plain_set_update_loop _,ih (i+1) _ xs' (by lia) Al fr S' (T1.at λ j c hj o e=>?_) (hU.step hv hr hx) λ s2 xs2 hm2 S2 U2=>?_⟩
  ·exact (sb.2 c (λ z=>B5 j c hj (z▸Am))).trans e
  ·refine hR s2 xs2 (Moved.trans W.gtrans ((hm.mono more).then_heap (Dm _ _) λ c o hc e=>?_) hm2) S2 U2
   exact (sb.2 c (λ z=>hc (z▸Am))).trans e
end
section
variable {prog:Program}{w:World}{A:Around}{E:Value->Shared->Prop}{s:Shared}
set_option maxHeartbeats 6400000 in
def O9 {l:Addr}{its:Array Value}{rows:List (List Int)}{Q:Value->Shared->Prop}(hh:A.handled=none) (hu:A.units+64<cLine) (hl:s.heap.IsList l its) (hT:qv prog w s.heap its rows) (hn:its.size<70)
  (h:∀ (h':Heap) (tk:Nat) xs,vG prog w h' s.heap.objs.size xs (v7 w)->Up its rows its.size xs->(∀ b o,b<s.heap.objs.size->s.heap.get? b=some o->h'.get? b=some o)->Q (.ref s.heap.objs.size) { s with heap:=h',toks:=tk }):
  wpAny (model prog w) A (call (.type "set") [.ref l]) Q E s:=by
 obtain⟨c,tl,Ed⟩:=F.called_set.mro
 have made:=F.called_set.made
 have subm:=F.called_set.sub
 refine wpAny_call (codeAny_of_tree ?_)
 show wpAny _ _ (callAny (.type "set") _) _ _ _
 refine Ac ⟨Code.quiet_builtin _ (by decide +kernel),codeAny_builtin F.entry_type_call ?_⟩
 rw[Around.under_plain (weight_type_call_type "set" [.ref l] []) rfl]
 have nt:=F.called_set.notType
 have cc:=F.called_set.canCreate
 have tc:=F.typeCall_set_1 (.ref l)
 repeat (any_goals (first | assumption | wp_step))
 refine codeAny_mono (Yb (.ref l) (E:=E) (Q:=λ obj s₁=>obj=.ref s.heap.objs.size/\s₁={ s with heap:=s.heap.push (yJ w) }) ⟨rfl,rfl⟩) λ r s₁ hr=>?_
 cases r with
 | error e=>exact hr
 | ok fl=>
  cases fl with
  | ret obj=>
   obtain⟨rfl,rfl⟩:=hr
   have hS:(s.heap.push (yJ w)).get? s.heap.objs.size=some (yJ w):=AE _ rfl
   have hTy:Shared.TypeIs { s with heap:=s.heap.push (yJ w) } (.ref s.heap.objs.size) "set":=⟨_,hS,rfl⟩
   have li:=F.called_set.init.lookup
   have bi:=F.called_set.init.bind (.ref s.heap.objs.size)
   repeat (any_goals (first | assumption | wp_step))
   let s1:Shared:={ s with heap:=s.heap.push (yJ w) }
   refine codeAny_mono (codeAny_call_builtin (R:=wants (λ r s₂=>r=.none/\∃ h' tk xs,s₂={ s with heap:=h',toks:=tk }/\vG prog w h' s.heap.objs.size xs (v7 w)/\Up its rows its.size xs/\
     ∀ b o,b<s.heap.objs.size->s.heap.get? b=some o->h'.get? b=some o) E) F.called_set.init.plain F.entry_set_init (check_set_init_1 hTy ?_)) λ r₂ s₂ hr₂=>?_
   ·obtain⟨⟨ocls,odict,odata,oslots⟩,C8,AH,nl,Cj⟩:=id hl
    simp only at AH Cj
    subst AH Cj
    have hol1:(s.heap.push (yJ w)).get? l=some { cls:=.type "list",dict:=odict,data:=.seq its nl,slots:=oslots }:=za1 _ C8
    have sls:=F.sub_list_set
    have slf:=F.sub_list_frozenset
    have nd:(Value.type "list" == Value.type "dict")=false:=by decide
    have hl1:(s.heap.push (yJ w)).IsList l its:=⟨_,hol1,rfl,nl,rfl⟩
    unfold Builtin.«set.__init__» noKeywords Builtin.Frozenset.updateFrom
    generalize hPI:pyIter=PI
    unfold yJ at *
    wp_walk
    subst hPI
    refine wpAny_pyIter_list hl1 (za0 (wpAny_runValue ?_))
    have hlS:l<s.heap.objs.size:=Ai C8
    have hsz:(s.heap.push (yJ w)).objs.size=s.heap.objs.size+1:=Heap.size_push _ _
    have hneI:l≠(s.heap.push (yJ w)).objs.size:=by rw[hsz];exact Ap (Bz hlS)
    have szne:s.heap.objs.size≠(s.heap.push (yJ w)).objs.size:=by rw[hsz];exact Ap (Ce _)
    have low:∀ b:Addr,b<s.heap.objs.size->b≠(s.heap.push (yJ w)).objs.size:=λ b hb=>by rw[hsz];exact Ap (Bz hb)
    have tin:∀ (i:Nat) b,its[i]?=some (.ref b)->b<s.heap.objs.size:=λ i b hb=>by
     obtain⟨b',r,e,_,o,_,_,ho,_⟩:=hT i _ hb
     cases e;exact Ai ho
    refine RQ (A:=A.in1.in1) (P:=λ i v=>its[i]?=some v) ((Walks.list (A:=A.in1.in1.in1) (by simp[hh]) _ l hneI its).toS) s.heap.objs.size ?_ (its:=its) (rows:=rows) (λ _ _ q=>q) hn (show A.units+1+1+1<cLine by lia) (v7 w) ?_ its.size 0 _ [] (by lia) (AI _)
     ⟨⟨_,AE _ rfl,rfl,rfl⟩,hl1.push _⟩ (WH (w:=w) (za1 _ hS)) (hT.at λ i b _ o e=>za1 _ (za1 _ e)) ⟨λ e he=>(by cases he),λ j r hj=>(by lia)⟩ ?_
    ·intro hm
     rcases Ak.mp hm with q | q
     ·exact szne q
     ·exact BB hlS (AM.mp q)
    ·intro i b hb hm
     have Al:=tin i b hb
     rcases Ak.mp hm with q | q
     ·exact Ap Al q
     ·exact low b Al (AM.mp q)
    ·intro s' xs' hm S' U'
     obtain⟨h',g',d',tk',os'⟩:=s'
     obtain rfl:g'=s.gens:=hm.gens
     obtain rfl:d'=s.drawn:=hm.drawn
     obtain rfl:os'=s.os:=hm.os
     refine Ac (Ac ⟨rfl,h',tk',xs',rfl,S',U',λ b o hb e=>?_⟩)
     refine hm.heap b o (λ q=>?_) (za1 _ (za1 _ e))
     rcases Ak.mp q with q | q
     ·exact Ap hb q
     ·exact low b hb (AM.mp q)
   ·cases r₂ with
    | error e=>exact hr₂
    | ok fl₂=>
     cases fl₂ with
     | ret r=>
      obtain⟨rfl,h',tk,xs,rfl,g1,g2,g3⟩:=hr₂
      repeat (any_goals (first | assumption | wp_step))
      exact h h' tk xs g1 g2 g3
     | _=>exact hr₂.elim
  | _=>exact hr.elim
end
end ST
namespace ST
open PySem PySem.SetTable
section facts
def b8:Manifest.owners.lookup (String.ofList ['r','o','t','a','r','e','t','i','_','t','e','s'].reverse)=some Manifest.sig_set_iterator:=by kernel_rfl
def qP:Slot "set_iterator" "__next__" "set_iterator.__next__":=
 .of (owner:="set_iterator") (n:="__next__") (by rw[typeLookup_type,builtinLookup_eq_fast];kernel_rfl) (by decide +kernel) (by decide +kernel) (by decide +kernel) (by first | exact .inl (by decide +kernel) | exact .inr (by decide +kernel)) (by rw[isSubtype_type];kernel_rfl)
def Z7:entryFor table "set_iterator.__next__"=some Builtin.«set_iterator.__next__»:=entryFor_of_tree (by kernel_rfl)
def Yu (a:Value):argsOk "set_iterator.__next__" ⟨[a],[]⟩:=by
 unfold argsOk
 rw[signature?_of (id:="set_iterator.__next__") (n:=['_','_','t','x','e','n','_','_']) (o:=['r','o','t','a','r','e','t','i','_','t','e','s']) (by kernel_rfl) b8]
 kernel_rfl
def PM:entryFor table "set.__iter__"=some Builtin.«frozenset.__iter__»:=entryFor_alias (id':="frozenset.__iter__") (by kernel_rfl) rfl (by decide +kernel) (by kernel_rfl)
def cj:Slot "set_iterator" "__iter__" "set_iterator.__iter__":=
 .of (owner:="set_iterator") (n:="__iter__") (by rw[typeLookup_type,builtinLookup_eq_fast];kernel_rfl) (by decide +kernel) (by decide +kernel) (by decide +kernel) (by first | exact .inl (by decide +kernel) | exact .inr (by decide +kernel)) (by rw[isSubtype_type];kernel_rfl)
def PL:entryFor table "set_iterator.__iter__"=some Builtin.«dict_keyiterator.__iter__»:=entryFor_alias (id':="dict_keyiterator.__iter__") (by kernel_rfl) rfl (by decide +kernel) (by kernel_rfl)
def O_ (a:Value):argsOk "set_iterator.__iter__" ⟨[a],[]⟩:=by
 unfold argsOk
 rw[signature?_of (id:="set_iterator.__iter__") (n:=['_','_','r','e','t','i','_','_']) (o:=['r','o','t','a','r','e','t','i','_','t','e','s']) (by kernel_rfl) b8]
 kernel_rfl
end facts
theorem Z5 {α:Type}:∀ (l:List α) (i:Nat) (x:α),l[i]?=some x->l.Perm (x::l.eraseIdx i)
 | [],i,x,h=>by simp at h
 | y::l,0,x,h=>by simp at h;subst h;simp
 | y::l,i+1,x,h=>by
  have ih:=Z5 l i x (by simpa using h)
  rw[List.eraseIdx_cons_succ]
  exact (ih.cons y).trans (.swap x y _)
theorem cW {α:Type}(next:Nat->Nat):∀ (f k:Nat) (left:List α) (out:Array α),left.length=f->(pickOrder.go next f k left out).toList.Perm (out.toList++left)
 | 0,k,left,out,h=>by
  cases left with
  | nil=>unfold pickOrder.go;simp
  | cons _ _=>simp at h
 | f+1,k,left,out,h=>by
  unfold pickOrder.go
  have Al:next k%left.length<left.length:=CZ _ (by lia)
  rw[A5 Al]
  dsimp only
  refine (cW next f (k+1) _ _ (by rw[List.length_eraseIdx_of_lt Al];lia)).trans ?_
  rw[Array.toList_push,List.append_assoc]
  exact (Z5 left _ _ (A5 Al)).symm.append_left _
def VJ {α:Type}(next:Nat->Nat) (xs:Array α):(pickOrder next xs).toList.Perm xs.toList:=by
 unfold pickOrder
 simpa using cW next xs.size 0 xs.toList #[] (by simp)
noncomputable def comes (w:World) (a:Addr) (es:Array (Int×Value)) (ep:Nat):Array (Int×Value):=if w.params.followText "set-order"=true then pickOrder (w.params.setOrder a ep) es else es
def pF (w:World) (a:Addr) (es:Array (Int×Value)) (ep:Nat):(comes w a es ep).toList.Perm es.toList:=by
 unfold comes
 split
 ·exact VJ _ _
 ·exact .refl _
noncomputable def r9 (a:Addr) (slot i n ep:Nat):Obj:={ cls:=.type "set_iterator",data:=.fields #[rawInt slot,rawInt i,.ref a,rawInt n,rawInt ep] }
noncomputable def slotAt (t:SetTable):Nat->Nat
 | 0=>0
 | i+1=>t.place.getD i 0+1
theorem OU {t:SetTable}(hr:uI t.place.toList):∀ i,i<=t.place.size->below t.place (slotAt t i)=i
 | 0,_=>by
  obtain⟨h1,h2,h3⟩:=kO (xs:=t.place) (j:=0) hr
  rcases DP (below t.place 0) with q | q
  ·exact q
  ·have:=h2 0 (by lia) q
   lia
 | i+1,hi=>by
  have hd:t.place.getD i 0=t.place[i]:=gI (by lia)
  show below t.place (t.place.getD i 0+1)=i+1
  rw[hd]
  obtain⟨h1,h2,h3⟩:=kO (xs:=t.place) (j:=t.place[i] + 1) hr
  have wy:∀ a b (ha:a<t.place.size) (hb:b<t.place.size),a<b->t.place[a]<t.place[b]:=λ a b ha hb CW=>by
   have r:=Cs.mp hr a b (by simpa using ha) (by simpa using hb) CW
   rw[Co,Co] at r
   exact r
  rcases Dt (below t.place (t.place[i] + 1)) (i+1) with q | q | q
  ·have:=h3 i (by lia) (by lia)
   lia
  ·exact q
  ·have a:=h2 (i+1) (by lia) q
   have b:=wy i (i+1) (by lia) (by lia) (by lia)
   lia
structure wG (w:World) (h:Heap) (a:Addr) (es:Array (Int×Value)) (ep:Nat) (t:SetTable):Prop where
 get:h.get? a=some { cls:=.type "set",dict:=none,data:=.set es ep t }
 fits:t.fits es.size=true
 wy:uI t.place.toList
 led:t.led=v7 w
 plain:t.plain=true
theorem wG.size {w:World}{h:Heap}{a:Addr}{es:Array (Int×Value)}{ep:Nat}{t:SetTable}(S:wG w h a es ep t):t.place.size=es.size:=by
 have:=S.fits
 simp only[SetTable.fits,BZ,beq_iff_eq] at this
 exact this.1
section
variable {prog:Program}{w:World}{A:Around}{E:Value->Shared->Prop}{s:Shared}
def bZ {a:Addr}{es:Array (Int×Value)}{ep:Nat}{t:SetTable}{i:Nat}{Q:Option (Value×Nat)->Shared->Prop}(S:wG w s.heap a es ep t) (hi:i<=es.size) (slot:Nat) (hs:w.params.followText "set-order"=false->slot=slotAt t i)
  (h:∀ slot',(w.params.followText "set-order"=false->slot'=slotAt t (i+1))->Q ((comes w a es ep)[i]?.map λ e=>(e.2,slot')) s):wpAny (model prog w) A (setNext a slot i ep) Q E s:=by
 unfold setNext setsByText
 refine za0 (za9 S.get rfl S.fits ?_)
 dsimp only
 refine za0 (za0 (zaL (Ac ?_)))
 show wpAny _ A (if w.params.followText "set-order"=true then _ else _) Q E s
 cases hb:w.params.followText "set-order" with
 | true=>
  rw[if_pos rfl,if_neg (by simp)]
  unfold setWalk setsByText
  refine za0 (za0 (za9 S.get rfl S.fits ?_))
  dsimp only
  refine za0 (za0 (zaL (Ac ?_)))
  show wpAny _ A (if w.params.followText "set-order"=true then _ else _) _ E s
  rw[if_pos hb]
  refine za0 (zaL (Ac ?_))
  refine Ac ?_
  have:=h slot (λ q=>by rw[hb] at q;cases q)
  unfold comes at this
  rw[if_pos hb] at this
  exact this
 | false=>
  rw[if_neg (by simp)]
  split
  ·rename_i hd
   have hd':(!t.plain&&decide (es.size>1))=true:=hd
   rw[S.plain] at hd';simp at hd'
  ·show wpAny _ A ((if (!t.led&&!es.isEmpty)=true then unsupported "set:maker-not-led" else pure ()) >>= _) Q E s
   have hl:t.led=true:=by rw[S.led];unfold v7;rw[hb];rfl
   rw[if_neg (by rw[hl];simp)]
   refine za0 (Ac (Ac ?_))
   have Bl:=hs hb
   have hz:=S.size
   rw[Bl,OU S.wy i (by rw[hz];exact hi)]
   have:=h (slotAt t (i+1)) (λ _=>rfl)
   unfold comes at this
   rw[if_neg (by rw[hb];simp)] at this
   rcases Bo i es.size with q | q
   ·have hp:i<t.place.size:=by rw[hz];exact q
    rw[Ba q] at this
    rw[Ba q,Ba hp]
    have e:slotAt t (i+1)=t.place[i] + 1:=by show t.place.getD i 0+1=_;rw[gI hp]
    rw[e] at this
    exact this
   ·rw[CJ q] at this
    rw[CJ q]
    exact this
def qj {a I:Addr}{slot i n ep:Nat}(ho:s.heap.get? I=some (r9 a slot i n ep)):s.TypeIs (.ref I) "set_iterator":=⟨_,ho,rfl⟩
def dP (k:Nat):((k:Int)).toNat=k:=Cm k
def WE {I a:Addr}{es:Array (Int×Value)}{ep:Nat}{t:SetTable}{i slot:Nat}{e:Int×Value}{Q:Option Value->Shared->Prop}(ho:s.heap.get? I=some (r9 a slot i es.size ep)) (S:wG w s.heap a es ep t) (hs:w.params.followText "set-order"=false->slot=slotAt t i) (he:(comes w a es ep)[i]?=some e)
  (hi:i<es.size) (h:∀ h' slot',(w.params.followText "set-order"=false->slot'=slotAt t (i+1))->h'.get? I=some (r9 a slot' (i+1) es.size ep)->Heap.SameBut I s.heap h'->Q (some e.2) { s with heap:=h' }):wpAny (model prog w) A (pyNext (.ref I)) Q E s:=by
 unfold pyNext
 refine za0 (wpAny_attempt (zaM (name:=Str.ofString "__next__") (qj ho) qP (zaF qP (qj ho) Z7 ?_ (Yu _))))
 refine za0 (Ac ?_)
 dsimp only
 refine za0 (wpAny_fieldsOf ho rfl ?_)
 dsimp only[rawInt]
 refine za0 (za0 (za9 S.get rfl S.fits (Ac ?_)))
 rw[if_neg (by simp)]
 refine za0 (bZ S (by lia) slot hs λ slot' hs'=>?_)
 rw[dP] at hs' ⊢
 rw[he]
 dsimp only[Option.map_some]
 refine za0 (zaB ho rfl (by simp) ?_)
 have o1:=za6 (Obj.mapFields (·.set! 0 (Value.int (slot':Int) 0))) ho rfl
 refine za0 (zaB o1 rfl (by simp) ?_)
 have o2:=za6 (Obj.mapFields (·.set! 1 (Value.int ((i:Int)+1) 0))) o1 rfl
 refine Ac ⟨_,rfl,Ac (h _ slot' hs' o2 ((Heap.SameBut.update ..).trans (Heap.SameBut.update ..)))⟩
def WG {I a:Addr}{es:Array (Int×Value)}{ep:Nat}{t:SetTable}{slot:Nat}{Q:Option Value->Shared->Prop}(hh:A.handled=none) (ho:s.heap.get? I=some (r9 a slot es.size es.size ep)) (S:wG w s.heap a es ep t) (hs:w.params.followText "set-order"=false->slot=slotAt t es.size)
  (h:∀ h',Heap.ExtBut I s.heap h'->Q none { s with heap:=h' }):wpAny (model prog w) A (pyNext (.ref I)) Q E s:=by
 have hn:(comes w a es ep)[es.size]?=none:=by
  have:=(pF w a es ep).length_eq
  simp only[Br] at this
  rw[CJ (by lia)]
 unfold pyNext
 refine za0 (wpAny_attempt (zaM (name:=Str.ofString "__next__") (qj ho) qP (zaF qP (qj ho) Z7 ?_ (Yu _))))
 refine za0 (Ac ?_)
 dsimp only
 refine za0 (wpAny_fieldsOf ho rfl ?_)
 dsimp only[rawInt]
 refine za0 (za0 (za9 S.get rfl S.fits (Ac ?_)))
 rw[if_neg (by simp)]
 refine za0 (bZ S (by simp) slot (by simpa using hs) λ slot' hs'=>?_)
 rw[dP,hn]
 dsimp only[Option.map_none]
 refine za0 (zaB ho rfl (by simp) ?_)
 refine za0 ?_
 simp only[newExc,newTuple]
 refine za0 (zaE ?_ (by size_fits))
 refine za0 (m:=firstArgMember _ _) (wpAny_of_eq (a:=Value.none) (by first | rfl | (simp only[firstArgMember];rfl)) (zaE ?_ (by size_fits)))
 unfold raiseNew
 refine za0 (wpAny_handled ?_)
 rw[show A.in1.handled=none from hh]
 refine za0 ((Ac (wpAny_throw ?_)))
 refine za0 ((wpAny_isInstance (T:="StopIteration") (b:=true) ⟨_,AE _ rfl,rfl⟩ isSubtype_stop ?_))
 exact Ac (h _ (((Heap.SameBut.update ..).extBut.push _).push _))
def WD {I a:Addr}{slot i n ep:Nat}{Q:Value->Shared->Prop}(ho:s.heap.get? I=some (r9 a slot i n ep)) (h:Q (.ref I) s):wpAny (model prog w) A (pyIter (.ref I)) Q E s:=by
 refine wpAny_pyIter_slot (qj ho) cj (zaF cj (qj ho) PL ?_ (O_ _))
 exact Ac ⟨_,rfl,"set_iterator",_,qj ho,qP.lookup,h⟩
def wG.keep {h h':Heap}{a:Addr}{es:Array (Int×Value)}{ep:Nat}{t:SetTable}(S:wG w h a es ep t) (k:∀ o,h.get? a=some o->h'.get? a=some o):wG w h' a es ep t:=⟨k _ S.get,S.fits,S.wy,S.led,S.plain⟩
def XE (hh:A.handled=none) (I a:Addr) (Aj:a≠I) (es:Array (Int×Value)) (ep:Nat) (t:SetTable):
  Walks prog w A I [I,a] [I] es.size (λ i v=>∃ e,(comes w a es ep)[i]?=some e/\v=e.2) (λ i h=>(∃ slot,(w.params.followText "set-order"=false->slot=slotAt t i)/\h.get? I=some (r9 a slot i es.size ep))/\wG w h a es ep t) where
 sub:=λ b hb=>by simp at hb;simp[hb]
 frame:=λ _ _ _ st k=>by
  obtain⟨⟨slot,h1,h2⟩,S⟩:=st
  exact⟨⟨slot,h1,k I (by simp) _ h2⟩,S.keep λ o e=>k a (by simp) o e⟩
 item:=λ i s Q E hi st hQ=>by
  obtain⟨⟨slot,h1,h2⟩,S⟩:=st
  have hl:i<(comes w a es ep).size:=by
   have:=(pF w a es ep).length_eq
   simp only[Br] at this
   lia
  refine WE h2 S h1 (Ba hl) hi λ h' slot' g1 g2 g3=>?_
  exact hQ _ h' s.toks ⟨_,Ba hl,rfl⟩ ⟨⟨slot',g1,g2⟩,S.keep λ o e=>(g3.2 a Aj).trans e⟩ λ b o hb e=>(g3.2 b (λ z=>hb (by simp[z]))).trans e
 done:=λ s Q E st hQ=>by
  obtain⟨⟨slot,h1,h2⟩,S⟩:=st
  exact WG hh h2 S h1 λ h' g=>hQ h' s.toks λ b o hb e=>g b o (λ z=>hb (by simp[z])) e
 self:=λ _ _ _ _ st hQ=>by
  obtain⟨⟨slot,h1,h2⟩,S⟩:=st
  exact WD h2 hQ
def RU:typeLookup (.type "set") "__len__"=pure (some (.builtin "set.__len__")):=F.slot_set_len.lookup
def split_len:splitId "set.__len__"=some ("set","__len__"):=by decide +kernel
def Ry {a:Addr}{es:Array (Int×Value)}{ep:Nat}{t:SetTable}{Q:Bool->Shared->Prop}(S:wG w s.heap a es ep t) (h:Q false s):wpAny (model prog w) A (setDrawn a) Q E s:=by
 unfold setDrawn setsByText
 refine za0 (za9 S.get rfl S.fits ?_)
 dsimp only
 refine za0 (za0 (zaL (Ac (Ac ?_))))
 show Q (!w.params.followText "set-order"&&(!t.plain&&decide (es.size>1))) s
 rw[S.plain]
 simpa using h
set_option maxHeartbeats 4000000 in
def R3 {a:Addr}{es:Array (Int×Value)}{ep:Nat}{t:SetTable}{Q:Bool->Shared->Prop}(S:wG w s.heap a es ep t) (h:Q false s):wpAny (model prog w) A (Builtin.List.listLengthHint (.ref a)) Q E s:=by
 have Ty:s.TypeIs (.ref a) "set":=⟨_,S.get,rfl⟩
 unfold Builtin.List.listLengthHint
 refine za0 (wpAny_specialOf Ty RU ?_)
 dsimp only
 rw[split_len]
 dsimp only
 refine za0 (wpAny_isInstance (b:=true) Ty sub_set_self ?_)
 rw[if_neg (by decide)]
 rw[if_pos (by decide +kernel)]
 refine za0 (wpAny_typeOf Ty ?_)
 exact Ac h
set_option maxHeartbeats 4000000 in
def Ou {a:Addr}{es:Array (Int×Value)}{ep:Nat}{t:SetTable}{Q:List Value->Shared->Prop}(hh:A.handled=none) (S:wG w s.heap a es ep t) (hn:es.size<=sizeLine)
  (h:∀ (h':Heap) (tk:Nat),(∀ b o,b<s.heap.objs.size->s.heap.get? b=some o->h'.get? b=some o)->s.heap.objs.size<=h'.objs.size->Q ((comes w a es ep).toList.map (·.2)) { s with heap:=h',toks:=tk }):wpAny (model prog w) A (collect (.ref a)) Q E s:=by
 have ha:a<s.heap.objs.size:=Ai S.get
 unfold collect
 refine za0 (wpAny_runValue (codeAny_builtin F.entry_proto_collect ?_))
 rw[Around.under_plainId F.plain_proto_collect _]
 show wpAny _ A.in1 (newList [] >>= λ l=>again (.builtin "list.__iadd__" ⟨[l,.ref a],[]⟩)) _ _ s
 refine za0 (zaE (Ac ⟨plainId_quiet F.plain_list_iadd _,codeAny_builtin F.entry_list_iadd ?_⟩))
 rw[Around.under_plainId F.plain_list_iadd _]
 let L0:Obj:={ cls:=.type "list",data:=.seq ([]:List Value).toArray }
 have S1:wG w (s.heap.push L0) a es ep t:=S.keep λ o e=>za1 _ e
 have T1:Shared.TypeIs { s with heap:=s.heap.push L0 } (.ref a) "set":=⟨_,S1.get,rfl⟩
 show wpAny _ A.in1 (Builtin.List.listExtendWith (.ref s.heap.objs.size) (.ref a) (.ref s.heap.objs.size)) _ _ { s with heap:=s.heap.push L0 }
 unfold Builtin.List.listExtendWith
 refine za0 (wpAny_typeOf T1 ?_)
 have Aj:s.heap.objs.size≠a:=BB ha
 have c1:Builtin.List.listSameRef (.ref s.heap.objs.size) (.ref a)=false:=by simp[Builtin.List.listSameRef,Aj]
 rw[if_neg (by rw[c1];decide)]
 refine za0 (wpAny_pyIter_slot T1 F.slot_set_iter (zaF F.slot_set_iter T1 PM ?_ (F.args_set_iter_1 _)))
 refine za0 (za0 (Ac (Ac ?_)))
 refine za0 (za0 (za0 (za9 S1.get rfl S1.fits (Ac (Ac ?_)))))
 refine za0 (Ry S1 ?_)
 rw[if_neg (by decide)]
 refine za0 (Ac ?_)
 refine za0 (wpAny_setEpoch_of S1.get rfl S1.fits ?_)
 refine za0 (zaE (Ac ⟨_,rfl,"set_iterator",_,⟨_,AE _ rfl,rfl⟩,qP.lookup,?_⟩))
 let I:=(s.heap.push L0).objs.size
 let h2:=(s.heap.push L0).push (r9 a 0 0 es.size ep)
 have S2:wG w h2 a es ep t:=S1.keep λ o e=>za1 _ e
 have hI:h2.get? I=some (r9 a 0 0 es.size ep):=AE _ rfl
 have hL:h2.get? s.heap.objs.size=some L0:=za1 _ (AE _ rfl)
 have hsz:(s.heap.push L0).objs.size=s.heap.objs.size+1:=Heap.size_push _ _
 show wpAny _ A.in1 _ _ _ { s with heap:=h2 }
 refine za0 (za5 (R3 (s:={ s with heap:=h2 }) S2 ?_))
 rw[if_pos (by decide +kernel)]
 refine za0 (wpAny_rule ?_)
 refine za0 ?_
 show wpAny _ A.in1 (updateSeq s.heap.objs.size (·.push .none) >>= λ _=>updateSeq s.heap.objs.size (·.pop)) _ _ { s with heap:=h2 }
 refine za0 (wpAny_updateSeq hL rfl ?_)
 have hL2:=za6 (Obj.mapSeq (·.push Value.none)) hL rfl
 refine wpAny_updateSeq hL2 rfl ?_
 have hL3:=za6 (Obj.mapSeq (·.pop)) hL2 rfl
 let h3:=(h2.update s.heap.objs.size (Obj.mapSeq (·.push Value.none))).update s.heap.objs.size (Obj.mapSeq (·.pop))
 have iE:∀ b o,b≠s.heap.objs.size->h2.get? b=some o->h3.get? b=some o:=λ b o hb e=>(za8 _ _ (Ne.symm hb)).trans ((za8 _ _ (Ne.symm hb)).trans e)
 have haI:a≠I:=by show a≠(s.heap.push L0).objs.size;rw[hsz];exact Ap (Bz ha)
 have hIn:I≠s.heap.objs.size:=by show (s.heap.push L0).objs.size≠_;rw[hsz];exact BB (Ce _)
 refine Ac ⟨plainId_quiet F.plain_extend_loop _,codeAny_extend_loopS ((XE (A:=A.in1) hh I a haI es ep t).toS) hn s.heap.objs.size ?_ _ es.size 0 { s with heap:=h3 } #[] _ rfl (AI _) ⟨⟨0,λ _=>rfl,iE I _ hIn hI⟩,S2.keep λ o e=>iE a o (Ne.symm Aj) e⟩ hL3 (ItemsOf.nil _) λ s' acc c' hm hS' AJ=>?_⟩
 ·intro hm
  rcases Ak.mp hm with q | q
  ·exact hIn q.symm
  ·exact Aj (AM.mp q)
 ·refine za0 (wpAny_load hS' (Ac ?_))
  obtain⟨h',g',d',tk',os'⟩:=s'
  obtain rfl:g'=s.gens:=hm.gens
  obtain rfl:d'=s.drawn:=hm.drawn
  obtain rfl:os'=s.os:=hm.os
  have hcm:(comes w a es ep).size=es.size:=by
   have:=(pF w a es ep).length_eq
   simpa using this
  have e:acc.toList=(comes w a es ep).toList.map (·.2):=by
   refine List.ext_getElem? λ j=>?_
   rw[Ax]
   rcases Bo j es.size with q | q
   ·have Dd:j<acc.size:=by rw[AJ.1];exact q
    have hj:acc[j]?=some acc[j]:=Ba Dd
    obtain⟨e,e1,e2⟩:=AJ.2 j _ hj
    rw[BC,BC,hj,e1,e2];rfl
   ·rw[BC,BC,CJ (by rw[AJ.1];exact q),CJ (by rw[hcm];exact q)];rfl
  rw[e]
  refine h h' tk' (λ b o hb e=>hm.heap b o (λ q=>?_) (iE b o (Ap hb) (za1 _ (za1 _ e)))) ?_
  ·rcases Ak.mp q with q | q
   ·exact Ap hb q
   ·have q':b=(s.heap.push L0).objs.size:=AM.mp q
    rw[hsz] at q'
    exact Ap (Bz hb) q'
  ·exact BI (Ai hS')
end
end ST
namespace ST
open PySem PySem.SetTable PyProof.Rows L4
section
variable {prog:Program}{w:World}{A:Around}{E:Value->Shared->Prop}{s:Shared}
def dW {a:Addr}{es:Array (Int×Value)}{ep:Nat}{t:SetTable}{Q:Value->Shared->Prop}{Out:Array Value->Prop}(hh:A.handled=none) (S:wG w s.heap a es ep t) (hz:es.size<=sizeLine)
  (core:∀ s6:Shared,2<=es.size->(∀ b o,s.heap.get? b=some o->s6.heap.get? b=some o)->Core prog w A.in1.in1 E ((comes w a es ep).toList.map (·.2)) Out s6) (short:es.size<2->Out ((comes w a es ep).toList.map (·.2)).toArray)
  (fin:∀ (out:Array Value) (h':Heap) (tk l:Nat),Out out->out.size=es.size->s.heap.objs.size<=l->(∀ b o,s.heap.get? b=some o->h'.get? b=some o)->(∃ e,h'.get? l=some (seqObj "list" out e))->Q (.ref l) { s with heap:=h',toks:=tk }):
  wpAny (model prog w) A (call (.builtin "sorted") [.ref a]) Q E s:=by
 have AH:((comes w a es ep).toList.map (·.2)).length=es.size:=by
  have:=(pF w a es ep).length_eq
  rw[Au,this,Br]
 refine Calls.call_function_entry kind_sorted plain_sorted entry_sorted (args_sorted1 _) ?_
 unfold Builtin.«sorted»
 refine za0 (m:=checkCount "sorted" 1 1 _) (Ac (za0 (Ou (A:=A.in1) hh S hz λ h1 tk k1 k2=>za0 (wpAny_newList ?_ (by rw[AH];exact hz)))))
 generalize hvs:(comes w a es ep).toList.map (·.2)=vs at *
 have hoL:(h1.push (seqObj "list" vs.toArray 0)).get? h1.objs.size=some (seqObj "list" vs.toArray 0):=AE _ rfl
 have k3:∀ b o,s.heap.get? b=some o->h1.get? b=some o:=λ b o q=>k1 b o (Ai q) q
 show wpAny _ _ _ _ _ { s with heap:=h1.push (seqObj "list" vs.toArray 0),toks:=tk }
 refine za0 (za5 (zaF slot_list_sort ⟨_,hoL,rfl⟩ entry_list_sort (hZ hoL (by rw[AH];exact hz) (λ h2 s6 k=>core s6 (by rw[<- AH];exact h2) λ b o q=>k b o ?_ (za1 _ (k3 b o q))) (λ h2=>short (by rw[<- AH];exact h2)) λ out g1 g2=>⟨_,rfl,?_⟩) (args_list_sort _)))
 ·exact Ap (AV (Ai q) k2)
 ·refine Ac ⟨_,rfl,fin out _ tk h1.objs.size g1 (by rw[g2,AH]) k2 (λ b o q=>?_) (sortedHeap_at (n:=0) hoL)⟩
  have Al:b<h1.objs.size:=Ai (k3 b o q)
  rw[sortedHeap_old (Ap Al) (by rw[size_push'];exact Bz Al),Heap.get?_push_ne _ _ _ (Ap Al)]
  exact k3 b o q
end
end ST
namespace ST
open PySem PySem.SetTable PySem.Spec PyProof.Rows L2
def yF (w:World) (a:Addr) (us:List Value):Heap->Prop:=λ h=>∃ es ep t,wG w h a es ep t/\es.toList.map (·.2)=us
def yF.w_ {w:World}{a:Addr}{us:List Value}{h1 h2:Heap}(S:yF w a us h1) (k:∀ o,h1.get? a=some o->h2.get? a=some o):yF w a us h2:=by
 obtain⟨es,ep,t,S,e⟩:=S
 exact⟨es,ep,t,S.keep k,e⟩
def vG.at {prog:Program}{w:World}{h:Heap}{a:Addr}{xs:List (List Int×Addr)}(S:vG prog w h a xs (v7 w)):yF w a (xs.map λ e=>Value.ref e.2) h:=by
 obtain⟨⟨es,ep,t,ho,X,h1,h2,h3⟩,_⟩:=S
 exact⟨es,ep,t,⟨ho,X.fits,X.tab.wy,h1,h2⟩,by rw[X.es,AQ];rfl⟩
section
variable {X:Cx}
abbrev kP (K:Ab) (H:Hp) (ys:List V) (rows:List (List Int)):Prop:=Paired (λ v r=>r≠[]/\∃ b,v=V.ref b/\zR K H b (r.map V.int)) ys rows
theorem aJ:∀ {ns:List Int}{us:List Value},Vals (ns.map V.int) us->∀ {prog:Program}{w:World},ItemsAre (intKind prog w) ns us
 | [],_,.nil,_,_=>.nil
 | n::ns,_,.cons r t,prog,w=>by
  obtain⟨tk,rfl⟩:=r
  exact .cons (intKind_is _ _ _ _) (aJ t)
structure qz (ys:List V) (rows:List (List Int)) (vs:List V) (rs:List (List Int)):Prop where
 sub:∀ (i:Nat) v r,vs[i]?=some v->rs[i]?=some r->∃ (j:Nat),ys[j]?=some v/\rows[j]?=some r
 len:vs.length=rs.length
 nd:rs.Nodup
 all:∀ r∈rows,r∈rs
def O6 (hc:X.calm=true) (hu:X.A.units+64<cLine):yB X (.type "set") (λ xs H Q=>∃ p ys,∃ rows:List (List Int),xs=[.ref p]/\zL X.K H p ys/\kP X.K H ys rows/\rows.length<64/\
  ∀ (l:Addr) (us:List Value) (vs:List V) (rs:List (List Int)),H l=none->Vals vs us->qz ys rows vs rs->Q (.ref l) (upd H l (.ext (yF X.w l us)))):=by
 intro pins s σ H xs us Q I r h
 obtain⟨p,ys,rows,rfl,hq,hr,h64,q⟩:=h
 obtain⟨u,rfl,ru⟩:=vals1 r
 cases ru
 obtain⟨its,rv,pl,hz⟩:=I.list hq
 have hl:=rv.length
 have BW:ys.length=rows.length:=Paired.length hr
 have wZ:qv X.prog X.w s.heap its.toArray rows:=λ i v hv=>by
  have hv':its[i]?=some v:=by simpa using hv
  have hi:i<its.length:=(AD.mp hv').1
  obtain⟨Aj,b,hb,CA⟩:=L4.Paired.at' hr (i:=i) (by lia) V.zj ([]:List Int)
  have hy:ys[i]?=some (V.ref b):=by
   rw[A5 (by lia)]
   have:ys.getD i V.zj=ys[i]'(by lia):=by simp[show i<ys.length by lia]
   rw[this] at hb;rw[hb]
  obtain⟨v',e1,e2⟩:=rv.get hy
  rw[hv'] at e1;cases e1
  cases (show v=Value.ref b from e2)
  obtain⟨its2,rv2,⟨o,e,AH,n,hd⟩,_⟩:=I.tuple CA
  refine⟨b,rows.getD i [],rfl,?_,o,its2.toArray,n,e,AH,hd,by simpa using aJ rv2⟩
  simp[show i<rows.length by lia]
 have hh:X.A.handled=none:=I.ok.hd hc
 refine O9 (A:=X.A) hh hu pl.isList wZ (by rw[Av];lia) λ h' tk xs S U k=>?_
 have kk:∀ b o,s.heap.get? b=some o->h'.get? b=some o:=λ b o e=>k b o (Ai e) e
 have Aw:H s.heap.objs.size=none:=I.zl.fresh (Af _)
 have hSO:=S.at
 have vals:Vals (xs.map λ e=>V.ref e.2) (xs.map λ e=>Value.ref e.2):=by
  clear S U hSO
  induction xs with
  | nil=>exact .nil
  | cons e xs ih=>exact .cons rfl ih
 refine⟨.ref s.heap.objs.size,_,I.laid (t':=tk) (o:=.ext (yF X.w s.heap.objs.size (xs.map λ e=>Value.ref e.2))) kk (Af _) ?_,rfl,q _ _ (xs.map λ e=>V.ref e.2) (xs.map (·.1)) Aw vals ⟨λ i v r hv hr'=>?_,by simp,S.nd,λ r hr'=>?_⟩⟩
 ·obtain⟨es,ep,t,St,e⟩:=id hSO
  exact⟨hSO,⟨_,St.get⟩,λ h1 h2 S1 k=>S1.w_ k⟩
 ·rw[Ax] at hv hr'
  obtain⟨e,e1,rfl⟩:=AA.mp hv
  rw[e1] at hr'
  cases hr'
  obtain⟨j,j1,j2,j3⟩:=U.own e (Bb e1)
  refine⟨j,?_,j3⟩
  have hj':its[j]?=some (Value.ref e.2):=by simpa using j2
  have Dd:j<ys.length:=by rw[hl];exact (AD.mp hj').1
  obtain⟨v',e2,e3⟩:=rv.get (A5 Dd)
  rw[hj'] at e2;cases e2
  obtain⟨Aj,b,hb,_⟩:=L4.Paired.at' hr (i:=j) (by lia) V.zj ([]:List Int)
  have:ys.getD j V.zj=ys[j]:=by simp[Dd]
  rw[this] at hb
  rw[hb] at e3
  cases (show Value.ref e.2=Value.ref b from e3)
  rw[A5 Dd,hb]
 ·obtain⟨j,hj⟩:=Dq.mp hr'
  exact U.all j r (by have:=(AD.mp hj).1;rw[Av];lia) hj
theorem Paired.mk {α β:Type}{F:α->β->Prop}:∀ {l:List α}{m:List β},l.length=m.length->(∀ (i:Nat) a b,l[i]?=some a->m[i]?=some b->F a b)->Paired F l m
 | [],[],_,_=>.nil
 | a::l,b::m,h,f=>.cons (f 0 a b rfl rfl) (Paired.mk (by simpa using h) λ i x y hx hy=>f (i+1) x y (by simpa using hx) (by simpa using hy))
 | [],_::_,h,_=>by simp at h
 | _::_,[],h,_=>by simp at h
def O4 (hc:X.calm=true):yB X (.builtin "sorted") (λ xs H Q=>∃ l us vs,∃ rs:List (List Int),xs=[.ref l]/\H l=some (.ext (yF X.w l us))/\Vals vs us/\kP X.K H vs rs/\rs.length<64/\
  ∀ (p:Addr) (idx:List Nat),H p=none->idx.Perm (List.range vs.length)->(idx.map λ i=>rs.getD i []).Pairwise (λ a b=>HT.lexLt b a=false)->Q (.ref p) (upd H p (.lst (idx.map λ i=>vs.getD i .zj)))):=by
 intro pins s σ H xs us0 Q I r h
 obtain⟨l,us,vs,rs,rfl,hl,hv,hr,h64,q⟩:=h
 obtain⟨u,rfl,ru⟩:=vals1 r
 cases ru
 obtain⟨⟨es,ep,t,S,eu⟩,-,-⟩:=(show yN X.prog X.w H s.heap l (.ext (yF X.w l us)) from I.zl l _ hl)
 have hlen:es.size=us.length:=by rw[<- eu];simp
 have hvl:=hv.length
 have hrl:vs.length=rs.length:=Paired.length hr
 have hh:X.A.handled=none:=I.ok.hd hc
 obtain⟨ix,ix1,ix2⟩:∃ ix:List Nat,ix.Perm (List.range us.length)/\(comes X.w l es ep).toList.map (·.2)=ix.map λ i=>us.getD i Value.none:=by
  have hp:((comes X.w l es ep).toList.map (·.2)).Perm us:=by rw[<- eu];exact (pF X.w l es ep).map _
  generalize (comes X.w l es ep).toList.map (·.2)=cs at hp
  clear eu hl hv hvl hlen
  induction hp with
  | nil=>exact⟨[],.refl _,rfl⟩
  | @cons x a b _ ih=>
   obtain⟨ix,i1,i2⟩:=ih
   refine⟨0::ix.map (· + 1),?_,?_⟩
   ·rw[AR,C0]
    exact (i1.map _).cons 0
   ·rw[Aq,AQ,i2]
    rfl
  | @swap x y a=>
   refine⟨1::0::(List.range a.length).map (· + 2),?_,?_⟩
   ·rw[AR,AR,C0,C0,Aq,AQ]
    exact .swap _ _ _
   ·rw[Aq,Aq,AQ]
    refine congrArg _ (congrArg _ ?_)
    refine BD (by simp) λ i h1 h2=>?_
    simp[h1]
  | @trans a b c _ _ ih1 ih2=>
   obtain⟨i1,p1,e1⟩:=ih1
   obtain⟨i2,p2,e2⟩:=ih2
   have hlb:b.length=c.length:=by rw[e2,Au,p2.length_eq];simp
   refine⟨i1.map λ i=>i2.getD i 0,?_,?_⟩
   ·refine (p1.map _).trans ?_
    have e:(List.range b.length).map (λ i=>i2.getD i 0)=i2:=by
     have hl2:i2.length=b.length:=by rw[p2.length_eq,hlb];simp
     rw[<- hl2]
     refine BD (by simp) λ i h1 h2=>?_
     simp[h2]
    rw[e];exact p2
   ·rw[e1,AQ]
    refine CK λ i hi=>?_
    have hi':i<b.length:=by simpa using p1.mem_iff.mp hi
    have hl2:i<i2.length:=by rw[p2.length_eq,<- hlb];simpa using hi'
    show b.getD i _=c.getD (i2.getD i 0) _
    rw[e2]
    simp[hl2]
 have BP:∀ i∈ix,i<us.length:=λ i hi=>by simpa using ix1.mem_iff.mp hi
 have rows_at:∀ h6:Heap,(∀ b o,s.heap.get? b=some o->h6.get? b=some o)->L4.sC h6 ((comes X.w l es ep).toList.map (·.2)) (ix.map λ i=>rs.getD i []):=λ h6 k=>by
  rw[ix2]
  refine Paired.mk (by simp) λ j a b ha hb=>?_
  rw[Ax] at ha hb
  obtain⟨i,hi,rfl⟩:=AA.mp ha
  rw[hi] at hb
  cases hb
  have CT:=BP i (Bb hi)
  obtain⟨Aj,b,hbv,CA⟩:=L4.Paired.at' hr (i:=i) (by lia) V.zj ([]:List Int)
  obtain⟨u',e1,e2⟩:=hv.get (i:=i) (x:=vs.getD i V.zj) (by simp[show i<vs.length by lia])
  rw[hbv] at e2
  cases (show u'=Value.ref b from e2)
  obtain⟨its2,rv2,⟨o,e,AH,n,hd⟩,_⟩:=I.tuple CA
  have eg:us.getD i Value.none=Value.ref b:=by simp[e1]
  refine⟨Aj,b,o,its2.toArray,n,eg,k _ _ e,AH,hd,by simpa using intsAre_of rv2⟩
 have AH:((comes X.w l es ep).toList.map (·.2)).length=us.length:=by rw[ix2,Au,ix1.length_eq];simp
 refine dW (Out:=L4.mB ((comes X.w l es ep).toList.map (·.2)) (ix.map λ i=>rs.getD i [])) hh S (by rw[hlen];have:sizeLine=16777216:=rfl;lia) (λ s6 h2 k=>L4.fy (rows_at _ k) (by rw[AH,<- hlen];exact h2) (by rw[AH];lia)) (λ h1=>?_) λ out h' tk p ho hs hp k Ew=>?_
 ·refine⟨List.range ((comes X.w l es ep).toList.map (·.2)).length,.refl _,?_,?_⟩
  ·refine BD (by simp) λ i h1 h2=>?_
   simp at h2
   simp[h2]
  ·rw[Ca,Cs]
   intro i j hi hj AX
   rw[AH] at hi hj
   simp at hi hj
   lia
 ·obtain⟨idx,g1,g2,g3⟩:=ho
  obtain⟨e,he⟩:=Ew
  rw[AH] at g1
  have Aw:H p=none:=I.zl.fresh hp
  have Df:∀ i∈idx,i<us.length:=λ i hi=>by simpa using g1.mem_iff.mp hi
  have hxl:ix.length=us.length:=by rw[ix1.length_eq];simp
  let jx:=idx.map λ i=>ix.getD i 0
  have hjp:jx.Perm (List.range vs.length):=by
   rw[hvl]
   refine (g1.map _).trans ?_
   have e:(List.range us.length).map (λ i=>ix.getD i 0)=ix:=by
    rw[<- hxl]
    refine BD (by simp) λ i h1 h2=>?_
    simp[h2]
   rw[e];exact ix1
  have hjr:(jx.map λ i=>rs.getD i [])=idx.map λ i=>(ix.map λ i=>rs.getD i []).getD i []:=by
   rw[AQ]
   refine CK λ i hi=>?_
   have:=Df i hi
   simp[show i<ix.length by lia]
  refine⟨.ref p,_,I.laid (t':=tk) (o:=.lst (jx.map λ i=>vs.getD i .zj)) k hp ?_,rfl,q p jx Aw hjp (by rw[hjr];exact g3)⟩
  refine⟨by rw[Au,hjp.length_eq,Cg];have:sizeLine=16777216:=rfl;lia,out.toList,e,?_,by simpa using he⟩
  rw[g2,ix2]
  refine Paired.mk (by simp[jx]) λ j a b ha hb=>?_
  rw[Ax] at ha hb
  obtain⟨i,hi,rfl⟩:=AA.mp hb
  simp only[jx,Ax,hi,Option.map_some,Option.some.injEq] at ha
  have CT:=Df i (Bb hi)
  have hx:ix.getD i 0<us.length:=by
   have:ix.getD i 0∈ix:=by simp[show i<ix.length by lia]
   exact BP _ this
  obtain⟨u',e1,e2⟩:=hv.get (i:=ix.getD i 0) (x:=vs.getD (ix.getD i 0) V.zj) (by
   have hx':ix.getD i 0<vs.length:=by lia
   generalize ix.getD i 0=q at hx'
   rw[Bk,A5 hx'];rfl)
  subst ha
  have e3:(ix.map λ i=>us.getD i Value.none).getD i Value.none=u':=by
   simp[show i<ix.length by lia] at e1 ⊢
   simp[e1]
  rw[e3];exact e2
end
end ST
namespace L5
open PySem PySem.Spec L2 L3
open PyProof.Rows hiding St
noncomputable def wA:List (List Int)->List (List Int)
 | []=>[]
 | r::rs=>if r∈wA rs then wA rs else r::wA rs
theorem nC {r:List Int}:∀ {rs:List (List Int)},r∈wA rs↔r∈rs
 | []=>.rfl
 | x::rs=>by
  unfold wA
  split
  ·rename_i h
   rw[nC,Ak]
   exact⟨.inr,λ h'=>h'.elim (λ e=>e▸nC.mp h) id⟩
  ·rw[Ak,Ak,nC]
theorem iQ:∀ rs:List (List Int),(wA rs).Nodup
 | []=>.nil
 | x::rs=>by
  unfold wA
  split
  ·exact iQ rs
  ·rename_i h
   exact Cc.mpr ⟨h,iQ rs⟩
theorem iR:∀ rs:List (List Int),(wA rs).length<=rs.length
 | []=>Af _
 | x::rs=>by
  unfold wA
  have:=iR rs
  split <;> simp only[AR] <;> lia
def uD:xB:=λ ds S Q=>match ds with
 | [.tup _]=>False
 | [d]=>∃ rows:List (List Int),yj d S=some (rows.map xQ)/\rows.length<64/\(∀ r∈rows,r≠[])/\∀ l,S l=none->Q (.ref l) (ups S l (.lst ((L4.xt (wA rows)).map xQ)))
 | _=>False
noncomputable def l9:List T->Option T
 | [.lst ts]=>(vS ts).bind λ rs=>if rs.length<64/\∀ r∈rs,r≠[] then some (.lst ((L4.xt (wA rs)).map zO)) else none
 | _=>none
def QW:uw zE l9 uD:=λ S Z ys z ds Q hz hv e hq=>by
 unfold l9 at e
 split at e
 ·obtain⟨d,rfl,h1⟩:=u5 hv
  obtain⟨rs,e1,e2⟩:=Ag.mp e
  split at e2
  ·rename_i hc
   cases e2
   cases j_ e1
   obtain⟨es,h2,h3⟩:=h1.seq rfl
   cases qO.mp h3
   have key:∃ rows:List (List Int),yj d S=some (rows.map xQ)/\rows.length<64/\(∀ r∈rows,r≠[])/\∀ l,S l=none->Q (.ref l) (ups S l (.lst ((L4.xt (wA rows)).map xQ))):=
    ⟨rs,h2,hc.1,hc.2,λ l hl=>hq _ _ (.new hl _) (sU hz hl (qO.mpr rfl))⟩
   obtain⟨_,q | ⟨a,q,_⟩,_⟩:=h1.lst
   ·subst q;exact key
   ·subst q;exact key
  ·cases e2
 ·cases e
section
variable {K:Ab}{e:Expr}{p:Pos}
def uD.mo:uv uD:=λ ds S Q Q' hq h=>by
 unfold uD at h ⊢
 split at h
 ·exact h.elim
 ·obtain⟨rows,h1,h2,h3,h4⟩:=h
  exact⟨rows,h1,h2,h3,λ l hl=>hq _ _ (h4 l hl)⟩
 ·exact h.elim
def zm.pick {H:Hp}{ys vs:List V}{rows rs:List (List Int)}(h:zm K H (rows.map xQ) ys) (P:ST.qz ys rows vs rs):zm K H (rs.map xQ) vs:=by
 have key:∀ (vs:List V) (rs:List (List Int)),vs.length=rs.length->(∀ (i:Nat) v r,vs[i]?=some v->rs[i]?=some r->∃ (j:Nat),ys[j]?=some v/\rows[j]?=some r)->zm K H (rs.map xQ) vs:=by
  intro vs
  induction vs with
  | nil=>intro rs hl _;cases rs with
   | nil=>exact .nil
   | cons _ _=>simp at hl
  | cons v vs ih=>intro rs hl hp;cases rs with
   | nil=>simp at hl
   | cons r rs=>
    refine .cons ?_ (ih rs (by simpa using hl) λ i v r hv hr=>hp (i+1) v r (by simpa using hv) (by simpa using hr))
    obtain⟨j,j1,j2⟩:=hp 0 v r rfl rfl
    obtain⟨x,e1,e2⟩:=h.get (i:=j) (d:=xQ r) (by rw[Ax,j2];rfl)
    rw[j1] at e1;cases e1
    exact e2
 exact key vs rs P.len P.sub
def qz.mem {ys vs:List V}{rows rs:List (List Int)}(P:ST.qz ys rows vs rs) {r:List Int}:r∈rs↔r∈rows:=by
 refine⟨λ h=>?_,P.all r⟩
 obtain⟨i,hi⟩:=Dq.mp h
 have hl:i<vs.length:=by rw[P.len];exact (AD.mp hi).1
 obtain⟨j,_,j2⟩:=P.sub i _ r (A5 hl) hi
 exact Bb j2
def uD.fits {w:World}:tB K uD (λ xs H Q=>∃ p ys,∃ rows:List (List Int),xs=[.ref p]/\zL K H p ys/\ST.kP K H ys rows/\rows.length<64/\
  ∀ (l:Addr) (us:List Value) (vs:List V) (rs:List (List Int)),H l=none->Vals vs us->ST.qz ys rows vs rs->
   ∃ l' us' vs',∃ rs':List (List Int),[V.ref l]=[.ref l']/\(upd H l (.ext (ST.yF w l us))) l'=some (.ext (ST.yF w l' us'))/\Vals vs' us'/\ST.kP K (upd H l (.ext (ST.yF w l us))) vs' rs'/\rs'.length<64/\
    ∀ (p:Addr) (idx:List Nat),(upd H l (.ext (ST.yF w l us))) p=none->idx.Perm (List.range vs'.length)->(idx.map λ i=>rs'.getD i []).Pairwise (λ a b=>HT.lexLt b a=false)->Q (.ref p) (upd (upd H l (.ext (ST.yF w l us))) p (.lst (idx.map λ i=>vs'.getD i .zj)))):=λ xs ds H S Q h0 h2 h=>by
 unfold uD at h
 split at h
 ·exact h.elim
 ·rename_i d hn
  obtain⟨x,hx,h1⟩:=h0.one;subst hx
  obtain⟨rows,e,h64,Aj,h⟩:=h
  obtain⟨a,ys,rfl,g1,g2⟩:=qQ h1 h2 e (λ ts z=>hn ts z)
  refine⟨a,ys,rows,rfl,g1,oH g2 Aj,h64,λ l us vs rs hf hv P=>?_⟩
  have g3:=zm.pick g2 P
  have x1:Ext H (upd H l (.ext (ST.yF w l us))):=.new hf _
  have C7:rs.Perm (wA rows):=(DG P.nd (iQ rows)).mpr λ r=>by rw[qz.mem P,nC]
  refine⟨l,us,vs,rs,rfl,yd,hv,oH (zm.ext x1 _ g3) λ r hr=>Aj r ((qz.mem P).mp hr),by rw[C7.length_eq];have:=iR rows;lia,λ p idx hp hi hs=>?_⟩
  rw[P.len] at hi
  have heq:=L4.dX ((af hi).trans C7) hs
  have Ah:p≠l:=λ z=>by subst z;rw[yd] at hp;cases hp
  have hpH:H p=none:=by rw[zG Ah] at hp;exact hp
  have x2:Ext (upd H l (.ext (ST.yF w l us))) (upd (upd H l (.ext (ST.yF w l us))) p (.lst (idx.map λ i=>vs.getD i .zj))):=.new hp _
  have r1:zC K (upd H l (.ext (ST.yF w l us))) S:=h2.new hf
  refine h p (h2.none hpH) _ _ (by simp only[zg]) (x1.trans x2) (r1.ups x2 ⟨_,yd,?_⟩)
  rw[<- heq]
  exact zm.ext (x1.trans x2) _ (zm.perm g3 λ i h=>by simpa using hi.mem_iff.mp h)
 ·exact h.elim
end
end L5
namespace ST
open PySem PySem.SetTable PyProof.Rows
theorem Zl {t:SetTable}{hs:List Int}(T:Tab t hs) (h:Int):∀ (f k K:Nat),k<=K->K<k+f->(way t.mask h K).j∉t.place.toList->(∀ m<K,(way t.mask h m).j∈t.place.toList)->probe.go t (λ _=>h+1) h f (way t.mask h k)=some (.empty (way t.mask h K).j none)
 | 0,k,K,h1,h2,_,_=>by lia
 | f+1,k,K,h1,h2,h3,h4=>by
  by_cases e:k=K
  ·subst e
   unfold probe.go
   rw[T.empty h3,jk]
  ·obtain⟨i,g,p1,_⟩:=T.at (h4 k (by lia))
   have ih:=Zl T h f (k+1) K (by lia) (by lia) h3 h4
   conv=>lhs;unfold probe.go
   rw[T.live p1]
   dsimp only
   rw[if_neg (by intro q;have:=eq_of_beq q;lia),fS]
   exact ih
def Po {t:SetTable}{hs:List Int}(T:Tab t hs) (hl:hs.length<=t.mask) (h:Int):∃ j,t.freeSlot h=some (j,false)/\ei t h j:=by
 obtain⟨K,k1,k2,k3⟩:=T.first hl h
 refine⟨(way t.mask h K).j,?_,⟨k2,K,rfl,k3⟩⟩
 have g:=Zl T h (10*turns t.mask) 0 K (AI _) (by unfold turns;lia) k2 k3
 unfold SetTable.freeSlot
 have e:t.probe (λ _=>h+1) h (t.probeStart h)=some (.empty (way t.mask h K).j none):=g
 rw[e]
 rfl
structure vH (prog:Program) (w:World) (h:Heap) (a:Addr) (xs:List (Int×Tok)) (led:Bool):Prop where
 ex:∃ es ep t,h.get? a=some { cls:=.type "set",dict:=none,data:=.set es ep t }/\es.toList=xs.map (λ e=>((intKind prog w).hash e.1,Value.int e.1 e.2))/\Tab t (xs.map λ e=>(intKind prog w).hash e.1)/\t.led=led/\t.plain=true/\xs.length*5<t.mask*3
 nd:(xs.map (·.1)).Nodup
section
variable {prog:Program}{w:World}{A:Around}{E:Value->Shared->Prop}{s:Shared}
def fits_of {es:Array (Int×Value)}{t:SetTable}{hs:List Int}{n:Nat}(h1:es.size=n) (T:Tab t hs) (h2:hs.length=n) (h3:n<=t.mask):t.fits es.size=true:=by
 have l:=T.len
 unfold SetTable.fits SetTable.fill
 rw[T.rH,h1,l,h2]
 simp
 lia
def nH {n m:Int}{t:Tok}:(intKind prog w).is n (.int m t)=true↔n=m:=by
 constructor
 ·intro h
  obtain⟨t',e⟩:=Value.isInt_shape (show Value.isInt n (.int m t)=true from h)
  cases e;rfl
 ·rintro rfl;exact intKind_is _ _ _ _
def PN {es:Array (Int×Value)}{xs:List (Int×Tok)}(h:es.toList=xs.map (λ e=>((intKind prog w).hash e.1,Value.int e.1 e.2))):ElemsOf (intKind prog w) es.toList:=λ e he=>by
 rw[h] at he
 obtain⟨x,_,rfl⟩:=An.mp he
 exact⟨⟨x.1,nH.mpr rfl,rfl⟩,rfl⟩
def Vl {es:Array (Int×Value)}{t:SetTable}{xs:List (Int×Tok)}{M wanted:Nat}(he:es.toList=xs.map (λ e=>((intKind prog w).hash e.1,Value.int e.1 e.2))) (hM:vn M) (hw:sizeAbove wanted=M+1) (AF:xs.length*5<M*3):
  ∃ es' t',∃ xs':List (Int×Tok),relayAll t es wanted=(es',t',false)/\es'.toList=xs'.map (λ e=>((intKind prog w).hash e.1,Value.int e.1 e.2))/\xs'.Perm xs/\Tab t' (xs'.map λ e=>(intKind prog w).hash e.1)/\t'.mask=M/\t'.led=t.led/\t'.plain=t.plain/\es'.size=es.size:=by
 have hlen:es.size=xs.length:=by have:=congrArg List.length he;simpa using this
 have Em:(es.map (·.1)).toList=xs.map λ e=>(intKind prog w).hash e.1:=by rw[Array.toList_map,he,AQ];rfl
 have hsz:(es.map (·.1)).size=xs.length:=by rw[C1,hlen]
 obtain⟨t',order,h1,h2,h3,h4,h5,h6,h7⟩:=aE hM t.finger (t.movedTo M) t.led t.plain (es.map (·.1)) (by rw[hsz];lia)
 rw[hsz] at h6
 have Al:∀ k∈order.toList,k<xs.length:=λ k hk=>by simpa using h6.mem_iff.mp hk
 have hr:t.relaid (es.map (·.1)) wanted=some (t',order):=by
  unfold SetTable.relaid
  rw[hw,Nat.add_sub_cancel];exact h1
 have BQ:(order.filterMap (es[·]?)).toList=(order.toList.filterMap λ k=>xs[k]?).map λ e=>((intKind prog w).hash e.1,Value.int e.1 e.2):=by
  rw[Array.toList_filterMap,List.map_filterMap]
  congr 1
  funext k
  rw[<- BC,he,Ax]
 have hperm:(order.toList.filterMap λ k=>xs[k]?).Perm xs:=(h6.filterMap _).trans (by rw[List.filterMap_getElem?_range_length])
 have BL:(order.filterMap (es[·]?)).size=es.size:=by
  rw[<- Br,BQ,Au,hperm.length_eq,hlen]
 have hT:Tab t' ((order.toList.filterMap λ k=>xs[k]?).map λ e=>(intKind prog w).hash e.1):=by
  rw[<- iw xs (λ e=>(intKind prog w).hash e.1) 0 order.toList Al,<- Em]
  exact h7
 refine⟨_,t',_,?_,BQ,hperm,hT,h2,h4,h5,BL⟩
 have yk:coversAll order es.size=true:=by
  unfold coversAll
  rw[List.isPerm_iff,hlen]
  exact h6
 have fit:t'.fits (order.filterMap (es[·]?)).size=true:=fits_of (n:=xs.length) (by rw[BL,hlen]) hT (by rw[Au,hperm.length_eq]) (by rw[h2];lia)
 unfold relayAll
 rw[hr]
 dsimp only
 rw[yk,fit]
 rfl
def add_int {a:Addr}{xs:List (Int×Tok)}{n:Int}{tk:Tok}{led:Bool}{Q:Bool->Shared->Prop}(S:vH prog w s.heap a xs led) (hn:xs.length<70)
  (h:∀ h' xs' r,Heap.SameBut a s.heap h'->vH prog w h' a xs' led->(n∈xs.map (·.1)/\xs'=xs\/n∉xs.map (·.1)/\xs'.Perm (xs++[(n,tk)]))->Q r { s with heap:=h' }):
  wpAny (model prog w) A (setAddHashed a (.int n tk) ((intKind prog w).hash n)) Q E s:=by
 have S0:=S
 obtain⟨⟨es,ep,t,ho,he,T,Bv,Ah,AF⟩,Bg⟩:=S
 have hlen:es.size=xs.length:=by have:=congrArg List.length he;simpa using this
 have hm7:7<=t.mask/\t.mask<=127:=by rcases T.mask with e | e | e <;> lia
 have fit:t.fits es.size=true:=fits_of (n:=xs.length) hlen T (by simp) (by lia)
 have hel:=PN (prog:=prog) (w:=w) he
 unfold setAddHashed setAddHashedIn
 refine za5 (za0 (za9 ho rfl fit ?_))
 dsimp only
 have bs:byScan (.int n tk) es=true:=by
  have h1:decide (es.size<scanBound)=true:=zaD (by unfold scanBound;lia)
  have h2:es.all (·.2.scannable)=true:=by
   rw[Array.all_eq_true_iff_forall_mem]
   intro e hm
   exact (hel e (by simpa using hm)).2
  unfold byScan
  rw[h1,h2]
  rfl
 rw[if_pos bs]
 refine za0 ?_
 unfold setAddByScan
 refine za0 (wpAny_rule (za0 (wpAny_setScan_of (k:=n) (nH.mpr rfl) ho rfl fit hel ?_)))
 have hfind:(es.toList.findIdx? (λ e=>(intKind prog w).is n e.2)).isSome=true↔n∈xs.map (·.1):=by
  rw[he,List.findIdx?_isSome,Bj]
  constructor
  ·rintro⟨e,hm,q⟩
   obtain⟨x,hx,rfl⟩:=An.mp hm
   exact An.mpr ⟨x,hx,(nH.mp q).symm⟩
  ·intro hm
   obtain⟨x,hx,rfl⟩:=An.mp hm
   exact⟨_,An.mpr ⟨x,hx,rfl⟩,nH.mpr rfl⟩
 cases hc:es.toList.findIdx? (λ e=>(intKind prog w).is n e.2) with
 | some j=>
  dsimp only
  have hm:=hfind.mp (by rw[hc];rfl)
  refine Ac ?_
  dsimp only
  exact Ac (h s.heap xs false ⟨rfl,λ _ _=>rfl⟩ S0 (.inl ⟨hm,rfl⟩))
 | none=>
  dsimp only
  have hm:n∉xs.map (·.1):=λ q=>by have:=hfind.mpr q;rw[hc] at this;cases this
  obtain⟨j,fs,F⟩:=Po T (by rw[Au];lia) ((intKind prog w).hash n)
  obtain⟨p1,p2,p3⟩:=T.put F
  rw[Au] at p1
  have CC:(t.put j).1.plain=true:=by rw[p2];exact Ah
  have B6:(t.put j).1.mask=t.mask:=by rw[p2]
  have Al:(t.put j).1.led=led:=by rw[p2];exact Bv
  generalize hT:(t.put j)=P at *
  obtain⟨t1,p⟩:=P
  dsimp only at *
  let xs1:=xs.take p++(n,tk)::xs.drop p
  have hperm:xs1.Perm (xs++[(n,tk)]):=by
   have e:xs.take p++xs.drop p=xs:=DH p xs
   have:xs1.Perm ((n,tk)::(xs.take p++xs.drop p)):=List.perm_middle
   rw[e] at this
   exact this.trans (List.perm_append_singleton _ _).symm
  have hl1:xs1.length=xs.length+1:=by rw[hperm.length_eq];simp
  have hes1:(insertAt es p ((intKind prog w).hash n,Value.int n tk)).toList=xs1.map λ e=>((intKind prog w).hash e.1,Value.int e.1 e.2):=by
   rw[toList_insertAt,he]
   simp[xs1,Dp,Dn]
  have hsz1:(insertAt es p ((intKind prog w).hash n,Value.int n tk)).size=xs.length+1:=by rw[<- Br,hes1,Au,hl1]
  have T1:Tab t1 (xs1.map λ e=>(intKind prog w).hash e.1):=by
   have:xs1.map (λ e=>(intKind prog w).hash e.1)=(xs.map λ e=>(intKind prog w).hash e.1).take p++(intKind prog w).hash n::(xs.map λ e=>(intKind prog w).hash e.1).drop p:=by simp[xs1,Dp,Dn]
   rw[this];exact p3
  have fit1:t1.fits (insertAt es p ((intKind prog w).hash n,Value.int n tk)).size=true:=fits_of (n:=xs.length+1) hsz1 T1 (by rw[Au,hl1]) (by rw[B6];lia)
  have Dc:layNew t es ((intKind prog w).hash n) (.int n tk)=(insertAt es p ((intKind prog w).hash n,Value.int n tk),t1,false,false):=by
   unfold layNew
   rw[fs]
   dsimp only
   rw[hT]
   dsimp only
   unfold SetTable.orStandIn
   rw[fit1]
   rfl
  have Bl:(insertAt es p ((intKind prog w).hash n,Value.int n tk)).size<=sizeLine:=by
   rw[hsz1]
   have:sizeLine=16777216:=rfl
   lia
  have hnd1:(xs1.map (·.1)).Nodup:=by
   refine (hperm.map _).nodup_iff.mpr ?_
   rw[BH,List.nodup_append]
   refine⟨Bg,by simp,λ x hx y hy=>?_⟩
   simp at hy
   subst hy
   exact λ e=>hm (e▸hx)
  have ho1:=lN (es':=insertAt es p ((intKind prog w).hash n,Value.int n tk)) (t':=t1) ho
  have sb:=Heap.SameBut.update s.heap a (Obj.putSet (insertAt es p ((intKind prog w).hash n,Value.int n tk)) t1)
  have hfill:t1.fill=xs.length+1:=by
   have l:=T1.len
   rw[Au,hl1] at l
   unfold SetTable.fill
   rw[T1.rH,l]
   simp
  rw[Dc]
  dsimp only
  refine za0 (m:=pure ()) (Ac ?_)
  rw[CC]
  simp only[if_true]
  refine za0 (m:=pure true) (Ac ?_)
  simp only[if_true]
  refine za0 (wpAny_storeSet_of ho rfl ?_ Bl)
  by_cases hf:t1.tooFull=true
  ·rw[hf]
   simp only[CQ,Dv,if_true]
   have hfull:t.mask*3<=(xs.length+1)*5:=by
    have:=hf
    unfold SetTable.tooFull at this
    rw[hfill,B6] at this
    simpa using this
   obtain⟨M',g1,g2,g3⟩:=ck xs.length t.mask T.mask AF hfull hn
   obtain⟨es2,t2,xs2,r1,r2,r3,r4,r5,r6,r7,r8⟩:=Vl (prog:=prog) (w:=w) (t:=t1) hes1 g1 (wanted:=grown (insertAt es p ((intKind prog w).hash n,Value.int n tk)).size) (by rw[hsz1];exact g2) (by rw[hl1];exact g3)
   rw[r1]
   dsimp only
   refine za0 (m:=pure ()) (Ac (za0 (wpAny_storeSet_of ho1 rfl ?_ (by rw[r8];exact Bl))))
   refine Ac ?_
   dsimp only
   refine Ac (h _ xs2 true (sb.trans (Heap.SameBut.update _ a _)) ⟨⟨es2,ep+1+1,t2,lN ho1,r2,r4,by rw[r6];exact Al,by rw[r7];exact CC,by rw[r3.length_eq,hl1,r5];exact g3⟩,(r3.map _).nodup_iff.mpr hnd1⟩ (.inr ⟨hm,r3.trans hperm⟩))
  ·have hf':t1.tooFull=false:=by simpa using hf
   rw[hf']
   simp only[CQ,CM,A7,if_false]
   have hfull:(xs.length+1)*5<t.mask*3:=by
    have:=hf'
    unfold SetTable.tooFull at this
    rw[hfill,B6] at this
    simpa using this
   refine Ac ?_
   dsimp only
   exact Ac (h _ xs1 true sb ⟨⟨_,ep+1,t1,ho1,hes1,T1,Al,CC,by rw[hl1,B6];exact hfull⟩,hnd1⟩ (.inr ⟨hm,hperm⟩))
end
structure sy (its:Array Value) (ns:List Int) (i:Nat) (xs:List (Int×Tok)):Prop where
 own:∀ e∈xs,∃ j,j<i/\ns[j]?=some e.1
 all:∀ (j:Nat) r,j<i->ns[j]?=some r->r∈xs.map (·.1)
theorem iT:∀ (l m:List Int),l.Nodup->(∀ x∈l,x∈m)->l.length<=m.length
 | [],m,_,_=>AI _
 | x::l,m,hn,hs=>by
  have h1:=Cc.mp hn
  have hx:=hs x Am
  have:=iT l (m.erase x) h1.2 λ z hz=>(DN (λ e:z=x=>h1.1 (by rw[<- e];exact hz))).mpr (hs z (Ao _ hz))
  rw[DM hx] at this
  have:=DL hx
  simp only[AR];lia
def sy.len {its:Array Value}{ns:List Int}{i:Nat}{xs:List (Int×Tok)}(U:sy its ns i xs) (nd:(xs.map (·.1)).Nodup):xs.length<=i:=by
 have:=iT (xs.map (·.1)) ((List.range i).map λ j=>ns.getD j 0) nd λ x hx=>by
  obtain⟨e,he,rfl⟩:=An.mp hx
  obtain⟨j,h1,h3⟩:=U.own e he
  exact An.mpr ⟨j,AO.mpr h1,by rw[Bk,h3];rfl⟩
 simpa using this
def sy.step {its:Array Value}{ns:List Int}{i:Nat}{xs xs':List (Int×Tok)}{n:Int}{t:Tok}(U:sy its ns i xs) (hr:ns[i]?=some n)
  (h:n∈xs.map (·.1)/\xs'=xs\/n∉xs.map (·.1)/\xs'.Perm (xs++[(n,t)])):sy its ns (i+1) xs':=by
 have eqi:∀ j:Nat,j<i+1->¬ j<i->j=i:=λ j a b=>by lia
 rcases h with ⟨hm,rfl⟩ | ⟨_,hp⟩
 ·refine⟨λ e he=>?_,λ j r hj Bc=>?_⟩
  ·obtain⟨j,h1,h2⟩:=U.own e he
   exact⟨j,Bz h1,h2⟩
  ·by_cases q:j<i
   ·exact U.all j r q Bc
   ·rw[eqi j hj q,hr] at Bc;cases Bc;exact hm
 ·refine⟨λ e he=>?_,λ j r hj Bc=>?_⟩
  ·rcases AU.mp (hp.mem_iff.mp he) with q | q
   ·obtain⟨j,h1,h2⟩:=U.own e q
    exact⟨j,Bz h1,h2⟩
   ·cases AM.mp q
    exact⟨i,Ce i,hr⟩
  ·rw[(hp.map (·.1)).mem_iff,BH]
   by_cases q:j<i
   ·exact Cy _ (U.all j r q Bc)
   ·rw[eqi j hj q,hr] at Bc;cases Bc
    exact AN _ Am
def Nums (its:Array Value) (ns:List Int):Prop:=∀ (i:Nat) v,its[i]?=some v->∃ n t,v=.int n t/\ns[i]?=some n
section
variable {prog:Program}{w:World}{A:Around}{R:Result->Shared->Prop}{I:Addr}{fp wr:List Addr}{G:Array GenState->Array GenState->Prop}{n:Nat}{P:Nat->Value->Prop}{St:Nat->Shared->Prop}
def vH.keep {h h':Heap}{a:Addr}{xs:List (Int×Tok)}{led:Bool}(S:vH prog w h a xs led) (k:∀ o,h.get? a=some o->h'.get? a=some o):vH prog w h' a xs led:=
 let ⟨⟨es,ep,t,ho,r⟩,nd⟩:=S;⟨⟨es,ep,t,k _ ho,r⟩,nd⟩
def RS (W:WalksS prog w A.in1 I fp wr G n (λ i v=>P i v) St) (Sa:Addr) (hSf:Sa∉fp) {its:Array Value}{ns:List Int}(hP:∀ i v,P i v->its[i]?=some v) (hn:n<70) (led:Bool) (hN:Nums its ns):
  ∀ (k i:Nat) (s:Shared) (xs:List (Int×Tok)),n-i=k->i<=n->St i s->vH prog w s.heap Sa xs led->sy its ns i xs->
   (∀ s' xs',Moved (Sa::wr) G s s'->vH prog w s'.heap Sa xs' led->sy its ns n xs'->R (.ok (.ret .none)) s')->
   codeAny (model prog w) A (.builtin "set.update.loop" ⟨[.ref Sa,.ref I],[]⟩) R s:=by
 have hSw:Sa∉wr:=λ z=>hSf (W.sub _ z)
 have more:∀ b∈wr,b∈Sa::wr:=λ b hb=>Ao _ hb
 intro k
 induction k with
 | zero=>
  intro i s xs hk hi Ay hS hU hR
  have e:i=n:=by lia
  subst e
  refine codeAny_builtin F.entry_set_update_loop ?_
  rw[Around.under_plainId F.plain_set_update_loop _]
  show wpAny _ A.in1 (pyNext (.ref I) >>= _) _ _ s
  exact za0 (W.done s _ _ Ay λ s' hm=>Ac (hR s' xs (hm.mono more) (hS.keep λ o e=>hm.heap _ o hSw e) hU))
 | succ k ih=>
  intro i s xs hk hi Ay hS hU hR
  have Al:i<n:=by lia
  refine codeAny_builtin F.entry_set_update_loop ?_
  rw[Around.under_plainId F.plain_set_update_loop _]
  show wpAny _ A.in1 (pyNext (.ref I) >>= _) _ _ s
  refine za0 (W.item i s _ _ Al Ay λ v s1 hPv hst1 hm=>?_)
  obtain⟨m,t,rfl,hr⟩:=hN i v (hP i v hPv)
  have S1:vH prog w s1.heap Sa xs led:=hS.keep λ o e=>hm.heap _ o hSw e
  have hl:xs.length<70:=by have:=hU.len hS.nd;lia
  show wpAny _ A.in1 (holding [Value.int m t] (setAdd Sa (.int m t)) >>= _) _ _ s1
  refine za0 (za5 ?_)
  unfold setAdd
  refine za5 (za0 ((intKind prog w).pyHash (A:=A.in1) (k:=m) (nH.mpr rfl) ?_))
  refine add_int (s:={ s1 with toks:=s1.toks+1 }) (A:=A.in1) S1 hl λ h' xs' rr sb S' hx=>?_
  have fr:=W.frame (i+1) s1 h' (s1.toks+1) hst1 (Dm _ _) λ c hc o e=>(sb.2 c (λ z:c=Sa=>hSf (z▸hc))).trans e
  refine Ac ⟨plainId_quiet F.plain_set_update_loop _,ih (i+1) _ xs' (by lia) Al fr S' (hU.step hr hx) λ s2 xs2 hm2 S2 U2=>?_⟩
  refine hR s2 xs2 (Moved.trans W.gtrans ((hm.mono more).then_heap (Dm _ _) λ c o hc e=>?_) hm2) S2 U2
  exact (sb.2 c (λ z=>hc (z▸Am))).trans e
end
section
variable {prog:Program}{w:World}{A:Around}{E:Value->Shared->Prop}{s:Shared}
def WI {h:Heap}{a:Addr}(ho:h.get? a=some (yJ w)):vH prog w h a [] (v7 w):=
 ⟨⟨#[],0,_,ho,rfl,⟨.inl rfl,rfl,rfl,.nil,λ j hj=>(by cases hj),λ i g j hg=>(by cases hg)⟩,rfl,rfl,by show 0*5<7*3;lia⟩,.nil⟩
set_option maxHeartbeats 6400000 in
def O8 {l:Addr}{its:Array Value}{ns:List Int}{Q:Value->Shared->Prop}(hh:A.handled=none) (hl:s.heap.IsList l its) (hT:Nums its ns) (hn:its.size<70)
  (h:∀ (h':Heap) (tk:Nat) xs,vH prog w h' s.heap.objs.size xs (v7 w)->sy its ns its.size xs->(∀ b o,b<s.heap.objs.size->s.heap.get? b=some o->h'.get? b=some o)->Q (.ref s.heap.objs.size) { s with heap:=h',toks:=tk }):
  wpAny (model prog w) A (call (.type "set") [.ref l]) Q E s:=by
 obtain⟨c,tl,Ed⟩:=F.called_set.mro
 have made:=F.called_set.made
 have subm:=F.called_set.sub
 refine wpAny_call (codeAny_of_tree ?_)
 show wpAny _ _ (callAny (.type "set") _) _ _ _
 refine Ac ⟨Code.quiet_builtin _ (by decide +kernel),codeAny_builtin F.entry_type_call ?_⟩
 rw[Around.under_plain (weight_type_call_type "set" [.ref l] []) rfl]
 have nt:=F.called_set.notType
 have cc:=F.called_set.canCreate
 have tc:=F.typeCall_set_1 (.ref l)
 repeat (any_goals (first | assumption | wp_step))
 refine codeAny_mono (Yb (.ref l) (E:=E) (Q:=λ obj s₁=>obj=.ref s.heap.objs.size/\s₁={ s with heap:=s.heap.push (yJ w) }) ⟨rfl,rfl⟩) λ r s₁ hr=>?_
 cases r with
 | error e=>exact hr
 | ok fl=>
  cases fl with
  | ret obj=>
   obtain⟨rfl,rfl⟩:=hr
   have hS:(s.heap.push (yJ w)).get? s.heap.objs.size=some (yJ w):=AE _ rfl
   have hTy:Shared.TypeIs { s with heap:=s.heap.push (yJ w) } (.ref s.heap.objs.size) "set":=⟨_,hS,rfl⟩
   have li:=F.called_set.init.lookup
   have bi:=F.called_set.init.bind (.ref s.heap.objs.size)
   repeat (any_goals (first | assumption | wp_step))
   let s1:Shared:={ s with heap:=s.heap.push (yJ w) }
   refine codeAny_mono (codeAny_call_builtin (R:=wants (λ r s₂=>r=.none/\∃ h' tk xs,s₂={ s with heap:=h',toks:=tk }/\vH prog w h' s.heap.objs.size xs (v7 w)/\sy its ns its.size xs/\
     ∀ b o,b<s.heap.objs.size->s.heap.get? b=some o->h'.get? b=some o) E) F.called_set.init.plain F.entry_set_init (check_set_init_1 hTy ?_)) λ r₂ s₂ hr₂=>?_
   ·obtain⟨⟨ocls,odict,odata,oslots⟩,C8,AH,nl,Cj⟩:=id hl
    simp only at AH Cj
    subst AH Cj
    have hol1:(s.heap.push (yJ w)).get? l=some { cls:=.type "list",dict:=odict,data:=.seq its nl,slots:=oslots }:=za1 _ C8
    have sls:=F.sub_list_set
    have slf:=F.sub_list_frozenset
    have nd:(Value.type "list" == Value.type "dict")=false:=by decide
    have hl1:(s.heap.push (yJ w)).IsList l its:=⟨_,hol1,rfl,nl,rfl⟩
    unfold Builtin.«set.__init__» noKeywords Builtin.Frozenset.updateFrom
    generalize hPI:pyIter=PI
    unfold yJ at *
    wp_walk
    subst hPI
    refine wpAny_pyIter_list hl1 (za0 (wpAny_runValue ?_))
    have hlS:l<s.heap.objs.size:=Ai C8
    have hsz:(s.heap.push (yJ w)).objs.size=s.heap.objs.size+1:=Heap.size_push _ _
    have hneI:l≠(s.heap.push (yJ w)).objs.size:=by rw[hsz];exact Ap (Bz hlS)
    have szne:s.heap.objs.size≠(s.heap.push (yJ w)).objs.size:=by rw[hsz];exact Ap (Ce _)
    have low:∀ b:Addr,b<s.heap.objs.size->b≠(s.heap.push (yJ w)).objs.size:=λ b hb=>by rw[hsz];exact Ap (Bz hb)
    refine RS (A:=A.in1.in1) (P:=λ i v=>its[i]?=some v) ((Walks.list (A:=A.in1.in1.in1) (by simp[hh]) _ l hneI its).toS) s.heap.objs.size ?_ (its:=its) (ns:=ns) (λ _ _ q=>q) hn (v7 w) hT its.size 0 _ [] (by lia) (AI _)
     ⟨⟨_,AE _ rfl,rfl,rfl⟩,hl1.push _⟩ (WI (w:=w) (za1 _ hS)) ⟨λ e he=>(by cases he),λ j r hj=>(by lia)⟩ ?_
    ·intro hm
     rcases Ak.mp hm with q | q
     ·exact szne q
     ·exact BB hlS (AM.mp q)
    ·intro s' xs' hm S' U'
     obtain⟨h',g',d',tk',os'⟩:=s'
     obtain rfl:g'=s.gens:=hm.gens
     obtain rfl:d'=s.drawn:=hm.drawn
     obtain rfl:os'=s.os:=hm.os
     refine Ac (Ac ⟨rfl,h',tk',xs',rfl,S',U',λ b o hb e=>?_⟩)
     refine hm.heap b o (λ q=>?_) (za1 _ (za1 _ e))
     rcases Ak.mp q with q | q
     ·exact Ap hb q
     ·exact low b hb (AM.mp q)
   ·cases r₂ with
    | error e=>exact hr₂
    | ok fl₂=>
     cases fl₂ with
     | ret r=>
      obtain⟨rfl,h',tk,xs,rfl,g1,g2,g3⟩:=hr₂
      repeat (any_goals (first | assumption | wp_step))
      exact h h' tk xs g1 g2 g3
     | _=>exact hr₂.elim
  | _=>exact hr.elim
end
end ST
namespace L4
open PySem PyProof.Rows
def Oq {prog:Program}{w:World}{A:Around}{E:Value->Shared->Prop}{s:Shared}{vs:List Value}{ns:List Int}(hI:IntsAre vs ns) (h2:2<=vs.length) (h64:vs.length<64):
  Core prog w A E vs (λ out=>∃ ns',IntsAre out.toList ns'/\ns'.Perm ns/\ns'.Pairwise (·<=·)) s:=by
 obtain⟨v1,v2,rest,rfl⟩:∃ v1 v2 rest,vs=v1::v2::rest:=by
  match vs,h2 with
  | v1::v2::rest,_=>exact⟨v1,v2,rest,rfl⟩
 unfold Core
 rw[keyKind_ints hI]
 refine Ac ⟨rfl,?_⟩
 refine za3 (wpS_sortRuns (a₀:=pairsOf (v1::v2::rest)) (st:=SortSt.mk' oneType' ((v1::v2::rest).toArray.zip (v1::v2::rest).toArray) #[] 7 none)
   (Q:=λ _ st'=>(arrOf st').Perm (pairsOf (v1::v2::rest))/\failedOf st'=none/\SortedTo (arrOf st') (pairsOf (v1::v2::rest)).size)
   hI.intKeys ⟨Array.Perm.refl _,rfl,rfl,rfl⟩ (by rw[pairsOf_size];simp) (by rw[pairsOf_size];exact h64) λ st' a1 a2 a3=>⟨a1,a2,a3⟩) ?_ λ _ _ e=>e
 rintro⟨⟨⟩,st'⟩ s' ⟨rfl,hp,hf,hs⟩
 exact⟨rfl,hf,sorted_out hI hp hs,by rw[hp.size_eq,pairsOf_size]⟩
end L4
namespace L5
open PySem PySem.Spec L2 L3
open PyProof.Rows hiding St
structure Bq (mg:Str->Option Value):Prop where
 set:mg "set"=none
 zip:mg "zip"=none
 enumerate:mg "enumerate"=none
section
variable {X:Cx}{K:Ab}{a b c e:Expr}{ta tb tc:zp}{pos:Pos}{fa fb fc:Ev->Option T}
def sg (f g:yG) (ta tb tc:zp):zp:=fun Y S Q=>ta Y S λ x S1=>tb Y S1 λ y S2=>f x y S2 λ z S3=>match z with
 | .bl k=>if k=true then tc Y S3 λ w S4=>g y w S4 Q else Q (.bl false) S3
 | _=>False
def sg.mo {f g:yG}(hf:y_ f) (hg:y_ g) (ha:yi ta) (hb:yi tb) (hc:yi tc):yi (sg f g ta tb tc):=fun Y S Q Q' hq h=>
 ha Y S _ _ (λ x S1 h=>hb Y S1 _ _ (λ y S2 h=>hf x y S2 _ _ (λ z S3 h=>by
  cases z <;> first
   | exact we (hc Y S3 _ _ λ w S4 h=>hg y w S4 _ _ hq h) (hq _ _) h
   | exact h) h) h) h
def dH {f g:yG}{r r':R2}(hr:xb K f r) (hr':xb K g r') (hf:y_ f) (hg:y_ g) (ha:yi ta) (hb:yi tb) (hc:yi tc) {σ:St}{H:Hp}{Q:VK}(h:zJ K (sg f g ta tb tc) σ H Q):ju r r' (zJ K ta) (zJ K tb) (zJ K tc) σ H Q:=by
 obtain⟨Y,S,r1,r2,h⟩:=h
 refine zJ.go ha r1 r2 h λ x S1 v H1 h1 q1 e1 p1=>?_
 refine zJ.go hb (r1.ext e1) p1 h1 λ y S2 w H2 h2 q2 e2 p2=>?_
 refine hr v w x y H2 S2 _ (zg.ext e2 x q1) q2 p2 (hf x y S2 _ _ (λ d S3 z v3 H3 q3 e3 p3=>?_) h2)
 cases d with
 | bl k=>
  simp only[zg] at q3
  refine⟨k,q3,we (λ z=>?_) (λ z=>?_) z⟩
  ·refine zJ.go hc (r1.ext ((e1.trans e2).trans e3)) p3 z λ w4 S4 v4 H4 h4 q4 e4 p4=>?_
   exact hr' w v4 y w4 H4 S4 Q (zg.ext (e3.trans e4) y q2) q4 p4 (hg y w4 S4 _ _ (λ d S' z=>z.ext (((e1.trans e2).trans e3).trans e4)) h4)
  ·exact z _ H3 (by simp only[zg]) ((e1.trans e2).trans e3) p3
 | _=>exact z.elim
@[simp] noncomputable def fC (f g:T->T->Option T) (fa fb fc:Ev->Option T):Ev->Option T:=fun J=>(fa J).bind λ x=>(fb J).bind λ y=>(f x y).bind λ b=>match b with
 | .bl k=>if k=true then (fc J).bind λ z=>g y z else some (.bl false)
 | _=>none
def Rf {f g:T->T->Option T}{F G:yG}(hf:Good2 zE f F) (hg:Good2 zE g G) (ha:yr fa ta) (hb:yr fb tb) (hc:yr fc tc):xi (fC f g fa fb fc) (sg F G ta tb tc):=λ S Z Y J y Q hE e hq=>by
 obtain⟨x1,e1,e⟩:=Ag.mp e
 obtain⟨x2,e2,e⟩:=Ag.mp e
 obtain⟨b,e3,e⟩:=Ag.mp e
 refine ha S Z Y J x1 _ hE e1 λ d1 S1 s1 r1=>?_
 refine hb S1 Z Y J x2 _ (hE.grow s1) e2 λ d2 S2 s2 r2=>?_
 refine hf S2 Z x1 x2 b d1 d2 _ (hE.grow (s1.trans s2)).zd (Vw.grow r1 s2) r2 e3 λ c S3 s3 r3=>?_
 split at e
 ·have:=r3.1
  simp only[Sn] at this
  subst this
  split at e
  ·rename_i hk
   obtain⟨x4,e4,e5⟩:=Ag.mp e
   dsimp only;rw[if_pos hk]
   refine hc S3 Z Y J x4 _ (hE.grow ((s1.trans s2).trans s3)) e4 λ d4 S4 s4 r4=>?_
   exact hg S4 Z x2 x4 y d2 d4 Q (hE.grow (((s1.trans s2).trans s3).trans s4)).zd (Vw.grow r2 (s3.trans s4)) r4 e5 λ c' S5 s5 r5=>hq c' S5 ((((s1.trans s2).trans s3).trans s4).trans s5) (Cl.cl (((s1.trans s2).trans s3).trans s4) r5)
  ·rename_i hk
   dsimp only;rw[if_neg hk]
   cases e
   exact hq _ S3 ((s1.trans s2).trans s3) (Cl.of (λ _=>nofun) vb)
 ·cases e
def UO {op op':CmpOp}{f g:yG}{r r':R2}(ho:zS X (compareOp op) r) (ho':zS X (compareOp op') r') (hr:xb X.K f r) (hr':xb X.K g r') (hf:y_ f) (hg:y_ g) (ha:PD X a ta) (hb:PD X b tb) (hc:PD X c tc)
  (hm:lastMarks [op,op'] [b,c]=false:=by with_unfolding_all rfl):PD X (.Compare a [op,op'] [b,c] pos) (sg f g ta tb tc):=
 ⟨sg.mo hf hg ha.mo hb.mo hc.mo,PE.imp (Ur ho ho' ha.pe hb.pe hc.pe hm) λ _ _ _ h=>dH hr hr' hf hg ha.mo hb.mo hc.mo h⟩
def U1 {op op':CmpOp}{f g:yG}{r r':R2}(ho:zS X (compareOp op) r) (ho':zS X (compareOp op') r') (hr:xb X.K f r) (hr':xb X.K g r') (hf:y_ f) (hg:y_ g) (ha:PD X a ta) (hb:PD X b tb) (hc:PD X c tc)
  (hm:lastMarks [op,op'] [b,c]=false:=by with_unfolding_all rfl):xo X (.Compare a [op,op'] [b,c] pos) (vD (sg f g ta tb tc)):=by
 refine⟨vD.mo (sg.mo hf hg ha.mo hb.mo hc.mo),PT.imp (V3 ho ho' ha.pe hb.pe hc.pe hm) fun σ H Q h=>?_⟩
 obtain⟨Y,S,r1,r2,h⟩:=h
 refine dH hr hr' hf hg ha.mo hb.mo hc.mo ⟨Y,S,r1,r2,sg.mo hf hg ha.mo hb.mo hc.mo Y S _ _ (λ d S' z v H' a b c=>?_) h⟩
 cases d with
 | bl k=>simp only[zg] at a;exact⟨k,a,z H' b c⟩
 | _=>exact z.elim
end
end L5
namespace L2
open PySem PySem.Spec PyProof.Rows
section
variable {X:Cx}
def bB:zS X (compareOp .Is) (λ x y H Q=>∃ c d,x=.bl c/\y=.bl d/\Q (.bl (c == d)) H):=by
 intro pins s σ H x y v u Q I rx ry h
 obtain⟨c,d,rfl,rfl,q⟩:=h
 cases rx
 cases ry
 exact is_bool ⟨.bl _,H,I,rfl,q⟩
end
end L2
namespace L5
open PySem PySem.Spec L2 L3
open PyProof.Rows hiding St
section
variable {X:Cx}{K:Ab}{a b c e o i v:Expr}{es:List Expr}{ta tb td ty tv:zp}{pos p pos':Pos}
def u_:yG:=λ x y S Q=>match x,y with
 | .int i,.int j=>Q (.bl (decide (i<j))) S
 | .tup ds,.tup es=>∃ ns ms:List Int,ds=ns.map D.int/\es=ms.map D.int/\Q (.bl (HT.lexLt ns ms)) S
 | _,_=>False
noncomputable def rn:T->T->Option T
 | .int i,.int j=>some (.bl (decide (i<j)))
 | .tup ts,.tup us=>(vY ts).bind λ ns=>(vY us).map λ ms=>.bl (HT.lexLt ns ms)
 | _,_=>none
def u_.mo:y_ u_:=λ x y S Q Q' hq h=>by
 unfold u_ at h ⊢
 split at h
 ·exact hq _ _ h
 ·obtain⟨ns,ms,h1,h2,h3⟩:=h
  exact⟨ns,ms,h1,h2,hq _ _ h3⟩
 ·exact h.elim
def u_.fits:xb K u_ (λ x y H Q=>vt (λ i j=>.bl (decide (i<j))) x y H Q\/il K x y H Q):=λ x y d e H S Q h1 h2 h3 h=>by
 unfold u_ at h
 split at h
 ·simp only[zg] at h1 h2
  exact .inl ⟨_,_,h1,h2,h _ H (by simp only[zg]) (.refl H) h3⟩
 ·obtain⟨ns,ms,rfl,rfl,h⟩:=h
  simp only[zg] at h1 h2
  obtain⟨a,xs,rfl,g1,g2⟩:=h1
  obtain⟨b,ys,rfl,g3,g4⟩:=h2
  rw[g2.ints] at g1
  rw[g4.ints] at g3
  exact .inr ⟨a,b,ns,ms,rfl,rfl,g1,g3,h _ H (by simp only[zg]) (.refl H) h3⟩
 ·exact h.elim
def gC:Good2 zE rn u_:=λ S Z x y z d e Q hz hx hy ef hq=>by
 unfold rn at ef
 split at ef
 ·cases ef
  cases hx.int;cases hy.int
  exact hq _ S (.refl S) (Cl.of (λ _=>nofun) vb)
 ·obtain⟨ns,e1,e2⟩:=Ag.mp ef
  obtain⟨ms,e3,rfl⟩:=AA.mp e2
  cases nI e1
  cases nI e3
  obtain⟨ds,rfl,h2⟩:=hx.tup
  obtain⟨es,rfl,h4⟩:=hy.tup
  exact⟨ns,ms,tL.mp h2,tL.mp h4,hq _ S (.refl S) (Cl.of (λ _=>nofun) vb)⟩
 ·cases ef
def Te {k:Nat}(hr:zV k X.A):zS X (compareOp .Lt) (λ x y H Q=>vt (λ i j=>.bl (decide (i<j))) x y H Q\/il X.K x y H Q):=Tg.or (Tf (by have:=hr.units;lia))
def bo {k:Nat}(hr:zV k X.A) (ha:PD X a ta) (hb:PD X b tb):xo X (.Compare a [.Lt] [b] pos) (vD (yn u_ ta tb)):=qW (Te hr) u_.fits u_.mo ha hb (rh _)
def vi (neg:Bool):yG:=λ x y S Q=>match x,y with
 | .bl c,.bl d=>Q (.bl (cond neg (c != d) (c == d))) S
 | x,.zj=>Q (.bl (cond neg (!p8 x) (p8 x))) S
 | _,_=>False
noncomputable def qk (neg:Bool):T->T->Option T
 | .bl c,.bl d=>some (.bl (cond neg (c != d) (c == d)))
 | x,.zj=>some (.bl (cond neg (!isNone x) (isNone x)))
 | _,_=>none
def vi.mo {neg:Bool}:y_ (vi neg):=λ x y S Q Q' hq h=>by
 unfold vi at h ⊢
 split at h
 ·exact hq _ _ h
 ·exact hq _ _ h
 ·exact h.elim
def vi.fits:xb K (vi false) (λ x y H Q=>(∃ c d,x=.bl c/\y=.bl d/\Q (.bl (c == d)) H)\/(y=.zj/\Q (.bl (decide (x=.zj))) H)):=λ x y d e H S Q h1 h2 h3 h=>by
 unfold vi at h
 split at h
 ·simp only[zg] at h1 h2
  exact .inl ⟨_,_,h1,h2,h _ H (by simp only[zg,cond]) (.refl H) h3⟩
 ·simp only[zg] at h2
  refine .inr ⟨h2,?_⟩
  rw[Q4 h1]
  exact h _ H (by simp only[zg,cond]) (.refl H) h3
 ·exact h.elim
def Q5 {S:SS}{Z:Addr->Prop}{x:T}{d:D}(hx:Vw S Z x d):p8 d=isNone x:=by
 cases x with
 | zj=>cases hx.zj;rfl
 | bl _=>cases hx.bl;rfl
 | int _=>cases hx.int;rfl
 | str _=>cases hx.str;rfl
 | tup _=>obtain⟨ds,rfl,_⟩:=hx.tup;rfl
 | lst _=>obtain⟨ds,rfl | ⟨a,rfl,h1⟩,h2⟩:=hx.lst <;> rfl
 | yE=>obtain⟨a,Aa,⟨rfl,_⟩,h1⟩:=hx.yE;rfl
 | err _ _ _=>obtain⟨x,rfl,_⟩:=hx.err;rfl
def Pd {neg:Bool}:Good2 zE (qk neg) (vi neg):=λ S Z x y z d e Q hz hx hy ef hq=>by
 unfold qk at ef
 split at ef
 ·cases ef
  cases hx.bl;cases hy.bl
  exact hq _ S (.refl S) (Cl.of (λ _=>nofun) vb)
 ·cases ef
  cases hy.zj
  have key:Q (.bl (cond neg (!p8 d) (p8 d))) S:=by
   rw[Q5 hx]
   exact hq _ S (.refl S) (Cl.of (λ _=>nofun) vb)
  unfold vi
  cases d <;> exact key
 ·cases ef
def i9 (ha:PD X a ta) (hb:PD X b tb):PD X (.Compare a [.Is] [b] pos) (yn (vi false) ta tb):=iD (bB.or bA) vi.fits vi.mo ha hb (rh _)
def Uz (ha:PD X a ta) (hb:PD X b tb):xo X (.Compare a [.Is] [b] pos) (vD (yn (vi false) ta tb)):=qW (bB.or bA) vi.fits vi.mo ha hb (rh _)
def ZV (td ty tv:zp):yg:=λ E Y S=>tv Y S λ v S1=>td Y S1 λ x S2=>ty Y S2 λ y S3=>∃ p ds k j,x=.ref p/\y=.int k/\S3 p=some (.lst ds)/\wQ ds.length k=some j/\E.nx Y (ups S3 p (.lst (ds.set j v)))
theorem zm.set {H:Hp}{d:D}{x:V}(h:zg K H d x):∀ {ds:List D}{xs:List V}(j:Nat),zm K H ds xs->zm K H (ds.set j d) (xs.set j x)
 | [],xs,j,r=>by simp only[zm] at r;subst r;exact .nil
 | c::ds,xs,0,r=>by
  simp only[zm] at r
  obtain⟨y,ys,rfl,_,r2⟩:=r
  exact .cons h r2
 | c::ds,xs,j+1,r=>by
  simp only[zm] at r
  obtain⟨y,ys,rfl,r1,r2⟩:=r
  exact .cons r1 (zm.set h j r2)
def U5 (ho:PD X o td) (hi:PD X i ty) (hv:PD X v tv) (hs:swapsWithSole [.Subscript o i pos'] v pos.line X.env=pure false:=by rfl) (hw:swappedStores [.Subscript o i pos'] v X.env=pure none:=by rfl)
  (h1:(assignEach [.Subscript o i pos'] X.env).map (·.2)=[assign (.Subscript o i pos') X.env]:=by rfl)
  (ha:∀ v,assign (.Subscript o i pos') X.env v=(do
   let ov <- holding [v] (eval o X.env)
   let iv <- holding [v,ov] (eval i X.env)
   standAt pos'
   holding [v,ov,iv] (setItem ov iv v)
   release [v,ov,iv] []):=by intro _;rfl):vm X (.Assign [.Subscript o i pos'] v pos) (ZV td ty tv):=by
 refine⟨λ E E' Y S hE z=>hv.mo Y S _ _ (λ w S1 z=>ho.mo Y S1 _ _ (λ x S2 z=>hi.mo Y S2 _ _ (λ y S3 ⟨p,ds,k,j,a,b,c,d,h⟩=>⟨p,ds,k,j,a,b,c,d,hE.nx _ _ h⟩) z) z) z,PS.imp (cV hv.pe (VT ho.pe hi.pe set_list ha) hs hw h1) λ D σ H hu=>?_⟩
 obtain⟨Y,S,r1,r2,z⟩:=hu
 refine zJ.go hv.mo r1 r2 z λ w S1 w1 H1 h1 q1 e1 p1=>?_
 refine zJ.go ho.mo (r1.ext e1) p1 h1 λ x S2 w2 H2 h2 q2 e2 p2=>?_
 refine zJ.go hi.mo ((r1.ext e1).ext e2) p2 h2 λ y S3 w3 H3 h3 q3 e3 p3=>?_
 obtain⟨p,ds,k,j,rfl,rfl,c1,c2,h⟩:=h3
 simp only[zg] at q2 q3
 subst q2 q3
 obtain⟨xs,g1,g2⟩:=p3 _ _ c1
 have e4:Ext H3 (upd H3 p (.lst (xs.set j w1))):=.lst g1 _
 refine⟨p,xs,k,j,rfl,rfl,g1,by rw[<- g2.length];exact c2,?_⟩
 exact h σ _ ((((r1.ext e1).ext e2).ext e3).ext e4) (((e1.trans e2).trans e3).trans e4) (p3.ups e4 ⟨_,yd,zm.ext e4 _ (zm.set (zg.ext (e2.trans e3) w q1) j g2)⟩)
@[simp] def ah (n:Nat) (f v:Ev->Option T):Sm:=fun J=>(v J).bind λ z=>(f J).bind λ y=>match J[n]?,y with
 | some (some (.own (.lst ts))),.int k=>(wQ ts.length k).map λ j=>.nx (J.set n (some (.own (.lst (ts.set j z)))))
 | _,_=>none
def T4 {R:Rk}(n:Nat) {f v:Ev->Option T}(hf:yr f ty) (hv:wH v tv):yh R (ah n f v) (ZV (ym n) ty tv):=λ S0 Z0 S Z Y J o E F e P=>by
 obtain⟨z,e1,e⟩:=Ag.mp e
 obtain⟨x,e2,e3⟩:=Ag.mp e
 split at e3
 ·rename_i ts k h
  obtain⟨j,hj,rfl⟩:=AA.mp e3
  refine hv S Z Y J z _ F.er e1 λ dz S1 s1 r1=>?_
  have F1:=F.grow s1
  obtain⟨p,ob,h1,h2,h3,h4⟩:=F1.er.ow n _ h
  cases ob with
  | zI _=>exact h3.elim
  | lst ds=>
   show ym n Y S1 _
   unfold ym;rw[h1]
   refine hf S1 Z Y J _ _ F1.er e2 λ d S2 s2 r2=>?_
   cases Vw.int r2
   have h5:zk (zK S2 Z) ts ds:=zk.sx (wD s2) ts h3
   exact⟨p,ds,k,j,rfl,rfl,s2 _ _ h2,by rw[h5.len];exact hj,P _ Z Y ((F1.grow s2).mut (us:=.lst (ts.set j z)) (es:=.lst (ds.set j dz)) n h h1 (h5.cq j (Sn.sx (wD s2) z r1)))⟩
 ·cases e3
def UI {x y:Str}{u:Value}(hm:X.mg x=some u) (r:RelV (.str y) u) (hg:Gl X x:=by rfl) (hd:(x == ("__debug__":Str))=false:=by decide):PD X (.Name x pos) (dC (.str y)):=ni (c_ hg hm r hd) λ _=>by simp only[zg]
end
end L5
namespace ZP
open PySem PyProof.Rows
noncomputable def gp (k:Bool):String:=cond k "tuple_iterator" "list_iterator"
def SI (h:Heap) (k:Bool) (it l:Addr) (i:Nat):Prop:=∃ o,h.get? it=some o/\o.cls=.type (gp k)/\o.data=.fields #[.ref l,.int i 0]
def SQ (h:Heap) (k:Bool) (l:Addr) (xs:Array Value):Prop:=match k with
 | true=>h.IsTuple l xs
 | false=>h.IsList l xs
def SI.on {h h':Heap}{k:Bool}{it l:Addr}{i:Nat}(x:SI h k it l i) (f:∀ o,h.get? it=some o->h'.get? it=some o):SI h' k it l i:=
 let ⟨o,ho,r⟩:=x;⟨o,f o ho,r⟩
def SQ.on {h h':Heap}{k:Bool}{l:Addr}{xs:Array Value}(x:SQ h k l xs) (f:∀ o,h.get? l=some o->h'.get? l=some o):SQ h' k l xs:=by
 cases k with
 | true=>obtain⟨o,ho,r⟩:=(show h.IsTuple l xs from x);exact⟨o,f o ho,r⟩
 | false=>obtain⟨o,ho,r⟩:=(show h.IsList l xs from x);exact⟨o,f o ho,r⟩
def SQ.lt {h:Heap}{k:Bool}{l:Addr}{xs:Array Value}(x:SQ h k l xs):l<h.objs.size:=by
 cases k with
 | true=>obtain⟨o,ho,_⟩:=(show h.IsTuple l xs from x);exact Ai ho
 | false=>obtain⟨o,ho,_⟩:=(show h.IsList l xs from x);exact Ai ho
theorem SQ.cls {h:Heap}{k:Bool}{l:Addr}{xs:Array Value}(x:SQ h k l xs):∃ o,h.get? l=some o/\o.cls=.type (cond k "tuple" "list"):=by
 cases k with
 | true=>obtain⟨o,ho,c,_⟩:=(show h.IsTuple l xs from x);exact⟨o,ho,c⟩
 | false=>obtain⟨o,ho,c,_⟩:=(show h.IsList l xs from x);exact⟨o,ho,c⟩
section
variable {prog:Program}{w:World}{A:Around}{E:Value->Shared->Prop}{s:Shared}
def made {k:Bool}{l:Addr}{xs:Array Value}{Q:Value->Shared->Prop}(hl:SQ s.heap k l xs)
  (hQ:Q (.ref s.heap.objs.size) { s with heap:=s.heap.push { cls:=.type (gp k),data:=.fields #[.ref l,.int 0 0] } }):wpAny (model prog w) A (pyIter (.ref l)) Q E s:=by
 cases k with
 | true=>exact wpAny_pyIter_tuple hl hQ
 | false=>exact wpAny_pyIter_list hl hQ
def PV {it l:Addr}{i:Nat}{xs:Array Value}{x:Value}{Q:Value->Shared->Prop}(hit:s.heap.IsTupleIter it l i) (hl:s.heap.IsTuple l xs) (hx:xs[i]?=some x)
  (hQ:∀ h',h'.IsTupleIter it l (i+1)->Heap.SameBut it s.heap h'->Q x { s with heap:=h' }):wpAny (model prog w) A (Builtin.SmallTypes.nextOf (.ref it)) Q E s:=by
 have ht:=hit.typeIs
 obtain⟨oi,e1,e2,e3⟩:=id hit
 obtain⟨ol,g1,_,n,g2⟩:=hl
 refine za0 (zaM (name:=Str.ofString "__next__") ht F.slot_tuple_iterator_next (zaF F.slot_tuple_iterator_next ht F.entry_tuple_iterator_next ?_ (F.args_tuple_iterator_next_1 _)))
 refine za0 (m:=field (.ref it) 0) (zaA e1 e3 (x:=.ref l) rfl ?_)
 dsimp only
 rw[if_neg (show ¬ ((Value.ref l == Value.none)=true) from BE)]
 refine za0 (m:=field (.ref it) 1) (zaA e1 e3 (x:=.int i 0) rfl ?_)
 dsimp only
 refine za0 (m:=seqItems? (.ref l)) (wpAny_seqItems g1 g2 ?_)
 simp only[Cm,hx]
 have there:=za6 (Obj.mapFields λ y=>y.setIfInBounds 1 (rawInt ((i:Int)+1))) e1 (Obj.isFreed_of_fields (Obj.data_mapFields e3 _))
 refine za0 (zaB e1 e3 (by simp) (Ac ⟨x,rfl,Ac (hQ _ ⟨_,there,(Obj.cls_mapFields ..).trans e2,?_⟩ (Heap.SameBut.update ..))⟩))
 rw[Obj.data_mapFields e3];simp[rawInt]
def PK {it l:Addr}{i:Nat}{xs:Array Value}{Q:Value->Shared->Prop}(hh:A.handled=none) (hit:s.heap.IsTupleIter it l i) (hl:s.heap.IsTuple l xs) (hx:xs[i]?=none)
  (hE:∀ h' e,Heap.ExtBut it s.heap h'->(∃ o,h'.get? e=some o/\o.cls=.type "StopIteration")->E (.ref e) { s with heap:=h' }):wpAny (model prog w) A (Builtin.SmallTypes.nextOf (.ref it)) Q E s:=by
 have ht:=hit.typeIs
 obtain⟨oi,e1,e2,e3⟩:=id hit
 obtain⟨ol,g1,_,n,g2⟩:=hl
 refine za0 (zaM (name:=Str.ofString "__next__") ht F.slot_tuple_iterator_next (zaF F.slot_tuple_iterator_next ht F.entry_tuple_iterator_next ?_ (F.args_tuple_iterator_next_1 _)))
 refine za0 (m:=field (.ref it) 0) (zaA e1 e3 (x:=.ref l) rfl ?_)
 dsimp only
 rw[if_neg (show ¬ ((Value.ref l == Value.none)=true) from BE)]
 refine za0 (m:=field (.ref it) 1) (zaA e1 e3 (x:=.int i 0) rfl ?_)
 dsimp only
 refine za0 (m:=seqItems? (.ref l)) (wpAny_seqItems g1 g2 ?_)
 simp only[Cm,hx]
 refine za0 (wpAny_rule (za0 (zaB e1 e3 (by simp) ?_)))
 refine za0 (m:=newExc (.type "StopIteration") []) ?_
 simp only[newExc,newTuple]
 refine za0 (zaE (za0 (m:=firstArgMember _ _) (wpAny_of_eq (a:=Value.none) (by first | rfl | (simp only[firstArgMember];rfl)) (zaE ?_ (by size_fits)))) (by size_fits))
 simp only[raiseNew]
 refine za0 (wpAny_handled ?_)
 rw[show A.in1.handled=none from hh]
 exact za0 (Ac (wpAny_throw (hE _ _ (((Heap.SameBut.update ..).extBut.push _).push _) ⟨_,AE _ rfl,rfl⟩)))
def draw {k:Bool}{it l:Addr}{i:Nat}{xs:Array Value}{x:Value}{Q:Value->Shared->Prop}(hit:SI s.heap k it l i) (hl:SQ s.heap k l xs) (hx:xs[i]?=some x)
  (hQ:∀ h',SI h' k it l (i+1)->Heap.SameBut it s.heap h'->Q x { s with heap:=h' }):wpAny (model prog w) A (Builtin.SmallTypes.nextOf (.ref it)) Q E s:=by
 cases k with
 | true=>exact PV hit hl hx hQ
 | false=>exact wpAny_nextOf_list_item hit hl hx hQ
def ZG {k:Bool}{it l:Addr}{i:Nat}{xs:Array Value}{Q:Value->Shared->Prop}(hh:A.handled=none) (hit:SI s.heap k it l i) (hl:SQ s.heap k l xs) (hx:xs[i]?=none)
  (hE:∀ h' e,Heap.ExtBut it s.heap h'->(∃ o,h'.get? e=some o/\o.cls=.type "StopIteration")->E (.ref e) { s with heap:=h' }):wpAny (model prog w) A (Builtin.SmallTypes.nextOf (.ref it)) Q E s:=by
 cases k with
 | true=>exact PK hh hit hl hx hE
 | false=>exact wpAny_nextOf_list_end hh hit hl hx hE
end
abbrev nG (k:Bool) (l:Addr):Obj:={ cls:=.type (gp k),data:=.fields #[.ref l,.int 0 0] }
end ZP
namespace L2
open PySem PySem.Spec PyProof.Rows ZP
section
variable {X:Cx}{pins:List (Addr×Obj)}{σ:St}{H:Hp}{s:Shared}
def Inv.dM {h':Heap}{t':Nat}{fp:List Addr}(I:Inv X pins σ H s) (k:∀ b o,b∉fp->s.heap.get? b=some o->h'.get? b=some o) (hf:∀ b∈fp,vK X pins H b):Inv X pins σ H { s with heap:=h',toks:=t' }:=by
 have nit:∀ b u,H b=some u->b∉fp:=λ b u e z=>by rw[(hf b z).1] at e;cases e
 refine I.step (g':=s.gens) (d':=s.drawn) (ch:=fp) (λ b hb=>?_) (λ b o _ _ hc e _=>k b o hc e) (λ b o _ _ hc e _=>⟨o.slots,k b o hc e⟩) (λ _ _ _ _ n=>n)
  (λ b o hc e=>⟨o,k b o hc e⟩) (λ _ _ e=>e) (λ _ _ _ e=>e) (λ b ps e=>⟨#[],by rw[e];simp⟩) (λ m hm=>?_) (λ b u e=>?_) I.bare
 ·obtain⟨_,q1,_,q2,q3,q4⟩:=hf b hb
  exact⟨q2,q1,q3,q4⟩
 ·obtain⟨o,es,ep,ho,r⟩:=hm
  exact⟨o,es,ep,k _ o (λ z=>(hf _ z).2.1 rfl) ho,r⟩
 ·refine (I.zl b u e).w_ (λ c v hc q=>k c v ?_ q) (λ _ q=>q) λ _ _ q=>q
  rcases hc with z | z
  ·rw[z];exact nit b u e
  ·exact nit c _ z
def tw (K:Ab) (H:Hp) (k:Bool) (a:Addr) (xs:List V):Prop:=match k with
 | true=>zR K H a xs
 | false=>zL K H a xs
def tw.of (I:Inv X pins σ H s) {k:Bool}{a:Addr}{xs:List V}(h:tw X.K H k a xs):∃ its:List Value,Vals xs its/\SQ s.heap k a its.toArray:=by
 cases k with
 | true=>obtain⟨its,rv,p,_⟩:=I.tuple h;exact⟨its,rv,p⟩
 | false=>obtain⟨its,rv,p,_⟩:=I.list h;exact⟨its,rv,p.isList⟩
def tw.inj (I:Inv X pins σ H s) {k:Bool}{a:Addr}{xs ys:List V}(h:tw X.K H k a xs) (h':tw X.K H k a ys):xs=ys:=by
 cases k with
 | true=>exact I.jq h h'
 | false=>exact I.h_ h h'
end
end L2
namespace L5
open PySem PySem.Spec L2 L3
open PyProof.Rows hiding St
section
variable {K:Ab}{a:Expr}{p:Pos}
noncomputable def gi:D->Bool
 | .tup _=>true
 | _=>false
def yj.k {H:Hp}{S:SS}{d:D}{v:V}{ds:List D}(r:zg K H d v) (p:zC K H S) (e:yj d S=some ds):∃ a xs,v=.ref a/\tw K H (gi d) a xs/\zm K H ds xs:=by
 by_cases q:∃ ts,d=.tup ts
 ·obtain⟨ts,rfl⟩:=q
  cases e
  simp only[zg] at r
  obtain⟨a,xs,h1,h2,h3⟩:=r
  exact⟨a,xs,h1,h2,h3⟩
 ·obtain⟨a,xs,h1,h2,h3⟩:=qQ r p e λ ts z=>q ⟨ts,z⟩
  refine⟨a,xs,h1,?_,h3⟩
  have:gi d=false:=by cases d <;> first | rfl | exact absurd ⟨_,rfl⟩ q
  rw[this];exact h2
end
section
def yj.sx {S S':SS}{d:D}{ds:List D}(h:yj d S=some ds) (s:Sx S S'):yj d S'=some ds:=by
 unfold yj at h ⊢
 split at h
 ·exact h
 ·exact h
 ·split at h
  ·rename_i q
   cases h
   rw[s _ _ q]
  ·cases h
 ·cases h
end
end L5
namespace TM
open PySem PyProof.Rows
def noFill:fillsNumberSlot (.type "tuple") "mul"=pure false:=
 PySem.fillsNumberSlot_seq (id:="tuple.__mul__") (r:=some (.builtin "tuple.__rmul__")) F.slot_tuple_mul.lookup (by decide +kernel) F.slot_tuple_rmul.lookup (by decide +kernel)
def rep:seqRepeat? (.type "tuple")=pure (some (.builtin "tuple.__mul__")):=by
 have a:=PySem.seqSlot_of (T:="tuple") (name:="__mul__") (id:="tuple.__mul__") F.slot_tuple_mul.lookup (by decide +kernel)
 have b:=PySem.seqSlot_of (T:="tuple") (name:="__rmul__") (id:="tuple.__rmul__") F.slot_tuple_rmul.lookup (by decide +kernel)
 unfold seqRepeat?
 rw[a,b]
 rfl
def declines (i:Int) (t:Tok) (l:Addr) (items:Array Value) (n:Nat) (dd:Option Addr) (sl:Array (Option Value)):
  Meets (Builtin.«int.__rmul__» ⟨[.int i t,.ref l],[]⟩) (λ _ R s=>s.heap.get? l=some { cls:=.type "tuple",dict:=dd,data:=.seq items n,slots:=sl }/\R (.ok (.ret Value.notImplemented)) s):=
 .of_wp λ prog w A R s h=>by
  obtain⟨hp,g,d,tk,os⟩:=s
  obtain⟨hl,h⟩:=h
  wp_walk
  exact⟨_,rfl,h⟩
theorem gR {α:Type}(xs:List α):∀ (m:Nat) (acc:Array α),(List.replicate m xs.toArray).foldl (·++·) acc=acc++(List.replicate m xs).flatten.toArray
 | 0,acc=>by simp
 | m+1,acc=>by
  rw[BS,Dr,gR xs m,BS,Cb,DV]
  simp
def RC (k:Int) (t:Tok) (l:Addr) (items:Array Value) (n:Nat) (dd:Option Addr) (sl:Array (Option Value)) (h1:¬ (decide (k < -(2 ^ 63))||decide (k≥2 ^ 63))=true) (h2:¬ (items.isEmpty||k == 1)=true) (h3:¬ (decide (k<=0)||items.isEmpty)=true)
  (h4:¬ (items.size*k>(2 ^ 63-1)/8)) (h5:¬ Builtin.Tuple.tupleTooMany (items.size*k)=true) (h6:((List.replicate k.toNat items).foldl (·++·) #[]).size<=sizeLine):
  Meets (Builtin.«tuple.__mul__» ⟨[.ref l,.int k t],[]⟩) (λ _ R s=>s.heap.get? l=some { cls:=.type "tuple",dict:=dd,data:=.seq items n,slots:=sl }/\
   R (.ok (.ret (.ref s.heap.objs.size))) { s with heap:=s.heap.push { cls:=.type "tuple",data:=.seq ((List.replicate k.toNat items).foldl (·++·) #[]) } }):=
 .of_wp λ prog w A R s h=>by
  obtain⟨hp,g,d,tk,os⟩:=s
  obtain⟨hl,h⟩:=h
  have e0:IsTup (Shared.heap ⟨hp,g,d,tk,os⟩) l items:=⟨_,hl,rfl,n,rfl⟩
  wp_walk
  rw[if_neg h1]
  refine za0 (m:=Builtin.Tuple.tupleItemsOf (.ref l)) (tupleItemsOf_ e0 ?_)
  dsimp only
  rw[if_neg h2,if_neg h3,if_neg h4,if_neg h5]
  exact za0 (m:=Builtin.Tuple.tupleExact _) (zaE (Ac ⟨_,rfl,h⟩) h6)
def RD (t:Tok) (l:Addr) (items:Array Value) (n:Nat) (dd:Option Addr) (sl:Array (Option Value)):
  Meets (Builtin.«tuple.__mul__» ⟨[.ref l,.int 1 t],[]⟩) (λ _ R s=>s.heap.get? l=some { cls:=.type "tuple",dict:=dd,data:=.seq items n,slots:=sl }/\R (.ok (.ret (.ref l))) s):=
 .of_wp λ prog w A R s h=>by
  obtain⟨hp,g,d,tk,os⟩:=s
  obtain⟨hl,h⟩:=h
  have c:(items.isEmpty||(1:Int) == 1)=true:=by simp
  wp_walk
  exact⟨_,rfl,h⟩
section
variable {prog:Program}{w:World}{A:Around}{E:Value->Shared->Prop}{s:Shared}
def times {l:Addr}{its:List Value}{k:Int}{t:Tok}{Q:Value->Shared->Prop}(ht:IsTup s.heap l its.toArray) (Aj:its≠[]) (h0:1<=k) (hz:its.length*k.toNat<=sizeLine)
  (one:k=1->Q (.ref l) s) (more:k≠1->Q (.ref s.heap.objs.size) { s with heap:=s.heap.push { cls:=.type "tuple",data:=.seq (List.replicate k.toNat its).flatten.toArray } }):
  wpAny (model prog w) A (binaryOp .Mult (.ref l) (.int k t)) Q E s:=by
 have hT:=ht.typeIs
 obtain⟨⟨cls,dd,data,sl⟩,ho,hc,n,hd⟩:=id ht
 simp only at hc hd
 subst hc hd
 refine wpAny_binaryOp_repeat_ref (T:="tuple") (U:="int") (by decide) hT (λ s'=>typeIs_int s' k t) noFill F.fills_int_mul F.slot_int_rmul rep F.slot_int_index.lookup
  (call_meets F.slot_int_rmul (typeIs_int s k t) F.entry_int_rmul (F.args_int_rmul_2 _ _) (declines k t l its.toArray n dd sl) ⟨ho,rfl,hT,?_⟩)
 have hlen:0<its.length:=List.length_pos_iff.mpr Aj
 have DD:its.toArray.isEmpty=false:=by cases its with
  | nil=>exact absurd rfl Aj
  | cons a r=>rfl
 by_cases h1:k=1
 ·subst h1
  exact call_meets F.slot_tuple_mul hT F.entry_tuple_mul (F.args_tuple_mul_2 _ _) (RD t l its.toArray n dd sl) ⟨ho,one rfl⟩
 ·have hks:k.toNat<=sizeLine:=Bp (Nat.le_mul_of_pos_left _ hlen) hz
  have hl:sizeLine=16777216:=rfl
  have hk2:k<=16777216:=by lia
  have hcast:((its.toArray.size:Nat):Int)*k=((its.length*k.toNat:Nat):Int):=by
   rw[Av,Int.natCast_mul,Dz (by lia)]
  have hf:(List.replicate k.toNat its.toArray).foldl (·++·) #[]=(List.replicate k.toNat its).flatten.toArray:=by rw[gR];simp
  have En:(List.replicate k.toNat its).flatten.length=k.toNat*its.length:=by simp
  refine call_meets F.slot_tuple_mul hT F.entry_tuple_mul (F.args_tuple_mul_2 _ _) (RC k t l its.toArray n dd sl ?_ ?_ ?_ ?_ ?_ ?_) ⟨ho,?_⟩
  ·simp only[Bool.or_eq_true,decide_eq_true_eq,not_or]
   exact⟨by lia,by lia⟩
  ·rw[DD];simpa using h1
  ·rw[DD];simp;lia
  ·rw[hcast];lia
  ·rw[hcast]
   intro q
   unfold Builtin.Tuple.tupleTooMany at q
   have:=of_decide_eq_true q
   lia
  ·rw[hf,Av,En,Du];exact hz
  ·rw[hf];exact more h1
end
end TM
namespace L2
open PySem PySem.Spec PyProof.Rows
def ij (K:Ab):R2:=λ x y H Q=>∃ a k xs,x=.ref a/\y=.int k/\zR K H a xs/\xs≠[]/\1<=k/\xs.length*k.toNat<=sizeLine/\(k=1->Q (.ref a) H)/\(k≠1->∀ p,H p=none->Q (.ref p) (upd H p (.tup (List.replicate k.toNat xs).flatten)))
def U_ {X:Cx}:zS X (binaryOp .Mult) (ij X.K):=by
 intro pins s σ H x y v u Q I rx ry h
 obtain⟨a,k,xs,rfl,rfl,hx,Aj,h1,hz,q1,q2⟩:=h
 cases rx
 obtain⟨t,rfl⟩:=ry
 obtain⟨its,r,ht,_⟩:=I.tuple hx
 have hl:=r.length
 refine TM.times ht (λ z=>Aj (r.n5.mp z)) h1 (by rw[<- hl];exact hz) (λ e=>⟨.ref a,H,I,rfl,q1 e⟩) λ e=>?_
 have hlen:(List.replicate k.toNat xs).flatten.length<=sizeLine:=by
  have:(List.replicate k.toNat xs).flatten.length=k.toNat*xs.length:=by simp
  rw[this,Du];exact hz
 exact⟨.ref _,_,I.laid (t':=s.toks) (o:=.tup (List.replicate k.toNat xs).flatten) (λ b ob q=>za1 _ q) (Af _) ⟨hlen,_,r.rep k.toNat,IsTup.new _ _⟩,rfl,q2 e _ (I.zl.fresh (Af _))⟩
end L2
namespace L5
open PySem PySem.Spec L2 L3
open PyProof.Rows hiding St
section
variable {K:Ab}{a:Expr}
def uZ:yG:=λ x y S Q=>match x,y with
 | .int i,.int j=>vM i j/\Q (.int (i*j)) S
 | .tup ds,.int k=>(ds≠[]/\1<=k/\ds.length*k.toNat<=sizeLine)/\Q (.tup (List.replicate k.toNat ds).flatten) S
 | _,_=>False
noncomputable def iY:T->T->Option T
 | .int i,.int j=>if vM i j then some (.int (i*j)) else none
 | .tup ts,.int k=>if ts≠[]/\1<=k/\ts.length*k.toNat<=sizeLine then some (.tup (List.replicate k.toNat ts).flatten) else none
 | _,_=>none
def uZ.mo:y_ uZ:=λ x y S Q Q' hq h=>by
 unfold uZ at h ⊢
 split at h
 ·exact⟨h.1,hq _ _ h.2⟩
 ·exact⟨h.1,hq _ _ h.2⟩
 ·exact h.elim
theorem zm.rep {H:Hp}{ds:List D}{xs:List V}(h:zm K H ds xs):∀ n:Nat,zm K H (List.replicate n ds).flatten (List.replicate n xs).flatten
 | 0=>.nil
 | n+1=>by
  rw[BS,BS,Cb,Cb]
  exact h.append (zm.rep h n)
def uZ.fits:xb K uZ (λ x y H Q=>rI vM (λ i j=>.int (i*j)) x y H Q\/ij K x y H Q):=λ x y d e H S Q h1 h2 h3 h=>by
 unfold uZ at h
 split at h
 ·simp only[zg] at h1 h2
  exact .inl ⟨_,_,h1,h2,h.1,h.2 _ H (by simp only[zg]) (.refl H) h3⟩
 ·rename_i ds k
  obtain⟨⟨c1,c2,c3⟩,h⟩:=h
  have h1':=h1
  simp only[zg] at h1 h2
  obtain⟨a,xs,rfl,g1,g2⟩:=h1
  have hl:=g2.length
  refine .inr ⟨a,k,xs,rfl,h2,g1,λ z=>c1 (by subst z;cases ds with | nil=>rfl | cons _ _=>simp at hl),c2,by rw[<- hl];exact c3,λ e=>?_,λ e p hp=>?_⟩
  ·subst e
   refine h _ H ?_ (.refl H) h3
   have:(List.replicate (1:Int).toNat ds).flatten=ds:=by simp
   rw[this];exact h1'
  ·refine h _ _ ?_ (.new hp _) (h3.new hp)
   simp only[zg]
   exact⟨p,_,rfl,zR.of yd,zm.ext (.new hp _) _ (zm.rep g2 _)⟩
 ·exact h.elim
theorem zk.rep {S:SS}{ts:List T}{ds:List D}(h:zk S ts ds):∀ n:Nat,zk S (List.replicate n ts).flatten (List.replicate n ds).flatten
 | 0=>.nil
 | n+1=>by
  rw[BS,BS,Cb,Cb]
  exact h.append (zk.rep h n)
def Zf:Good2 zE iY uZ:=λ S Z x y z d e Q hz hx hy ef hq=>by
 unfold iY at ef
 split at ef
 ·split at ef
  ·rename_i hc
   cases ef
   cases hx.int;cases hy.int
   exact⟨hc,hq _ S (.refl S) (Cl.of (λ _=>nofun) wx)⟩
  ·cases ef
 ·split at ef
  ·rename_i hc
   cases ef
   obtain⟨ds,rfl,h2⟩:=hx.tup
   cases hy.int
   have hl:=h2.len
   exact⟨⟨λ q=>hc.1 (by subst q;simpa using hl.symm),hc.2.1,by rw[hl];exact hc.2.2⟩,hq _ S (.refl S) (Cl.of (λ _=>nofun) (o7 (zk.rep h2 _)))⟩
  ·cases ef
 ·cases ef
end
end L5
namespace L4
open PySem PyProof.Rows
section
variable {prog:Program}{w:World}{A:Around}{E:Value->Shared->Prop}{s:Shared}
def Ov {l:Addr}{vs:List Value}{Q:List Value->Shared->Prop}(hl:IsTup s.heap l vs.toArray) (hz:vs.length<=sizeLine)
  (h:Q vs { s with heap:=(s.heap.push (seqObj "list" #[] 0)).update s.heap.objs.size (Obj.mapSeq (·++vs.toArray)) }):wpAny (model prog w) A (collect (.ref l)) Q E s:=by
 obtain⟨o,ho,hc,n,hd⟩:=id hl
 have new:(s.heap.push (seqObj "list" #[] 0)).get? s.heap.objs.size=some (seqObj "list" #[] 0):=AE _ rfl
 have ho':(s.heap.push (seqObj "list" #[] 0)).get? l=some o:=za1 _ ho
 unfold collect
 refine za0 (wpAny_runValue (codeAny_builtin entry_proto_collect' (za0 (m:=newList []) (wpAny_newList (Ac ⟨Code.quiet_builtin _ (by decide +kernel),codeAny_builtin entry_list_iadd' ?_⟩)))))
 show wpAny _ _ (Builtin.List.listExtendWith (.ref s.heap.objs.size) (.ref l) (.ref s.heap.objs.size)) _ _ { s with heap:=s.heap.push (seqObj "list" #[] 0) }
 unfold Builtin.List.listExtendWith
 refine za0 (wpAny_typeOf (T:="tuple") ⟨o,ho',hc⟩ ?_)
 rw[if_pos (by rw[show (Value.type "tuple" == Value.type "tuple")=true from rfl];simp)]
 refine za0 (listItems_at ho' hd (za0 (listItems_at (xs:=#[]) (n:=0) new rfl ?_)))
 rw[if_neg (by simp)]
 refine za0 (listUpdate_at (xs:=#[]) (n:=0) new rfl (Ac ?_) (AI _) (by show (#[]++vs.toArray).size<=sizeLine+1;simp only[Array.size_append,Av,Ct];lia))
 refine za0 (m:=load s.heap.objs.size) (wpAny_load (get?_update_seq new _) ?_)
 show wpAny _ _ (pure ((#[]:Array Value)++vs.toArray).toList) Q E _
 have e:((#[]:Array Value)++vs.toArray).toList=vs:=by simp
 rw[e]
 exact Ac h
def W9 {l:Addr}{vs:List Value}{Q:Value->Shared->Prop}{Out:Array Value->Prop}(hl:IsTup s.heap l vs.toArray) (hz:vs.length<=sizeLine)
  (core:2<=vs.length->∀ s6:Shared,(∀ b o,s.heap.get? b=some o->s6.heap.get? b=some o)->Core prog w A.in1.in1 E vs Out s6) (short:vs.length<2->Out vs.toArray)
  (fin:∀ out:Array Value,Out out->out.size=vs.length->Q (.ref (s.heap.objs.size+1)) { s with heap:=sortedAll s.heap vs out }):
  wpAny (model prog w) A (call (.builtin "sorted") [.ref l]) Q E s:=by
 let h1:=(s.heap.push (seqObj "list" #[] 0)).update s.heap.objs.size (Obj.mapSeq (·++vs.toArray))
 have sz:h1.objs.size=s.heap.objs.size+1:=by show (Heap.update _ _ _).objs.size=_;rw[Heap.size_update,size_push']
 have there:(h1.push (seqObj "list" vs.toArray 0)).get? (s.heap.objs.size+1)=some (seqObj "list" vs.toArray 0):=sz▸AE _ rfl
 have keep:∀ b o,s.heap.get? b=some o->(h1.push (seqObj "list" vs.toArray 0)).get? b=some o:=λ b o q=>by
  refine za1 _ ?_
  show (Heap.update _ _ _).get? b=_
  rw[zaK _ _ _ _ (Ap (Ai q))]
  exact za1 _ q
 refine Calls.call_function_entry kind_sorted plain_sorted entry_sorted (args_sorted1 _) ?_
 unfold Builtin.«sorted»
 refine za0 (m:=checkCount "sorted" 1 1 _) (Ac (za0 (Ov hl hz (za0 (wpAny_newList ?_ hz)))))
 show wpAny _ _ _ _ _ { s with heap:=h1.push (seqObj "list" vs.toArray 0) }
 rw[show (Heap.update (s.heap.push (seqObj "list" #[] 0)) s.heap.objs.size (Obj.mapSeq (·++vs.toArray))).objs.size=s.heap.objs.size+1 from sz]
 refine za0 (za5 (zaF slot_list_sort ⟨_,there,rfl⟩ entry_list_sort (hZ there hz (λ h2 s6 k=>core h2 s6 λ b o q=>k b o (Ap (Bz (Ai q))) (keep b o q)) short λ out g1 g2=>⟨_,rfl,?_⟩) (args_list_sort _)))
 exact Ac ⟨_,rfl,fin out g1 g2⟩
end
section
open L2 PySem.Spec
variable {X:Cx}
def O2:yB X (.builtin "sorted") (λ xs H Q=>∃ p ys,∃ rows:List (List Int),xs=[.ref p]/\zR X.K H p ys/\Paired (λ v r=>r≠[]/\∃ b,v=V.ref b/\zR X.K H b (r.map V.int)) ys rows/\rows.length<64/\
  ∀ (l:Addr) (idx:List Nat),H l=none->idx.Perm (List.range ys.length)->(idx.map λ i=>rows.getD i []).Pairwise (λ a b=>HT.lexLt b a=false)->Q (.ref l) (upd H l (.lst (idx.map λ i=>ys.getD i .zj)))):=by
 intro pins s σ H xs us Q I r h
 obtain⟨p,ys,rows,rfl,hq,hr,h64,q⟩:=h
 obtain⟨u,rfl,ru⟩:=vals1 r
 cases ru
 obtain⟨its,rv,pl,hz⟩:=I.tuple hq
 have hl:=rv.length
 have BW:ys.length=rows.length:=Paired.length hr
 have rows_at:∀ h6:Heap,(∀ b o,s.heap.get? b=some o->h6.get? b=some o)->sC h6 its rows:=λ h6 k=>by
  refine ST.Paired.mk (by lia) λ i a b ha hb=>?_
  have hi:i<ys.length:=by have:=(AD.mp hb).1;lia
  obtain⟨Aj,c,hc,CA⟩:=L4.Paired.at' hr (i:=i) hi V.zj ([]:List Int)
  obtain⟨u,e1,e2⟩:=rv.get (i:=i) (x:=ys.getD i V.zj) (by simp[hi])
  rw[ha] at e1;cases e1
  rw[hc] at e2
  cases (show a=Value.ref c from e2)
  obtain⟨its2,rv2,⟨o,e,AH,n,hd⟩,_⟩:=I.tuple CA
  have eb:rows.getD i []=b:=by simp[hb]
  rw[eb] at Aj rv2
  exact⟨Aj,c,o,_,n,rfl,k _ _ e,AH,hd,by simpa using intsAre_of rv2⟩
 refine W9 (Out:=mB its rows) pl (by rw[<- hl];exact hz) (λ h2 s6 k=>fy (rows_at _ k) h2 (by lia)) (λ h1=>?_) λ out ho hs=>?_
 ·refine⟨List.range its.length,.refl _,?_,?_⟩
  ·refine BD (by simp) λ i h1 h2=>?_
   simp at h1
   simp[h1]
  ·rw[Ca,Cs]
   intro i j hi hj AX
   simp at hi hj
   lia
 ·obtain⟨idx,g1,g2,g3⟩:=ho
  obtain⟨e,ho⟩:=sortedAll_at s.heap its out
  have g1':idx.Perm (List.range ys.length):=by rw[hl];exact g1
  refine⟨.ref (s.heap.objs.size+1),_,I.laid (t':=s.toks) (o:=.lst (idx.map λ i=>ys.getD i .zj)) (λ b o q=>sortedAll_old q) (Cr _) ?_,rfl,q _ idx (I.zl.fresh (Cr _)) g1' g3⟩
  refine⟨by rw[Au,g1'.length_eq,Cg];exact hz,out.toList,e,?_,by simpa using ho⟩
  rw[g2]
  refine ST.Paired.mk (by simp) λ j a b ha hb=>?_
  rw[Ax] at ha hb
  obtain⟨i,hi,rfl⟩:=AA.mp ha
  rw[hi] at hb
  cases hb
  have CT:i<ys.length:=by simpa using g1'.mem_iff.mp (Bb hi)
  obtain⟨u,e1,e2⟩:=rv.get (i:=i) (x:=ys.getD i V.zj) (by simp[CT])
  have e3:its.getD i Value.none=u:=by simp[e1]
  show L2.RelV (ys.getD i V.zj) (its.getD i Value.none)
  rw[e3];exact e2
end
end L4
namespace L5
open PySem PySem.Spec L2 L3
open PyProof.Rows hiding St
section
variable {X:Cx}{K:Ab}{e:Expr}{es:List Expr}{tA:zY}{pos p:Pos}
def rB:xB:=λ ds S Q=>∃ d,∃ rows:List (List Int),ds=[d]/\yj d S=some (rows.map xQ)/\rows.length<64/\(∀ r∈rows,r≠[])/\∀ l,S l=none->Q (.ref l) (ups S l (.lst ((L4.xt rows).map xQ)))
noncomputable def qN:List T->Option T
 | [y]=>(wK y).bind λ ts=>(vS ts).bind λ rs=>if rs.length<64/\∀ r∈rs,r≠[] then some (.lst ((L4.xt rs).map zO)) else none
 | _=>none
def QX:uw zE qN rB:=λ S Z ys z ds Q hz hv e hq=>by
 unfold qN at e
 split at e
 ·obtain⟨d,rfl,h1⟩:=u5 hv
  obtain⟨ts,e0,e⟩:=Ag.mp e
  obtain⟨rs,e1,e2⟩:=Ag.mp e
  split at e2
  ·rename_i hc
   cases e2
   cases j_ e1
   obtain⟨es,h2,h3⟩:=h1.seq e0
   cases qO.mp h3
   exact⟨d,rs,rfl,h2,hc.1,hc.2,λ l hl=>hq _ _ (.new hl _) (sU hz hl (qO.mpr rfl))⟩
  ·cases e2
 ·cases e
def rB.mo:uv rB:=λ ds S Q Q' hq ⟨d,rows,h0,h1,h2,h3,h4⟩=>⟨d,rows,h0,h1,h2,h3,λ l hl=>hq _ _ (h4 l hl)⟩
abbrev cG (K:Ab) (sq:Hp->Addr->List V->Prop):List V->Hp->VK->Prop:=λ xs H Q=>∃ p ys,∃ rows:List (List Int),xs=[.ref p]/\sq H p ys/\Paired (λ v r=>r≠[]/\∃ b,v=V.ref b/\zR K H b (r.map V.int)) ys rows/\rows.length<64/\
  ∀ (l:Addr) (idx:List Nat),H l=none->idx.Perm (List.range ys.length)->(idx.map λ i=>rows.getD i []).Pairwise (λ a b=>HT.lexLt b a=false)->Q (.ref l) (upd H l (.lst (idx.map λ i=>ys.getD i .zj)))
def yB.or {f:Value}{r r':List V->Hp->VK->Prop}(h:yB X f r) (h':yB X f r'):yB X f (λ xs H Q=>r xs H Q\/r' xs H Q):=λ pins s σ H xs us Q I rv q=>
 q.elim (λ q=>h pins s σ H xs us Q I rv q) λ q=>h' pins s σ H xs us Q I rv q
def rB.fits:tB K rB (λ xs H Q=>cG K (zL K) xs H Q\/cG K (zR K) xs H Q):=λ xs ds H S Q h0 h2 h=>by
 obtain⟨d,rows,rfl,e,h64,Aj,h⟩:=h
 obtain⟨x,hx,h1⟩:=h0.one;subst hx
 obtain⟨a,ys,rfl,g1,g2⟩:=yj.sq h1 h2 e
 have hl:=g2.length
 rw[Au] at hl
 have key:∀ (l:Addr) (idx:List Nat),H l=none->idx.Perm (List.range ys.length)->(idx.map λ i=>rows.getD i []).Pairwise (λ a b=>HT.lexLt b a=false)->Q (.ref l) (upd H l (.lst (idx.map λ i=>ys.getD i .zj))):=λ l idx hf hp hs=>by
  rw[<- hl] at hp
  have heq:=L4.dX (af hp) hs
  have hx:Ext H (upd H l (.lst (idx.map λ i=>ys.getD i .zj))):=.new hf _
  refine h l (h2.none hf) _ _ (by simp only[zg]) hx (h2.ups hx ⟨_,yd,?_⟩)
  rw[<- heq]
  exact zm.ext hx _ (g2.perm λ i hi=>by simpa using hp.mem_iff.mp hi)
 rcases g1 with g1 | g1
 ·exact .inl ⟨_,ys,rows,rfl,g1,oH g2 Aj,h64,key⟩
 ·exact .inr ⟨_,ys,rows,rfl,g1,oH g2 Aj,h64,key⟩
def bw (hm:X.mg "sorted"=none) (ha:xh X (e::es) tA) (hg:Gl X "sorted":=by rfl) (he:starEach (e::es) X.env=(false,eval e X.env)::starEach es X.env:=by rfl) (Ah:(backTo pos (starEach es X.env)).any (·.1)=false:=by rfl):PD X (.Call (.Name "sorted" p) (e::es) [] pos) (xG rB tA):=
 sZ (tQ (yB.or L4.O5 L4.O2) hg hm boot_sorted ha.pa (by decide) (by decide) he Ah) rB.mo rB.fits ha.mo
end
end L5
namespace L2
open PySem PySem.Spec PyProof.Rows
section
variable {X:Cx}
def uq (r:Addr) (j:Int):Heap->Prop:=λ h=>∃ t u v,IsRange h r 0 j 1 t u v
def OA:yB X (.type "range") (λ xs H Q=>∃ j,xs=[.int j]/\∀ r,H r=none->Q (.ref r) (upd H r (.ext (uq r j)))):=by
 intro pins s σ H xs us Q I r h
 obtain⟨j,rfl,q⟩:=h
 obtain⟨u,rfl,ru⟩:=vals1 r
 obtain⟨t,rfl⟩:=ru
 refine call_range_1 ⟨.ref s.heap.objs.size,_,I.laid (o:=.ext (uq s.heap.objs.size j)) (λ b o e=>za1 _ e) (Af _) ?_,rfl,q _ (I.zl.fresh (Af _))⟩
 have here:uq s.heap.objs.size j (s.heap.push { cls:=.type "range",data:=.fields #[.int 0 s.toks,.int j t,.int 1 (s.toks+1)] }):=⟨_,_,_,IsRange.new ..⟩
 refine⟨here,⟨_,AE _ rfl⟩,λ h1 h2 S k=>?_⟩
 obtain⟨a,b,c,e⟩:=S
 exact⟨a,b,c,k _ e⟩
def OE (hc:X.calm=true):yB X (.type "list") (λ xs H Q=>∃ r j,xs=[.ref r]/\H r=some (.ext (uq r j))/\0<=j/\j<=16777216/\∀ l,H l=none->Q (.ref l) (upd H l (.lst ((List.range j.toNat).map λ(k:Nat)=>V.int (k:Int))))):=by
 intro pins s σ H xs us Q I r h
 obtain⟨a,j,rfl,hr,h0,h1,q⟩:=h
 obtain⟨u,rfl,ru⟩:=vals1 r
 cases ru
 obtain⟨⟨t,u,v,hR⟩,-,-⟩:=(show yN X.prog X.w H s.heap a (.ext (uq a j)) from I.zl a _ hr)
 have hsz:Builtin.Range.rangeSize 0 j 1=((j.toNat:Nat):Int):=by rw[rangeSize_one];split <;> lia
 refine call_list_range (n:=j.toNat) (I.ok.hd hc) hR (small_one (by decide) (by decide) (by lia) (by lia)) hsz (by lia) λ h' tk acc c k e hi=>?_
 refine⟨.ref s.heap.objs.size,_,I.laid (o:=.lst ((List.range j.toNat).map λ(k:Nat)=>V.int (k:Int))) k (Af _) ⟨?_,acc.toList,c,?_,by simpa using e⟩,rfl,q _ (I.zl.fresh (Af _))⟩
 ·have:sizeLine=16777216:=rfl
  simp;lia
 ·obtain⟨hn,hi⟩:=hi
  refine ST.Paired.mk (by simp[hn]) λ i a b ha hb=>?_
  rw[Ax] at ha
  obtain⟨k',hk,rfl⟩:=AA.mp ha
  obtain⟨hk1,hk2⟩:=AD.mp hk
  simp at hk2
  subst hk2
  obtain⟨w,hw⟩:=hi i b (by simpa using hb)
  subst hw
  exact⟨w,by simp⟩
end
end L2
namespace L5
open PySem PySem.Spec L2 L3
open PyProof.Rows hiding St
section
variable {X:Cx}{K:Ab}{e:Expr}{tA:zY}{pos p pos2 p2:Pos}
def tZ:xB:=λ ds S Q=>∃ j:Int,ds=[.int j]/\0<=j/\j<=16777216/\∀ l,S l=none->Q (.ref l) (ups S l (.lst (vc 0 j.toNat)))
noncomputable def nD:List T->Option T
 | [.int j]=>if 0<=j/\j<=16777216 then some (.lst (rangeT 0 j.toNat)) else none
 | _=>none
def Pa:uw zE nD tZ:=λ S Z ys z ds Q hz hv e hq=>by
 unfold nD at e
 split at e
 ·obtain⟨d,rfl,h1⟩:=u5 hv
  split at e
  ·rename_i hc
   cases e
   cases h1.int
   exact⟨_,rfl,hc.1,hc.2,λ l hl=>hq _ _ (.new hl _) (sU hz hl (j4 _ _))⟩
  ·cases e
 ·cases e
def tZ.mo:uv tZ:=λ ds S Q Q' hq ⟨j,h0,h1,h2,h3⟩=>⟨j,h0,h1,h2,λ l hl=>hq _ _ (h3 l hl)⟩
def Vj {H:Hp}(n:Nat):zm K H (vc 0 n) ((List.range n).map λ(k:Nat)=>V.int (k:Int)):=by
 unfold vc
 induction List.range n with
 | nil=>exact .nil
 | cons k l ih=>exact .cons (by simp only[zg];rw[Int.zero_add]) ih
def tZ.fits:tB K tZ (λ xs H Q=>∃ j,xs=[.int j]/\∀ r,H r=none->∃ r' j',[V.ref r]=[.ref r']/\(upd H r (.ext (uq r j))) r'=some (.ext (uq r' j'))/\0<=j'/\j'<=16777216/\
  ∀ l,(upd H r (.ext (uq r j))) l=none->Q (.ref l) (upd (upd H r (.ext (uq r j))) l (.lst ((List.range j'.toNat).map λ(k:Nat)=>V.int (k:Int))))):=λ xs ds H S Q h0 h2 h=>by
 obtain⟨j,rfl,c1,c2,h⟩:=h
 obtain⟨x,hx,h1⟩:=h0.one;subst hx
 simp only[zg] at h1
 subst h1
 refine⟨j,rfl,λ r hr=>⟨r,j,rfl,yd,c1,c2,λ l hl=>?_⟩⟩
 have x1:Ext H (upd H r (.ext (uq r j))):=.new hr _
 have BW:l≠r:=λ z=>by subst z;rw[yd] at hl;cases hl
 have hlH:H l=none:=by rw[zG BW] at hl;exact hl
 have x2:Ext (upd H r (.ext (uq r j))) (upd (upd H r (.ext (uq r j))) l (.lst ((List.range j.toNat).map λ(k:Nat)=>V.int (k:Int)))):=.new hl _
 exact h l (h2.none hlH) _ _ (by simp only[zg]) (x1.trans x2) ((h2.new hr).ups x2 ⟨_,yd,Vj _⟩)
def UG (hm:X.mg "list"=none) (hm2:X.mg "range"=none) (ha:xh X [e] tA) (hc:X.calm=true:=by rfl) (hg:Gl X "list":=by rfl) (hg2:Gl X "range":=by rfl)
  (he2:starEach [e] X.env=(false,eval e X.env)::starEach [] X.env:=by rfl)
  (he:starEach [.Call (.Name "range" p2) [e] [] pos2] X.env=(false,eval (.Call (.Name "range" p2) [e] [] pos2) X.env)::starEach [] X.env:=by rfl) (Ah:(backTo pos (starEach [] X.env)).any (·.1)=false:=by rfl) (hpl2:(backTo pos2 (starEach [] X.env)).any (·.1)=false:=by rfl):
  PD X (.Call (.Name "list" p) [.Call (.Name "range" p2) [e] [] pos2] [] pos) (xG tZ tA):=by
 have h:=oX (p:=p) (OE hc) hg hm PyProof.Rows.boot_list (uS (oX OA hg2 hm2 boot_range ha.pa (by decide) (by decide) he2 hpl2) rf he) (by decide) (by decide) he Ah
 exact⟨xG.mo tZ.mo ha.mo,PE.imp h λ _ _ _ hu=>dI tZ.mo tZ.fits ha.mo hu⟩
end
end L5
namespace ST
open PySem PySem.SetTable PySem.Spec PyProof.Rows L2
def QG {us us':List Value}(p:us'.Perm us):∀ {ms:List Int},IntsAre us ms->∃ ms',IntsAre us' ms'/\ms'.Perm ms:=by
 induction p with
 | nil=>intro ms h;exact⟨ms,h,.refl _⟩
 | cons x _ ih=>
  intro ms h
  cases h with
  | cons n t h=>
   obtain⟨ms',h1,h2⟩:=ih h
   exact⟨n::ms',.cons n t h1,h2.cons n⟩
 | swap x y l=>
  intro ms h
  cases h with
  | cons n t h=>
   cases h with
   | cons m u h=>exact⟨m::n::_,.cons m u (.cons n t h),.swap _ _ _⟩
 | trans _ _ ih1 ih2=>
  intro ms h
  obtain⟨m1,h1,h2⟩:=ih2 h
  obtain⟨m2,h3,h4⟩:=ih1 h1
  exact⟨m2,h3,h4.trans h2⟩
def vH.at {prog:Program}{w:World}{h:Heap}{a:Addr}{xs:List (Int×Tok)}(S:vH prog w h a xs (v7 w)):yF w a (xs.map λ e=>Value.int e.1 e.2) h:=by
 obtain⟨⟨es,ep,t,ho,he,T,h1,h2,h3⟩,_⟩:=S
 have hm:7<=t.mask/\t.mask<=127:=by rcases T.mask with e | e | e <;> lia
 have hlen:es.size=xs.length:=by have:=congrArg List.length he;simpa using this
 exact⟨es,ep,t,⟨ho,fits_of (n:=xs.length) hlen T (by simp) (by lia),T.wy,h1,h2⟩,by rw[he,AQ];rfl⟩
theorem aZ:∀ xs:List (Int×Tok),IntsAre (xs.map λ e=>Value.int e.1 e.2) (xs.map (·.1))
 | []=>.nil
 | e::xs=>.cons e.1 e.2 (aZ xs)
theorem dy:∀ {us:List Value}{ns:List Int},IntsAre us ns->Vals (ns.map V.int) us
 | _,_,.nil=>.nil
 | _,_,.cons n t h=>.cons ⟨t,rfl⟩ (dy h)
section
variable {X:Cx}
def O7 (hc:X.calm=true):yB X (.type "set") (λ xs H Q=>∃ p,∃ ns:List Int,xs=[.ref p]/\zL X.K H p (ns.map V.int)/\ns.length<64/\
  ∀ (l:Addr) (us:List Value) (ms:List Int),H l=none->IntsAre us ms->ms.Nodup->(∀ n,n∈ms↔n∈ns)->Q (.ref l) (upd H l (.ext (yF X.w l us)))):=by
 intro pins s σ H xs us Q I r h
 obtain⟨p,ns,rfl,hq,h64,q⟩:=h
 obtain⟨u,rfl,ru⟩:=vals1 r
 cases ru
 obtain⟨its,rv,pl,hz⟩:=I.list hq
 have hl:=rv.length
 rw[Au] at hl
 have iA:IntsAre its ns:=intsAre_of rv
 have nums:Nums its.toArray ns:=λ i v hv=>by
  have hv':its[i]?=some v:=by simpa using hv
  have hi:i<ns.length:=by rw[hl];exact (AD.mp hv').1
  obtain⟨u,e1,t,e2⟩:=rv.get (i:=i) (x:=V.int ns[i]) (by simp[hi])
  rw[hv'] at e1;cases e1
  exact⟨ns[i],t,e2,by simp[hi]⟩
 have hh:X.A.handled=none:=I.ok.hd hc
 refine O8 (A:=X.A) hh pl.isList nums (by rw[Av];lia) λ h' tk xs S U k=>?_
 have kk:∀ b o,s.heap.get? b=some o->h'.get? b=some o:=λ b o e=>k b o (Ai e) e
 have hSO:=S.at
 refine⟨.ref s.heap.objs.size,_,I.laid (t':=tk) (o:=.ext (yF X.w s.heap.objs.size (xs.map λ e=>Value.int e.1 e.2))) kk (Af _) ?_,rfl,q _ _ (xs.map (·.1)) (I.zl.fresh (Af _)) (aZ xs) S.nd λ n=>⟨λ hn=>?_,λ hn=>?_⟩⟩
 ·obtain⟨es,ep,t,St,e⟩:=id hSO
  exact⟨hSO,⟨_,St.get⟩,λ h1 h2 S1 k=>S1.w_ k⟩
 ·obtain⟨e,he,rfl⟩:=An.mp hn
  obtain⟨j,_,hj⟩:=U.own e he
  exact Bb hj
 ·obtain⟨j,hj⟩:=Dq.mp hn
  exact U.all j n (by have:=(AD.mp hj).1;rw[Av];lia) hj
def O3 (hc:X.calm=true):yB X (.builtin "sorted") (λ xs H Q=>∃ l us,∃ ms:List Int,xs=[.ref l]/\H l=some (.ext (yF X.w l us))/\IntsAre us ms/\ms.length<64/\
  ∀ (p:Addr) (ns:List Int),H p=none->ns.Perm ms->ns.Pairwise (·<=·)->Q (.ref p) (upd H p (.lst (ns.map V.int)))):=by
 intro pins s σ H xs us0 Q I r h
 obtain⟨l,us,ms,rfl,hl,hm,h64,q⟩:=h
 obtain⟨u,rfl,ru⟩:=vals1 r
 cases ru
 obtain⟨⟨es,ep,t,S,eu⟩,-,-⟩:=(show yN X.prog X.w H s.heap l (.ext (yF X.w l us)) from I.zl l _ hl)
 have hlen:es.size=us.length:=by rw[<- eu];simp
 have hml:=hm.length
 have hh:X.A.handled=none:=I.ok.hd hc
 have hp:((comes X.w l es ep).toList.map (·.2)).Perm us:=by rw[<- eu];exact (pF X.w l es ep).map _
 obtain⟨ms',i1,i2⟩:=QG hp hm
 have AH:=hp.length_eq
 have hl24:sizeLine=16777216:=rfl
 refine dW (Out:=λ out=>∃ ns',IntsAre out.toList ns'/\ns'.Perm ms'/\ns'.Pairwise (·<=·)) hh S (by rw[hlen,hml];lia) (λ s6 h2 k=>L4.Oq i1 (by rw[AH,<- hlen];exact h2) (by rw[AH,hml];exact h64)) (λ h1=>⟨ms',by simpa using i1,.refl _,?_⟩) λ out h' tk p ho hs hp' k Ew=>?_
 ·have:ms'.length<2:=by rw[<- i1.length,AH,<- hlen];exact h1
  match ms',this with
  | [],_=>exact .nil
  | [_],_=>exact List.pairwise_singleton _ _
 ·obtain⟨ns,g1,g2,g3⟩:=ho
  obtain⟨e,he⟩:=Ew
  refine⟨.ref p,_,I.laid (t':=tk) (o:=.lst (ns.map V.int)) k hp' ?_,rfl,q p ns (I.zl.fresh hp') (g2.trans i2) g3⟩
  exact⟨by rw[Au,g2.length_eq,i2.length_eq];lia,out.toList,e,dy g1,by simpa using he⟩
end
end ST
namespace L5
open PySem PySem.Spec L2 L3
open PyProof.Rows hiding St
noncomputable def insI (n:Int):List Int->List Int
 | []=>[n]
 | m::l=>if n<m then n::m::l else if n=m then m::l else m::insI n l
noncomputable def wu:List Int->List Int
 | []=>[]
 | n::ns=>insI n (wu ns)
theorem i_ {n k:Int}:∀ {l:List Int},k∈insI n l↔k=n\/k∈l
 | []=>by simp[insI]
 | m::l=>by
  unfold insI
  split
  ·simp
  ·split
   ·rename_i h;subst h;simp
   ·rw[Ak,i_,Ak]
    constructor
    ·rintro (h | h | h)
     ·exact .inr (.inl h)
     ·exact .inl h
     ·exact .inr (.inr h)
    ·rintro (h | h | h)
     ·exact .inr (.inl h)
     ·exact .inl h
     ·exact .inr (.inr h)
theorem kc {k:Int}:∀ {l:List Int},k∈wu l↔k∈l
 | []=>.rfl
 | n::l=>by unfold wu;rw[i_,kc,Ak]
theorem Zb {n:Int}:∀ {l:List Int},l.Pairwise (· < ·)->(insI n l).Pairwise (· < ·)
 | [],_=>List.pairwise_singleton _ _
 | m::l,h=>by
  have h':=Bn.mp h
  unfold insI
  split
  ·rename_i c
   refine Bn.mpr ⟨λ x hx=>?_,h⟩
   rcases Ak.mp hx with e | e
   ·rw[e];exact c
   ·exact Int.lt_trans c (h'.1 x e)
  ·split
   ·exact h
   ·rename_i c1 c2
    refine Bn.mpr ⟨λ x hx=>?_,Zb h'.2⟩
    rcases i_.mp hx with e | e
    ·rw[e];lia
    ·exact h'.1 x e
theorem dF:∀ l:List Int,(wu l).Pairwise (· < ·)
 | []=>.nil
 | n::l=>Zb (dF l)
def XH {l m:List Int}(h1:l.Nodup) (h2:l.Pairwise (·<=·)) (h3:m.Pairwise (· < ·)) (h:∀ k,k∈l↔k∈m):l=m:=by
 have nm:m.Nodup:=h3.imp λ h e=>by lia
 refine L4.iy (r:=λ a b:Int=>a<=b) (λ a b p q=>by lia) ((DG h1 nm).mpr h) h2 (h3.imp λ h=>by lia)
section
variable {X:Cx}{K:Ab}{e:Expr}{tA:zY}{pos pos2 p p2:Pos}
def nN:xB:=λ ds S Q=>uD ds S Q\/∃ d,∃ ns:List Int,ds=[d]/\(∀ ts,d≠.tup ts)/\yj d S=some (ns.map D.int)/\ns.length<64/\∀ l,S l=none->Q (.ref l) (ups S l (.lst ((wu ns).map D.int)))
noncomputable def vQ:List T->Option T
 | [.lst ts]=>match vY ts with
  | some ns=>if ns.length<64 then some (.lst ((wu ns).map T.int)) else none
  | none=>l9 [.lst ts]
 | _=>none
def QV:uw zE vQ nN:=λ S Z ys z ds Q hz hv e hq=>by
 unfold vQ at e
 split at e
 ·split at e
  ·rename_i ns Bf
   split at e
   ·rename_i hc
    cases e
    cases nI Bf
    obtain⟨d,rfl,h1⟩:=u5 hv
    obtain⟨es,h2,h3⟩:=h1.seq rfl
    cases tL.mp h3
    refine .inr ⟨d,ns,rfl,?_,h2,hc,λ l hl=>hq _ _ (.new hl _) (sU hz hl (tL.mpr rfl))⟩
    obtain⟨_,q | ⟨a,q,_⟩,_⟩:=h1.lst <;> subst q <;> exact λ _=>nofun
   ·cases e
  ·exact .inl (QW S Z _ z ds Q hz hv e hq)
 ·cases e
theorem nN.mo:uv nN:=λ ds S Q Q' hq h=>by
 rcases h with h | ⟨d,ns,h1,h2,h3,h4,h5⟩
 ·exact .inl (uD.mo ds S Q Q' hq h)
 ·exact .inr ⟨d,ns,h1,h2,h3,h4,λ l hl=>hq _ _ (h5 l hl)⟩
def Pp {w:World}{xs:List V}{H:Hp}{S:SS}{Q:VK}{d:D}{ns:List Int}(h0:zm K H [d] xs) (h2:zC K H S) (hn:∀ ts,d≠.tup ts) (e:yj d S=some (ns.map D.int)) (h64:ns.length<64) (h:∀ l,S l=none->xX K H Q (.ref l) (ups S l (.lst ((wu ns).map D.int)))):
  ∃ p,∃ ns':List Int,xs=[.ref p]/\zL K H p (ns'.map V.int)/\ns'.length<64/\
   ∀ (l:Addr) (us:List Value) (ms:List Int),H l=none->IntsAre us ms->ms.Nodup->(∀ n,n∈ms↔n∈ns')->
    ∃ l' us',∃ ms':List Int,[V.ref l]=[.ref l']/\(upd H l (.ext (ST.yF w l us))) l'=some (.ext (ST.yF w l' us'))/\IntsAre us' ms'/\ms'.length<64/\
     ∀ (p:Addr) (ns:List Int),(upd H l (.ext (ST.yF w l us))) p=none->ns.Perm ms'->ns.Pairwise (·<=·)->Q (.ref p) (upd (upd H l (.ext (ST.yF w l us))) p (.lst (ns.map V.int))):=by
 obtain⟨x,hx,h1⟩:=h0.one;subst hx
 obtain⟨a,ys,rfl,g1,g2⟩:=qQ h1 h2 e hn
 rw[g2.ints] at g1
 refine⟨a,ns,rfl,g1,h64,λ l us ms hf hi nd AY=>⟨l,us,ms,rfl,yd,hi,?_,λ p ns2 hp pm srt=>?_⟩⟩
 ·have:=ST.iT ms ns nd λ x hx=>(AY x).mp hx
  lia
 ·have x1:Ext H (upd H l (.ext (ST.yF w l us))):=.new hf _
  have Ah:p≠l:=λ z=>by subst z;rw[yd] at hp;cases hp
  have hpH:H p=none:=by rw[zG Ah] at hp;exact hp
  have x2:Ext (upd H l (.ext (ST.yF w l us))) (upd (upd H l (.ext (ST.yF w l us))) p (.lst (ns2.map V.int))):=.new hp _
  have heq:ns2=wu ns:=XH (pm.nodup_iff.mpr nd) srt (dF ns) λ k=>by rw[pm.mem_iff,AY,kc]
  refine h p (h2.none hpH) _ _ (by simp only[zg]) (x1.trans x2) ((h2.new hf).ups x2 ⟨_,yd,?_⟩)
  rw[<- heq]
  exact zm.iP ns2
def i5 {k:Nat}(hr:zV k X.A) (hm:X.mg "sorted"=none) (hm2:X.mg "set"=none) (ha:xh X [e] tA) (hc:X.calm=true:=by rfl) (hg:Gl X "sorted":=by rfl) (hg2:Gl X "set":=by rfl)
  (he2:starEach [e] X.env=(false,eval e X.env)::starEach [] X.env:=by rfl)
  (he:starEach [.Call (.Name "set" p2) [e] [] pos2] X.env=(false,eval (.Call (.Name "set" p2) [e] [] pos2) X.env)::starEach [] X.env:=by rfl) (Ah:(backTo pos (starEach [] X.env)).any (·.1)=false:=by rfl) (hpl2:(backTo pos2 (starEach [] X.env)).any (·.1)=false:=by rfl):
  PD X (.Call (.Name "sorted" p) [.Call (.Name "set" p2) [e] [] pos2] [] pos) (xG nN tA):=by
 have h:=tQ (p:=p) (yB.or (ST.O4 hc) (ST.O3 hc)) hg hm boot_sorted (uS (oX (yB.or (ST.O6 hc hr.units) (ST.O7 hc)) hg2 hm2 PyProof.Rows.boot_set ha.pa (by decide) (by decide) he2 hpl2) rf he) (by decide) (by decide) he Ah
 refine⟨xG.mo nN.mo ha.mo,PE.imp h fun σ H Q hu=>?_⟩
 obtain⟨Y,S,r1,r2,z⟩:=hu
 refine xO.go ha.mo r1 r2 z λ ds S1 xs H1 h1 q1 e1 p1=>?_
 rcases h1 with h1 | ⟨d,ns,rfl,c1,c2,c3,h1⟩
 ·obtain⟨p,ys,rows,a1,a2,a3,a4,a5⟩:=uD.fits (w:=X.w) xs ds H1 S1 Q q1 p1 (uD.mo ds S1 _ _ (λ d S' z=>z.ext e1) h1)
  exact .inl ⟨p,ys,rows,a1,a2,a3,a4,λ l us vs rs b1 b2 b3=>.inl (a5 l us vs rs b1 b2 b3)⟩
 ·obtain⟨p,ns',a1,a2,a3,a4⟩:=Pp (w:=X.w) q1 p1 c1 c2 c3 (λ l hl=>(h1 l hl).ext e1)
  exact .inr ⟨p,ns',a1,a2,a3,λ l us ms b1 b2 b3 b4=>.inr (a4 l us ms b1 b2 b3 b4)⟩
end
end L5
namespace L5
open PySem L2 L3
def gD:Good2 zE rq gW:=gE (λ _ _ _=>vb) λ _ _ _=>nofun
def gF:Good2 zE gK gX:=gE (λ _ _ _=>vb) λ _ _ _=>nofun
end L5
namespace L3
open PySem PyProof.Rows L2
section
variable {X:Cx}{pos:Pos}
noncomputable def wE (E:tE) (W:Nat->zU->SS->Prop) (m:Nat):tE:={ E with nx:=fun Y' S'=>∃ m',m'<m/\W m' Y' S',ct:=fun Y' S'=>∃ m',m'<m/\W m' Y' S',bk:=E.nx }
def nW (c:y6) (tb:yg):yg:=λ E Y S=>∃ W:Nat->zU->SS->Prop,(∃ m,W m Y S)/\∀ m Y S,W m Y S->
 c Y S λ b S1=>if b=true then tb (wE E W m) Y S1 else E.nx Y S1
def nW.mo {c:y6}{tb:yg}(hc:wI c) (hb:uu tb):uu (nW c tb):=λ E E' Y S hE ⟨W,w0,ws⟩=>
 ⟨W,w0,λ m Y S hw=>hc Y S _ _ (λ b S1 z=>we (λ z=>hb (wE E W m) (wE E' W m) Y S1 ⟨λ _ _ q=>q,hE.rt,hE.nx,λ _ _ q=>q⟩ z) (λ z=>hE.nx _ _ z) z) (ws m Y S hw)⟩
def bp {c:Expr}{body:List Stmt}{tc:y6}{tb:yg}(hp:PassesOwn (model X.prog X.w) X.A X.env X.xe) (hc:xo X c tc) (hb:ur X body tb):vm X (.While c body [] pos) (nW tc tb):=by
 refine⟨nW.mo hc.mo hb.mo,PS.imp (V6 hp hc.pt hb.ps) λ D σ H hu=>?_⟩
 obtain⟨Y,S,r1,r2,W,⟨m0,w0⟩,ws⟩:=hu
 refine⟨λ m σ' H'=>Ext H H'/\∃ Y S,yq X.K H' Y σ'/\zC X.K H' S/\W m Y S,⟨m0,.refl _,Y,S,r1,r2,w0⟩,?_⟩
 rintro m σ2 H2 ⟨x2,Y2,S2,q1,q2,w2⟩
 refine xN.go hc.mo q1 q2 (ws m Y2 S2 w2) λ k S3 H3 h3 e3 p3=>we (λ z=>?_) (λ z=>?_) h3
 ·refine⟨fun σ' H'=>Ext H H'/\∃ Y S m',m'<m/\yq X.K H' Y σ'/\zC X.K H' S/\W m' Y S,fun σ' H' ⟨a,Y',S',m',b,c,d,e⟩=>⟨m',b,a,Y',S',c,d,e⟩,Y2,S3,q1.ext e3,p3,?_⟩
  exact hb.mo (wE (vC X.K H D) W m) _ Y2 S3 ⟨fun Y5 S5 ⟨m',b,w5⟩ σ5 H5 b1 b2 b3=>⟨(x2.trans e3).trans b2,Y5,S5,m',b,b1,b3,w5⟩,λ _ _ q=>xX.ext (x2.trans e3) q,λ _ _ q=>xn.ext (x2.trans e3) q,fun Y5 S5 ⟨m',b,w5⟩ σ5 H5 b1 b2 b3=>⟨(x2.trans e3).trans b2,Y5,S5,m',b,b1,b3,w5⟩⟩ z
 ·exact z σ2 H3 (q1.ext e3) (x2.trans e3) p3
end
end L3
namespace L5
open PySem PyProof.Rows L2 L3
noncomputable def wc (is:List Nat) (c:Ev->Option Bool) (b:Sm):Nat->Ev->Option Out
 | 0,_=>none
 | n+1,J=>(c (yA is J)).bind λ k=>if k=true then (b (yA is J)).bind λ o=>match o with
   | .nx J2=>wc is c b n J2
   | .ct J2=>wc is c b n J2
   | .bk J2=>some (.nx (yA is J2))
   | .rt t=>some (.rt t)
  else some (.nx (yA is J))
def oo (n:Nat) (is:List Nat) (c:Ev->Option Bool) (b:Sm):Sm:=wc is c b n
def Tv {R:Rk} [Lo R] {n:Nat}{is:List Nat}{c:Ev->Option Bool}{tc:y6}{b:Sm}{tb:yg}(hc:wX c tc) (hb:yh R b tb):yh R (oo n is c b) (nW tc tb):=λ S0 Z0 S Z Y J o E F e P=>by
 obtain⟨SB,b1,FB,b2⟩:=F.rebase
 have lo:∀ S' d y,R SB S' Z0 y d->R S0 S' Z0 y d:=λ S' d y r=>Lo.lo b1 (λ _ z=>z) r
 refine⟨λ m Y' S'=>∃ Z' J',FR SB Z0 S' Z' Y' J'/\wc is c b m J'=some o,⟨n,Z,J,FB,e⟩,λ m Y' S' ⟨Z',J',F',e'⟩=>?_⟩
 cases m with
 | zero=>cases e'
 | succ m=>
  unfold wc at e'
  obtain⟨k,c1,e'⟩:=Ag.mp e'
  have G:=F'.yA is
  refine hc S' Z' Y' _ k _ G.er c1 λ S3 s3=>?_
  cases k with
  | true=>
   rw[if_pos rfl] at e' ⊢
   obtain⟨o1,g2,e'⟩:=Ag.mp e'
   refine hb SB Z0 S3 Z' Y' _ o1 _ (G.grow s3) g2 ?_
   cases o1 with
   | nx J2=>exact λ S3 Z3 Y3 F3=>⟨m,Ce m,Z3,J2,F3,e'⟩
   | ct J2=>exact λ S3 Z3 Y3 F3=>⟨m,Ce m,Z3,J2,F3,e'⟩
   | bk J2=>cases e';exact λ S3 Z3 Y3 F3=>P S3 Z3 Y3 ((F3.yA is).back b1 F.z0)
   | rt y=>cases e';exact λ d S3 s3 r3=>P d S3 (b1.trans s3) (lo _ _ _ r3)
  | false=>
   rw[if_neg (by decide)] at e' ⊢
   cases e'
   exact P S3 Z' Y' ((G.grow s3).back b1 F.z0)
end L5
namespace ZP
open PySem PyProof.Rows
def RJ (k:Bool) (l:Addr) (xs:Array Value):Meets (Builtin.«enumerate.__new__» ⟨[.type "enumerate",.ref l],[]⟩) (λ _ R s=>SQ s.heap k l xs/\
   R (.ok (.ret (.ref (s.heap.push (nG k l)).objs.size))) { s with heap:=(s.heap.push (nG k l)).push { cls:=.type "enumerate",data:=.fields #[.none,.bool false,.ref s.heap.objs.size,rawInt 0,.none,.none] } }):=
 .of_wp λ prog w A R s h=>by
  obtain⟨hp,g,d,tk,os⟩:=s
  obtain⟨q,h⟩:=h
  have hsub:=sub_enumerate
  have hL:SQ (Shared.heap ⟨hp,g,d,tk,os⟩) k l xs:=q
  obtain⟨⟨c,zI,dt,sl⟩,hl,hc⟩:=q.cls
  replace hc:c=.type (cond k "tuple" "list"):=hc
  subst hc
  wp_walk using AutoSeq1.wpAny_loadPart' hl
  refine wpAny_stack_any λ st=>Ac ?_
  split
  ·rename_i c _ _ _ _ _
   cases (c == Value.type "enumerate")
   ·wp_walk using AutoSeq1.wpAny_loadPart' hl,made hL
    exact⟨_,rfl,h⟩
   ·wp_walk using AutoSeq1.wpAny_loadPart' hl,made hL
    exact⟨_,rfl,h⟩
  ·wp_walk using AutoSeq1.wpAny_loadPart' hl,made hL
   exact⟨_,rfl,h⟩
section
variable {prog:Program}{w:World}{A:Around}{E:Value->Shared->Prop}{s:Shared}
def PJ {k:Bool}{l:Addr}{xs:Array Value}{Q:Value->Shared->Prop}(hL:SQ s.heap k l xs)
  (h:∀ h',IsEnum h' (s.heap.objs.size+1) s.heap.objs.size 0 .none->SI h' k s.heap.objs.size l 0->(∀ b o,s.heap.get? b=some o->h'.get? b=some o)->Q (.ref (s.heap.objs.size+1)) { s with heap:=h' }):
  wpAny (model prog w) A (call (.type "enumerate") [.ref l]) Q E s:=by
 refine callType_new F.called_enumerate (by decide) (F.typeCall_enumerate_1 _) (F.newCall_enumerate_1 _) (λ obj=>F.args_object_init_2 obj _) F.entry_enumerate_new (RJ k l xs) ⟨hL,?_⟩
 have hz:(s.heap.push (nG k l)).objs.size=s.heap.objs.size+1:=Heap.size_push ..
 show _/\_
 rw[hz]
 have he:IsEnum ((s.heap.push (nG k l)).push { cls:=.type "enumerate",data:=.fields #[.none,.bool false,.ref s.heap.objs.size,rawInt 0,.none,.none] }) (s.heap.objs.size+1) s.heap.objs.size 0 .none:=by
  have:=AE (s.heap.push (nG k l)) (o:={ cls:=.type "enumerate",data:=.fields #[.none,.bool false,.ref s.heap.objs.size,rawInt 0,.none,.none] }) rfl
  rw[hz] at this;exact this
 exact⟨⟨_,he,rfl⟩,h _ he ⟨_,za1 _ (AE _ rfl),rfl,rfl⟩ λ b o x=>za1 _ (za1 _ x)⟩
def PU (hh:A.handled=none) (k:Bool) (it l:Addr) (Aj:l≠it) (xs:Array Value):Draws prog w A it [it,l] xs.size (λ i v=>xs[i]?=some v) (λ i h=>SI h k it l i/\SQ h k l xs) where
 live:=λ _ _ st=>let ⟨o,ho,_⟩:=st.1;⟨o,ho⟩
 frame:=λ _ _ _ st hk=>⟨st.1.on λ o e=>hk it (by simp) o e,st.2.on λ o e=>hk l (by simp) o e⟩
 item:=λ i s Q E hi st hQ=>draw st.1 st.2 (x:=xs[i]) (by simp[hi]) λ h' El hs'=>hQ _ h' s.toks (by simp[hi]) ⟨El,st.2.on λ o e=>(hs'.2 l Aj).trans e⟩ hs'
 done:=λ s Q E st hE=>ZG hh st.1 st.2 (by simp) hE
end
end ZP
namespace L2
open PySem PySem.Spec PyProof.Rows ZP
section
variable {X:Cx}{pins:List (Addr×Obj)}{σ:St}{H:Hp}{s:Shared}
def YB (K:Ab) (k:Bool) (a:Addr):It:=
 ⟨λ i H=>∃ xs x,tw K H k a xs/\xs[i]?=some x,
   λ i H v H'=>∃ p x,v=.ref p/\H p=none/\H'=upd H p (.tup [.int i,x])/\∀ xs,tw K H k a xs->xs[i]?=some x,
   λ i H=>∃ xs,tw K H k a xs/\xs.length<=i⟩
def XY {P:Program}{w:World}{K:Ab}{es:List Expr}{kk} {pos:Pos}{k:Bool}{e it a:Addr}(Es:e≠it) (hea:e≠a) (hai:a≠it):
  Turn P w K (.Tuple es kk pos) (YB K k a) [e,it] e (λ i h=>(∃ old,IsEnum h e it i old)/\SI h k it a i) where
 mem:=by simp
 obj:=λ i h st b hb=>by
  obtain⟨⟨old,q1⟩,o1,q2,_,d1⟩:=st
  simp only[Ak,B_,or_false] at hb
  rcases hb with e | e <;> subst e
  ·exact⟨_,q1,λ v z=>by cases z⟩
  ·exact⟨_,q2,λ v z=>by rw[d1] at z;cases z⟩
 keep:=λ i h h' st k=>⟨let ⟨old,q⟩:=st.1;⟨old,k e (by simp) _ q⟩,st.2.on λ o q=>k it (by simp) o q⟩
 item:=by
  intro X hP hw hK hc i pins s σ H E I hf st hg
  subst hP hw hK
  obtain⟨xs,x,g1,hx⟩:=hg
  obtain⟨its,rv,q1⟩:=g1.of I
  obtain⟨u1,e1,r1⟩:=rv.get hx
  obtain⟨⟨old,he⟩,si⟩:=st
  have Al:i<its.toArray.size:=by have:=(AD.mp e1).1;simpa using this
  have D:=PU (prog:=X.prog) (w:=X.w) (A:=X.A.in1) (show X.A.in1.handled=none from I.ok.hd hc) k it a hai its.toArray
  refine wpAny_pyNext_enum_itemD D he ⟨si,q1⟩ Al Es (by simp[Es,hea]) λ u h' tk hP ho hs' hT hsz hk=>⟨_,rfl,?_⟩
  have hu:u=u1:=by simp only[List.getElem?_toArray,e1] at hP;exact (A4 hP).symm
  subst hu
  have nT:s.heap.objs.size∉[e,it]:=λ hb=>by
   simp only[Ak,B_,or_false] at hb
   obtain⟨oi,qi,_⟩:=si
   rcases hb with z | z
   ·exact absurd (Ai he) (by rw[<- z];exact Cf _)
   ·exact absurd (Ai qi) (by rw[<- z];exact Cf _)
  have ne:s.heap.objs.size≠e:=λ z=>nT (by simp[z])
  refine wpAny_letOwnedTupleGo_enum ho λ h2 he2 sb=>?_
  have fr:H s.heap.objs.size=none:=I.zl.fresh (Af _)
  have I1:Inv X pins σ (upd H s.heap.objs.size (.tup [.int i,x])) { s with heap:=s.heap.push { cls:=.type "tuple",data:=.seq [.int i tk,u].toArray },toks:=s.toks }:=
   I.laid (o:=.tup [.int i,x]) (λ b u q=>za1 _ q) (Af _) ⟨by show 2<=sizeLine;decide,[.int i tk,u],.cons ⟨tk,rfl⟩ (.cons r1 .nil),IsTup.new _ _⟩
  have hf':∀ b∈[e,it],upd H s.heap.objs.size (.tup [.int i,x]) b=none:=λ b hb=>by
   rw[zG (λ z=>nT (by rw[<- z];exact hb))]
   exact (hf b hb).1
  have kk:∀ b o,b∉[e,it]->(s.heap.push { cls:=.type "tuple",data:=.seq [.int i tk,u].toArray }).get? b=some o->h2.get? b=some o:=λ b o hb q=>by
   have Bi:b≠e:=λ z=>hb (by simp[z])
   have hbi:b≠it:=λ z=>hb (by simp[z])
   by_cases hbs:b=s.heap.objs.size
   ·subst hbs
    rw[AE _ rfl] at q
    cases q
    exact sb.extBut _ _ Bi hT
   ·have q':s.heap.get? b=some o:=by rw[Heap.get?_push_ne _ _ _ hbs] at q;exact q
    exact sb.extBut _ _ Bi (hk b o Bi hbi q')
  have I2:=Inv.dM (h':=h2) (t':=tk+1) (fp:=[e,it]) I1 kk λ b hb=>⟨hf' b hb,(hf b hb).2⟩
  refine⟨.ref s.heap.objs.size,_,I2,rfl,⟨_,x,rfl,fr,rfl,λ zs hz=>by rw[hz.inj I g1];exact hx⟩,⟨⟨_,by simpa using he2⟩,hs'.1.on λ o q=>(sb.2 it (Ne.symm Es)).trans q⟩,hf'⟩
 done:=by
  intro X hP hw hK hc i pins s σ H E I hf st hg
  subst hP hw hK
  obtain⟨xs,g1,hx⟩:=hg
  obtain⟨its,rv,q1⟩:=g1.of I
  have l1:=rv.length
  obtain⟨⟨old,he⟩,si⟩:=st
  have hT:s.TypeIs (.ref e) "enumerate":=⟨_,he,rfl⟩
  unfold pyNext
  refine za0 (wpAny_attempt (zaM (name:=Str.ofString "__next__") hT F.slot_enumerate_next
   (zaF F.slot_enumerate_next hT F.entry_enumerate_next ?_ (F.args_enumerate_next_1 _))))
  show wpAny _ _ (field (.ref e) 2 >>= _) _ _ _
  refine za0 (zaA he rfl (x:=.ref it) rfl ?_)
  refine za0 (ZG (show X.A.in1.handled=none from I.ok.hd hc) si q1 (by simp;lia) λ h' x he' hx'=>?_)
  obtain⟨o,ho,hc⟩:=hx'
  refine za0 (wpAny_isInstance (T:="StopIteration") (b:=true) ⟨o,ho,hc⟩ isSubtype_stop ?_)
  exact Ac ⟨rfl,I.dM (t':=s.toks) (fp:=[e,it]) (λ b o hb q=>he' b o (λ z=>hb (by simp[z])) q) hf⟩
 self:=λ _ _ _ _ _ st h=>let ⟨_,q⟩:=st.1;wpAny_pyIter_enum q h
def QK (K:Ab) (ta:TA):TI:=fun σ H R=>ta σ H λ vs H1=>∃ a k,vs=[.ref a]/\(∃ xs,tw K H1 k a xs)/\R (YB K k a) H1
def VP {a:Expr}{ta:TA}{p pos pos':Pos}{es:List Expr}{kk} (hg:Gl X "enumerate") (hm:X.mg "enumerate"=none) (ha:PA X [a] ta) (hs:starEach [a] X.env=[(false,eval a X.env)]:=by rfl):
  PI X (.Tuple es kk pos') (.Call (.Name "enumerate" p) [a] [] pos) (QK X.K ta):=by
 intro pins s σ H R I h
 refine Call_ (pz I hg hm boot_enumerate (PyProof.Rows.callWith_type1 (zw (ha pos pins s σ H _ I h) λ us s1 ⟨vs,H1,I1,r1,q1⟩=>?_) (by rw[hs];rfl) rfl))
 obtain⟨a1,k,rfl,⟨xs,g1⟩,q⟩:=q1
 cases r1 with
 | cons r rr=>
  cases rr
  cases r
  obtain⟨it1,_,q1⟩:=g1.of I1
  have la:=q1.lt
  refine ZP.PJ q1 λ h' E S up=>wpAny_pyIter_enum E ?_
  have nw:∀ b∈[s1.heap.objs.size+1,s1.heap.objs.size],s1.heap.objs.size<=b:=λ b hb=>by
   simp only[Ak,B_,or_false] at hb
   rcases hb with z | z <;> rw[z]
   ·exact Cr _
   ·exact Af _
  exact⟨_,[s1.heap.objs.size+1,s1.heap.objs.size],_,_,H1,rfl,I1.kept (t':=s1.toks) up,XY (Nat.succ_ne_self _) (BB (Bz la)) (Ap la),⟨⟨_,E⟩,S⟩,λ b hb=>I1.gQ (nw b hb) (I1.zl.fresh (nw b hb)),q⟩
end
end L2
namespace L5
open PySem PySem.Spec L2 L3
open PyProof.Rows hiding St
noncomputable def tj (k:Nat):List D->List D
 | []=>[]
 | d::ds=>.tup [.int k,d]::tj (k+1) ds
noncomputable def rE (k:Nat):List T->List T
 | []=>[]
 | d::ds=>.tup [.int k,d]::rE (k+1) ds
theorem ZC:∀ (ds:List D) (k i:Nat),(tj k ds)[i]?=(ds[i]?).map λ d=>D.tup [.int ((k+i:Nat):Int),d]
 | [],k,i=>by simp[tj]
 | d::ds,k,0=>by simp[tj]
 | d::ds,k,i+1=>by
  unfold tj
  rw[DI,DI,ZC ds (k+1) i,show k+1+i=k+(i+1) from by lia]
theorem ZA:∀ (ds:List D) (k:Nat),(tj k ds).length=ds.length
 | [],k=>rfl
 | d::ds,k=>by unfold tj;rw[AR,ZA ds];rfl
theorem d_ {S:SS}:∀ {ts:List T}{ds:List D}(k:Nat),zk S ts ds->zk S (rE k ts) (tj k ds)
 | [],ds,k,h=>by simp only[zk] at h;subst h;exact zk.nil
 | t::ts,ds,k,h=>by
  simp only[zk] at h
  obtain⟨c,cs,rfl,h1,h2⟩:=h
  exact zk.cons (o7 (zk.cons (by simp only[Sn]) (zk.cons h1 zk.nil))) (d_ (k+1) h2)
section
variable {X:Cx}{a:Expr}{tA:zY}{pos p pos':Pos}{es:List Expr}{kk:Nat}
def aG (t:zY):wq:=fun Y S R=>t Y S λ ds S1=>∃ d xs,ds=[d]/\yj d S1=some xs/\R ⟨tj 0 xs,λ S=>yj d S=some xs⟩ S1
def bu (hm:X.mg "enumerate"=none) (ha:xh X [a] tA) (hg:Gl X "enumerate":=by rfl) (hs:starEach [a] X.env=[(false,eval a X.env)]:=by rfl):
  sE X (.Tuple es kk pos') (.Call (.Name "enumerate" p) [a] [] pos) (aG tA):=by
 refine⟨fun Y S Q Q' hq z=>ha.mo Y S _ _ (λ ds S1 ⟨d,xs,h1,h2,h4⟩=>⟨d,xs,h1,h2,hq _ _ h4⟩) z,PI.imp (VP hg hm ha.pa hs) fun σ H R hu=>?_⟩
 obtain⟨Y,S,r1,r2,z⟩:=hu
 refine xO.go ha.mo r1 r2 z λ ds S1 vs H1 h1 q1 e1 p1=>?_
 obtain⟨d,xs,rfl,s1,h⟩:=h1
 obtain⟨v,rfl,d1⟩:=q1.one
 obtain⟨a1,us,rfl,g1,g2⟩:=yj.k d1 p1 s1
 refine⟨a1,gi d,rfl,⟨us,g1⟩,h _ H1 e1 p1 λ i H2 S2 x1 x2 hk=>?_⟩
 obtain⟨b1,us2,q1,m1,m2⟩:=yj.k (zg.ext x1 d d1) x2 hk
 cases q1
 have l1:=m2.length
 refine⟨λ dd hd=>?_,λ hl=>⟨us2,m1,?_⟩⟩
 ·rw[ZC,Nat.zero_add] at hd
  obtain⟨dx,hx,rfl⟩:=AA.mp hd
  obtain⟨x,hx',rx⟩:=m2.get hx
  refine⟨⟨us2,x,m1,hx'⟩,λ v H' q=>?_⟩
  obtain⟨pp,x',rfl,hp,rfl,f1⟩:=q
  have ex:x'=x:=by have:=f1 _ m1;rw[hx'] at this;exact (A4 this).symm
  subst ex
  refine⟨.new hp _,x2.new hp,?_⟩
  simp only[zg]
  exact⟨pp,_,rfl,zR.of yd,zm.ext (.new hp _) _ (.cons (by simp only[zg]) (.cons rx .nil))⟩
 ·have hl':(tj 0 xs).length<=i:=hl
  rw[ZA] at hl'
  lia
@[simp] noncomputable def rF:List T->Option (List T)
 | [x]=>(wK x).map λ xs=>rE 0 xs
 | _=>none
def TH {g:Ev->Option (List T)}(h:qB g tA):q8 false (ve rF g) (aG tA):=λ S Z Y J ts Q hE e hq=>by
 obtain⟨ys,e1,e2⟩:=Ag.mp e
 refine h S Z Y J ys _ hE e1 λ ds S1 s1 r1=>?_
 unfold rF at e2
 split at e2
 ·obtain⟨xs,e3,rfl⟩:=AA.mp e2
  obtain⟨d,rfl,h1⟩:=u5 r1
  obtain⟨es,g1,g2⟩:=h1.seq e3
  exact⟨d,es,rfl,g1,hq _ S1 s1 (d_ 0 g2) λ S'' s=>yj.sx g1 s⟩
 ·cases e2
end
end L5
namespace TM
open PySem PyProof.Rows
def Od (i:Int) (t:Tok) (l:Addr) (items:Array Value) (n:Nat) (dd:Option Addr) (sl:Array (Option Value)):
  Meets (Builtin.«int.__rmul__» ⟨[.int i t,.ref l],[]⟩) (λ _ R s=>s.heap.get? l=some { cls:=.type "list",dict:=dd,data:=.seq items n,slots:=sl }/\R (.ok (.ret Value.notImplemented)) s):=
 .of_wp λ prog w A R s h=>by
  obtain⟨hp,g,d,tk,os⟩:=s
  obtain⟨hl,h⟩:=h
  wp_walk
  exact⟨_,rfl,h⟩
def mulL (l:Addr) (items:Array Value) (n:Nat) (x:Int) (u:Tok) (dd:Option Addr) (sl:Array (Option Value)) (hc0:¬(!Builtin.List.listFitsIndex x)=true) (hc1:¬items.size*x.toNat>(2 ^ 63-1)/8) (hc2:¬Builtin.List.listTooLong (items.size*x.toNat)=true):
  Meets (Builtin.«list.__mul__» ⟨[.ref l,.int x u],[]⟩) (λ _ R s=>s.heap.get? l=some { cls:=.type "list",dict:=dd,data:=.seq items n,slots:=sl }/\R (.ok (.ret (Value.ref s.heap.objs.size))) { s with heap:=s.heap.push { cls:=.type "list",data:=.seq (List.foldl (λ x1 x2=>x1++x2) #[] (List.replicate (if items.isEmpty=true then 0 else x.toNat) items)) } }):=
 .of_wp λ prog w A R s h=>by
  obtain⟨hp,g,d,tk,os⟩:=s;obtain⟨hl,h⟩:=h
  have hsz:=AutoListH.joined_fits hc2
  wp_walk;refine wpAny_ite_false (za4 (Nat.not_lt.mpr hsz)) ?_;wp_walk;exact⟨_,rfl,h⟩
section
variable {prog:Program}{w:World}{A:Around}{E:Value->Shared->Prop}{s:Shared}
def Wb {l:Addr}{its:List Value}{k:Int}{t:Tok}{Q:Value->Shared->Prop}(ht:PlainL s.heap l its.toArray) (Aj:its≠[]) (h0:0<=k) (hz:its.length*k.toNat<=sizeLine)  (hk:k<=1000000)
  (more:Q (.ref s.heap.objs.size) { s with heap:=s.heap.push { cls:=.type "list",data:=.seq (List.replicate k.toNat its).flatten.toArray } }):
  wpAny (model prog w) A (binaryOp .Mult (.ref l) (.int k t)) Q E s:=by
 obtain⟨⟨cls,dd,data,sl⟩,n,ho,hc,he,hd⟩:=id ht
 simp only at hc hd he
 subst hc hd he
 have hl:sizeLine=16777216:=rfl
 have DD:its.toArray.isEmpty=false:=by cases its with
  | nil=>exact absurd rfl Aj
  | cons a r=>rfl
 have hf:List.foldl (λ x1 x2=>x1++x2) #[] (List.replicate (if its.toArray.isEmpty=true then 0 else k.toNat) its.toArray)=(List.replicate k.toNat its).flatten.toArray:=by
  rw[DD,if_neg (by decide)]
  have:=gR its k.toNat #[]
  simpa using this
 refine wpAny_binaryOp_repeat_ref (T:="list") (U:="int") (by decide) ⟨_,ho,rfl⟩ (λ s'=>typeIs_int s' k t) noFill_list_mul F.fills_int_mul F.slot_int_rmul repeat_list F.slot_int_index.lookup
  (call_meets F.slot_int_rmul (typeIs_int s k t) F.entry_int_rmul (F.args_int_rmul_2 _ _) (Od k t l its.toArray n none sl)
   ⟨ho,rfl,⟨_,ho,rfl⟩,call_meets F.slot_list_mul ⟨_,ho,rfl⟩ F.entry_list_mul (F.args_list_mul_2 _ _)
    (mulL l its.toArray n k t none sl (by simp[Builtin.List.listFitsIndex];lia) (by simp;lia) (by simp[Builtin.List.listTooLong];lia)) ⟨ho,?_⟩⟩)
 rw[hf];exact more
end
end TM
namespace L2
open PySem PySem.Spec PyProof.Rows
def ik (K:Ab):R2:=λ x y H Q=>∃ a k xs,x=.ref a/\y=.int k/\zL K H a xs/\xs≠[]/\0<=k/\k<=1000000/\xs.length*k.toNat<=sizeLine/\∀ p,H p=none->Q (.ref p) (upd H p (.lst (List.replicate k.toNat xs).flatten))
def Ta {X:Cx}:zS X (binaryOp .Mult) (ik X.K):=by
 intro pins s σ H x y v u Q I rx ry h
 obtain⟨a,k,xs,rfl,rfl,hx,Aj,h1,h2,hz,q⟩:=h
 cases rx
 obtain⟨t,rfl⟩:=ry
 obtain⟨its,r,ht,_⟩:=I.list hx
 have hl:=r.length
 refine TM.Wb ht (λ z=>Aj (r.n5.mp z)) h1 (by rw[<- hl];exact hz) h2 ?_
 have hlen:(List.replicate k.toNat xs).flatten.length<=sizeLine:=by
  have:(List.replicate k.toNat xs).flatten.length=k.toNat*xs.length:=by simp
  rw[this,Du];exact hz
 exact⟨.ref _,_,I.laid (t':=s.toks) (o:=.lst (List.replicate k.toNat xs).flatten) (λ b ob q=>za1 _ q) (Af _) ⟨hlen,_,0,r.rep k.toNat,AE _ rfl⟩,rfl,q _ (I.zl.fresh (Af _))⟩
end L2
namespace L5
open PySem PySem.Spec L2 L3
open PyProof.Rows hiding St
section
variable {X:Cx}{K:Ab}{a b:Expr}{ta tb:zp}{pos:Pos}
noncomputable def Q2:D->Bool
 | .tup _=>true
 | _=>false
def k9:yG:=λ x y S Q=>∃ k ds,y=.int k/\Q2 x=false/\yj x S=some ds/\(ds≠[]/\0<=k/\k<=1000000/\ds.length*k.toNat<=sizeLine)/\∀ p,S p=none->Q (.ref p) (ups S p (.lst (List.replicate k.toNat ds).flatten))
def rC:yG:=λ x y S Q=>uZ x y S Q\/k9 x y S Q
noncomputable def uU:T->T->Option T
 | .lst ts,.int k=>if ts≠[]/\0<=k/\k<=1000000/\ts.length*k.toNat<=sizeLine then some (.lst (List.replicate k.toNat ts).flatten) else none
 | x,y=>iY x y
theorem rC.mo:y_ rC:=λ x y S Q Q' hq h=>by
 rcases h with h | ⟨k,ds,h1,h2,h3,h4,h5⟩
 ·exact .inl (uZ.mo x y S Q Q' hq h)
 ·exact .inr ⟨k,ds,h1,h2,h3,h4,λ p hp=>hq _ _ (h5 p hp)⟩
def k9.fits:xb K k9 (ik K):=λ x y d e H S Q h1 h2 h3 h=>by
 obtain⟨k,ds,rfl,ht,hs,⟨c1,c2,c3,c4⟩,h⟩:=h
 simp only[zg] at h2
 obtain⟨a,xs,rfl,g1,g2⟩:=qQ h1 h3 hs λ ts z=>by subst z;cases ht
 have hl:=g2.length
 refine⟨a,k,xs,rfl,h2,g1,λ z=>c1 (by subst z;cases ds with | nil=>rfl | cons _ _=>simp at hl),c2,c3,by rw[<- hl];exact c4,λ p hp=>?_⟩
 exact h p (h3.none hp) _ _ (by simp only[zg]) (.new hp _) (h3.ups (.new hp _) ⟨_,yd,zm.ext (.new hp _) _ (zm.rep g2 _)⟩)
theorem rC.fits:xb K rC (λ x y H Q=>(rI vM (λ i j=>.int (i*j)) x y H Q\/ij K x y H Q)\/ik K x y H Q):=λ x y d e H S Q h1 h2 h3 h=>by
 rcases h with h | h
 ·exact .inl (uZ.fits x y d e H S Q h1 h2 h3 h)
 ·exact .inr (k9.fits x y d e H S Q h1 h2 h3 h)
def QY:Good2 zE uU rC:=λ S Z x y z d e Q hz hx hy ef hq=>by
 unfold uU at ef
 split at ef
 ·rename_i ts k
  split at ef
  ·rename_i hc
   cases ef
   obtain⟨ds,g1,g2⟩:=hx.seq (ts:=ts) rfl
   cases hy.int
   have hl:=g2.len
   refine .inr ⟨_,ds,rfl,?_,g1,⟨λ q=>hc.1 (by subst q;simpa using hl.symm),hc.2.1,hc.2.2.1,by rw[hl];exact hc.2.2.2⟩,λ p hp=>hq _ _ (.new hp _) (sU hz hp (zk.rep g2 _))⟩
   cases d with
   | tup es=>exact absurd hx (by
     intro q
     rcases q with q | ⟨us,p,es',_,q,_⟩
     ·simp only[Sn] at q;obtain⟨_,⟨q,_⟩ | ⟨_,q,_⟩,_⟩:=q <;> cases q
     ·cases q)
   | _=>rfl
  ·cases ef
 ·exact .inl (Zf S Z x y z d e Q hz hx hy ef hq)
def lS (ha:PD X a ta) (hb:PD X b tb):PD X (.BinOp a .Mult b pos) (yn rC ta tb):=sY ((Tc.or U_).or Ta) rC.fits rC.mo ha hb
end
end L5
namespace L3
open PySem PySem.Spec PyProof.Rows L2
section
variable {X:Cx}{K:Ab}{e o:Expr}{te to:zp}{apos Ae:Pos}
def rK (to te:zp):zp:=fun Y S Q=>to Y S λ x S1=>match x with
 | .ref p=>(∃ ds,S1 p=some (.lst ds))/\te Y S1 λ y S2=>∃ q ds es,y=.ref q/\S2 p=some (.lst ds)/\S2 q=some (.lst es)/\ds.length+es.length<=sizeLine/\Q .zj (ups S2 p (.lst (ds++es)))
 | _=>False
def rK.mo (h:yi to) (h':yi te):yi (rK to te):=fun Y S Q Q' hq z=>h Y S _ _ (λ x S1 z=>by
 cases x with
 | ref p=>exact⟨z.1,h' Y S1 _ _ (λ y S2 ⟨q,ds,es,a,b,c,d,w⟩=>⟨q,ds,es,a,b,c,d,hq _ _ w⟩) z.2⟩
 | _=>exact z) z
def UK {e0:Expr}(D6:PE X e0 (jv X.K "list" cM (zJ X.K to) (lz (zJ X.K te) ly))) (h:yi to) (h':yi te):PD X e0 (rK to te):=by
 refine⟨rK.mo h h',PE.imp D6 fun σ H Q hu=>?_⟩
 obtain⟨Y,S,r1,r2,z⟩:=hu
 refine zJ.go h r1 r2 z λ x S1 v H1 h1 q1 e1 p1=>?_
 cases x with
 | ref p=>
  obtain⟨⟨ds,hd⟩,h1⟩:=h1
  simp only[zg] at q1
  subst q1
  obtain⟨xs,g1,g2⟩:=p1 _ _ hd
  refine⟨.inl ⟨rfl,xs,zL.of g1⟩,?_⟩
  refine zJ.go h' (r1.ext e1) p1 h1 λ y S2 w H2 h2 q2 e2 p2=>?_
  obtain⟨q,ds',es,rfl,b1,b2,b3,b4⟩:=h2
  simp only[zg] at q2
  subst q2
  obtain⟨xs',g3,g4⟩:=p2 _ _ b1
  obtain⟨ys',g5,g6⟩:=p2 _ _ b2
  refine⟨p,q,xs',ys',rfl,rfl,g3,g5,by rw[<- g4.length,<- g6.length];exact b3,?_⟩
  have e4:Ext H2 (upd H2 p (.lst (xs'++ys'))):=.lst g3 _
  exact b4 _ _ (by simp only[zg]) ((e1.trans e2).trans e4) (p2.ups e4 ⟨_,yd,zm.ext e4 _ (g4.append g6)⟩)
 | _=>exact h1.elim
def UE (ho:PD X o to) (he:PD X e te)
  (hbase:attributeBase o "extend" X.env (eval o X.env)=eval o X.env:=by rfl)
  (AF:((backTo Ae (starEach [e] X.env)).all (λ x=>!x.1)&&(backToKw Ae (keywordEach [] X.env)).all (λ x=>x.1.isSome)
   && decide ([e].length+([]:List Keyword).length+(if ([]:List Keyword).isEmpty then 0 else 1)<30))=true:=by rfl)
  (hline:(apos.endLine == Ae.line)=true:=by rfl) (hs:starEach [e] X.env=(false,eval e X.env)::starEach [] X.env:=by rfl) (hplain:(backTo Ae (starEach [] X.env)).any (·.1)=false:=by rfl):
  PD X (.Call (.Attribute o "extend" apos) [e] [] Ae) (rK to te):=
 UK (ba PySem.F.plainAttrs_list PySem.F.slot_list_extend PySem.F.type_list_extend RG ho.pe (uS he.pe rf hs) hbase AF hline hs hplain) ho.mo he.mo
end
end L3
namespace L5
open PySem L2 L3
@[simp] noncomputable def gY (i:Nat) (f:Ev->Option T):Sm:=fun J=>match J[i]? with
 | some (some (.own (.lst ts)))=>(f J).bind λ y=>match y with
  | .lst us=>if ts.length+us.length<=sizeLine then some (.nx (J.set i (some (.own (.lst (ts++us)))))) else none
  | _=>none
 | _=>none
section
variable {R:Rk}{f:Ev->Option T}{te:zp}
def T6 (i:Nat) (hf:xi f te):yh R (gY i f) (kL (rK (ym i) te)):=λ S0 Z0 S Z Y J o E F e P=>by
 unfold gY at e
 split at e
 ·rename_i ts h
  obtain⟨y,e1,e2⟩:=Ag.mp e
  split at e2
  ·rename_i us
   split at e2
   ·rename_i hl
    cases e2
    obtain⟨p,ob,h1,h2,h3,h4⟩:=F.er.ow i _ h
    obtain⟨ds,rfl⟩:∃ ds,ob=.lst ds:=by
     cases ob with
     | lst ds=>exact⟨ds,rfl⟩
     | zI _=>exact h3.elim
    replace h3:zk (zK S Z) ts ds:=h3
    show rK (ym i) te Y S _
    unfold rK ym
    rw[h1]
    refine⟨⟨ds,h2⟩,hf S Z Y J _ _ F.er e1 λ d S1 s1 r1=>?_⟩
    obtain⟨q,es,rfl,g1,g2,g3⟩:=r1.2 us rfl
    have F1:=F.grow s1
    have g4:zk (zK S1 Z) us es:=zk.sx (uc λ a z=>.inl z) us g3
    refine⟨q,ds,es,rfl,s1 _ _ h2,g2,by rw[h3.len,g4.len];exact hl,P _ Z Y (F1.mut (us:=.lst (ts++us)) (es:=.lst (ds++es)) i h h1 ((zk.sx (wD s1) ts h3).append g4))⟩
   ·cases e2
  ·cases e2
 ·cases e
end
section
variable {α:Type}{P:List α->Prop}
def sk (h:∀ a,P [a]) (us:List α) (hl:us.length=1):P us:=match us,hl with | [a],_=>h a
def wo (h:∀ a b,P [a,b]) (us:List α) (hl:us.length=2):P us:=match us,hl with | [a,b],_=>h a b
def qu (h:∀ a b c,P [a,b,c]) (us:List α) (hl:us.length=3):P us:=match us,hl with | [a,b,c],_=>h a b c
def Na (h:∀ a b c d,P [a,b,c,d]) (us:List α) (hl:us.length=4):P us:=match us,hl with | [a,b,c,d],_=>h a b c d
def ar5 (h:∀ a b c d e,P [a,b,c,d,e]) (us:List α) (hl:us.length=5):P us:=match us,hl with | [a,b,c,d,e],_=>h a b c d e
def ar6 (h:∀ a b c d e f,P [a,b,c,d,e,f]) (us:List α) (hl:us.length=6):P us:=match us,hl with | [a,b,c,d,e,f],_=>h a b c d e f
def ar7 (h:∀ a b c d e f g,P [a,b,c,d,e,f,g]) (us:List α) (hl:us.length=7):P us:=match us,hl with | [a,b,c,d,e,f,g],_=>h a b c d e f g
def ar8 (h:∀ a b c d e f g i,P [a,b,c,d,e,f,g,i]) (us:List α) (hl:us.length=8):P us:=match us,hl with | [a,b,c,d,e,f,g,i],_=>h a b c d e f g i
end
end L5
namespace L5
open PySem PySem.Spec L2 L3
open PyProof.Rows hiding St
section
variable {P:Program}{w:World}{K:Ab}{mg:Str->Option Value}{base h:Heap}{x:Str}{st:Stmt}
def Fx (K:Ab) (x:Str) (st:Stmt):Prop:=∃ (f:Addr) (oc:Value) (od:Option Addr) (kV dc pm:Value) (an:Option Addr) (cd ct:Value) (sl:Array (Option Value)),
 PySem.W.nsIn K mainGlobals x=some (some (.ref f))/\K.lookup f=some ⟨oc,od,.func (PySem.W.fnOf x x (uj st) (x9 st) (zu st) .none kV dc pm an cd ct),sl⟩/\PySem.W.codeIn K cd x=true/\PySem.W.keepIn K (.ref f)=true
def Fx.i {f:Addr}{oc:Value}{od:Option Addr}{kV dc pm:Value}{an:Option Addr}{cd ct:Value}{sl:Array (Option Value)}(a:PySem.W.nsIn K mainGlobals x=some (some (.ref f))) (l:K.lookup f=some ⟨oc,od,.func (PySem.W.fnOf x x (uj st) (x9 st) (zu st) .none kV dc pm an cd ct),sl⟩) (c:PySem.W.codeIn K cd x=true) (k:PySem.W.keepIn K (.ref f)=true):Fx K x st:=⟨f,oc,od,kV,dc,pm,an,cd,ct,sl,a,l,c,k⟩
def Fy (K:Ab) (mg:Str->Option Value) (x:Str) (st:Stmt):Prop:=∃ (f:Addr) (fd:FuncData),wY K x x st f fd/\mg x=some (.ref f)
def Fx.mk (H:Fx K x st) (X:K.In h) (G:h.Ns mainGlobals mg):Fy K mg x st:=by
 obtain⟨f,oc,od,kV,dc,pm,an,cd,ct,sl,a,l,c,k⟩:=H
 exact⟨f,_,gO l c k,PySem.W.mg_of X G a⟩
theorem Fx.law {fa:Addr}{p:Str}(H:Fx K "law" st) (X:K.In h) (G:h.Ns mainGlobals mg) (Er:mg "law"=some (.ref fa)) (hb:∀ (kV dc pm:Value) (an:Option Addr) (cd ct:Value) (s:Shared) (v:Value),BindsTo s (PySem.W.fnOf "law" "law" (uj st) (x9 st) (zu st) .none kV dc pm an cd ct) ⟨[v],[]⟩ [(p,v)]):∃ fd:FuncData,wY K "law" "law" st fa fd/\∀ (s:Shared) (v:Value),BindsTo s fd ⟨[v],[]⟩ [(p,v)]:=by
 obtain⟨f,oc,od,kV,dc,pm,an,cd,ct,sl,a,l,c,k⟩:=H
 have e:=Er.symm.trans (PySem.W.mg_of X G a)
 cases e
 exact⟨_,gO l c k,hb kV dc pm an cd ct⟩
def Cn (K:Ab) (x:Str) (t:V):Prop:=∃ u,PySem.W.nsIn K mainGlobals x=some (some u)/\L2.RelV t u
def Cn.i {t:V}{u:Value}(a:PySem.W.nsIn K mainGlobals x=some (some u)) (r:L2.RelV t u):Cn K x t:=⟨u,a,r⟩
def Cn.mk {t:V}(H:Cn K x t) (X:K.In h) (G:h.Ns mainGlobals mg):∃ u,mg x=some u/\L2.RelV t u:=by
 obtain⟨u,a,r⟩:=H
 exact⟨u,PySem.W.mg_of X G a,r⟩
def yD {R:Rk} [Lo R] {N ps:List Str}{k n:Nat}{g:Sm}(F:Fy K mg x st) (Sc:zW N ps (zu st)) (hn:n=ps.length)
  (hb:∀ (kV doc pm:Value) (an:Option Addr) (Ad ct:Value) (us:List Value),us.length=ps.length->bindArgs (PySem.W.fnOf x x (uj st) (x9 st) (zu st) .none kV doc pm an Ad ct) ⟨us,[]⟩=pure (ps.zip us))
  (hbody:∀ (f:Addr) (Ad:Value) (A:Around) (outer:List Env) (s:Shared) (H:Hp) (E:XK),zV k (A.deeper (envOfC x (zu st) s.heap.objs.size f Ad))->
   ∃ t,ur (wj xq P w K mg base N x (zu st) f Ad A outer s H E).vy (x9 st) t/\yh R g t):FD P w K mg base x (k+1) ps (zM R (ye N n g)):=by
 obtain⟨f,fd,F,hm⟩:=F
 exact Pu F hm Sc hn hb (hbody f)
end
end L5
namespace PySem
section
variable {prog:Program}{w:World}{A:Around}{E:Value->Shared->Prop}{h:Heap}{g:Array GenState}{d:Drawn}{t:Nat}{os:OsState}
variable {nm q:Str}{C N:Addr}{bs bm bmB:List Value}{hdct:Bool}{sn:List Str}{sub:List Value}{ab:Bool}{col:Option Bool}{dd:Option Addr}{k0 k1 k2 k3 k5:Option Value}{B newId initId:String}
def Xw (F:ExcBaseFacts B newId initId bmB) (T:OwnTail h bmB bm) {mN:Str->Option Value}{rest:List Value}{fI:Addr}{oI:Obj}{Q:Fin->Shared->Prop}
  (hC:h.get? C=some (excClassObj nm q C N bs bm hdct sn sub ab col dd k0 k1 k2 k3 k5 newId)) (hn:h.Ns N mN) (hi:mN "__init__"=some (.ref fI))
  (hfI:h.get? fI=some oI) (Di:oI.cls=.type "function")
  (hq:∀ h' e,h.objs.size<=e->Heap.MadeExcOf h h' e (.ref C) rest->
   wpAny (model prog w) A (call (.ref fI) (.ref e::rest)) (λ r s'=>r=.none/\Q (.done (.ret (.ref e))) s') E ⟨h',g,d,t,os⟩) (hrest:rest.length<=sizeLine):
  wpAny (model prog w) A (Builtin.«type.__call__» ⟨.ref C::rest,[]⟩) Q E ⟨h,g,d,t,os⟩:=by
 repeat (first | with_reducible refine za2 hC ?_ | with_reducible refine wpAny_madeBy_exc hC ?_ | wp_step)
 refine codeAny_call_builtin_code (Code.quiet_builtin _ F.quiet) (wpAny_check_new_subT F T hC ?_)
 refine codeAny_exc_new_subT F T hC ?_ hrest
 show wpAny _ _ _ _ _ _
 have up:∀ b o,h.get? b=some o->((h.push { cls:=.type "tuple",data:=.seq rest.toArray }).push { cls:=.ref C,data:=.fields #[.ref h.objs.size,.none,.none,.none,.bool false,.none] }).get? b=some o:=λ b o e=>za1 _ (za1 _ e)
 have hC₁:=up _ _ hC
 have hfI₁:=up _ _ hfI
 have Dg:((h.push { cls:=.type "tuple",data:=.seq rest.toArray }).push
   { cls:=.ref C,data:=.fields #[.ref h.objs.size,.none,.none,.none,.bool false,.none] }).get? (h.objs.size+1)=some
   { cls:=.ref C,data:=.fields #[.ref h.objs.size,.none,.none,.none,.bool false,.none] }:=by heap_get
 have hcC:(Value.ref C::bm).contains (.ref C)=true:=by simp
 unfold isInstance
 repeat (first | with_reducible refine za2 Dg ?_ | (with_reducible refine zaC hC₁ ?_;rw[hcC]) | wp_step)
 show wpAny _ _ (typeLookup (.ref C) _) _ _ _
 refine wpAny_typeLookup_tail hC₁ (hn.keeps up) (T.keeps up) F.mroIs F.init.lookup ?_
 rw[hi]
 refine za5 (za0 ?_)
 unfold bindSpecial
 refine za0 (wpAny_typeOf (T:="function") ⟨_,hfI₁,Di⟩ ?_)
 rw[if_pos (by decide)]
 refine Ac (za0 (za3 (hq _ (h.objs.size+1) (Cr _) ⟨up,zaN (Cr _),h.objs.size,Dg,zaN (Af _),?_⟩) (λ r s' hr=>?_) λ _ _ x=>x))
 ·exact za1 _ (Heap.get?_push_at rfl rfl)
 ·obtain⟨rfl,hQ⟩:=hr
  wp_walk
  exact hQ
def X9 (F:ExcBaseFacts B newId initId bmB) (T:OwnTail h bmB bm) {mN:Str->Option Value}{rest:List Value}{fI:Addr}{oI:Obj}{Q:Value->Shared->Prop}
  (hC:h.get? C=some (excClassObj nm q C N bs bm hdct sn sub ab col dd k0 k1 k2 k3 k5 newId)) (hn:h.Ns N mN) (hi:mN "__init__"=some (.ref fI))
  (hfI:h.get? fI=some oI) (Di:oI.cls=.type "function")
  (hq:∀ h' e,h.objs.size<=e->Heap.MadeExcOf h h' e (.ref C) rest->
   wpAny (model prog w) (A.under (.builtin "type.__call__" ⟨.ref C::rest,[]⟩)) (call (.ref fI) (.ref e::rest)) (λ r s'=>r=.none/\Q (.ref e) s') E ⟨h',g,d,t,os⟩) (hrest:rest.length<=sizeLine):
  wpAny (model prog w) A (call (.ref C) rest) Q E ⟨h,g,d,t,os⟩:=by
 have f1:=tc_lookup
 have f2:=tc_bind (.ref C)
 have hT:(⟨h,g,d,t,os⟩:Shared).TypeIs (.ref C) "type":=⟨_,hC,rfl⟩
 refine wpAny_call (codeAny_of_tree ?_)
 show wpAny _ _ (callAny (.ref C) _) _ _ _
 repeat (any_goals (first | assumption | with_reducible refine za2 hC ?_ | wp_step))
 refine⟨rfl,?_⟩
 exact codeAny_call_builtin_at (Code.quiet_builtin _ (by decide +kernel)) entry_typeCall (wpAny_check_type_call_sub hC (Xw F T hC hn hi hfI Di (λ h' e hl hm=>hq h' e hl hm) hrest))
def Xz {M:Model}{env:Env}{s:Shared}{x:Sem Value}{Q:Flow->Shared->Prop}(hbase:bm.contains (.type "BaseException")=true) (hh:A.handled=none)
  (hx:wpAny M A x (λ v s₁=>∃ e zI vs sl,v=.ref e/\s₁.heap.get? C=some (excClassObj nm q C N bs bm hdct sn sub ab col dd k0 k1 k2 k3 k5 newId)/\
   s₁.heap.get? e=some { cls:=.ref C,dict:=zI,data:=.fields #[.ref vs,.none,.none,.none,.bool false,.none],slots:=sl }/\E (.ref e) s₁) E s):
  wpAny M A (raiseStmt env (some x) none) Q E s:=by
 have hcB:(Value.ref C::bm).contains (.type "BaseException")=true:=by rw[A8,hbase,CI]
 unfold raiseStmt
 refine za0 (za3 hx (λ v s₁ h₁=>?_) λ _ _ x=>x)
 obtain⟨e,zI,vs,sl,rfl,hC,he,hE⟩:=h₁
 obtain⟨hp,g,d,tk,os⟩:=s₁
 repeat (first | with_reducible refine za2 he ?_ | with_reducible refine za2 hC ?_ | (with_reducible refine zaC hC ?_;rw[hcB]) | wp_step)
 exact wpAny_raiseNew_none hh hE
end
end PySem
namespace PySem
open Builtin Builtin.ObjectAttr
section
variable {prog:Program}{w:World}{M:Model}{A:Around}{E:Value->Shared->Prop}{h:Heap}{g:Array GenState}{d:Drawn}{t:Nat}{os:OsState}
variable {nm q:Str}{C N P x:Addr}{bs bmB:List Value}{hdct:Bool}{sn:List Str}{sub:List Value}{ab:Bool}{col:Option Bool}{dd:Option Addr}{k0 k1 k2 k3 k5:Option Value}{B newId:String}
 {mN mP:Str->Option Value}{name:Str}{v:Value}
structure su (h:Heap) (P:Addr) (mP:Str->Option Value):Prop where
 ex:∃ (c0:Value) (dd:Option Addr) (cd:ClassData) (sl:Array (Option Value)),h.get? P=some { cls:=c0,dict:=dd,data:=.cls cd,slots:=sl }/\h.Ns cd.ns mP
def sN {n:Str}{y:Option Value}{Q:Option Value->Shared->Prop}
  (hC:h.get? C=some (excClassObj nm q C N bs (.ref P::bmB) hdct sn sub ab col dd k0 k1 k2 k3 k5 newId)) (hn:h.Ns N mN) (hP:su h P mP) (hbm:mroOf (.type B)=pure bmB) (hB:typeLookup (.type B) n=pure y)
  (h1:mN n=none) (h2:mP n=none) (hq:Q y ⟨h,g,d,t,os⟩):wpAny M A (typeLookup (.ref C) n) Q E ⟨h,g,d,t,os⟩:=by
 obtain⟨c0,pd,cd,sl,hA,hN⟩:=hP.ex
 have hrest:lookupAlong bmB n=pure y:=by rw[typeLookup_eq,hbm] at hB;exact hB
 rw[typeLookup_eq]
 refine za0 (wpAny_mroOf_exc hC ?_)
 rw[lookupAlong_cons]
 refine za0 (wpAny_classOwn_exc hC hn ?_)
 rw[h1]
 show wpAny M A (lookupAlong (.ref P::bmB) n) Q E _
 rw[lookupAlong_cons]
 refine za0 (wpAny_classOwn_cls hA hN ?_)
 rw[h2]
 show wpAny M A (lookupAlong bmB n) Q E _
 rw[hrest]
 exact Ac hq
def X8 {o:Obj}{nameV:Value}{Q:Unit->Shared->Prop}{sa owner:String}(SF:StoreFacts B bmB sa owner)
  (hC:h.get? C=some (excClassObj nm q C N bs (.ref P::bmB) true sn sub ab col dd k0 k1 k2 k3 k5 newId)) (hx:h.get? x=some o) (hc:o.cls=.ref C) (hq:Q () ⟨h,g,d,t,os⟩):
  wpAny M A (checkBuiltinCall sa ⟨[.ref x,nameV,v],[]⟩) Q E ⟨h,g,d,t,os⟩:=by
 have hcB:(Value.ref C::.ref P::bmB).contains (.type owner)=true:=by rw[A8,A8,SF.hasOwner,CI,CI]
 have ha:=SF.args (.ref x) nameV v
 simp only[checkBuiltinCall,SF.kind,SF.split]
 refine za0 ?_
 unfold isInstance
 repeat (first | (with_reducible refine za2 hx ?_;rw[hc]) | (with_reducible refine zaC hC ?_;rw[hcB]) | wp_step)
 cases D3:Manifest.signature? sa with
 | none=>exact Ac hq
 | some sig=>
  simp only[argsOk,D3] at ha
  have h2:Bind.checkArgs sa sig ⟨[.ref x,nameV,v],[]⟩=pure ():=ha
  show wpAny M A (Bind.checkArgs sa sig ⟨[.ref x,nameV,v],[]⟩) Q E _
  rw[h2];exact Ac hq
def Xx {tk:Tok}{Q:Fin->Shared->Prop}{sa owner:String}{o:Obj}(SF:StoreFacts B bmB sa owner)
  (hC:h.get? C=some (excClassObj nm q C N bs (.ref P::bmB) true sn sub ab col dd k0 k1 k2 k3 k5 newId)) (hn:h.Ns N mN) (hP:su h P mP) (Bu:mN name=none) (Bs:mP name=none)
  (hB:typeLookup (.type B) name=pure none) (hx:h.get? x=some o) (hc:o.cls=.ref C) (Et:o.dict=none) (BN:∀ c,o.data≠.cls c)
  (hq:∀ h' tk',h'.get? x=some { o with dict:=some h.objs.size }->h'.Ns1 h.objs.size (λ y=>if y=name then some v else none)->
   (∀ b o,b≠x->h.get? b=some o->h'.get? b=some o)->Q (.done (.ret .none)) ⟨h',g,d,tk',os⟩):
  wpAny (model prog w) A (Builtin.«object.__setattr__» ⟨[.ref x,.str name tk,v],[]⟩) Q E ⟨h,g,d,t,os⟩:=by
 have hpass:=SF.passes (.ref x)
 unfold Builtin.«object.__setattr__»
 repeat (first | rw[refuse_eq] | (rw[refuseLoop_ref,refuseLoop_ref,hpass]) | (with_reducible refine za2 hx ?_;rw[hc]) | with_reducible refine wpAny_mroOf_exc hC ?_ | (with_reducible refine sN hC hn hP SF.mro hB Bu Bs ?_) | wp_step)
 rw[Et,if_neg (by simp[typeHasDict])]
 split
 ·rename_i AW
  cases AW
 split
 ·rename_i c AW
  exact absurd AW (BN c)
 ·have hx₁:(h.push { cls:=.type "dict",data:=.dict #[] }).get? x=some o:=za1 _ hx
  have DA:x≠h.objs.size:=Ap (Ai hx)
  refine za0 (wpAny_alloc' ?_)
  refine za0 (wpAny_update' hx₁ ?_)
  refine Ac ?_
  have hgd:((h.push { cls:=.type "dict",data:=.dict #[] }).update x λ o=>{ cls:=o.cls,dict:=some h.objs.size,data:=o.data,slots:=o.slots }).get? h.objs.size
    = some { cls:=.type "dict",data:=.dict #[] }:=
   (zaK _ _ _ _ DA.symm).trans (Heap.get?_push_at rfl rfl)
  have Bg:((h.push { cls:=.type "dict",data:=.dict #[] }).update x λ o=>{ cls:=o.cls,dict:=some h.objs.size,data:=o.data,slots:=o.slots }).Ns h.objs.size (λ _=>none):=
   ⟨_,#[],_,hgd,rfl,λ e he=>absurd he (by simp),λ _=>rfl⟩
  show wpAny _ _ (storeInDict h.objs.size (.str name tk) name v) _ _ _
  unfold storeInDict newKeyGuard
  refine za0 (Ac (za0 (wpAny_nsSet1 (Heap.Ns1.of_empty Bg) λ h' hn' hs=>?_)))
  obtain⟨oD,esD,epD,hoD,hdD,hcD⟩:=hn'.count (Within.cons name v Within.nil)
  refine za0 (wpAny_lookBehind hoD (by rw[hdD];exact pastItsLine_dict (Bp hcD (by rw[AR,Ct,sizeLine_eq];lia))) ?_)
  wp_walk
  refine hq h' _ ?_ hn' λ b ob hbx hb=>?_
  ·refine (hs.2 x DA).trans (za6 _ hx₁ ?_)
   have Aw:=(Heap.get?_some_iff.mp hx).2
   obtain⟨oc,od,odt,osl⟩:=o
   cases odt <;> first | rfl | exact Aw
  ·exact (hs.2 b (Ap (Ai hb))).trans ((zaK _ _ _ _ hbx).trans (za1 _ hb))
def Xy {Q:Unit->Shared->Prop}{sa owner:String}{o:Obj}(SF:StoreFacts B bmB sa owner)
  (hC:h.get? C=some (excClassObj nm q C N bs (.ref P::bmB) true sn sub ab col dd k0 k1 k2 k3 k5 newId)) (hn:h.Ns N mN) (hP:su h P mP) (Bf:mN "__setattr__"=none) (hps:mP "__setattr__"=none) (Bu:mN name=none) (Bs:mP name=none)
  (hB:typeLookup (.type B) name=pure none) (hx:h.get? x=some o) (hc:o.cls=.ref C) (Et:o.dict=none) (BN:∀ c,o.data≠.cls c)
  (hq:∀ h' tk',h'.get? x=some { o with dict:=some h.objs.size }->h'.Ns1 h.objs.size (λ y=>if y=name then some v else none)->
   (∀ b o,b≠x->h.get? b=some o->h'.get? b=some o)->Q () ⟨h',g,d,tk',os⟩):
  wpAny (model prog w) A (setAttr (.ref x) name v) Q E ⟨h,g,d,t,os⟩:=by
 have f3:=SF.slot.bind (.ref x)
 unfold setAttr callSpecial? specialOf
 repeat (any_goals (first | assumption | (with_reducible refine za2 hx ?_;rw[hc]) | (with_reducible refine sN hC hn hP SF.mro SF.slot.lookup Bf hps ?_) | wp_step))
 refine codeAny_call_builtin SF.slot.plain SF.entry (X8 SF hC hx hc (Xx SF hC hn hP Bu Bs hB hx hc Et BN λ h' tk' h1 h2 h3=>?_))
 repeat (any_goals (first | assumption | wp_step))
 exact hq h' tk' h1 h2 h3
end
section
variable {prog:Program}{w:World}{M:Model}{A:Around}{E:Value->Shared->Prop}{h:Heap}{g:Array GenState}{d:Drawn}{t:Nat}{os:OsState}
variable {nm q:Str}{C N P x dx:Addr}{bs bmB:List Value}{sn:List Str}{sub:List Value}{ab:Bool}{col:Option Bool}{dd:Option Addr}{k0 k1 k2 k3 k5:Option Value}{B newId:String}
 {mN mP mA:Str->Option Value}{name:Str}{v:Value}{o:Obj}
def dk {nameV:Value}{Q:Unit->Shared->Prop}(hb:bmB.contains (.type "BaseException")=true) (hC:h.get? C=some (excClassObj nm q C N bs (.ref P::bmB) true sn sub ab col dd k0 k1 k2 k3 k5 newId))
  (hx:h.get? x=some o) (hc:o.cls=.ref C) (hq:Q () ⟨h,g,d,t,os⟩):wpAny M A (checkBuiltinCall "BaseException.__getattribute__" ⟨[.ref x,nameV],[]⟩) Q E ⟨h,g,d,t,os⟩:=by
 have hk:builtinKind "BaseException.__getattribute__"=some .slot:=by decide +kernel
 have hsplit:splitId "BaseException.__getattribute__"=some ("BaseException","__getattribute__"):=by decide +kernel
 have hcB:(Value.ref C::.ref P::bmB).contains (.type "BaseException")=true:=by rw[A8,A8,hb];rfl
 have ha:=F.args_bexc_ga (.ref x) nameV
 simp only[checkBuiltinCall,hk,hsplit]
 refine za0 ?_
 unfold isInstance
 repeat (first | (with_reducible refine za2 hx ?_;rw[hc]) | (with_reducible refine zaC hC ?_;rw[hcB]) | wp_step)
 exact hq
def X0 {tk:Tok}{Q:Fin->Shared->Prop}
  (hC:h.get? C=some (excClassObj nm q C N bs (.ref P::bmB) true sn sub ab col dd k0 k1 k2 k3 k5 newId)) (hn:h.Ns N mN) (hP:su h P mP) (hm:mroOf (.type B)=pure bmB) (Bu:mN name=none) (Bs:mP name=none)
  (hB:typeLookup (.type B) name=pure none) (hx:h.get? x=some o) (hc:o.cls=.ref C) (BN:∀ c,o.data≠.cls c) (CU:o.dict=some dx) (Bf:h.Ns1 dx mA) (hv:mA name=some v) (hq:Q (.done (.ret v)) ⟨h,g,d,t,os⟩):
  wpAny (model prog w) A (Builtin.«object.__getattribute__» ⟨[.ref x,.str name tk],[]⟩) Q E ⟨h,g,d,t,os⟩:=by
 unfold Builtin.«object.__getattribute__»
 repeat (first | (with_reducible refine za2 hx ?_;rw[hc]) | (with_reducible refine sN hC hn hP hm hB Bu Bs ?_) | wp_step)
 split
 ·rename_i c AW
  exact absurd AW (BN c)
 unfold instanceDict
 repeat (first | (with_reducible refine za2 hx ?_;rw[hc]) | with_reducible refine za2 hC ?_ | wp_step)
 rw[CU]
 repeat (first | (with_reducible refine wpAny_nsGet Bf.ns ?_;rw[hv]) | wp_step)
 exact hq
def X4 {expr:Bool}{Q:Value->Shared->Prop}(FB:ExcAttrBase B bmB)
  (hC:h.get? C=some (excClassObj nm q C N bs (.ref P::bmB) true sn sub ab col dd k0 k1 k2 k3 k5 newId)) (hn:h.Ns N mN) (hP:su h P mP) (hq1:mN "__getattribute__"=none) (hq2:mP "__getattribute__"=none) (hq3:mN "__getattr__"=none) (hq4:mP "__getattr__"=none) (Bu:mN name=none) (Bs:mP name=none)
  (hB:typeLookup (.type B) name=pure none) (hx:h.get? x=some o) (hc:o.cls=.ref C) (BN:∀ c,o.data≠.cls c) (CU:o.dict=some dx) (Bf:h.Ns1 dx mA) (hv:mA name=some v) (hh:handedOut v=pure v) (hq:Q v ⟨h,g,d,t+1,os⟩):
  wpAny (model prog w) A (getAttr (.ref x) name expr) Q E ⟨h,g,d,t,os⟩:=by
 have f3:=FB.ga.bind (.ref x)
 have hx0:(expr&&onTheHeap (Value.builtin "BaseException.__getattribute__"))=false:=by cases expr <;> rfl
 have hx2:(Value.builtin "BaseException.__getattribute__" == Value.builtin "object.__getattribute__")=false:=by decide +kernel
 have hx1:(onTheHeap (Value.ref C)&&Value.builtin "BaseException.__getattribute__" == Value.builtin "object.__getattribute__")=false:=by rw[hx2];rfl
 unfold getAttr getAttrBy
 repeat (any_goals (first | assumption | (with_reducible refine za2 hx ?_;rw[hc]) | with_reducible refine sN hC hn hP FB.mro FB.ga.lookup hq1 hq2 ?_ | with_reducible refine sN hC hn hP FB.mro FB.noGetattr hq3 hq4 ?_ | wp_step))
 refine codeAny_call_builtin FB.ga.plain F.entry_bexc_ga (dk FB.hasBase hC hx hc (X0 hC hn hP FB.mro Bu Bs hB hx hc BN CU Bf hv ?_))
 repeat (any_goals (first | assumption | (rw[hh];exact Ac hq) | wp_step))
end
section
variable {prog:Program}{w:World}{A:Around}{E:Value->Shared->Prop}{h:Heap}{g:Array GenState}{d:Drawn}{t:Nat}{os:OsState}
variable {nm q:Str}{C N P x:Addr}{bs bmB:List Value}{sn:List Str}{sub:List Value}{ab:Bool}{col:Option Bool}{dd:Option Addr}{k0 k1 k2 k3 k5:Option Value}{B newId:String}
 {mN mP:Str->Option Value}{o:Obj}
def X5 {R:Result->Shared->Prop}(hb:bmB.contains (.type "object")=true) (hC:h.get? C=some (excClassObj nm q C N bs (.ref P::bmB) true sn sub ab col dd k0 k1 k2 k3 k5 newId))
  (hx:h.get? x=some o) (hc:o.cls=.ref C) (hq:R (.ok (.ret (.ref C))) ⟨h,g,d,t,os⟩):
  codeAny (model prog w) A (.call (.builtin "getset_descriptor.__get__") ⟨[.builtin "object.__class__",.ref x,.ref C],[]⟩) R ⟨h,g,d,t,os⟩:=by
 have hT5:(⟨h,g,d,t,os⟩:Shared).TypeIs (.builtin "object.__class__") "getset_descriptor":=F.typeOf_object_class
 have hcB:(Value.ref C::.ref P::bmB).contains (.type (".".intercalate ("object.__class__".cutAt '.').dropLast))=true:=by rw[F.owner_object_class,A8,A8,hb];rfl
 refine codeAny_call_builtin F.slot_gs_get.plain F.entry_gs_get (F.slot_gs_get.check _ _ _ _ _ _ _ _ hT5 (F.args_gs_get _ _ _) ?_)
 repeat (any_goals (first | assumption | (with_reducible refine za2 hx ?_;rw[hc]) | (with_reducible refine zaC hC ?_;rw[hcB]) | wp_step))
 refine⟨Code.quiet_builtin _ (by decide +kernel),codeAny_builtin F.entry_object_class ?_⟩
 repeat (any_goals (first | assumption | (with_reducible refine za2 hx ?_;rw[hc]) | wp_step))
def X6 {tk:Tok}{Q:Fin->Shared->Prop}(hb:bmB.contains (.type "object")=true) (hC:h.get? C=some (excClassObj nm q C N bs (.ref P::bmB) true sn sub ab col dd k0 k1 k2 k3 k5 newId)) (hn:h.Ns N mN) (hP:su h P mP) (hm:mroOf (.type B)=pure bmB)
  (hB:typeLookup (.type B) "__class__"=pure (some (.builtin "object.__class__"))) (Bu:mN "__class__"=none) (Bs:mP "__class__"=none)
  (hx:h.get? x=some o) (hc:o.cls=.ref C) (hq:Q (.done (.ret (.ref C))) ⟨h,g,d,t,os⟩):
  wpAny (model prog w) A (Builtin.«object.__getattribute__» ⟨[.ref x,.str "__class__" tk],[]⟩) Q E ⟨h,g,d,t,os⟩:=by
 have hT5:(⟨h,g,d,t,os⟩:Shared).TypeIs (.builtin "object.__class__") "getset_descriptor":=F.typeOf_object_class
 have f5:=F.typeOf_object_class
 have f6:=F.slot_gs_get.lookup
 have f7:=F.slot_gs_set.lookup
 repeat (any_goals (first | assumption | (with_reducible refine za2 hx ?_;rw[hc]) | (with_reducible refine sN hC hn hP hm hB Bu Bs ?_) | wp_step))
 refine X5 hb hC hx hc ?_
 repeat (any_goals (first | assumption | wp_step))
def X7 {tk:Tok}{Q:Value->Shared->Prop}(FB:ExcAttrBase B bmB) (hb:bmB.contains (.type "object")=true) (hC:h.get? C=some (excClassObj nm q C N bs (.ref P::bmB) true sn sub ab col dd k0 k1 k2 k3 k5 newId)) (hn:h.Ns N mN) (hP:su h P mP)
  (hB:typeLookup (.type B) "__class__"=pure (some (.builtin "object.__class__"))) (hq1:mN "__getattribute__"=none) (hq2:mP "__getattribute__"=none) (hq3:mN "__getattr__"=none) (hq4:mP "__getattr__"=none) (Bu:mN "__class__"=none) (Bs:mP "__class__"=none)
  (hx:h.get? x=some o) (hc:o.cls=.ref C) (hq:Q (.ref C) ⟨h,g,d,t,os⟩):wpAny (model prog w) A (getAttrBy (.ref x) (.str "__class__" tk) false) Q E ⟨h,g,d,t,os⟩:=by
 have f3:=FB.ga.bind (.ref x)
 have hx2:(Value.builtin "BaseException.__getattribute__" == Value.builtin "object.__getattribute__")=false:=by decide +kernel
 have hx1:(onTheHeap (Value.ref C)&&Value.builtin "BaseException.__getattribute__" == Value.builtin "object.__getattribute__")=false:=by rw[hx2];rfl
 repeat (any_goals (first | assumption | (with_reducible refine za2 hx ?_;rw[hc]) | with_reducible refine sN hC hn hP FB.mro FB.ga.lookup hq1 hq2 ?_ | with_reducible refine sN hC hn hP FB.mro FB.noGetattr hq3 hq4 ?_ | wp_step))
 refine codeAny_call_builtin FB.ga.plain F.entry_bexc_ga (dk FB.hasBase hC hx hc (X6 hb hC hn hP FB.mro hB Bu Bs hx hc ?_))
 repeat (any_goals (first | assumption | wp_step))
def di {Q:Option Value->Shared->Prop}(FB:ExcAttrBase B bmB) (hb:bmB.contains (.type "object")=true) (hC:h.get? C=some (excClassObj nm q C N bs (.ref P::bmB) true sn sub ab col dd k0 k1 k2 k3 k5 newId)) (hn:h.Ns N mN) (hP:su h P mP)
  (hB:typeLookup (.type B) "__class__"=pure (some (.builtin "object.__class__"))) (hq1:mN "__getattribute__"=none) (hq2:mP "__getattribute__"=none) (hq3:mN "__getattr__"=none) (hq4:mP "__getattr__"=none) (Bu:mN "__class__"=none) (Bs:mP "__class__"=none)
  (hx:h.get? x=some o) (hc:o.cls=.ref C) (hq:Q (some (.ref C)) ⟨h,g,d,t+1,os⟩):wpAny (model prog w) A (getAttr? (.ref x) "__class__") Q E ⟨h,g,d,t,os⟩:=by
 unfold getAttr? getAttrBy?
 repeat (any_goals (first | assumption | with_reducible apply X7 FB hb hC hn hP hB hq1 hq2 hq3 hq4 Bu Bs hx hc | wp_step))
end
section
variable {prog:Program}{w:World}{A:Around}{E:Value->Shared->Prop}{h:Heap}{g:Array GenState}{d:Drawn}{t:Nat}{os:OsState}
variable {nm q:Str}{C N P x D:Addr}{bs bmB:List Value}{sn:List Str}{sub:List Value}{ab:Bool}{col:Option Bool}{dd:Option Addr}{k0 k1 k2 k3 k5:Option Value}{B newId:String}
 {mN mP:Str->Option Value}{o:Obj}
structure fU (h:Heap) (C P:Addr) (B:String) (bmB:List Value):Prop where
 FB:ExcAttrBase B bmB
 hb:bmB.contains (.type "object")=true
 hB:typeLookup (.type B) "__class__"=pure (some (.builtin "object.__class__"))
 ex:∃ (nm q:Str) (N:Addr) (bs:List Value) (sn:List Str) (sub:List Value) (ab:Bool) (col:Option Bool) (dd:Option Addr) (k0 k1 k2 k3 k5:Option Value) (newId:String) (mN mP:Str->Option Value),
  h.get? C=some (excClassObj nm q C N bs (.ref P::bmB) true sn sub ab col dd k0 k1 k2 k3 k5 newId)/\h.Ns N mN/\su h P mP/\
  ∀ n∈(["__getattribute__","__getattr__","__class__"]:List Str),mN n=none/\mP n=none
def X3 {tk:Tok}{dep:Int}{Q:Fin->Shared->Prop}{oD:Obj}{cD:ClassData}(X:fU h C P B bmB) (hx:h.get? x=some o) (hc:o.cls=.ref C) (hD:h.get? D=some oD) (hDc:oD.cls=.type "type") (hDd:oD.data=.cls cD)
  (hq:∀ t',Q (.done (.ret (.bool ((Value.ref C::.ref P::bmB).contains (.ref D))))) ⟨h,g,d,t',os⟩):
  wpAny (model prog w) A (Builtin.«isinstance.nested» ⟨[.ref x,.ref D,.int dep tk],[]⟩) Q E ⟨h,g,d,t,os⟩:=by
 obtain⟨FB,hb,hB,nm,q,N,bs,sn,sub,ab,col,dd,k0,k1,k2,k3,k5,newId,mN,mP,hC,hn,hP,hm⟩:=X
 have m1:=hm "__getattribute__" (.head _)
 have m2:=hm "__getattr__" (.tail _ (.head _))
 have m3:=hm "__class__" (.tail _ (.tail _ (.head _)))
 by_cases he:C=D
 ·subst he
  have Bm:(Value.ref C::.ref P::bmB).contains (.ref C)=true:=by simp
  rw[Bm] at hq
  have DE:(Value.ref C == Value.ref C)=true:=by simp
  repeat (any_goals (first | assumption | (with_reducible refine za2 hx ?_;rw[hc]) | wp_step))
  exact hq _
 ·have DE:(Value.ref C == Value.ref D)=false:=by simpa using he
  cases Bm:(Value.ref C::.ref P::bmB).contains (.ref D) with
  | true=>
   rw[Bm] at hq
   repeat (any_goals (first | assumption | (with_reducible refine za2 hx ?_;rw[hc]) | (with_reducible refine za2 hD ?_;rw[hDc]) | (with_reducible refine za2 hD ?_;rw[hDd]) | (with_reducible refine zaC hC ?_;rw[Bm]) | wp_step))
   exact hq _
  | false=>
   rw[Bm] at hq
   repeat (any_goals (first | assumption | (with_reducible refine za2 hx ?_;rw[hc]) | (with_reducible refine za2 hD ?_;rw[hDc]) | (with_reducible refine za2 hD ?_;rw[hDd]) | (with_reducible refine zaC hC ?_;rw[Bm]) | with_reducible apply di FB hb hC hn hP hB m1.1 m1.2 m2.1 m2.2 m3.1 m3.2 hx hc | with_reducible refine za2 hC ?_ | wp_step))
   exact hq _
def X2 {tk:Tok}{dep:Int}{Q:Fin->Shared->Prop}{T:String}(X:fU h C P B bmB) (hx:h.get? x=some o) (hc:o.cls=.ref C) (hty:typeOf (.type T)=pure (.type "type"))
  (hq:∀ t',Q (.done (.ret (.bool (bmB.contains (.type T))))) ⟨h,g,d,t',os⟩):
  wpAny (model prog w) A (Builtin.«isinstance.nested» ⟨[.ref x,.type T,.int dep tk],[]⟩) Q E ⟨h,g,d,t,os⟩:=by
 obtain⟨FB,hb,hB,nm,q,N,bs,sn,sub,ab,col,dd,k0,k1,k2,k3,k5,newId,mN,mP,hC,hn,hP,hm⟩:=X
 have m1:=hm "__getattribute__" (.head _)
 have m2:=hm "__getattr__" (.tail _ (.head _))
 have m3:=hm "__class__" (.tail _ (.tail _ (.head _)))
 have DE:(Value.ref C == Value.type T)=false:=rfl
 have Bm:(Value.ref C::.ref P::bmB).contains (.type T)=bmB.contains (.type T):=by rw[A8,A8];rfl
 cases hct:bmB.contains (.type T) with
 | true=>
  rw[hct] at hq Bm
  repeat (any_goals (first | assumption | (with_reducible refine za2 hx ?_;rw[hc]) | (with_reducible refine zaC hC ?_;rw[Bm]) | wp_step))
  exact hq _
 | false=>
  rw[hct] at hq Bm
  repeat (any_goals (first | assumption | (with_reducible refine za2 hx ?_;rw[hc]) | (with_reducible refine zaC hC ?_;rw[Bm]) | with_reducible apply di FB hb hC hn hP hB m1.1 m1.2 m2.1 m2.2 m3.1 m3.2 hx hc | with_reducible refine za2 hC ?_ | wp_step))
  exact hq _
def dh {c:Value}{b:Bool}{s:Shared}{Q:Value->Shared->Prop}(hn:∀ (prog:Program) (w:World) (A:Around) (Q:Fin->Shared->Prop) (E:Value->Shared->Prop),(∀ t',Q (.done (.ret (.bool b))) { s with toks:=t' })->wpAny (model prog w) A (Builtin.«isinstance.nested» ⟨[.ref x,c,rawInt 0],[]⟩) Q E s)
  (hq:∀ t',Q (.bool b) { s with toks:=t' }):wpAny (model prog w) A (call (.builtin "isinstance") [.ref x,c]) Q E s:=
 call_isinstance (S:=λ _ R s'=>s'=s/\∀ t',R (.ok (.ret (.bool b))) { s with toks:=t' }) (λ prog w A R s' hs=>by
  obtain⟨rfl,hs⟩:=hs
  refine isinstance_outer (hn prog w _ _ _ λ t'=>?_) (λ e=>by cases e)
  exact hs t') ⟨rfl,λ t'=>hq t'⟩
end
namespace Heap
def pQ (h base:Heap) (e:Addr) (cls a0 fl:Value) (zI:Option Addr) (T:Addr):Prop:=
 ∃ oe vs oT ts,h.get? e=some oe/\((oe.cls=cls/\oe.dict=zI)/\vs[0]?=some a0)/\oe.data=.fields vs/\vs[1]?=some (.ref T)/\base.get? T=none/\T≠e/\h.get? T=some oT/\oT.data=.fields ts/\ts[3]?=some fl
structure kY (base:Heap) (l:List Env) (e:Addr) (cls a0:Value) (zI:Option Addr) (h h':Heap):Prop where
 stays:base.StaysIn h'
 frames:h'.FunFrames base l
 tr:∃ T,h.objs.size<=T/\h'.pQ base e cls a0 .none zI T
 slots:h.UpToSlots h'
 qc:∀ b o vs,h.get? b=some o->o.data=.fields vs->∃ o' vs',h'.get? b=some o'/\o'.data=.fields vs'
end Heap
def Obj.ZJ (f:Array Value->Array Value) (o:Obj):(Obj.mapFields f o).dict=o.dict:=by
 obtain⟨c,dc,dt,sl⟩:=o
 cases dt <;> rfl
section
variable {M:Model}{A:Around}{E:Value->Shared->Prop}{s:Shared}
def df {base:Heap}{env:Env}{outer:List Env}{L e:Addr}{oe:Obj}{vs:Array Value}{head a0:Value}{hadNext:Bool}{Q:Unit->Shared->Prop}
  (Aw:A.frames=some (env::outer)) (hl:s.heap.FunFrames base (env::outer)) (hf:env.frame=some L)
  (he:s.heap.get? e=some oe) (BO:base.StaysIn s.heap) (B9:base.get? e=none) (hd:oe.data=.fields vs) (hsz:1<vs.size) (h0:vs[0]?=some a0)
  (h:∀ h',Heap.kY base (env::outer) e oe.cls a0 oe.dict s.heap h'->Q () { s with heap:=h' }):
  wpAny M A (do let a <- frameOf env;let pl <- entryPlaceOf L hadNext;let b <- EntryCells.newEntry head a .none (rawInt L) .none pl;setField (.ref e) 1 b) (λ _ s'=>wpAny M A (setFlight (.ref e) none) Q E s') E s:=by
 have CH:e∉(env::outer).filterMap (·.frame):=λ hm=>by
  obtain⟨_,o,ho,Ar⟩:=hl.mem hm
  rw[he] at ho;cases ho;exact Ar vs hd
 refine za0 (wpAny_frameOf_fun Aw hl hf λ h₁ hs₁=>za0 (wpAny_entryPlaceOf λ pl Ah=>?_))
 unfold EntryCells.newEntry newFields
 refine za0 (zaE ?_ (Ah.sizeOk5 _ _ _ _ _))
 have he₁:h₁.get? e=some oe:=(hs₁.2.1 e CH).trans he
 have kb₁:base.StaysIn h₁:=λ b o AG=>(hs₁.2.1 b λ hm=>by rw[(hl.mem hm).1] at AG;cases AG).trans (BO b o AG)
 generalize C6:({ cls:=.type "traceback",dict:=none,data:=.fields ([head,.ref L,.none,rawInt L,.none]++(if pl.isEmpty then List.replicate 6 Value.none else pl)).toArray }:Obj)=tb
 have tbd:tb.data=.fields ([head,.ref L,.none,rawInt L,.none]++(if pl.isEmpty then List.replicate 6 Value.none else pl)).toArray:=by rw[<- C6]
 have tbf:tb.isFreed=false:=by rw[<- C6];rfl
 have he₂:(h₁.push tb).get? e=some oe:=za1 _ he₁
 refine zaB he₂ hd hsz ?_
 have hTe:h₁.objs.size≠e:=BB (Ai he₁)
 have hd₃:=Obj.data_mapFields hd (·.setIfInBounds 1 (Value.ref h₁.objs.size))
 have he₃:=za6 (Obj.mapFields (·.setIfInBounds 1 (Value.ref h₁.objs.size))) he₂ (Obj.isFreed_of_fields hd₃)
 have hT₃:=(za8 (h₁.push tb) (Obj.mapFields (·.setIfInBounds 1 (Value.ref h₁.objs.size))) (Ne.symm hTe)).trans (AE h₁ tbf)
 unfold setFlight
 refine za0 (zaA he₃ hd₃ (x:=.ref h₁.objs.size) (by simp[hsz]) ?_)
 rw[if_pos (show (Value.ref h₁.objs.size != Value.none)=true from by simp)]
 refine zaB hT₃ tbd (by simp only[Av,B2,AR,Ct] <;> lia) (h _ ?_)
 have keep:∀ b o,b≠e->h₁.get? b=some o->(((h₁.push tb).update e (Obj.mapFields (·.setIfInBounds 1 (Value.ref h₁.objs.size)))).update h₁.objs.size (Obj.mapFields (·.setIfInBounds 3 ((none:Option Addr).elim Value.none λ f=>rawInt f)))).get? b=some o:=λ b o Bi hb=>by
  rw[za8 _ _ (BB (Ai hb)),za8 _ _ (Ne.symm Bi)]
  exact za1 _ hb
 have noRecord:∀ b o,s.heap.get? b=some o->(∀ vs,o.data≠.fields vs)->b≠e:=λ b o hb Ar q=>by
  rw[q,he] at hb;cases hb;exact Ar vs hd
 refine⟨λ b o AG=>keep b o (λ q=>by rw[q,B9] at AG;cases AG) (kb₁ b o AG),hl.of_keeps λ b o hb Ar=>?_,?_,λ b o hb Ar=>?_,λ b o us hb A6=>?_⟩
 ·obtain⟨sl,hs⟩:=hs₁.2.2 b o hb
  exact⟨_,keep b _ (noRecord b o hb Ar) hs,rfl⟩
 ·refine⟨h₁.objs.size,by rw[hs₁.1];exact Af _,_,_,_,_,?_,⟨⟨Obj.cls_mapFields _ _,Obj.ZJ _ _⟩,by rw[zbZ (by decide)];exact h0⟩,hd₃,by simp[hsz],kb₁.fresh,hTe,za6 _ hT₃ (Obj.isFreed_of_fields (Obj.data_mapFields tbd _)),Obj.data_mapFields tbd _,by first | (simp;done) | (rcases Ah with rfl | ⟨_,_,_,_,_,_,_,rfl⟩ <;> simp)⟩
  rw[za8 _ _ hTe];exact he₃
 ·obtain⟨sl,hs⟩:=hs₁.2.2 b o hb
  exact⟨sl,keep b _ (noRecord b o hb Ar) hs⟩
 ·by_cases q:b=e
  ·subst q
   exact⟨_,_,(by rw[za8 _ _ hTe];exact he₃),hd₃⟩
  ·have hb₁:h₁.get? b=some o:=(hs₁.2.1 b λ hm=>by
    obtain⟨_,o',ho',Ar⟩:=hl.mem hm
    rw[hb] at ho';cases ho';exact Ar us A6).trans hb
   exact⟨o,us,keep b o q hb₁,A6⟩
def Xu {base:Heap}{env:Env}{outer:List Env}{L e:Addr}{oe:Obj}{vs:Array Value}{a0:Value}{Q:Unit->Shared->Prop}
  (Aw:A.frames=some (env::outer)) (hl:s.heap.FunFrames base (env::outer)) (hf:env.frame=some L)
  (he:s.heap.get? e=some oe) (BO:base.StaysIn s.heap) (B9:base.get? e=none) (hd:oe.data=.fields vs) (h1:vs[1]?=some .none) (h0:vs[0]?=some a0)
  (h:∀ h',Heap.kY base (env::outer) e oe.cls a0 oe.dict s.heap h'->Q () { s with heap:=h' }):wpAny M A (leaving env (.ref e)) Q E s:=by
 unfold leaving noteFrame
 simp only[hf]
 refine za0 (za0 (zaA he hd h1 ?_))
 rw[if_neg (by decide)]
 exact df Aw hl hf he BO B9 hd (Array.getElem?_eq_some_iff.mp h1).1 h0 h
def Xr {base:Heap}{env:Env}{outer:List Env}{L e:Addr}{cls a0:Value}{zI:Option Addr}{T:Addr}{Q:Unit->Shared->Prop}
  (Aw:A.frames=some (env::outer)) (hl:s.heap.FunFrames base (env::outer)) (hf:env.frame=some L) (ht:s.heap.pQ base e cls a0 .none zI T) (BO:base.StaysIn s.heap) (B9:base.get? e=none)
  (h:∀ h',Heap.kY base (env::outer) e cls a0 zI s.heap h'->Q () { s with heap:=h' }):wpAny M A (leaving env (.ref e)) Q E s:=by
 obtain⟨oe,vs,oT,ts,he,⟨⟨rfl,rfl⟩,h0⟩,hd,h1,hnT,hTe,hT,hdT,h3⟩:=ht
 unfold leaving noteFrame
 simp only[hf]
 refine za0 (za0 (zaA he hd h1 ?_))
 rw[if_pos (show (Value.ref T != Value.none)=true from by simp)]
 refine za0 (zaA hT hdT h3 ?_)
 rw[if_neg (show ¬ ((Value.none == rawInt L)=true) from by simp[rawInt])]
 refine za0 (zaB hT hdT (Array.getElem?_eq_some_iff.mp h3).1 ?_)
 have other:∀ b,b≠T->(s.heap.update T (Obj.mapFields (·.setIfInBounds 3 Value.none))).get? b=s.heap.get? b:=λ b hb=>za8 _ _ (Ne.symm hb)
 have noRecord:∀ b o,s.heap.get? b=some o->(∀ vs,o.data≠.fields vs)->b≠T:=λ b o hb Ar q=>by
  rw[q,hT] at hb;cases hb;exact Ar ts hdT
 refine df Aw (hl.of_keeps λ b o hb Ar=>⟨o,(other b (noRecord b o hb Ar)).trans hb,rfl⟩) hf ((other e (Ne.symm hTe)).trans he)
  (λ b o AG=>(other b λ q=>by rw[q,hnT] at AG;cases AG).trans (BO b o AG)) B9 hd (Array.getElem?_eq_some_iff.mp h1).1 h0
  λ h' x=>h h' ⟨x.stays,x.frames,(by
   obtain⟨T',n,r⟩:=x.tr
   exact⟨T',by rw[Heap.size_after_update] at n;exact n,r⟩),λ b o hb Ar=>x.slots b o ((other b (noRecord b o hb Ar)).trans hb) Ar,λ b o us hb A6=>(by
   by_cases q:b=T
   ·subst q
    exact x.qc _ _ _ (za6 _ hT (Obj.isFreed_of_fields (Obj.data_mapFields hdT _))) (Obj.data_mapFields hdT _)
   ·exact x.qc b o us ((other b q).trans hb) A6)⟩
end
structure Heap.Y6 (base:Heap) (l:List Env) (e:Addr) (cls a0 fl:Value) (zI:Option Addr) (h h':Heap):Prop where
 stays:base.StaysIn h'
 frames:h'.FunFrames base l
 tr:∃ T,h.objs.size<=T/\h'.pQ base e cls a0 fl zI T
 slots:h.UpToSlots h'
 qc:∀ b o vs,h.get? b=some o->o.data=.fields vs->∃ o' vs',h'.get? b=some o'/\o'.data=.fields vs'
section
variable {M:Model}{A:Around}{E:Value->Shared->Prop}{s:Shared}
def Xv {base:Heap}{env:Env}{outer:List Env}{L e:Addr}{oe:Obj}{vs:Array Value}{head a0:Value}{hadNext:Bool}{Q:Unit->Shared->Prop}
  (Aw:A.frames=some (env::outer)) (hl:s.heap.FunFrames base (env::outer)) (hf:env.frame=some L)
  (he:s.heap.get? e=some oe) (BO:base.StaysIn s.heap) (B9:base.get? e=none) (hd:oe.data=.fields vs) (hsz:1<vs.size) (h0:vs[0]?=some a0)
  (h:∀ h',Heap.Y6 base (env::outer) e oe.cls a0 (rawInt L) oe.dict s.heap h'->Q () { s with heap:=h' }):
  wpAny M A (do let a <- frameOf env;let pl <- entryPlaceOf L hadNext;let b <- EntryCells.newEntry head a .none (rawInt L) .none pl;setField (.ref e) 1 b) Q E s:=by
 have CH:e∉(env::outer).filterMap (·.frame):=λ hm=>by
  obtain⟨_,o,ho,Ar⟩:=hl.mem hm
  rw[he] at ho;cases ho;exact Ar vs hd
 refine za0 (wpAny_frameOf_fun Aw hl hf λ h₁ hs₁=>za0 (wpAny_entryPlaceOf λ pl Ah=>?_))
 unfold EntryCells.newEntry newFields
 refine za0 (zaE ?_ (Ah.sizeOk5 _ _ _ _ _))
 have he₁:h₁.get? e=some oe:=(hs₁.2.1 e CH).trans he
 have kb₁:base.StaysIn h₁:=λ b o AG=>(hs₁.2.1 b λ hm=>by rw[(hl.mem hm).1] at AG;cases AG).trans (BO b o AG)
 generalize C6:({ cls:=.type "traceback",dict:=none,data:=.fields ([head,.ref L,.none,rawInt L,.none]++(if pl.isEmpty then List.replicate 6 Value.none else pl)).toArray }:Obj)=tb
 have tbd:tb.data=.fields ([head,.ref L,.none,rawInt L,.none]++(if pl.isEmpty then List.replicate 6 Value.none else pl)).toArray:=by rw[<- C6]
 have tbf:tb.isFreed=false:=by rw[<- C6];rfl
 have he₂:(h₁.push tb).get? e=some oe:=za1 _ he₁
 refine zaB he₂ hd hsz (h _ ?_)
 have hTe:h₁.objs.size≠e:=BB (Ai he₁)
 have hd₃:=Obj.data_mapFields hd (·.setIfInBounds 1 (Value.ref h₁.objs.size))
 have he₃:=za6 (Obj.mapFields (·.setIfInBounds 1 (Value.ref h₁.objs.size))) he₂ (Obj.isFreed_of_fields hd₃)
 have hT₃:=(za8 (h₁.push tb) (Obj.mapFields (·.setIfInBounds 1 (Value.ref h₁.objs.size))) (Ne.symm hTe)).trans (AE h₁ tbf)
 have keep:∀ b o,b≠e->h₁.get? b=some o->((h₁.push tb).update e (Obj.mapFields (·.setIfInBounds 1 (Value.ref h₁.objs.size)))).get? b=some o:=λ b o Bi hb=>by
  rw[za8 _ _ (Ne.symm Bi)]
  exact za1 _ hb
 have noRecord:∀ b o,s.heap.get? b=some o->(∀ vs,o.data≠.fields vs)->b≠e:=λ b o hb Ar q=>by
  rw[q,he] at hb;cases hb;exact Ar vs hd
 refine⟨λ b o AG=>keep b o (λ q=>by rw[q,B9] at AG;cases AG) (kb₁ b o AG),hl.of_keeps λ b o hb Ar=>?_,?_,λ b o hb Ar=>?_,λ b o us hb A6=>?_⟩
 ·obtain⟨sl,hs⟩:=hs₁.2.2 b o hb
  exact⟨_,keep b _ (noRecord b o hb Ar) hs,rfl⟩
 ·exact⟨h₁.objs.size,by rw[hs₁.1];exact Af _,_,_,_,_,he₃,⟨⟨Obj.cls_mapFields _ _,Obj.ZJ _ _⟩,by rw[zbZ (by decide)];exact h0⟩,hd₃,by simp[hsz],kb₁.fresh,hTe,hT₃,tbd,by simp⟩
 ·obtain⟨sl,hs⟩:=hs₁.2.2 b o hb
  exact⟨sl,keep b _ (noRecord b o hb Ar) hs⟩
 ·by_cases q:b=e
  ·subst q
   exact⟨_,_,he₃,hd₃⟩
  ·have hb₁:h₁.get? b=some o:=(hs₁.2.1 b λ hm=>by
    obtain⟨_,o',ho',Ar⟩:=hl.mem hm
    rw[hb] at ho';cases ho';exact Ar us A6).trans hb
   exact⟨o,us,keep b o q hb₁,A6⟩
def Xq {base:Heap}{env:Env}{outer:List Env}{L e:Addr}{cls a0:Value}{zI:Option Addr}{T:Addr}{Q:Unit->Shared->Prop}
  (Aw:A.frames=some (env::outer)) (hl:s.heap.FunFrames base (env::outer)) (hf:env.frame=some L) (ht:s.heap.pQ base e cls a0 .none zI T) (BO:base.StaysIn s.heap) (B9:base.get? e=none)
  (h:∀ h',Heap.Y6 base (env::outer) e cls a0 (rawInt L) zI s.heap h'->Q () { s with heap:=h' }):wpAny M A (noteFrame (.ref e) env) Q E s:=by
 obtain⟨oe,vs,oT,ts,he,⟨⟨rfl,rfl⟩,h0⟩,hd,h1,hnT,hTe,hT,hdT,h3⟩:=ht
 unfold noteFrame
 simp only[hf]
 refine za0 (zaA he hd h1 ?_)
 rw[if_pos (show (Value.ref T != Value.none)=true from by simp)]
 refine za0 (zaA hT hdT h3 ?_)
 rw[if_neg (show ¬ ((Value.none == rawInt L)=true) from by simp[rawInt])]
 refine za0 (zaB hT hdT (Array.getElem?_eq_some_iff.mp h3).1 ?_)
 have other:∀ b,b≠T->(s.heap.update T (Obj.mapFields (·.setIfInBounds 3 Value.none))).get? b=s.heap.get? b:=λ b hb=>za8 _ _ (Ne.symm hb)
 have noRecord:∀ b o,s.heap.get? b=some o->(∀ vs,o.data≠.fields vs)->b≠T:=λ b o hb Ar q=>by
  rw[q,hT] at hb;cases hb;exact Ar ts hdT
 refine Xv Aw (hl.of_keeps λ b o hb Ar=>⟨o,(other b (noRecord b o hb Ar)).trans hb,rfl⟩) hf ((other e (Ne.symm hTe)).trans he)
  (λ b o AG=>(other b λ q=>by rw[q,hnT] at AG;cases AG).trans (BO b o AG)) B9 hd (Array.getElem?_eq_some_iff.mp h1).1 h0
  λ h' x=>h h' ⟨x.stays,x.frames,(by
   obtain⟨T',n,r⟩:=x.tr
   exact⟨T',by rw[Heap.size_after_update] at n;exact n,r⟩),λ b o hb Ar=>x.slots b o ((other b (noRecord b o hb Ar)).trans hb) Ar,λ b o us hb A6=>(by
   by_cases q:b=T
   ·subst q
    exact x.qc _ _ _ (za6 _ hT (Obj.isFreed_of_fields (Obj.data_mapFields hdT _))) (Obj.data_mapFields hdT _)
   ·exact x.qc b o us ((other b q).trans hb) A6)⟩
def de {base:Heap}{l:List Env}{e:Addr}{cls a0 fl:Value}{zI:Option Addr}{T:Addr}{Q:Unit->Shared->Prop}
  (BO:base.StaysIn s.heap) (hl:s.heap.FunFrames base l) (ht:s.heap.pQ base e cls a0 fl zI T)
  (h:∀ h',base.StaysIn h'->h'.FunFrames base l->h'.pQ base e cls a0 .none zI T->s.heap.UpToSlots h'->(∀ b o vs,s.heap.get? b=some o->o.data=.fields vs->∃ o' vs',h'.get? b=some o'/\o'.data=.fields vs')->Q () { s with heap:=h' }):wpAny M A (setFlight (.ref e) none) Q E s:=by
 obtain⟨oe,vs,oT,ts,he,A2,hd,h1,hnT,hTe,hT,hdT,h3⟩:=ht
 have hsz3:3<ts.size:=(Array.getElem?_eq_some_iff.mp h3).1
 have other:∀ b,b≠T->(s.heap.update T (Obj.mapFields (·.setIfInBounds 3 ((none:Option Addr).elim Value.none λ f=>rawInt f)))).get? b=s.heap.get? b:=
  λ b hb=>za8 _ _ (Ne.symm hb)
 have noRecord:∀ b o,s.heap.get? b=some o->(∀ vs,o.data≠.fields vs)->b≠T:=λ b o hb Ar q=>by
  rw[q,hT] at hb;cases hb;exact Ar ts hdT
 unfold setFlight
 refine za0 (zaA he hd h1 ?_)
 rw[if_pos (show (Value.ref T != Value.none)=true from by simp)]
 refine zaB hT hdT hsz3 (h _ (λ b o AG=>(other b λ q=>by rw[q,hnT] at AG;cases AG).trans (BO b o AG))
  (hl.of_keeps λ b o hb Ar=>⟨o,(other b (noRecord b o hb Ar)).trans hb,rfl⟩) ?_ (λ b o hb Ar=>⟨o.slots,(other b (noRecord b o hb Ar)).trans hb⟩) λ b o us hb A6=>?_)
 ·exact⟨oe,vs,_,_,(other e (Ne.symm hTe)).trans he,A2,hd,h1,hnT,hTe,za6 _ hT (Obj.isFreed_of_fields (Obj.data_mapFields hdT _)),Obj.data_mapFields hdT _,by simp[hsz3]⟩
 ·by_cases q:b=T
  ·subst q;exact⟨_,_,za6 _ hT (Obj.isFreed_of_fields (Obj.data_mapFields hdT _)),Obj.data_mapFields hdT _⟩
  ·exact⟨o,us,(other b q).trans hb,A6⟩
end
end PySem
namespace PySem
open Calls Spec
section
variable {prog:Program}{w:World}{M:Model}{A:Around}{E:Value->Shared->Prop}{env:Env}
variable {nm q:Str}{C N:Addr}{bs bm:List Value}{hdct:Bool}{sn:List Str}{sub:List Value}{ab:Bool}{col:Option Bool}{dd:Option Addr}{k0 k1 k2 k3 k5:Option Value}{newId:String}
variable {nm' q':Str}{P N':Addr}{bs' bm':List Value}{hdct':Bool}{sn':List Str}{sub':List Value}{ab':Bool}{col':Option Bool}{dd':Option Addr}{l0 l1 l2 l3 l5:Option Value}{newId':String}
def Xs {h:Heap}{g:Array GenState}{d:Drawn}{t:Nat}{os:OsState}{e:Addr}{oe:Obj}{Q:Bool->Shared->Prop}
  (hC:h.get? C=some (excClassObj nm q C N bs bm hdct sn sub ab col dd k0 k1 k2 k3 k5 newId)) (hP:h.get? P=some (excClassObj nm' q' P N' bs' bm' hdct' sn' sub' ab' col' dd' l0 l1 l2 l3 l5 newId'))
  (he:h.get? e=some oe) (A2:oe.cls=.ref C) (hbase:bm'.contains (.type "BaseException")=true) (hm:bm.contains (.ref P)=true)
  (hq:Q true ⟨h,g,d,t,os⟩):wpAny M A (excMatches (.ref e) (.ref P)) Q E ⟨h,g,d,t,os⟩:=by
 have hcB:(Value.ref P::bm').contains (.type "BaseException")=true:=by rw[A8,hbase,CI]
 have hcP:(Value.ref C::bm).contains (.ref P)=true:=by rw[A8,hm,CI]
 have f:=tc_notTuple
 unfold excMatches
 repeat (first | (with_reducible refine za2 he ?_;rw[A2]) | with_reducible refine za2 hP ?_ | (with_reducible refine zaC hP ?_;rw[hcB]) | (with_reducible refine zaC hC ?_;rw[hcP]) | wp_step)
 exact hq
def Xt {s:Shared}{e:Addr}{t:Expr}{n:Str}{b₀:Stmt}{suite:List Stmt}{pos:Pos}{rest:List ExceptHandler}{Q:Flow->Shared->Prop}
  (hbase:bm'.contains (.type "BaseException")=true) (hm:bm.contains (.ref P)=true)
  (h:wpAny (model prog w) (A.mark (some (.ref e))) (eval t env) (λ c s₁=>c=.ref P/\s₁.heap.get? C=some (excClassObj nm q C N bs bm hdct sn sub ab col dd k0 k1 k2 k3 k5 newId)/\s₁.heap.get? P=some (excClassObj nm' q' P N' bs' bm' hdct' sn' sub' ab' col' dd' l0 l1 l2 l3 l5 newId')/\(∃ oe,s₁.heap.get? e=some oe/\oe.cls=.ref C)/\
   wpAny (model prog w) (A.mark (some (.ref e))) (setFlight (.ref e) none) (λ _ s₂=>
     wpAny (model prog w) (A.mark (some (.ref e))) (storeName env n (.ref e)) (λ _ s₃=>
      wpAny (model prog w) (A.mark (some (.ref e))) (execs (b₀::suite) env)
       (λ f s₄=>wpAny (model prog w) A (do bindName env n .none;unbindBehindTheSuite env n pos) (λ _ s₅=>Q f s₅) E s₄)
       (AsSuiteRaised (model prog w) (A.mark (some (.ref e))) env n pos (notedBy (model prog w) (A.mark (some (.ref e))) env (cameBackBy (model prog w) A env E))) s₃) (notedBy (model prog w) (A.mark (some (.ref e))) env (cameBackBy (model prog w) A env E)) s₂) (notedBy (model prog w) (A.mark (some (.ref e))) env (cameBackBy (model prog w) A env E)) s₁) (notedBy (model prog w) (A.mark (some (.ref e))) env (cameBackBy (model prog w) A env E)) s):
  wpAny (model prog w) A (handleBy (.ref e) env (.ExceptHandler (some t) (some n) (b₀::suite) pos::rest)) Q E s:=by
 refine wpAny_handleBy_cons (codeAny_handlers_test (za3 h (λ c s₁ h₁=>?_) λ _ _ y=>y)) (by intro q;cases q)
 obtain⟨rfl,hC,hP,⟨oe,he,A2⟩,hk⟩:=h₁
 obtain⟨hh,g,d,tk,os⟩:=s₁
 exact Xs hC hP he A2 hbase hm (codeAny_handlers_suite_as hk)
end
end PySem
namespace L3
open PySem PySem.Spec L2
open PyProof.Rows hiding St
noncomputable def x_ (T:Addr):HO:=.ext λ h=>∃ oT ts,h.get? T=some oT/\oT.data=.fields ts
def YD (h:Heap) (e:Addr):Prop:=∃ oe vs a0,h.get? e=some oe/\oe.data=.fields vs/\vs[1]?=some .none/\vs[0]?=some a0
def qC (h:Heap) (H:Hp) (e:Addr):Prop:=∃ oe vs a0 T oT ts,h.get? e=some oe/\oe.data=.fields vs/\vs[0]?=some a0/\vs[1]?=some (.ref T)/\T≠e/\H T=some (x_ T)/\h.get? T=some oT/\oT.data=.fields ts/\ts[3]?=some .none
def mH (H:Hp) (e:Addr):Prop:=∃ C dx,H e=some (wJ e C dx)
section
variable {P:Program}{w:World}{H:Hp}{h h':Heap}
def gT {fs as:List Addr}(zl:zZ P w H h) (hf:∀ b∈fs,H b=none/\∀ o,h.get? b=some o->∀ vs,o.data≠.fields vs) (st:(PySem.W.hideAll h as).StaysIn h') (us:h.UpToSlots h')
  (has:∀ a∈as,a∈fs\/∃ φ:Heap->Prop,H a=some (.ext φ)/\φ h'/\∃ o,h'.get? a=some o):Un fs [] H H h h'/\zZ P w H h':=by
 have st':∀ b o,b∉as->h.get? b=some o->h'.get? b=some o:=λ b o hb e=>st b o (PySem.W.hideAll_get _ e hb)
 refine⟨⟨λ b o e n hb _=>st' b o (λ hm=>?_) e,λ b o e n hb _=>us b o e ((hf b hb).2 o e),λ _ _ _ n _=>n,λ b o e _=>?_,λ _ _ q=>q,λ _ _ _ q=>q,λ _ ps q=>⟨#[],by rw[q];simp⟩⟩,λ a o e=>?_⟩
 ·rcases has b hm with z | ⟨φ,z,_⟩
  ·exact hb z
  ·rw[n] at z;cases z
 ·by_cases hm:b∈as
  ·rcases has b hm with z | ⟨φ,_,_,z⟩
   ·obtain⟨sl,q⟩:=us b o e ((hf b z).2 o e)
    exact⟨_,q⟩
   ·exact z
  ·exact⟨o,st' b o hm e⟩
 ·by_cases hm:a∈as
  ·rcases has a hm with z | ⟨φ,z,z1,z2⟩
   ·rw[(hf a z).1] at e;cases e
   ·rw[e] at z;cases z
    exact⟨z1,z2,(zl a _ e).2.2⟩
  ·refine (zl a o e).w_ (λ b u hb q=>?_) (λ _ q=>q) λ _ _ q=>q
   rcases hb with rfl | hb
   ·exact st' _ u hm q
   ·refine st' _ u (λ hm'=>?_) q
    rcases has b hm' with z | ⟨φ,z,_⟩
    ·rw[(hf b z).1] at hb;cases hb
    ·rw[hb] at z;cases z
def Zs {fs:List Addr}{T:Addr}{oT:Obj}{ts:Array Value}(u:Un fs [] H H h h') (zl:zZ P w H h') (hk:zZ P w H h) (hp:h.objs.size<=T) (e:h'.get? T=some oT) (hd:oT.data=.fields ts):
  H T=none/\Un fs [] H (upd H T (x_ T)) h h'/\zZ P w (upd H T (x_ T)) h':=by
 have hn:=hk.fresh hp
 refine⟨hn,⟨u.keep,u.slot,λ b o q n x=>by rw[zG (Ap (AV (Ai q) hp))];exact n,u.there,λ b xs q=>by rw[zG (xk q hn)];exact q,λ b o xs q=>by rw[zG (xk q hn)];exact q,λ b ps q=>⟨#[],by rw[zG (xk q hn),q];simp⟩⟩,λ b o q=>?_⟩
 by_cases hb:b=T
 ·subst hb
  rw[yd] at q;cases q
  exact⟨⟨oT,ts,e,hd⟩,⟨oT,e⟩,λ h1 h2 ⟨o,ts,a,b⟩ k=>⟨o,ts,k _ a,b⟩⟩
 ·rw[zG hb] at q
  exact (zl b o q).w_ (λ _ _ _ z=>z) (λ c z=>by rw[zG (xk z hn)];exact z) λ c xs z=>by rw[zG (xk z hn)];exact z
end
section
variable {X:Cx}{pins:List (Addr×Obj)}{σ:St}{H:Hp}{s:Shared}{e:Addr}
def gP (I:Inv X pins σ H s):∀ b∈yI X.stack,H b=none/\∀ o,s.heap.get? b=some o->∀ vs,o.data≠.fields vs:=λ b hb=>
 ⟨I.jy b hb,λ o ho=>by
  obtain⟨_,o',ho',hd⟩:=I.stack.mem hb
  rw[ho] at ho';cases ho';exact hd⟩
def Z4 {H:Hp}{h:Heap}{P:Program}{w:World}{C dx:Addr}{oe:Obj}(zl:zZ P w H h) (he:H e=some (wJ e C dx)) (q:h.get? e=some oe):oe.cls=.ref C/\oe.dict=some dx:=by
 obtain⟨⟨o',_,a,b,c,_⟩,_⟩:=zl e _ he
 rw[q] at a;cases a;exact⟨b,c⟩
def Qa {M:Model}{E:Value->Shared->Prop}(I:Inv X pins σ H s) (Ay:X.stack=X.env::X.outer) (Aw:X.env.frame=some X.env.locals) (he:mH H e) (hf:YD s.heap e\/qC s.heap H e) {Q:Unit->Shared->Prop}
  (hq:∀ h' T,H T=none->Un (yI X.stack) [] H (upd H T (x_ T)) s.heap h'->zZ X.prog X.w (upd H T (x_ T)) h'->qC h' (upd H T (x_ T)) e->Q () { s with heap:=h' }):wpAny M X.A (leaving X.env (.ref e)) Q E s:=by
 obtain⟨C,dx,hE⟩:=he
 have hF:=I.ok.frames
 rw[Ay] at hF
 have hS:=I.stack
 rw[Ay] at hS
 have fin:∀ (as:List Addr) (oe:Obj) (a0:Value),s.heap.get? e=some oe->(∀ a∈as,a=e\/a∈yI X.stack\/H a=some (x_ a))->
   ∀ h':Heap,Heap.kY (PySem.W.hideAll s.heap as) (X.env::X.outer) e oe.cls a0 oe.dict s.heap h'->Q () { s with heap:=h' }:=λ as oe a0 g0 has h' x=>by
  obtain⟨T,hp,oe',vs',oT,ts,a1,⟨⟨a2,a3⟩,a4⟩,a5,a6,a7,a8,a9,a10,a11⟩:=x.tr
  obtain⟨z1,z2⟩:=Z4 I.zl hE g0
  obtain⟨u,zl⟩:=gT (as:=as) I.zl (gP I) x.stays x.slots λ a ha=>by
   rcases has a ha with z | z | z
   ·rw[z];exact .inr ⟨_,hE,⟨oe',vs',a1,a2.trans z1,a3.trans z2,a5⟩,oe',a1⟩
   ·exact .inl z
   ·obtain⟨⟨oT,ts,q1,q2⟩,_⟩:=I.zl a _ z
    obtain⟨o',ts',q3,q4⟩:=x.qc _ _ _ q1 q2
    exact .inr ⟨_,z,⟨o',ts',q3,q4⟩,o',q3⟩
  obtain⟨n,u',Be⟩:=Zs u zl I.zl hp a9 a10
  exact hq h' T n u' Be ⟨oe',vs',a0,T,oT,ts,a1,a5,a4,a6,a8,yd,a9,a10,a11⟩
 have Bw:∀ (r:List Addr),∀ env∈X.env::X.outer,∀ a,env.frame=some a->a∈r++yI X.stack:=λ r env hm a ha=>AN _ (CO.mpr ⟨env,by rw[Ay];exact hm,ha⟩)
 rcases hf with ⟨oe,vs,a0,g0,g1,g2,g3⟩ | ⟨oe,vs,a0,T,oT,ts,g0,g1,g3,g2,g4,g5,g6,g7,g8⟩
 ·refine Xu (base:=PySem.W.hideAll s.heap ([e]++yI X.stack)) hF (PySem.W.funFrames_hide hS (Bw _)) Aw g0 (λ b o q=>PySem.W.of_hideAll _ q) (PySem.W.hideAll_none _ (by simp)) g1 g2 g3 (fin _ oe a0 g0 λ a ha=>?_)
  rcases AU.mp ha with q | q
  ·exact .inl (AM.mp q)
  ·exact .inr (.inl q)
 ·refine Xr (base:=PySem.W.hideAll s.heap ([e,T]++yI X.stack)) hF (PySem.W.funFrames_hide hS (Bw _)) Aw ⟨oe,vs,oT,ts,g0,⟨⟨rfl,rfl⟩,g3⟩,g1,g2,PySem.W.hideAll_none _ (by simp),g4,g6,g7,g8⟩ (λ b o q=>PySem.W.of_hideAll _ q) (PySem.W.hideAll_none _ (by simp)) (fin _ oe a0 g0 λ a ha=>?_)
  rcases AU.mp ha with q | q
  ·rcases Ak.mp q with q | q
   ·exact .inl q
   ·exact .inr (.inr (by rw[AM.mp q];exact g5))
  ·exact .inr (.inl q)
end
section
variable {X:Cx}{pins:List (Addr×Obj)}{σ:St}{H:Hp}{s:Shared}{e:Addr}{M:Model}{A:Around}{E:Value->Shared->Prop}
def Rw (I:Inv X pins σ H s) (Ay:X.stack=X.env::X.outer) (Aw:X.env.frame=some X.env.locals) (he:mH H e) (hf:qC s.heap H e) {Q:Unit->Shared->Prop}
  (hq:∀ h' T,H T=none->Un (yI X.stack) [] H (upd H T (x_ T)) s.heap h'->zZ X.prog X.w (upd H T (x_ T)) h'->qC h' (upd H T (x_ T)) e->Q () { s with heap:=h' }):
  wpAny M X.A (noteFrame (.ref e) X.env) (λ _ s₂=>wpAny M X.A (setFlight (.ref e) none) Q E s₂) E s:=by
 obtain⟨C,dx,hE⟩:=he
 have hF:=I.ok.frames
 rw[Ay] at hF
 have hS:=I.stack
 rw[Ay] at hS
 obtain⟨oe,vs,a0,T,oT,ts,g0,g1,g3,g2,g4,g5,g6,g7,g8⟩:=hf
 have Bw:∀ env∈X.env::X.outer,∀ a,env.frame=some a->a∈[e,T]++yI X.stack:=λ env hm a ha=>AN _ (CO.mpr ⟨env,by rw[Ay];exact hm,ha⟩)
 refine Xq (base:=PySem.W.hideAll s.heap ([e,T]++yI X.stack)) hF (PySem.W.funFrames_hide hS Bw) Aw ⟨oe,vs,oT,ts,g0,⟨⟨rfl,rfl⟩,g3⟩,g1,g2,PySem.W.hideAll_none _ (by simp),g4,g6,g7,g8⟩ (λ b o q=>PySem.W.of_hideAll _ q) (PySem.W.hideAll_none _ (by simp)) λ h1 x=>?_
 obtain⟨T',hp,tr⟩:=x.tr
 refine de (s:={ s with heap:=h1 }) x.stays x.frames tr λ h2 y1 y2 y3 y4 y5=>?_
 obtain⟨oe',vs',oT',ts',a1,⟨⟨a2,a3⟩,a4⟩,a5,a6,a7,a8,a9,a10,a11⟩:=y3
 obtain⟨z1,z2⟩:=Z4 I.zl hE g0
 obtain⟨u,zl⟩:=gT (as:=[e,T]++yI X.stack) I.zl (gP I) y1 (x.slots.trans y4) λ a ha=>by
  rcases AU.mp ha with q | q
  ·rcases Ak.mp q with q | q
   ·rw[q];exact .inr ⟨_,hE,⟨oe',vs',a1,a2.trans z1,a3.trans z2,a5⟩,oe',a1⟩
   ·rw[AM.mp q]
    obtain⟨o1,t1,b1,b2⟩:=x.qc _ _ _ g6 g7
    obtain⟨o2,t2,b3,b4⟩:=y5 _ _ _ b1 b2
    exact .inr ⟨_,g5,⟨o2,t2,b3,b4⟩,o2,b3⟩
  ·exact .inl q
 obtain⟨n,u',Be⟩:=Zs u zl I.zl hp a9 a10
 exact hq h2 T' n u' Be ⟨oe',vs',a0,T',oT',ts',a1,a5,a4,a6,a8,yd,a9,a10,a11⟩
def Ql (I:Inv X pins σ H s) (he:mH H e) (hf:qC s.heap H e) {Q:Unit->Shared->Prop}
  (hq:∀ h',Un (yI X.stack) [] H H s.heap h'->zZ X.prog X.w H h'->Q () { s with heap:=h' }):wpAny M A (setFlight (.ref e) none) Q E s:=by
 obtain⟨C,dx,hE⟩:=he
 obtain⟨oe,vs,a0,T,oT,ts,g0,g1,g3,g2,g4,g5,g6,g7,g8⟩:=hf
 have Bw:∀ env∈X.stack,∀ a,env.frame=some a->a∈[T]++yI X.stack:=λ env hm a ha=>AN _ (CO.mpr ⟨env,hm,ha⟩)
 refine de (base:=PySem.W.hideAll s.heap ([T]++yI X.stack)) (λ b o q=>PySem.W.of_hideAll _ q) (PySem.W.funFrames_hide I.stack Bw) ⟨oe,vs,oT,ts,g0,⟨⟨rfl,rfl⟩,g3⟩,g1,g2,PySem.W.hideAll_none _ (by simp),g4,g6,g7,g8⟩ λ h2 y1 y2 y3 y4 y5=>?_
 obtain⟨u,zl⟩:=gT (as:=[T]++yI X.stack) I.zl (gP I) y1 y4 λ a ha=>by
  rcases AU.mp ha with q | q
  ·rw[AM.mp q]
   obtain⟨o2,t2,b3,b4⟩:=y5 _ _ _ g6 g7
   exact .inr ⟨_,g5,⟨o2,t2,b3,b4⟩,o2,b3⟩
  ·exact .inl q
 exact hq h2 u zl
def Pf {i:Nat}{x:Str}{pos:Pos}{Q:Unit->Shared->Prop}(I:Inv X pins σ H s) (hN:X.N.Nodup) (hi:X.N[i]?=some x) (hk:X.env.kindOf x=some .local)
  (h:∀ s',Inv X pins (σ.set i none) H s'->Q () s'):wpAny M A (do bindName X.env x .none;unbindBehindTheSuite X.env x pos) Q E s:=by
 obtain⟨m,hn,hl⟩:=id I.loc
 have A2:(X.env.scope.kind == .class||(X.env.scope.kind == .module&&X.env.locals != X.env.globals))=false:=by rw[I.ok.kind];rfl
 have uE:=I.uE
 obtain⟨oL,_,_,hoL,_⟩:=id hn
 refine wpAny_nameGoes_keeps hk hn A2 λ h' v hn' hs=>?_
 refine h _ ⟨I.ok,I.os,I.bare,⟨λ b o e n hb hx=>?_,λ b o e n hb hx=>?_,I.base.free,λ b o e hx=>?_,I.base.wZ,I.base.v9,I.base.vP⟩,⟨_,hn',λ j y v' e1 e2 e3=>?_⟩,λ y c e=>?_,I.free,I.wV,λ p hp=>?_,λ b ob e=>?_,by simpa using I.len⟩
 ·exact (hs.2 b (Ap (AV (Ai e) I.ok.above))).trans (I.base.keep b o e n hb hx)
 ·obtain⟨sl,e1⟩:=I.base.slot b o e n hb hx
  exact⟨sl,(hs.2 b (Ap (AV (Ai e) I.ok.above))).trans e1⟩
 ·obtain⟨o',e1⟩:=I.base.there b o e hx
  exact⟨o',(hs.2 b (Ap (AV (Ai e) I.ok.above))).trans e1⟩
 ·by_cases hj:j=i
  ·subst hj
   rw[CL] at e2
   simp at e2
  ·rw[DT (Ne.symm hj)] at e2
   obtain⟨u',r',q⟩:=hl j y v' e1 e2 e3
   refine⟨u',r',?_⟩
   rcases q with ⟨k,e⟩ | ⟨k,c,e,z⟩
   ·refine .inl ⟨k,?_⟩
    have:y≠x:=λ e=>hj (iU hN e1 (e▸hi))
    simp[this,e]
   ·exact .inr ⟨k,c,e,z.sameBut hs (uE y c e)⟩
 ·obtain⟨w',z⟩:=I.cell y c e
  exact⟨w',z.sameBut hs (uE y c e)⟩
 ·obtain⟨e,n,ne,nf,d⟩:=I.pin p hp
  exact⟨(hs.2 p.1 ne).trans e,n,ne,nf,d⟩
 ·refine (I.zl b ob e).w_ (λ c w' hc q=>(hs.2 c ?_).trans q) (λ _ q=>q) λ _ _ q=>q
  rintro rfl
  rcases hc with rfl | hc
  ·rw[I.free] at e;cases e
  ·rw[I.free] at hc;cases hc
end
abbrev rA:List Str:=["place","pair","way","times","told","name","row"]
def ky {f:Str}(h:f∈rA):f∈rj:=by
 simp only[Ak,B_,or_false] at h ⊢
 rcases h with h | h | h | h | h | h | h <;> simp[h]
def dw {f:Str}(h:f∈rA):typeLookup (.type "ValueError") f=pure none:=by
 simp only[Ak,B_,or_false] at h
 rcases h with rfl | rfl | rfl | rfl | rfl | rfl | rfl <;> (rw[typeLookup_type,builtinLookup_eq_fast];kernel_rfl)
def XG:typeLookup (.type "ValueError") "__class__"=pure (some (.builtin "object.__class__")):=by rw[typeLookup_type,builtinLookup_eq_fast];kernel_rfl
section
variable {K:Ab}{h:Heap}{c:Str}{C P N NP:Addr}{bm:List Value}
def rO.at (o:rO K c C bm N) (X:K.In h):(∃ (q:Str) (bs:List Value) (sn:List Str) (sub:List Value) (ab:Bool) (col:Option Bool) (dd:Option Addr) (k0 k1 k2 k3 k5:Option Value),h.get? C=some (excClassObj c q C N bs bm true sn sub ab col dd k0 k1 k2 k3 k5 "ValueError.__new__"))/\h.Ns N (h.nsMap N)/\∀ n∈rj,h.nsMap N n=none:=by
 obtain⟨⟨q,bs,sn,sub,ab,col,dd,k0,k1,k2,k3,k5,e⟩,ok,hn⟩:=o
 exact⟨⟨q,bs,sn,sub,ab,col,dd,k0,k1,k2,k3,k5,X _ _ e⟩,.of_isNs (PySem.W.isNs_of_in X ok),λ n m=>PySem.W.nsMap_none_of_in X ok (hn n m)⟩
def rS.dg (e:rS K c C P N NP) (X:K.In h):fU h C P "ValueError" vF:=by
 obtain⟨⟨q,bs,sn,sub,ab,col,dd,k0,k1,k2,k3,k5,hC⟩,hN,hn⟩:=e.own.at X
 obtain⟨⟨q',bs',sn',sub',ab',col',dd',l0,l1,l2,l3,l5,hP⟩,hN',hn'⟩:=e.par.at X
 refine⟨PySem.F.attrBase_ValueError,by decide,XG,c,q,N,bs,sn,sub,ab,col,dd,k0,k1,k2,k3,k5,_,_,_,hC,hN,⟨⟨_,_,_,_,hP,hN'⟩⟩,λ n m=>?_⟩
 have m':n∈rj:=by
  simp only[Ak,B_,or_false] at m ⊢
  rcases m with m | m | m <;> simp[m]
 exact⟨hn n m',hn' n m'⟩
end
noncomputable def mY (e C vs:Addr):HO:=.ext λ h=>h.get? e=some { cls:=.ref C,data:=.fields #[.ref vs,.none,.none,.none,.bool false,.none] }
noncomputable def ez (e C dx vs:Addr):HO:=.ext λ h=>h.get? e=some { cls:=.ref C,dict:=some dx,data:=.fields #[.ref vs,.none,.none,.none,.bool false,.none] }
section
variable {P:Program}{w:World}{fs:List Addr}{H:Hp}{h h':Heap}{e dx:Addr}{φ ψ:Heap->Prop}{fv:List (Str×V)}
def XO (zl:zZ P w H h) (he:H e=some (.ext φ)) (hd:h.objs.size<=dx) (k:∀ b o,b≠e->h.get? b=some o->h'.get? b=some o) (hψ:ψ h') (B8:∃ o,h'.get? e=some o)
  (st:∀ h1 h2:Heap,ψ h1->(∀ o,h1.get? e=some o->h2.get? e=some o)->ψ h2) (hx:∃ mA,h'.Ns1 dx mA/\∀ f,vI (fv.lookup f) (mA f)):
  Un fs [] H (upd (upd H dx (.xd fv)) e (.ext ψ)) h h'/\zZ P w (upd (upd H dx (.xd fv)) e (.ext ψ)) h':=by
 have hn:H dx=none:=zl.fresh hd
 have up:∀ b,b≠e->b≠dx->upd (upd H dx (.xd fv)) e (.ext ψ) b=H b:=λ b a c=>by rw[zG a,zG c]
 have ue:∀ b,H b=none->b≠e:=λ b a z=>by rw[z,he] at a;cases a
 have ux:∀ b o,h.get? b=some o->b≠dx:=λ b o q=>Ap (AV (Ai q) hd)
 have us:∀ b u,H b=some u->(∀ φ,u≠.ext φ)->upd (upd H dx (.xd fv)) e (.ext ψ) b=some u:=λ b u q n=>by
  rw[up b (vX q he (n _)) (xk q hn)];exact q
 refine⟨⟨λ b o q n _ _=>k b o (ue b n) q,λ b o q n _ _=>⟨o.slots,k b o (ue b n) q⟩,λ b o q n _=>by rw[up b (ue b n) (ux b o q)];exact n,λ b o q _=>?_,λ b xs q=>us b _ q (λ _ z=>by cases z),λ b o u q=>us b _ q (λ _ z=>by cases z),λ b ps q=>⟨#[],by rw[us b _ q (λ _ z=>by cases z)];simp⟩⟩,λ a o q=>?_⟩
 ·by_cases z:b=e
  ·rw[z];exact B8
  ·exact⟨o,k b o z q⟩
 ·by_cases z:a=e
  ·subst z
   rw[yd] at q;cases q
   exact⟨hψ,B8,st⟩
  ·rw[zG z] at q
   by_cases z':a=dx
   ·subst z'
    rw[yd] at q;cases q
    exact hx
   ·rw[zG z'] at q
    refine (zl a o q).w_ (λ b u hb c=>k b u ?_ c) (λ b c=>us b _ c (λ _ z=>by cases z)) λ b xs c=>us b _ c (λ _ z=>by cases z)
    rcases hb with rfl | hb
    ·exact z
    ·exact vX hb he (by intro z;cases z)
def XM (zl:zZ P w H h) (he:H e=some (.ext φ)) (hψ:ψ h) (st:∀ h1 h2:Heap,ψ h1->(∀ o,h1.get? e=some o->h2.get? e=some o)->ψ h2):
  Un fs [] H (upd H e (.ext ψ)) h h/\zZ P w (upd H e (.ext ψ)) h:=by
 have ue:∀ b,H b=none->b≠e:=λ b a z=>by rw[z,he] at a;cases a
 have us:∀ b u,H b=some u->(∀ φ,u≠.ext φ)->upd H e (.ext ψ) b=some u:=λ b u q n=>by
  rw[zG (vX q he (n _))];exact q
 refine⟨⟨λ b o q n _ _=>q,λ b o q n _ _=>⟨o.slots,q⟩,λ b o q n _=>by rw[zG (ue b n)];exact n,λ b o q _=>⟨o,q⟩,λ b xs q=>us b _ q (λ _ z=>by cases z),λ b o u q=>us b _ q (λ _ z=>by cases z),λ b ps q=>⟨#[],by rw[us b _ q (λ _ z=>by cases z)];simp⟩⟩,λ a o q=>?_⟩
 by_cases z:a=e
 ·subst z
  rw[yd] at q;cases q
  exact⟨hψ,(zl a _ he).2.1,st⟩
 ·rw[zG z] at q
  exact (zl a o q).w_ (λ b u hb c=>c) (λ b c=>us b _ c (λ _ z=>by cases z)) λ b xs c=>us b _ c (λ _ z=>by cases z)
end
def Wg (K:Ab) (f:Str):TS:=λ D σ H=>∃ e C vs v c,σ[0]?=some (some (.ref e))/\σ[1]?=some (some v)/\H e=some (mY e C vs)/\uL K c C/\
 ∀ dx,H dx=none->dx≠e->D.nx σ (upd (upd H dx (.xd [(f,v)])) e (ez e C dx vs))
def V8 {X:Cx}{o value:Expr}{f:Str}{pos pos':Pos}(hf:f∈rA) (ho:PE X o (ox 0)) (hv:PE X value (ox 1)) (hs:swapsWith value (some (.Attribute o f pos')) pos.line X.env=pure false):
  PS X (.Assign [.Attribute o f pos'] value pos) (Wg X.K f):=by
 intro pins s σ H D I h
 obtain⟨e,C,vs,v,c,h0,h1,h2,⟨P,N,NP,hE⟩,hq⟩:=h
 refine plainObj_wpAny_Assign_Attribute (zw (hv pins s σ H (λ x H'=>x=v/\H'=H) I ⟨v,h1,rfl,rfl⟩) λ u s1 ⟨y,H1,I1,ry,ey,eH⟩=>?_) hs
 subst ey eH
 refine zw (ho pins s1 σ H1 (λ x H'=>x=.ref e/\H'=H1) I1 ⟨_,h0,rfl,rfl⟩) λ ov s2 ⟨x,H2,I2,rx,ex,eH2⟩=>?_
 subst ex eH2
 obtain rfl:ov=Value.ref e:=rx
 obtain⟨hh,g,d,t,os⟩:=s2
 obtain⟨⟨q,bs,sn,sub,ab,col,dd,k0,k1,k2,k3,k5,hC⟩,hN,hn⟩:=hE.own.at I2.yz
 obtain⟨⟨q',bs',sn',sub',ab',col',dd',l0,l1,l2,l3,l5,hP⟩,hN',hn'⟩:=hE.par.at I2.yz
 have hsa:("__setattr__":Str)∈rj:=by simp
 have h3:hh.get? e=some { cls:=.ref C,data:=.fields #[.ref vs,.none,.none,.none,.bool false,.none] }:=(I2.zl e _ h2).1
 refine Xy PySem.F.store_ValueError hC hN ⟨⟨_,_,_,_,hP,hN'⟩⟩ (hn _ hsa) (hn' _ hsa) (hn _ (ky hf)) (hn' _ (ky hf)) (dw hf) h3 rfl rfl (λ _=>nofun) λ h' tk' z1 z2 z3=>?_
 have dn:=I2.zl.fresh (Af hh.objs.size)
 obtain⟨u',Be⟩:=XO (fs:=X.fs) (fv:=[(f,y)]) (ψ:=λ h=>h.get? e=some { cls:=.ref C,dict:=some hh.objs.size,data:=.fields #[.ref vs,.none,.none,.none,.bool false,.none] }) I2.zl h2 (Af _) z3 z1 ⟨_,z1⟩ (λ h1 h2 a b=>b _ a) ⟨_,z2,λ f'=>by
  by_cases Ep:f'=f
  ·subst Ep
   simp only[A9,beq_self_eq_true,if_true]
   exact ry
  ·have:(f' == f)=false:=by simpa using Ep
   simp only[A9,this,List.lookup_nil,if_neg Ep]
   trivial⟩
 exact⟨σ,_,I2.un (t':=tk') u' Be,hq _ dn (xk h2 dn).symm⟩
noncomputable def W6 (K:Ab) (f:Str):Sp:=λ vs H Q _=>∃ e C va v c,vs=[.ref e,v]/\H e=some (mY e C va)/\uL K c C/\∀ dx,H dx=none->dx≠e->Q .zj (upd (upd H dx (.xd [(f,v)])) e (ez e C dx va))
structure mJ (K:Ab) (mg:Str->Option Value) (c f:Str) (st:Stmt):Prop where
 fl:f∈rA
 ex:∃ (C P N NP fI:Addr) (fd:FuncData),rS K c C P N NP/\mg c=some (.ref C)/\PySem.W.keepIn K (.ref C)=true/\PySem.W.nsIn K N "__init__"=some (some (.ref fI))/\PySem.W.isFn K (.ref fI)=true/\wY K "__init__" (c++".__init__") st fI fd
structure mI (f:Str) (st:Stmt):Prop where
 sc:zW ["self",f] ["self",f] (zu st)
 bd:∃ p1 p2 p3 p4,x9 st=[.Assign [.Attribute (.Name "self" p1) f p2] (.Name f p3) p4]/\∀ env:Env,swapsWith (.Name f p3) (some (.Attribute (.Name "self" p1) f p2)) p4.line env=pure false
 bn:∀ (x q:Str) (kV doc pm:Value) (an:Option Addr) (Ad ct:Value) (us:List Value),us.length=2->bindArgs (PySem.W.fnOf x q (uj st) (x9 st) (zu st) .none kV doc pm an Ad ct) ⟨us,[]⟩=pure ((["self",f]:List Str).zip us)
def Zt {f:Str}(h:f∈rA):(f == ("__debug__":Str))=false/\(f == ("__classdict__":Str))=false:=by
 simp only[Ak,B_,or_false] at h
 rcases h with rfl | rfl | rfl | rfl | rfl | rfl | rfl <;> exact⟨by decide,by decide⟩
def QH {P:Program}{w:World}{K:Ab}{mg:Str->Option Value}{base:Heap}{c f:Str}{st:Stmt}{fI:Addr}{fd:FuncData}(hf:f∈rA) (F:wY K "__init__" (c++".__init__") st fI fd) (S:mI f st):
  xa P w K mg base xq 1 fI fd ["self",f] (W6 K f):=by
 obtain⟨p1,p2,p3,p4,hb,hs⟩:=S.bd
 refine F.ok (k:=0) S.sc (λ vs H Q E ⟨e,C,va,v,c,h,_⟩=>by rw[h];rfl) λ Ad A outer s H vs Q E hr h=>?_
 rw[hb]
 obtain⟨e,C,va,v,c',h1,h2,h3,h4⟩:=h
 subst h1
 have vis:∀ x∈(["self",f]:List Str),m7 (zu st) x:=λ x m=>(S.sc.par x m).elim .inl (λ z=>.inr (.inl z))
 exact⟨_,iq (V8 hf (pv 0 rfl (vis _ (by simp))) (pv 1 rfl (vis _ (by simp)) (Zt hf).1 (Zt hf).2) (hs _)),e,C,va,v,c',rfl,rfl,h2,h3,h4⟩
def Rv {K:Ab}{h:Heap}{N:Addr}{mg:Str->Option Value}{n:Str}{v:Value}(X:K.In h) (G:h.Ns N mg) (e:PySem.W.nsIn K N n=some (some v)):mg n=some v:=by
 obtain⟨o,es,ep,ho,hd,_,hf⟩:=G
 unfold PySem.W.nsIn at e
 split at e
 ·rename_i c d es' n' sl q
  have:=X _ _ q
  rw[ho] at this
  cases this
  cases hd
  split at e
  ·rename_i en he
   cases e
   rw[<- hf]
   unfold nsFind findBy
   rw[<- Array.find?_toList,he]
   rfl
  ·split at e <;> cases e
 ·cases e
def XP (X:Cx) (pins:List (Addr×Obj)) (fl:Bool) (σ:St) (Q:Addr->Hp->Prop) (v:Value) (s':Shared):Prop:=
 ∃ e pins' σ' H',v=.ref e/\(fl=true->pins'=pins/\σ'=σ)/\Inv X pins' σ' H' s'/\mH H' e/\((fl=false/\YD s'.heap e)\/qC s'.heap H' e)/\Q e H'
def f_ (K:Ab) (c f:Str) (x:V) (e:Addr) (H':Hp):Prop:=∃ C dx,uL K c C/\H' e=some (wJ e C dx)/\H' dx=some (.xd [(f,x)])
def wp_raise {X:Cx}{c f:Str}{st:Stmt}{e:Expr}{te:TE}{p pos rpos:Pos}{pins:List (Addr×Obj)}{σ:St}{H:Hp}{s:Shared}{Q:Addr->Hp->Prop}{R:Flow->Shared->Prop}
  (G:mJ X.K X.mg c f st) (S:mI f st) (hr:zV 2 X.A) (hc:X.calm=true) (hn:∀ v s,¬ X.xe v s) (hg:Gl X c) (AZ:(c == ("__debug__":Str))=false) (he:PE X e te)
  (hs:starEach [e] X.env=(false,eval e X.env)::starEach [] X.env) (Ah:(backTo pos (starEach [] X.env)).any (·.1)=false)
  {W:Value->Shared->Prop}(hW:∀ v s',XP X pins false σ Q v s'->W v s') (I:Inv X pins σ H s) (h:te σ H λ x H1=>∀ a H',m9 H1 H'->f_ X.K c f x a H'->Q a H'):
  wpAny (model X.prog X.w) X.A (exec (.Raise (some (.Call (.Name c p) [e] [] pos)) none rpos) X.env) R W s:=by
 obtain⟨C,P,N,NP,fI,fd,hE,hm,hk,hi,B7,F⟩:=G.ex
 obtain⟨⟨q,bs,sn,sub,ab,col,dd,k0,k1,k2,k3,k5,lk⟩,_,_⟩:=id hE.own
 rw[arm_exec_Raise]
 refine za0 (wpAny_standAt (Xz (C:=C) (nm:=c) (q:=q) (N:=N) (bs:=bs) (bm:=.ref P::vF) (hdct:=true) (sn:=sn) (sub:=sub) (ab:=ab) (col:=col) (dd:=dd) (k0:=k0) (k1:=k1) (k2:=k2) (k3:=k3) (k5:=k5) (newId:="ValueError.__new__")
  (by rw[A8,show vF.contains (.type "BaseException")=true from by decide,CI]) (I.ok.hd hc) (za0 (za3 ?_ (λ v s₃ h₃=>za0 (wpAny_standAt (Ac h₃))) λ _ _ x=>x))))
 refine zaJ (nE I hg hm ?_ AZ)
 have ha:PA X [e] (lz te ly):=uS he rf hs
 refine PySem.W.callWith_K (h₀:=X.base) I.ok.mod.p0 hk (za3 (ha pos pins s σ H (λ vs H1=>match vs with
  | [x]=>∀ a H',m9 H1 H'->f_ X.K c f x a H'->Q a H'
  | _=>False) I h) (λ us s1 ⟨vs,H1,I1,r,q⟩=>⟨I1.yz,?_⟩) λ _ _ z=>(hn _ _ z).elim) hs Ah
 obtain⟨x,rfl,q⟩:∃ x,vs=[x]/\∀ a H',m9 H1 H'->f_ X.K c f x a H'->Q a H':=by
  match vs,q with
  | [x],q=>exact⟨x,rfl,q⟩
 obtain⟨u,rfl,r1⟩:∃ u,us=[u]/\RelV x u:=by
  cases r with
  | cons r1 r2=>
   cases r2
   exact⟨_,rfl,r1⟩
 obtain⟨hh,g,d,t,os⟩:=s1
 have hC:=I1.yz _ _ lk
 obtain⟨_,hN,hnn⟩:=hE.own.at I1.yz
 obtain⟨⟨q',bs',sn',sub',ab',col',dd',l0,l1,l2,l3,l5,hP⟩,hN',hn'⟩:=hE.par.at I1.yz
 have hfI:∃ oI,hh.get? fI=some oI/\oI.cls=.type "function":=by
  obtain⟨oc,od,_,_,_,_,_,_,osl,_,lf,_⟩:=F.ex
  have z:=beq_iff_eq.mp B7
  simp only[PySem.W.typeIn,lf,Option.map_some] at z
  exact⟨_,I1.yz _ _ lf,A4 z⟩
 obtain⟨oI,hfI,Di⟩:=hfI
 have T:OwnTail hh vF (.ref P::vF):=.own hP hN' (PySem.W.ns_none_of I1.yz hN' hE.VI) .base
 refine X9 PySem.F.excBase_ValueError T hC hN (Rv I1.yz hN hi) hfI Di (λ h' e hle M=>?_) (by show 1<=sizeLine;decide)
 obtain⟨va,m1,m2,m3⟩:=M.there
 have I2:Inv X pins σ (upd H1 e (mY e C va)) ⟨h',g,d,t,os⟩:=I1.laid (t':=t) M.keeps hle ⟨m1,⟨_,m1⟩,λ h1 h2 a b=>b _ a⟩
 have en:H1 e=none:=I1.zl.fresh hle
 have r2:Vals [V.ref e,x] [Value.ref e,u]:=.cons rfl (.cons r1 .nil)
 have F2:=QH (P:=X.prog) (w:=X.w) (mg:=X.mg) (base:=X.base) G.fl F S
 refine wpAny_call (codeAny_mono (F2.run _ X.stack _ _ ⟨[.ref e,u],[]⟩ [.ref e,u] [.ref e,x] (λ v H2=>v=.zj/\∃ dx,upd H1 e (mY e C va) dx=none/\dx≠e/\H2=upd (upd (upd H1 e (mY e C va)) dx (.xd [(f,x)])) e (ez e C dx va)) E0 ((hr.make C [u] []).mono (by decide)) (I2.g_.make C [u] [])
  (F.binds (ps:=["self",f]) (S.bn _ _) _ _ I2.yz rfl) r2 ⟨e,C,va,x,c,rfl,yd,⟨P,N,NP,hE⟩,λ dx n ne=>⟨rfl,dx,n,ne,rfl⟩⟩) λ r s' hq'=>?_)
 cases r with
 | error e=>exact hq'.elim
 | ok fl=>
  cases fl with
  | ret u'=>
   obtain⟨v,H',I3,rv,ev,dx,n,ne,eH⟩:=I2.after hq'
   subst ev eH
   have g3:=(I3.zl e _ yd).1
   obtain⟨u3,ok3⟩:=XM (fs:=X.fs) (ψ:=λ h=>∃ oe vs,h.get? e=some oe/\oe.cls=.ref C/\oe.dict=some dx/\oe.data=.fields vs) I3.zl yd ⟨_,_,g3,rfl,rfl,rfl⟩ (λ h1 h2 ⟨oe,vs,a,b⟩ k=>⟨oe,vs,k _ a,b⟩)
   have I4:=I3.un (t':=s'.toks) u3 ok3
   refine⟨rv,e,some dx,va,_,rfl,I3.yz _ _ lk,g3,hW _ _ ⟨e,pins,σ,_,rfl,nofun,I4,⟨C,dx,yd⟩,.inl ⟨rfl,_,_,_,g3,rfl,rfl,rfl⟩,q e _ (λ b o z=>?_) ⟨C,dx,⟨P,N,NP,hE⟩,yd,by rw[zG ne,zG ne,yd]⟩⟩⟩
   have b1:b≠e:=λ y=>by rw[y,en] at z;cases z
   have b2:b≠dx:=λ y=>by rw[<- y,zG b1,z] at n;cases n
   rw[zG b1,zG b1,zG b2,zG b1];exact z
  | _=>exact False.elim hq'
def Un.out {fs:List Addr}{L:Addr}{H H1 H2:Hp}{h h1 h2:Heap}(a:Un fs [] H H1 h h1) (b:Un (L::fs) [] H1 H2 h1 h2) (hL:h.get? L=none):Un fs [] H H2 h h2 where
 keep:=λ c o q n hc hx=>b.keep c o (a.keep c o q n hc hx) (a.free c o q n hx) (λ z=>(Ak.mp z).elim (λ y=>by rw[y,hL] at q;cases q) hc) hx
 slot:=λ c o q n hc hx=>by
  obtain⟨sl,e⟩:=a.slot c o q n hc hx
  obtain⟨sl',e'⟩:=b.slot c _ e (a.free c o q n hx) (Ao _ hc) hx
  exact⟨sl',e'⟩
 free:=λ c o q n hx=>by
  obtain⟨o',e⟩:=a.there c o q hx
  exact b.free c o' e (a.free c o q n hx) hx
 there:=λ c o q hx=>by
  obtain⟨o',e⟩:=a.there c o q hx
  exact b.there c o' e hx
 wZ:=λ c xs q=>b.wZ c xs (a.wZ c xs q)
 v9:=λ c o xs q=>b.v9 c o xs (a.v9 c o xs q)
 vP:=λ c ps q=>by
  obtain⟨m1,e1⟩:=a.vP c ps q
  obtain⟨m2,e2⟩:=b.vP c _ e1
  exact⟨m1++m2,by rw[e2,DV]⟩
def om (P:Program) (w:World):vL:=λ outer H s E v s'=>∃ e H',v=.ref e/\s'.os=s.os/\AllBare s'.gens/\Un (yI outer) [] H H' s.heap s'.heap/\zZ P w H' s'.heap/\mH H' e/\qC s'.heap H' e/\E v none H'
def xa.never {P:Program}{w:World}{K:Ab}{mg:Str->Option Value}{base:Heap}{k:Nat}{f:Addr}{fd:FuncData}{ps:List Str}{sp:Sp}(F:xa P w K mg base (om P w) k f fd ps sp):
  xa P w K mg base xq k f fd ps (λ vs H Q _=>sp vs H Q λ _ _ _=>False):=
 ⟨λ vs H Q E h=>F.len _ _ _ _ h,λ A outer s H args us vs Q E hr he hb hv hs=>codeAny_mono (F.run A outer s H args us vs Q _ hr he hb hv hs) λ r s' hq=>by
  cases r with
  | error e=>
   obtain⟨_,_,_,_,_,_,_,_,_,z⟩:=hq
   exact z.elim
  | ok fl=>cases fl <;> exact hq⟩
section
variable {X:Cx}{k:Nat}{f:Addr}{fd:FuncData}{ps:List Str}{sp:Sp}{x:Str}{p pos:Pos}{e:Expr}{es:List Expr}{t:TA}{pins:List (Addr×Obj)}{σ:St}{H:Hp}{s:Shared}{Q:VK}{Qx:Addr->Hp->Prop}{fl:Bool}
def XB (F:xa X.prog X.w X.K X.mg X.base (om X.prog X.w) k f fd ps sp) (hr:zV k X.A) (hg:Gl X x) (hm:X.mg x=some (.ref f)) (hk:PySem.W.keepIn X.K (.ref f)=true) (hb:Binds X.K fd ps []) (hn:∀ v s,¬ X.xe v s)
  (ha:PA X (e::es) t) (AZ:(x == ("__debug__":Str))=false) (he:starEach (e::es) X.env=(false,eval e X.env)::starEach es X.env) (Ah:(backTo pos (starEach es X.env)).any (·.1)=false)
  {W:Value->Shared->Prop}(hW:∀ v s',XP X pins fl σ Qx v s'->W v s') (I:Inv X pins σ H s) (h:t σ H λ vs H1=>sp vs H1 Q λ v _ H'=>∃ a,v=.ref a/\Qx a H'):
  wpAny (model X.prog X.w) X.A (eval (.Call (.Name x p) (e::es) [] pos) X.env) (EP X pins σ Q) W s:=by
 refine zaJ (nE I hg hm ?_ AZ)
 refine PySem.W.callWith_K (h₀:=X.base) I.ok.mod.p0 hk (za3 (ha pos pins s σ H _ I h) (λ us s1 ⟨vs,H1,I1,r,q⟩=>⟨I1.yz,?_⟩) λ _ _ z=>(hn _ _ z).elim) he Ah
 have hl:us.length=ps.length:=by rw[<- r.length];exact F.len _ _ _ _ q
 have A6:=hb s1 us I1.yz (by rw[Cw];exact hl)
 rw[Cw] at A6
 refine wpAny_call (codeAny_mono (F.run X.A X.stack s1 H1 ⟨us,[]⟩ us vs Q _ hr I1.g_ A6 r q) λ r s' hq=>?_)
 cases r with
 | error v=>
  obtain⟨a,H',rfl,os,bare,un,zl,ie,f1,a',ea,z⟩:=hq
  cases ea
  exact hW _ _ ⟨a,pins,σ,H',rfl,λ _=>⟨rfl,rfl⟩,I1.Yi (ch:=[]) os un zl bare (λ b z=>absurd z (by simp)),ie,.inr f1,z⟩
 | ok fl=>
  cases fl with
  | ret u=>exact I1.after hq
  | _=>exact False.elim hq
end
abbrev nA (X:Cx) (e:Addr):Cx:={ X with A:=X.A.mark (some (.ref e)),calm:=false }
section
variable {X:Cx}{pins:List (Addr×Obj)}{σ σ':St}{H H':Hp}{s s':Shared}{e:Addr}
def aR (I:Inv X pins σ H s) (e:Addr):Inv (nA X e) pins σ H s:=
 ⟨⟨I.ok.mod,I.ok.kind,I.ok.glob,I.ok.blt,I.ok.above,I.ok.inj,I.ok.has,I.ok.qq,nofun,I.ok.frames,I.ok.qL,I.ok.nP,I.ok.bs,I.ok.tp,I.ok.qe,I.ok.qm,I.ok.vf,I.ok.tY⟩,I.os,I.bare,I.base,I.loc,I.cell,I.free,I.wV,I.pin,I.zl,I.len⟩
def Q9 (I:Inv X pins σ H s) (J:Inv (nA X e) pins σ' H' s'):Inv X pins σ' H' s':=⟨I.ok,J.os,J.bare,J.base,J.loc,J.cell,J.free,J.wV,J.pin,J.zl,J.len⟩
def XA {i j:Nat}{n c:Str}{body:List Stmt}{p1 p2 p3 p4 CF pos:Pos}{D:Ends}{Qx:Addr->Hp->Prop}(hn:∀ v s,¬ X.xe v s) (Ay:X.stack=X.env::X.outer) (Aw:X.env.frame=some X.env.locals)
  (hg:Gl X "PurseError") (hN:X.N.Nodup) (hi:X.N[i]?=some n) (Bw:X.env.kindOf n=some .local) (hj:X.N[j]?=some c) (DX:Loc X.env.scope c) (Eo:X.fn c=true\/X.env.scope.names.lookup c=some .local) (AX:i≠j)
  (Bg:(n == ("__debug__":Str))=false) (BN:(n == ("__classdict__":Str))=false) (BM:swapsWith (.Name n p3) (some (.Name c p2)) p4.line X.env=pure false)
  (I:Inv X pins σ H s) (hb:wpAny (model X.prog X.w) X.A (execs body X.env) (SP X pins D) (XP X pins true σ Qx) s)
  (hx:∀ a H',Qx a H'->(∃ cn C dx,uL X.K cn C/\H' a=some (wJ a C dx))/\∀ T,H' T=none->D.nx (((σ.set i (some (.ref a))).set j (some (.ref a))).set i none) (upd H' T (x_ T))):
  wpAny (model X.prog X.w) X.A (exec (.Try body [.ExceptHandler (some (.Name "PurseError" p1)) (some n) [.Assign [.Name c p2] (.Name n p3) p4] CF] [] [] pos) X.env) (SP X pins D) X.xe s:=by
 refine wpAny_Try_except (za3 hb (λ f s₁ q=>?_) λ v s₁ ⟨a,pins',σ',H1,ev,es,I1,ie,fly,q⟩=>?_)
 ·cases f with
  | next=>exact zaH q
  | _=>exact q
 subst ev
 obtain⟨rfl,rfl⟩:=es rfl
 obtain⟨⟨cn,C,dx,⟨P,N,NP,hE⟩,hEo⟩,q⟩:=hx a H1 q
 have f1:=fly.resolve_left (λ z=>by cases z.1)
 refine Rw I1 Ay Aw ie f1 λ h' T hT un zl f2=>?_
 have I2:Inv X pins' σ' (upd H1 T (x_ T)) { s₁ with heap:=h' }:=I1.call (g':=s₁.gens) (d':=s₁.drawn) (t':=s₁.toks) (ch:=[]) un zl I1.bare (λ b z=>absurd z (by simp))
 have hEo2:upd H1 T (x_ T) a=some (wJ a C dx):=by rw[zG (xk hEo hT)];exact hEo
 obtain⟨⟨qn,bs,sn,sub,ab,col,dd,k0,k1,k2,k3,k5,lk⟩,_,_⟩:=id hE.own
 obtain⟨⟨q',bs',sn',sub',ab',col',dd',l0,l1,l2,l3,l5,lp⟩,_,_⟩:=id hE.par
 have mP:X.mg "PurseError"=some (.ref P):=PySem.W.mg_of I.ok.mod.p0 I.ok.mod.glob hE.cT
 have aoe:∃ oe,h'.get? a=some oe/\oe.cls=.ref C:=by
  obtain⟨⟨oe,vs,z1,z2,_⟩,_⟩:=I2.zl a _ hEo2
  exact⟨oe,z1,z2⟩
 refine Xt (bm:=.ref P::vF) (bm':=vF) (by decide) (by rw[A8];simp) (nE (X:=nA X a) (aR I2 a) hg mP ⟨rfl,I2.yz _ _ lk,I2.yz _ _ lp,aoe,?_⟩)
 refine Ql I2 ⟨C,dx,hEo2⟩ f2 λ h2 un2 hok2=>?_
 have I3:Inv X pins' σ' (upd H1 T (x_ T)) { s₁ with heap:=h2 }:=Inv.call (s:={ s₁ with heap:=h' }) (g':=s₁.gens) (d':=s₁.drawn) (t':=s₁.toks) (ch:=[]) I2 un2 hok2 I1.bare (λ b z=>absurd z (by simp))
 refine o5 I3 hN hi (.inl Bw) (v:=.ref a) rfl (λ s4 I4=>?_) (.inr Bw)
 have st:=iq (cU (X:=nA X a) (i:=j) (pos:=p4) (pos':=p2) hN hj DX (pv (X:=nA X a) i (pos:=p3) hi (.inl Bw) Bg BN) BM Eo)
 have hl:i < σ'.length:=by rw[I1.len];exact (AD.mp hi).1
 refine za3 (st pins' s4 _ _ { nx:=fun σ2 H2=>σ2=(σ'.set i (some (.ref a))).set j (some (.ref a))/\H2=upd H1 T (x_ T),rt:=λ _ _=>False } (aR I4 a) ⟨.ref a,by rw[DU hl],rfl,rfl⟩) (λ fl s5 q5=>?_) λ _ _ z=>(hn _ _ z).elim
 cases fl with
 | next=>
  obtain⟨σ5,H5,I5,rfl,rfl⟩:=q5
  exact Pf (Q9 I I5) hN hi Bw λ s6 I6=>⟨_,_,I6,q T hT⟩
 | ret _=>obtain⟨_,_,_,_,_,z⟩:=q5;exact z.elim
 | _=>obtain⟨_,_,_,z⟩:=q5;exact z.elim
end
noncomputable def v8:D->Bool
 | .err _ _ _=>true
 | _=>false
def tm (K:Ab) (H:Hp) (R:VK) (Q:Addr->Hp->Prop):DK:=λ d S'=>(v8 d=false->xX K H R d S')/\(v8 d=true->∀ a H',zg K H' d (.ref a)->Ext H H'->zC K H' S'->Q a H')
theorem tm.ext {K:Ab}{H H':Hp}{R:VK}{Q:Addr->Hp->Prop}(e:Ext H H') {d:D}{S:SS}(h:tm K H R Q d S):tm K H' R Q d S:=⟨λ z=>xX.ext e (h.1 z),λ z a H2 r x q=>h.2 z a H2 r (e.trans x) q⟩
def se (K:Ab) (H:Hp) (D:Ends) (Q:Addr->Hp->Prop):tE:=⟨xn K H D.nx,tm K H D.rt Q,xn K H D.bk,xn K H D.ct⟩
theorem se.ext {K:Ab}{H H':Hp}{D:Ends}{Q:Addr->Hp->Prop}(e:Ext H H'):(se K H D Q).Le (se K H' D Q):=⟨λ _ _ h=>xn.ext e h,λ _ _ h=>tm.ext e h,λ _ _ h=>xn.ext e h,λ _ _ h=>xn.ext e h⟩
def oq (K:Ab) (t:yg) (Q:Addr->Hp->Prop):TS:=λ D σ H=>∃ Y S,yq K H Y σ/\zC K H S/\t (se K H D Q) Y S
structure pP (X:Cx) (pins:List (Addr×Obj)) (σ:St) (fl:Bool) (Q:Addr->Hp->Prop) (W:Value->Shared->Prop):Prop where
 xp:∀ v s',XP X pins fl σ Q v s'->W v s'
 own:fl=false->PassesOwn (model X.prog X.w) X.A X.env W
def pP.any {X:Cx}{pins pins':List (Addr×Obj)}{σ σ':St}{Q:Addr->Hp->Prop}{W:Value->Shared->Prop}(h:pP X pins σ false Q W):pP X pins' σ' false Q W:=
 ⟨λ v s' ⟨e,p,q,H',h1,_,h3⟩=>h.xp v s' ⟨e,p,q,H',h1,nofun,h3⟩,h.own⟩
structure pS (X:Cx) (fl:Bool) (st:Stmt) (t:yg):Prop where
 mo:uu t
 px:∀ pins s σ H D Q W,pP X pins σ fl Q W->Inv X pins σ H s->oq X.K t Q D σ H->wpAny (model X.prog X.w) X.A (exec st X.env) (SP X pins D) W s
structure sD (X:Cx) (fl:Bool) (sts:List Stmt) (t:yg):Prop where
 mo:uu t
 px:∀ pins s σ H D Q W,pP X pins σ fl Q W->Inv X pins σ H s->oq X.K t Q D σ H->wpAny (model X.prog X.w) X.A (execs sts X.env) (SP X pins D) W s
section
variable {X:Cx}{fl:Bool}{st:Stmt}{rest:List Stmt}{t u:yg}{pos:Pos}{e:Expr}{te:zp}
def bg:sD X fl [] fu:=⟨λ _ _ _ _ hE h=>hE.nx _ _ h,λ pins s σ H D Q W hW I ⟨Y,S,r1,r2,z⟩=>zaH ⟨σ,H,I,z σ H r1 (.refl H) r2⟩⟩
def oY (h:pS X fl st t):sD X fl [st] t:=⟨h.mo,λ pins s σ H D Q W hW I hu=>by
 refine wpAny_execs_cons (zw (h.px pins s σ H D Q W hW I hu) λ f s1 q=>?_)
 cases f with
 | next=>exact zaH q
 | ret v=>exact q
 | brk=>exact q
 | cont=>exact q⟩
def Uw (h:pS X false st t) (h':sD X false rest u):sD X false (st::rest) (qo t u):=⟨qo.mo h.mo h'.mo,λ pins s σ H D Q W hW I ⟨Y,S,r1,r2,z⟩=>by
 refine wpAny_execs_cons (zw (h.px pins s σ H { D with nx:=oq X.K u Q D } Q W hW I ⟨Y,S,r1,r2,h.mo { se X.K H D Q with nx:=u (se X.K H D Q) } _ Y S ⟨fun Y' S' q σ' H' q1 q2 q3=>⟨Y',S',q1,q3,h'.mo _ _ Y' S' (se.ext q2) q⟩,λ _ _ q=>q,λ _ _ q=>q,λ _ _ q=>q⟩ z⟩) λ f s1 q=>?_)
 cases f with
 | next=>
  obtain⟨σ',H',I',q⟩:=q
  exact h'.px pins s1 σ' H' D Q W hW.any I' q
 | ret v=>exact q
 | brk=>exact q
 | cont=>exact q⟩
def bh {c:Expr}{p q:List Stmt}{tc:y6}(hc:xo X c tc) (h:sD X fl p t) (h':sD X fl q u) (hn:∀ v s,¬ X.xe v s:=by exact λ _ _ z=>z):pS X fl (.If c p q pos) (fx tc t u):=by
 refine⟨λ E E' Y S hE z=>hc.mo Y S _ _ (λ k S1 z=>we (h.mo _ _ Y S1 hE) (h'.mo _ _ Y S1 hE) z) z,λ pins s σ H D Q W hW I ⟨Y,S,r1,r2,z⟩=>?_⟩
 refine wpAny_If (za3 (hc.pt pins s σ H (λ k H1=>if k=true then oq X.K t Q D σ H1 else oq X.K u Q D σ H1) I (xN.go hc.mo r1 r2 z λ k S1 H1 h1 e1 p1=>we (λ z=>?_) (λ z=>?_) h1)) (λ k s1 ⟨H1,I1,q1⟩=>?_) λ _ _ z=>(hn _ _ z).elim)
 ·exact⟨Y,S1,r1.ext e1,p1,h.mo _ _ Y S1 (se.ext e1) z⟩
 ·exact⟨Y,S1,r1.ext e1,p1,h'.mo _ _ Y S1 (se.ext e1) z⟩
 ·cases k with
  | true=>exact h.px pins s1 σ H1 D Q W hW I1 q1
  | false=>exact h'.px pins s1 σ H1 D Q W hW I1 q1
def fm (te:zp):yg:=λ E Y S=>te Y S λ d S1=>v8 d=false/\E.rt d S1
def Uv (he:PD X e te) (hn:∀ v s,¬ X.xe v s:=by exact λ _ _ z=>z):pS X fl (.Return (some e) pos) (fm te):=by
 refine⟨λ E E' Y S hE z=>he.mo Y S _ _ (λ _ _ q=>⟨q.1,hE.rt _ _ q.2⟩) z,λ pins s σ H D Q W hW I ⟨Y,S,r1,r2,z⟩=>?_⟩
 exact wpAny_Return_some (za3 (he.pe pins s σ H D.rt I (zJ.go he.mo r1 r2 z λ x S1 v H1 h1 q1 e1 p1=>h1.2.1 h1.1 v H1 q1 e1 p1)) (λ v s1 ⟨x,H1,I1,r1,q1⟩=>⟨x,σ,H1,I1,r1,q1⟩) λ _ _ z=>(hn _ _ z).elim)
def Ext.same {H H':Hp}(e:m9 H H'):Ext H H':=⟨λ b xs q=>e _ _ q,λ b o u q=>e _ _ q,λ b u q=>e _ _ q,λ b u q=>e _ _ q⟩
def ZS (c f:Str) (te:zp):yg:=λ E Y S=>te Y S λ d S1=>E.rt (.err c f d) S1
def bf {c f:Str}{si:Stmt}{p Ae:Pos}{k:Nat}(G:mJ X.K X.mg c f si) (Sh:mI f si) (hr:zV k X.A) (he:PD X e te) (hk:2<=k:=by decide) (hg:Gl X c:=by rfl) (hc:X.calm=true:=by rfl) (AZ:(c == ("__debug__":Str))=false:=by decide)
  (hs:starEach [e] X.env=(false,eval e X.env)::starEach [] X.env:=by rfl) (Ah:(backTo Ae (starEach [] X.env)).any (·.1)=false:=by rfl) (hn:∀ v s,¬ X.xe v s:=by exact λ _ _ z=>z):
  pS X false (.Raise (some (.Call (.Name c p) [e] [] Ae)) none pos) (ZS c f te):=by
 refine⟨λ E E' Y S hE z=>he.mo Y S _ _ (λ _ _ q=>hE.rt _ _ q) z,λ pins s σ H D Q W hW I ⟨Y,S,r1,r2,z⟩=>?_⟩
 refine wp_raise G Sh (hr.mono hk) hc hn hg AZ he.pe hs Ah hW.xp I (zJ.go he.mo r1 r2 z λ x S1 v H1 h1 q1 e1 p1 a H' sm ⟨C,dx,hE,h2,h3⟩=>?_)
 refine h1.2 rfl a H' ?_ (e1.trans (.same sm)) (p1.same sm)
 simp only[zg]
 exact⟨a,C,dx,v,rfl,⟨hE,h2,h3⟩,zg.ext (.same sm) x q1⟩
end
def dD (K:Ab) (sp:wa):Sp:=λ vs H Q E=>∃ ds S,zm K H ds vs/\zC K H S/\sp ds S (tm K H Q λ a H'=>E (.ref a) none H')
structure uK (P:Program) (w:World) (K:Ab) (mg:Str->Option Value) (base:Heap) (x:Str) (k:Nat) (ps:List Str) (sp:wa):Prop where
 ex:∃ (f:Addr) (fd:FuncData),xa P w K mg base (om P w) k f fd ps (dD K sp)/\mg x=some (.ref f)/\PySem.W.keepIn K (.ref f)=true/\Binds K fd ps []
 mo:pT sp
def l_ (sp:wa):wa:=λ ds S Q=>sp ds S λ d S'=>v8 d=false/\Q d S'
def l_.mo {sp:wa}(h:pT sp):pT (l_ sp):=λ ds S Q Q' hq z=>h ds S _ _ (λ d S' q=>⟨q.1,hq _ _ q.2⟩) z
theorem uK.fd {P:Program}{w:World}{K:Ab}{mg:Str->Option Value}{base:Heap}{x:Str}{k:Nat}{ps:List Str}{sp:wa}(F:uK P w K mg base x k ps sp):FD P w K mg base x k ps (l_ sp):=by
 obtain⟨⟨f,fd,h1,h2⟩,hm⟩:=F
 refine⟨⟨f,fd,(xa.never h1).imp λ vs H Q E ⟨ds,S,r1,r2,z⟩=>⟨ds,S,r1,r2,hm ds S _ _ (λ d S' q=>⟨λ _=>q.2,λ z=>?_⟩) z⟩,h2⟩,l_.mo hm⟩
 rw[q.1] at z;cases z
section
variable {X:Cx}{fl:Bool}{pos Ae p:Pos}{e:Expr}{es:List Expr}{tA:zY}{x:Str}{k:Nat}{ps:List Str}{sp:wa}
def XC {pins:List (Addr×Obj)}{s:Shared}{σ:St}{H:Hp}{Q:Addr->Hp->Prop}{W:Value->Shared->Prop}{R:DK}{RV:VK}{Y:zU}{S:SS}(F:uK X.prog X.w X.K X.mg X.base x k ps sp) (hr:zV k X.A) (ha:xh X (e::es) tA) (hg:Gl X x) (AZ:(x == ("__debug__":Str))=false)
  (he:starEach (e::es) X.env=(false,eval e X.env)::starEach es X.env) (Ah:(backTo Ae (starEach es X.env)).any (·.1)=false) (hn:∀ v s,¬ X.xe v s) (hW:pP X pins σ fl Q W) (I:Inv X pins σ H s) (r1:yq X.K H Y σ) (r2:zC X.K H S)
  (z:tA Y S λ ds S1=>sp ds S1 R) (hR:∀ d S',R d S'->tm X.K H RV Q d S'):
  wpAny (model X.prog X.w) X.A (eval (.Call (.Name x p) (e::es) [] Ae) X.env) (EP X pins σ RV) W s:=by
 obtain⟨⟨f,fd,h1,h2,h3,h4⟩,hm⟩:=F
 refine XB (Qx:=Q) h1 hr hg h2 h3 h4 hn ha.pa AZ he Ah hW.xp I (xO.go ha.mo r1 r2 z λ ds S1 xs H1 z1 q1 e1 p1=>⟨ds,S1,q1,p1,hm ds S1 _ _ (λ d S' q=>?_) z1⟩)
 have q':=tm.ext e1 (hR d S' q)
 exact⟨q'.1,λ y a H' c1 c2 c3=>⟨a,rfl,q'.2 y a H' c1 c2 c3⟩⟩
def ZO (i:Nat) (sp:wa) (tA:zY):yg:=λ E Y S=>tA Y S λ ds S1=>sp ds S1 λ d S2=>(v8 d=true->E.rt d S2)/\(v8 d=false->E.nx (Y.set i (some d)) S2)
variable (F:uK X.prog X.w X.K X.mg X.base x k ps sp)
include F
theorem Ux {k' i:Nat}{y:Str}{py:Pos}(hN:X.N.Nodup) (hr:zV k' X.A) (ha:xh X (e::es) tA) (hi:X.N[i]?=some y:=by rfl) (hx:Loc X.env.scope y:=by first | exact Or.inl rfl | exact Or.inr rfl) (hf:X.fn y=true\/X.env.scope.names.lookup y=some .local:=by first | exact .inl rfl | exact .inr rfl | assumption) (hk:k<=k':=by decide) (hg:Gl X x:=by rfl) (AZ:(x == ("__debug__":Str))=false:=by decide)
  (he:starEach (e::es) X.env=(false,eval e X.env)::starEach es X.env:=by rfl) (Ah:(backTo Ae (starEach es X.env)).any (·.1)=false:=by rfl) (hn:∀ v s,¬ X.xe v s:=by exact λ _ _ z=>z) (hs:swapsWith (.Call (.Name x p) (e::es) [] Ae) (some (.Name y py)) pos.line X.env=pure false:=by rfl):
  pS X fl (.Assign [.Name y py] (.Call (.Name x p) (e::es) [] Ae) pos) (ZO i sp tA):=by
 refine⟨λ E E' Y S hE z=>ha.mo Y S _ _ (λ ds S1 z=>F.mo ds S1 _ _ (λ d S2 q=>⟨λ y=>hE.rt _ _ (q.1 y),λ y=>hE.nx _ _ (q.2 y)⟩) z) z,λ pins s σ H D Q W hW I ⟨Y,S,r1,r2,z⟩=>?_⟩
 refine wpAny_Assign_Name (zw (XC (RV:=λ v H'=>D.nx (σ.set i (some v)) H') F (hr.mono hk) ha hg AZ he Ah hn hW I r1 r2 z λ d S' q=>⟨λ y v H' a1 a2 a3=>q.2 y _ H' ((r1.ext a2).set i a1) a2 a3,λ y=>(q.1 y).2 y⟩) λ v s1 ⟨x,H1,I1,r,q1⟩=>?_) hs
 exact o5 I1 hN hi hx r (λ s2 I2=>⟨_,H1,I2,q1⟩) hf
end
section
variable {P:Program}{w:World}{K:Ab}{mg:Str->Option Value}{base:Heap}
def fnX {x qual:Str}{st:Stmt}{f:Addr}{fd:FuncData}{N ps:List Str}{k:Nat}{sp:wa}(F:wY K x qual st f fd) (Sc:zW N ps (zu st)) (len:∀ ds S Q,sp ds S Q->ds.length=ps.length)
  (hbody:∀ (Ad:Value) (A:Around) (outer:List Env) (s:Shared) (H:Hp) (E:XK),zV k (A.deeper (envOfC qual (zu st) s.heap.objs.size f Ad))->
   ∃ t,sD (wj xq P w K mg base N qual (zu st) f Ad A outer s H E).vy false (x9 st) t/\∀ ds S Q,sp ds S Q->t { nx:=λ _ S'=>Q .zj S',rt:=Q } (u6 N ds) S):
  xa P w K mg base (om P w) (k+1) f fd ps (dD K sp):=by
 obtain⟨oc,od,kV,doc,pm,an,Ad,ct,osl,rfl,lk,AW⟩:=F.ex
 refine Zq lk AW Sc (λ vs H Q E ⟨ds,S,r1,_,z⟩=>by rw[<- r1.length];exact len _ _ _ z) λ A outer s H vs Q E hr BV=>⟨λ D σ H'=>D={ nx:=λ _ H'=>Q .zj H',rt:=Q }/\σ=start N vs/\H'=H,λ pins s1 σ H' D I ⟨e1,e2,e3⟩=>?_,rfl,rfl,rfl⟩
 subst e1 e2 e3
 obtain⟨t,hp,ht⟩:=hbody Ad A outer s H' E hr
 obtain⟨ds,S,r1,r2,z⟩:=BV
 have cv:∀ {pins:List (Addr×Obj)}{σ':St}{H'':Hp}{s':Shared},Inv (wj xq P w K mg base N qual (zu st) f Ad A outer s H' E).vy pins σ' H'' s'->Inv (wj (om P w) P w K mg base N qual (zu st) f Ad A outer s H' E) pins σ' H'' s':=λ J=>
  ⟨I.ok,J.os,J.bare,J.base,J.loc,J.cell,J.free,J.wV,J.pin,J.zl,J.len⟩
 have ok0:(wj xq P w K mg base N qual (zu st) f Ad A outer s H' E).vy.Ok:=⟨I.ok.mod,I.ok.kind,I.ok.glob,I.ok.blt,I.ok.above,I.ok.inj,I.ok.has,I.ok.qq,I.ok.hd,I.ok.frames,I.ok.qL,I.ok.nP,I.ok.bs,I.ok.tp,I.ok.qe,I.ok.qm,I.ok.vf,I.ok.tY⟩
 have I0:Inv (wj xq P w K mg base N qual (zu st) f Ad A outer s H' E).vy pins (start N vs) H' s1:=⟨ok0,I.os,I.bare,I.base,I.loc,I.cell,I.free,I.wV,I.pin,I.zl,I.len⟩
 refine za3 (hp.px pins s1 (start N vs) H' { nx:=λ _ H'=>Q .zj H',rt:=Q } (λ e H2=>∀ T,H2 T=none->E (.ref e) none (upd H2 T (x_ T))) (wj (om P w) P w K mg base N qual (zu st) f Ad A outer s H' E).xe ⟨λ v s' ⟨e,pins',σ',H2,ev,_,J,ie,hf,q⟩=>?_,λ _=>PassesOwn.leaving⟩ I0
  ⟨u6 N ds,S,yq.init r1,r2,hp.mo { nx:=λ _ S'=>tm K H' Q (λ a H2=>E (.ref a) none H2) .zj S',rt:=tm K H' Q λ a H2=>E (.ref a) none H2 } _ _ S ⟨fun Y S' q σ2 H2 a1 a2 a3=>q.1 rfl .zj H2 (by simp only[zg]) a2 a3,λ d S' q=>⟨q.1,λ y a H2 a1 a2 a3 T hT=>?_⟩,λ _ _ q=>q.elim,λ _ _ q=>q.elim⟩ (ht ds S _ z)⟩) (λ fl s' q=>?_) λ _ _ z=>z
 ·subst ev
  have J':=cv J
  refine Qa J' rfl rfl ie (hf.imp And.right id) λ h' T hT un zl f1=>?_
  obtain⟨C,dx,hE⟩:=ie
  exact⟨e,_,rfl,J'.os,J'.bare,Un.out J'.base un (zaN (Af _)),zl,⟨C,dx,by rw[zG (xk hE hT)];exact hE⟩,f1,q T hT⟩
 ·have xT:Ext H2 (upd H2 T (x_ T)):=.new hT _
  exact q.2 y a _ (zg.ext xT d a1) (a2.trans xT) (a3.keep xT λ b u o _ c=>by rw[zG (xk c hT)];exact c)
 ·cases fl with
  | ret u=>obtain⟨v,σ',H',J,r,q⟩:=q;exact⟨v,σ',H',cv J,r,q⟩
  | _=>obtain⟨σ',H',J,q⟩:=q;exact⟨σ',H',cv J,q⟩
end
def yq.hole {K:Ab}{H:Hp}{Y:zU}{σ:St}(i:Nat) (r:yq K H Y σ):yq K H (Y.set i none) (σ.set i none):=by
 refine⟨by rw[CN,CN];exact r.1,λ j c hc=>?_⟩
 rw[CL] at hc ⊢
 by_cases hj:i=j
 ·subst hj
  rw[if_pos rfl] at hc
  split at hc <;> cases hc
 ·rw[if_neg hj] at hc ⊢
  exact r.2 j c hc
def ZR (i j:Nat) (t:yg):yg:=λ E Y S=>t ⟨E.nx,λ d S'=>v8 d=true/\E.nx (((Y.set i (some d)).set j (some d)).set i none) S',λ _ _=>False,λ _ _=>False⟩ Y S
def U3 {X:Cx}{t:yg}(i j:Nat) {n c:Str}{body:List Stmt}{p1 p2 p3 p4 CF pos:Pos}(hN:X.N.Nodup) (hb:sD X true body t) (AX:i≠j:=by decide) (hi:X.N[i]?=some n:=by rfl) (hj:X.N[j]?=some c:=by rfl)
  (hg:Gl X "PurseError":=by rfl) (Bw:X.env.kindOf n=some .local:=by rfl) (DX:Loc X.env.scope c:=by first | exact Or.inl rfl | exact Or.inr rfl) (Eo:X.fn c=true\/X.env.scope.names.lookup c=some .local:=by first | exact .inl rfl | exact .inr rfl)
  (Bg:(n == ("__debug__":Str))=false:=by decide) (BN:(n == ("__classdict__":Str))=false:=by decide) (BM:swapsWith (.Name n p3) (some (.Name c p2)) p4.line X.env=pure false:=by rfl)
  (Ay:X.stack=X.env::X.outer:=by rfl) (Aw:X.env.frame=some X.env.locals:=by rfl) (hn:∀ v s,¬ X.xe v s:=by exact λ _ _ z=>z):
  vm X (.Try body [.ExceptHandler (some (.Name "PurseError" p1)) (some n) [.Assign [.Name c p2] (.Name n p3) p4] CF] [] [] pos) (ZR i j t):=by
 refine⟨λ E E' Y S hE z=>hb.mo ⟨E.nx,λ d S'=>v8 d=true/\E.nx (((Y.set i (some d)).set j (some d)).set i none) S',λ _ _=>False,λ _ _=>False⟩ ⟨E'.nx,λ d S'=>v8 d=true/\E'.nx (((Y.set i (some d)).set j (some d)).set i none) S',λ _ _=>False,λ _ _=>False⟩ Y S ⟨hE.nx,λ d S' q=>⟨q.1,hE.nx _ _ q.2⟩,λ _ _ q=>q,λ _ _ q=>q⟩ z,λ pins s σ H D I ⟨Y,S,r1,r2,z⟩=>?_⟩
 refine XA (Qx:=λ a H'=>∃ d S',v8 d=true/\zg X.K H' d (.ref a)/\Ext H H'/\zC X.K H' S'/\(vC X.K H D).nx (((Y.set i (some d)).set j (some d)).set i none) S') hn Ay Aw hg hN hi Bw hj DX Eo AX Bg BN BM I
  (hb.px pins s σ H D _ _ ⟨λ _ _ q=>q,nofun⟩ I ⟨Y,S,r1,r2,hb.mo ⟨(vC X.K H D).nx,λ d S'=>v8 d=true/\(vC X.K H D).nx (((Y.set i (some d)).set j (some d)).set i none) S',λ _ _=>False,λ _ _=>False⟩ _ Y S ⟨λ _ _ q=>q,λ d S' q=>⟨λ y=>?_,λ y a H' a1 a2 a3=>⟨d,S',y,a1,a2,a3,q.2⟩⟩,λ _ _ q=>q.elim,λ _ _ q=>q.elim⟩ z⟩) λ a H' ⟨d,S',hd,a1,a2,a3,q⟩=>⟨?_,λ T hT=>?_⟩
 ·rw[q.1] at y;cases y
 ·cases d with
  | err cn f x=>
   simp only[zg] at a1
   obtain⟨e,C,dx,w,e1,⟨h1,h2,h3⟩,_⟩:=a1
   cases e1
   exact⟨cn,C,dx,h1,h2⟩
  | _=>cases hd
 ·have xT:Ext H' (upd H' T (x_ T)):=.new hT _
  have rd:=zg.ext xT d a1
  exact q _ _ ((((r1.ext (a2.trans xT)).set i rd).set j rd).hole i) (a2.trans xT) (a3.keep xT λ b u o _ c=>by rw[zG (xk c hT)];exact c)
end L3
namespace L5
open PySem PySem.Spec L2 L3
open PyProof.Rows hiding St
noncomputable def xx:T->Bool
 | .err _ _ _=>true
 | _=>false
@[simp] theorem zaj (c f:Str) (t:T):xx (.err c f t)=true:=rfl
@[simp] theorem zag:xx .zj=false:=rfl
@[simp] theorem zal (b:Bool):xx (.bl b)=false:=rfl
@[simp] theorem zai (b:Int):xx (.int b)=false:=rfl
@[simp] theorem zaf (b:Str):xx (.str b)=false:=rfl
@[simp] theorem zae (b:List T):xx (.tup b)=false:=rfl
@[simp] theorem zah (b:List T):xx (.lst b)=false:=rfl
@[simp] theorem zak:xx .yE=false:=rfl
def o8 {S:SS}{y:T}{d:D}(h:Sn S y d):v8 d=xx y:=by
 cases y with
 | tup _=>simp only[Sn] at h;obtain⟨_,h,_⟩:=h;subst h;rfl
 | lst _=>
  simp only[Sn] at h
  obtain⟨_,h | ⟨_,h,_⟩,_⟩:=h
  ·rw[h.1];rfl
  ·subst h;rfl
 | yE=>simp only[Sn] at h;obtain⟨_,_,⟨h,_⟩,_⟩:=h;subst h;rfl
 | err _ _ _=>simp only[Sn] at h;obtain⟨_,h,_⟩:=h;subst h;rfl
 | _=>simp only[Sn] at h;subst h;rfl
def PC {y:T}(h:xx y=true):∀ ts,y≠.lst ts:=λ ts e=>by subst e;cases h
@[simp] noncomputable def jY (c f:Str) (g:Ev->Option T):Sm:=fun J=>(g J).map λ y=>.rt (.err c f y)
@[simp] def cB (g:Ev->Option T):Sm:=fun J=>(g J).bind λ y=>if xx y=true then none else some (.rt y)
@[simp] def dm (i:Nat) (F:List T->Option T) (g:Ev->Option (List T)):Sm:=fun J=>(g J).bind λ ys=>(F ys).map λ y=>if xx y=true then .rt y else .nx (J.set i (some (.im y)))
@[simp] def dN (i j:Nat) (g:Sm):Sm:=fun J=>(g J).bind λ o=>match o with
 | .nx J'=>some (.nx J')
 | .rt y=>if xx y=true then some (.nx (((J.set i none).set j (some (.im y))).set i none)) else none
 | _=>none
@[simp] def iV (F:List T->Option T):List T->Option T:=λ ys=>(F ys).bind λ y=>if xx y=true then none else some y
section
variable {R:Rk}{g h:Sm}{t:yg}{f:Ev->Option T}{te:zp}{S0 S:SS}{Z0 Z:Addr->Prop}{Y:zU}{J:Ev}
def Tz [Cl R] {c x:Str}(hf:wH f te):yh R (jY c x f) (ZS c x te):=λ S0 Z0 S Z Y J o E F e P=>by
 obtain⟨y,e1,rfl⟩:=AA.mp e
 refine hf S Z Y J y _ F.er e1 λ d S1 s1 r1=>P _ S1 (F.sx.trans s1) (Cl.of (λ _=>nofun) ?_)
 simp only[Sn]
 exact⟨d,rfl,Sn.sx (uc F.zz) y r1⟩
def T2 [Sr R] (hf:yY R f te):yh R (cB f) (fm te):=λ S0 Z0 S Z Y J o E F e P=>by
 obtain⟨y,e1,e2⟩:=Ag.mp e
 split at e2
 ·cases e2
 ·rename_i hy
  cases e2
  exact hf S Z Y J y _ F.er e1 λ d S1 s1 r1=>⟨by rw[o8 (Sr.sn r1)];simpa using hy,P d S1 (F.sx.trans s1) (Lo.lo F.sx F.zz r1)⟩
def bG (i:Nat):yh zE (tN i) (fm (ym i)):=λ S0 Z0 S Z Y J o E F e P=>by
 have q:=nv i S0 Z0 S Z Y J o E F e P
 unfold tN at e
 split at e
 ·rename_i ts h
  obtain⟨p,ob,h1,_⟩:=F.er.ow i _ h
  have q':ym i Y S E.rt:=q
  show ym i Y S λ d S1=>v8 d=false/\E.rt d S1
  unfold ym at q' ⊢
  rw[h1] at q' ⊢
  exact⟨rfl,q'⟩
 ·cases e
def Nj (S0:SS) (Z0:Addr->Prop) (S:SS) (Z:Addr->Prop) (o:Out) (E:tE):Prop:=match o with
 | .nx J'=>∀ S' Z' Y',FR S0 Z0 S' Z' Y' J'->E.nx Y' S'
 | .rt y=>xx y=true->∀ d S',Sx S S'->Sn (zK S' Z) y d->E.rt d S'
 | _=>True
def mD (g:Sm) (t:yg):Prop:=∀ S0 Z0 S Z Y J o E,FR S0 Z0 S Z Y J->g J=some o->Nj S0 Z0 S Z o E->t E Y S
theorem mD.s [Cl R] (h:mD g t):yh R g t:=λ S0 Z0 S Z Y J o E F e P=>by
 refine h S0 Z0 S Z Y J o E F e ?_
 cases o with
 | nx J'=>exact P
 | rt y=>exact λ hy d S' s r=>P d S' (F.sx.trans s) (Cl.of (PC hy) (Sn.sx (uc F.zz) y r))
 | _=>trivial
def bJ [Sr R] (i:Nat) {F:List T->Option T}{ga:Ev->Option (List T)}{ua:zY}(h:qA ga ua):mD (dm i F ga) (ZO i (zM R F) ua):=λ S0 Z0 S Z Y J o E Fr e P=>by
 obtain⟨ys,e1,e2⟩:=Ag.mp e
 obtain⟨y,e3,rfl⟩:=AA.mp e2
 refine h S Z Y J ys _ Fr.er e1 λ ds S1 s1 r1=>⟨Z,ys,y,(Fr.er.grow s1).zd,r1,e3,λ d S2 s2 r2=>⟨λ he=>?_,λ he=>?_⟩⟩
 ·rw[o8 (Sr.sn r2)] at he
  rw[if_pos he] at P
  exact P he d S2 (s1.trans s2) (Sr.sn r2)
 ·rw[o8 (Sr.sn r2)] at he
  rw[if_neg (by rw[he];decide)] at P
  exact P S2 Z _ ((Fr.grow (s1.trans s2)).rZ i (Sr.sn r2))
def FR.hole (h:FR S0 Z0 S Z Y J) (i:Nat) (v:Option D):FR S0 Z0 S Z (Y.set i v) (J.set i none):=by
 refine⟨⟨h.er.zd,λ j t e=>?_,λ j ts e=>?_⟩,by simp[h.len],h.sx,h.z0,h.zz,h.zn,λ j ts p e e'=>?_,λ j k ts us p n e1 e2 e3 e4=>?_⟩
 ·rcases yu e with ⟨rfl,hl,e⟩ | ⟨n,e⟩
  ·cases e
  ·rw[xy n];exact h.er.im j t e
 ·rcases yu e with ⟨rfl,hl,e⟩ | ⟨n,e⟩
  ·cases e
  ·rw[xy n];exact h.er.ow j ts e
 ·rcases yu e with ⟨rfl,hl,e⟩ | ⟨n,e⟩
  ·cases e
  ·rw[xy n] at e';exact h.fr j ts p e e'
 ·rcases yu e1 with ⟨rfl,hl,e⟩ | ⟨n1,e1⟩
  ·cases e
  rcases yu e2 with ⟨rfl,hl,e⟩ | ⟨n2,e2⟩
  ·cases e
  rw[xy n1] at e3;rw[xy n2] at e4
  exact h.dj j k ts us p n e1 e2 e3 e4
def Tw (i j:Nat) (hg:mD g t):yh R (dN i j g) (ZR i j t):=λ S0 Z0 S Z Y J o E F e P=>by
 obtain⟨o1,e1,e2⟩:=Ag.mp e
 refine hg S0 Z0 S Z Y J o1 _ F e1 ?_
 cases o1 with
 | nx J'=>cases e2;exact P
 | rt y=>
  dsimp only at e2 ⊢
  split at e2
  ·rename_i hy
   cases e2
   exact λ _ d S' s r=>⟨by rw[o8 r];exact hy,P S' Z _ ((((F.grow s).hole i (some d)).rZ j r).hole i none)⟩
  ·cases e2
 | _=>trivial
end
section
variable {P:Program}{w:World}{K:Ab}{mg:Str->Option Value}{base:Heap}{x:Str}{st:Stmt}
def Zw {R:Rk} [Lo R] {N ps:List Str}{k n:Nat}{g:Sm}(F:Fy K mg x st) (Sc:zW N ps (zu st)) (hn:n=ps.length)
  (hb:∀ (kV doc pm:Value) (an:Option Addr) (Ad ct:Value) (us:List Value),us.length=ps.length->bindArgs (PySem.W.fnOf x x (uj st) (x9 st) (zu st) .none kV doc pm an Ad ct) ⟨us,[]⟩=pure (ps.zip us))
  (hbody:∀ (f:Addr) (Ad:Value) (A:Around) (outer:List Env) (s:Shared) (H:Hp) (E:XK),zV k (A.deeper (envOfC x (zu st) s.heap.objs.size f Ad))->
   ∃ t,sD (wj xq P w K mg base N x (zu st) f Ad A outer s H E).vy false (x9 st) t/\yh R g t):uK P w K mg base x (k+1) ps (zM R (ye N n g)):=by
 obtain⟨f,fd,F,hm⟩:=F
 refine⟨⟨f,fd,fnX F Sc (λ ds S Q h=>by rw[h.len,hn]) λ Ad A outer s H E hr=>?_,hm,F.kp,F.binds hb⟩,zM.mo⟩
 obtain⟨t,h1,h2⟩:=hbody f Ad A outer s H E hr
 exact⟨t,h1,λ ds S Q h=>Yl h2 h⟩
def uK.no {R:Rk} [Sr R] {k:Nat}{ps:List Str}{F:List T->Option T}(G:uK P w K mg base x k ps (zM R F)):FD P w K mg base x k ps (zM R (iV F)):=by
 obtain⟨⟨f,fd,h1,h2⟩,hm⟩:=G.fd
 refine⟨⟨f,fd,h1.imp λ vs H Q E ⟨ds,S,r1,r2,Z,ys,y,a1,a2,a3,a4⟩=>⟨ds,S,r1,r2,?_⟩,h2⟩,zM.mo⟩
 obtain⟨z,b1,b2⟩:=Ag.mp a3
 split at b2
 ·cases b2
 ·rename_i hy
  cases b2
  exact⟨Z,ys,y,a1,a2,b1,λ d S' s r=>⟨by rw[o8 (Sr.sn r)];simpa using hy,a4 d S' s r⟩⟩
end
end L5
namespace L3
open PySem PySem.Spec L2
open PyProof.Rows hiding St
structure fY (K:Ab) (cn:Str) (D:Addr):Prop where
 top:PySem.W.nsIn K mainGlobals cn=some (some (.ref D))
 own:∃ bm N,rO K cn D bm N
noncomputable def R8 (o:Obj):Option Str:=match o.data with
 | .cls cd=>some cd.name
 | _=>none
def rO.nm {K:Ab}{c:Str}{C N:Addr}{bm:List Value}(h:rO K c C bm N):(K.lookup C).bind R8=some c:=by
 obtain⟨⟨q,bs,sn,sub,ab,col,dd,k0,k1,k2,k3,k5,e⟩,_⟩:=h
 rw[e];rfl
def Q7 {K:Ab}{c cn:Str}{C P N NP D:Addr}(E:rS K c C P N NP) (G:fY K cn D):(Value.ref C::.ref P::vF).contains (.ref D)=(decide (cn=c)||decide (cn="PurseError")):=by
 obtain⟨bm,N',g⟩:=G.own
 by_cases h1:cn=c
 ·subst h1
  have:=G.top.symm.trans E.top
  cases this
  simp
 ·by_cases h2:cn="PurseError"
  ·subst h2
   have:=G.top.symm.trans E.cT
   cases this
   simp
  ·have d1:D≠C:=λ z=>by
    subst z
    have:=g.nm.symm.trans E.own.nm
    cases this;exact h1 rfl
   have d2:D≠P:=λ z=>by
    subst z
    have:=g.nm.symm.trans E.par.nm
    cases this;exact h2 rfl
   have b1:(Value.ref D == Value.ref C)=false:=by simpa using d1
   have b2:(Value.ref D == Value.ref P)=false:=by simpa using d2
   rw[A8,A8,b1,b2,za4 h1,za4 h2]
   rfl
inductive kZ (K:Ab) (c:Str):V->Bool->Prop where
 | own {cn:Str}{D:Addr}(g:fY K cn D):kZ K c (.ref D) (decide (cn=c)||decide (cn="PurseError"))
 | val:kZ K c (.ty "ValueError") true
def OJ {X:Cx}:yB X (.builtin "isinstance") (λ xs H Q=>∃ e C dx c k b,xs=[.ref e,k]/\H e=some (wJ e C dx)/\uL X.K c C/\kZ X.K c k b/\Q (.bl b) H):=by
 intro pins s σ H xs us Q I r h
 obtain⟨e,C,dx,c,k,b,rfl,h1,⟨P,N,NP,h2⟩,h3,q⟩:=h
 cases r with
 | cons ra rb=>
 cases rb with
 | cons rb rc=>
 cases rc
 rename_i u1 u2
 obtain rfl:u1=Value.ref e:=ra
 obtain⟨hh,g,d,t,os⟩:=s
 obtain⟨⟨oe,vs,he,hc,CU,CV⟩,_⟩:=I.zl e _ h1
 cases h3 with
 | @own cn D G=>
  obtain rfl:u2=Value.ref D:=rb
  obtain⟨bm,N',o⟩:=id G.own
  obtain⟨⟨q1,bs,sn,sub,ab,col,dd,k0,k1,k2,k3,k5,hD⟩,_⟩:=o.at I.yz
  refine dh (b:=(Value.ref C::.ref P::vF).contains (.ref D)) (λ prog w A Q' E hq=>X3 (h2.dg I.yz) he hc hD rfl rfl hq) λ t'=>⟨.bl _,H,I.tok t',rfl,?_⟩
  rw[Q7 h2 G];exact q
 | val=>
  obtain rfl:u2=Value.type "ValueError":=rb
  exact dh (b:=true) (λ prog w A Q' E hq=>X2 (T:="ValueError") (h2.dg I.yz) he hc (by kernel_rfl) hq) λ t'=>⟨.bl _,H,I.tok t',rfl,q⟩
def kK (k:Str->Bool) (te:zp):zp:=fun Y S Q=>te Y S λ x S1=>match x with
 | .err c _ _=>Q (.bl (k c)) S1
 | _=>False
def ZW (f:Str) (te:zp):zp:=fun Y S Q=>te Y S λ x S1=>match x with
 | .err _ f' d=>f'=f/\Q d S1
 | _=>False
section
variable {X:Cx}{e:Expr}{te:zp}{p q pos:Pos}
def bx {cn:Str}{V0:V}{k:Str->Bool}(hk:∀ c,kZ X.K c V0 (k c)) (hp:PE X (.Name cn q) (tC V0)) (T:Bt X.mg) (he:PD X e te) (hg:Gl X "isinstance":=by rfl) (h1:starEach (e::[.Name cn q]) X.env=(false,eval e X.env)::starEach [.Name cn q] X.env:=by rfl) (h2:(backTo pos (starEach [.Name cn q] X.env)).any (·.1)=false:=by rfl) (h3:starEach [.Name cn q] X.env=(false,eval (.Name cn q) X.env)::starEach [] X.env:=by rfl):
  PD X (.Call (.Name "isinstance" p) [e,.Name cn q] [] pos) (kK k te):=by
 refine⟨fun Y S Q Q' hq z=>he.mo Y S _ _ (λ y S1 z=>?_) z,PE.imp (tQ OJ hg T.isinstance boot_isinstance (uS he.pe (uS hp rf h3) h1) (by decide) (by decide) h1 h2) fun σ H Q hu=>?_⟩
 ·split at z
  ·exact hq _ _ z
  ·exact z.elim
 ·obtain⟨Y,S,r1,r2,z⟩:=hu
  refine zJ.go he.mo r1 r2 z λ x S1 v H1 h1 q1 e1 p1=>?_
  cases x with
  | err c f d=>
   simp only[zg] at q1
   obtain⟨a,C,dx,w,rfl,⟨hE,h2,h3⟩,_⟩:=q1
   exact⟨a,C,dx,c,V0,k c,rfl,h2,hE,hk c,h1 _ H1 (by simp only[zg]) e1 p1⟩
  | _=>exact h1.elim
def UJ {f:Str}(he:PD X e te) (hf:f∈rA:=by simp) (hb:attributeBase e f X.env (eval e X.env)=eval e X.env:=by rfl):PD X (.Attribute e f pos) (ZW f te):=by
 refine⟨fun Y S Q Q' hq z=>he.mo Y S _ _ (λ y S1 z=>?_) z,λ pins s σ H Q I hu=>?_⟩
 ·split at z
  ·exact⟨z.1,hq _ _ z.2⟩
  ·exact z.elim
 obtain⟨Y,S,r1,r2,z⟩:=hu
 refine OY hb (zw (he.pe pins s σ H (λ x H1=>∃ a C dx c w,x=.ref a/\uL X.K c C/\H1 a=some (wJ a C dx)/\H1 dx=some (.xd [(f,w)])/\Q w H1) I (zJ.go he.mo r1 r2 z λ x S1 v H1 h1 q1 e1 p1=>?_)) λ u s1 ⟨x,H1,I1,rx,a,C,dx,c,w,ex,⟨P,N,NP,hE⟩,h1,h2,q⟩=>?_)
 ·cases x with
  | err c f' d=>
   simp only[zg] at q1
   obtain⟨a,C,dx,w,rfl,⟨hE,h2,h3⟩,h4⟩:=q1
   obtain⟨rfl,h1⟩:=h1
   exact⟨a,C,dx,c,w,rfl,hE,h2,h3,h1 w H1 h4 e1 p1⟩
  | _=>exact h1.elim
 ·subst ex
  obtain rfl:u=Value.ref a:=rx
  obtain⟨hh,g,d,t,os⟩:=s1
  obtain⟨⟨oe,vs,he,hc,CU,CV⟩,_⟩:=I1.zl a _ h1
  obtain⟨mA,Bf,hr⟩:=I1.zl dx _ h2
  have hv:=hr f
  simp only[A9,beq_self_eq_true,if_true] at hv
  obtain⟨u',hu',ru⟩:∃ u',mA f=some u'/\RelV w u':=by
   cases z:mA f with
   | none=>rw[z] at hv;exact hv.elim
   | some u'=>rw[z] at hv;exact⟨u',rfl,hv⟩
  obtain⟨⟨q1,bs,sn,sub,ab,col,dd,k0,k1,k2,k3,k5,hC⟩,hN,hn⟩:=hE.own.at I1.yz
  obtain⟨⟨q',bs',sn',sub',ab',col',dd',l0,l1,l2,l3,l5,hP⟩,hN',hn'⟩:=hE.par.at I1.yz
  have m1:("__getattribute__":Str)∈rj:=by simp
  have m2:("__getattr__":Str)∈rj:=by simp
  exact X4 PySem.F.attrBase_ValueError hC hN ⟨⟨_,_,_,_,hP,hN'⟩⟩ (hn _ m1) (hn' _ m1) (hn _ m2) (hn' _ m2) (hn _ (ky hf)) (hn' _ (ky hf)) (dw hf) he hc (λ c z=>by rw[CV] at z;cases z) CU Bf hu' (PySem.W.handedOut_of (QR ru)) ⟨w,H1,I1.tok _,ru,q⟩
end
end L3
namespace L5
open PySem PySem.Spec L2 L3
open PyProof.Rows hiding St
@[simp] noncomputable def uB (k:Str->Bool) (g:Ev->Option T):Ev->Option T:=fun J=>(g J).bind λ x=>match x with
 | .err c _ _=>some (.bl (k c))
 | _=>none
@[simp] noncomputable def Zu (f:Str) (g:Ev->Option T):Ev->Option T:=fun J=>(g J).bind λ x=>match x with
 | .err _ f' t=>if f'=f then some t else none
 | _=>none
def SO {k:Str->Bool}{g:Ev->Option T}{te:zp}(hf:yr g te):xi (uB k g) (kK k te):=λ S Z Y J y Q hE e hq=>by
 obtain⟨x,e1,e2⟩:=Ag.mp e
 refine hf S Z Y J x _ hE e1 λ d S1 s1 r1=>?_
 split at e2
 ·cases e2
  obtain⟨d',rfl,_⟩:=Vw.err r1
  exact hq _ S1 s1 (Cl.of (λ _=>nofun) vb)
 ·cases e2
def bO {f:Str}{g:Ev->Option T}{te:zp}(hf:yr g te):wH (Zu f g) (ZW f te):=λ S Z Y J y Q hE e hq=>by
 obtain⟨x,e1,e2⟩:=Ag.mp e
 refine hf S Z Y J x _ hE e1 λ d S1 s1 r1=>?_
 split at e2
 ·split at e2
  ·rename_i h
   cases e2
   obtain⟨d',rfl,h2⟩:=Vw.err r1
   exact⟨h,hq _ S1 s1 h2⟩
  ·cases e2
 ·cases e2
end L5
namespace L3
open PySem PySem.Spec L2
open PyProof.Rows hiding St
def Ec (K:Ab) (c:Str):Prop:=∃ C P N NP,rS K c C P N NP
def Ec.i {K:Ab}{c:Str}{C P:Addr}{o1 o2:Value}{d1 d2:Option Addr}{c1 c2:ClassData}{s1 s2:Array (Option Value)}(_:PySem.W.nsIn K mainGlobals c=some (some (.ref C))) (_:PySem.W.nsIn K mainGlobals "PurseError"=some (some (.ref P))) (_:K.lookup C=some ⟨o1,d1,.cls c1,s1⟩) (_:K.lookup P=some ⟨o2,d2,.cls c2,s2⟩)
  (h:kA K c=some (C,P,c1.ns,c2.ns)):Ec K c:=⟨C,P,_,_,Z2 h⟩
def Ei (K:Ab) (c f:Str) (st:Stmt):Prop:=∃ (C P N NP fI:Addr) (fd:FuncData),rS K c C P N NP/\PySem.W.keepIn K (.ref C)=true/\PySem.W.nsIn K N "__init__"=some (some (.ref fI))/\PySem.W.isFn K (.ref fI)=true/\wY K "__init__" (c++".__init__") st fI fd
def Ei.i {K:Ab}{c f:Str}{st:Stmt}{C P fI:Addr}{o1 o2:Value}{d1 d2:Option Addr}{c1 c2:ClassData}{s1 s2:Array (Option Value)}(_:PySem.W.nsIn K mainGlobals c=some (some (.ref C))) (_:PySem.W.nsIn K mainGlobals "PurseError"=some (some (.ref P))) (_:K.lookup C=some ⟨o1,d1,.cls c1,s1⟩) (_:K.lookup P=some ⟨o2,d2,.cls c2,s2⟩)
  (h:kA K c=some (C,P,c1.ns,c2.ns)) (k:PySem.W.keepIn K (.ref C)=true) (n:PySem.W.nsIn K c1.ns "__init__"=some (some (.ref fI))) (g:PySem.W.isFn K (.ref fI)=true)
  {oc:Value}{od an:Option Addr}{osl:Array (Option Value)}{kV doc pm Ad ct:Value}(l:K.lookup fI=some ⟨oc,od,.func (PySem.W.fnOf "__init__" (c++".__init__") (uj st) (x9 st) (zu st) .none kV doc pm an Ad ct),osl⟩)
  (cd:PySem.W.codeIn K Ad (c++".__init__")=true) (k2:PySem.W.keepIn K (.ref fI)=true):Ei K c f st:=⟨C,P,_,_,fI,_,Z2 h,k,n,g,gO l cd k2⟩
def Og (K:Ab) (mg:Str->Option Value) (cn:Str):Prop:=∃ D,fY K cn D/\mg cn=some (.ref D)
section
variable {K:Ab}{mg:Str->Option Value}{h:Heap}{c f:Str}{st:Stmt}
def Ei.mk (H:Ei K c f st) (X:K.In h) (G:h.Ns mainGlobals mg) (hf:f∈rA:=by simp):mJ K mg c f st:=by
 obtain⟨C,P,N,NP,fI,fd,e,k,n,g,F⟩:=H
 exact⟨hf,C,P,N,NP,fI,fd,e,PySem.W.mg_of X G e.top,k,n,g,F⟩
def Ec.mk (H:Ec K c) (X:K.In h) (G:h.Ns mainGlobals mg):Og K mg c:=by
 obtain⟨C,P,N,NP,e⟩:=H
 exact⟨C,⟨e.top,_,_,e.own⟩,PySem.W.mg_of X G e.top⟩
end
noncomputable def xF (cn:Str) (c:Str):Bool:=decide (cn=c)||decide (cn="PurseError")
section
variable {X:Cx}{e:Expr}{te:zp}{p q pos:Pos}
def tR {cn:Str}(O:Og X.K X.mg cn) (T:Bt X.mg) (he:PD X e te) (hd:(cn == ("__debug__":Str))=false:=by decide) (hg2:Gl X cn:=by rfl) (hg:Gl X "isinstance":=by rfl) (h1:starEach (e::[.Name cn q]) X.env=(false,eval e X.env)::starEach [.Name cn q] X.env:=by rfl) (h2:(backTo pos (starEach [.Name cn q] X.env)).any (·.1)=false:=by rfl) (h3:starEach [.Name cn q] X.env=(false,eval (.Name cn q) X.env)::starEach [] X.env:=by rfl):
  PD X (.Call (.Name "isinstance" p) [e,.Name cn q] [] pos) (kK (xF cn) te):=by
 obtain⟨D,o,hm⟩:=O
 exact bx (V0:=.ref D) (λ c=>.own o) (c_ hg2 hm rfl hd) T he hg h1 h2 h3
def OS:bootBuiltins "ValueError"=some (.type "ValueError"):=by decide +kernel
def i9 (hm:X.mg "ValueError"=none) (T:Bt X.mg) (he:PD X e te) (hg2:Gl X "ValueError":=by rfl) (hg:Gl X "isinstance":=by rfl) (h1:starEach (e::[.Name "ValueError" q]) X.env=(false,eval e X.env)::starEach [.Name "ValueError" q] X.env:=by rfl) (h2:(backTo pos (starEach [.Name "ValueError" q] X.env)).any (·.1)=false:=by rfl) (h3:starEach [.Name "ValueError" q] X.env=(false,eval (.Name "ValueError" q) X.env)::starEach [] X.env:=by rfl):
  PD X (.Call (.Name "isinstance" p) [e,.Name "ValueError" q] [] pos) (kK (λ _=>true) te):=
 bx (V0:=.ty "ValueError") (λ c=>.val) (bc hg2 hm OS rfl (by decide) (by decide)) T he hg h1 h2 h3
end
end L3
namespace L5
open PySem PySem.Spec L2 L3
open PyProof.Rows hiding St
noncomputable def Yc:Stmt->List Stmt
 | .ClassDef _ _ _ b _ _ _ _ _ _ _=>b
 | _=>[]
end L5
namespace L2
open PySem PySem.Spec PyProof.Rows
noncomputable def RA (i j c:Int):Nat:=if i<j then ((j-i-1)/c+1).toNat else 0
end L2
namespace L3
open PySem PySem.Spec L2
open PyProof.Rows hiding St
section
variable {X:Cx}{K:Ab}{e a b c:Expr}{es:List Expr}{tA:zY}{pos p:Pos}
noncomputable def Vp (lo c:Int) (n:Nat):List D:=(List.range n).map λ(k:Nat)=>D.int (lo+(k:Int)*c)
def zad (t:zY):wq:=fun Y S R=>t Y S λ ds S1=>match ds with
 | [.int i,.int j,.int c]=>(-(2 ^ 31)<=i/\i<2 ^ 31/\-(2 ^ 31)<=j/\j<2 ^ 31/\0<c/\c<1000000)/\R ⟨Vp i c (RA i j c),λ _=>True⟩ S1
 | _=>False
def tf:xB:=λ ds S Q=>match ds with
 | [.int i]=>Q (.int (if i<0 then -i else i)) S
 | _=>False
def tf.mo:uv tf:=λ ds S Q Q' hq h=>by
 unfold tf at h ⊢
 split at h
 ·exact hq _ _ h
 ·exact h.elim
def tf.fits:tB K tf (λ xs H Q=>∃ i,xs=[.int i]/\Q (.int (if i<0 then -i else i)) H):=λ xs ds H S Q h0 h2 h=>by
 unfold tf at h
 split at h
 ·obtain⟨x,rfl,h1⟩:=h0.one
  simp only[zg] at h1;subst h1
  exact⟨_,rfl,h _ H (by simp only[zg]) (.refl H) h2⟩
 ·exact h.elim
def US (hm:X.mg "abs"=none) (ha:xh X (e::es) tA) (hg:Gl X "abs":=by rfl) (he:starEach (e::es) X.env=(false,eval e X.env)::starEach es X.env:=by rfl) (Ah:(backTo pos (starEach es X.env)).any (·.1)=false:=by rfl):PD X (.Call (.Name "abs" p) (e::es) [] pos) (xG tf tA):=
 sZ (tQ OM hg hm boot_abs ha.pa (by decide) (by decide) he Ah) tf.mo tf.fits ha.mo
def uM (_ j:Int):Prop:=0<j/\j<2 ^ 200
def sM (i j:Int):Prop:=i.natAbs<2 ^ 200/\j.natAbs<2 ^ 200
instance (i j:Int):Decidable (uM i j):=by unfold uM;infer_instance
instance (i j:Int):Decidable (sM i j):=by unfold sM;infer_instance
def aq {n:Nat}(h:n<2 ^ 200):n.log2<200:=by
 rcases DP n with h0 | hp
 ·rw[h0];decide
 ·exact (Nat.log2_lt (BB hp)).mpr h
def Ym {i:Int}(h:i.natAbs<2 ^ 200):Builtin.Int.intBits i<=2 ^ 20:=by
 have:=aq h
 unfold Builtin.Int.intBits
 split <;> lia
def Tj:zS X (binaryOp .FloorDiv) (rI uM λ i j=>.int (i/j)):=pb λ i j _ _ _ _ _ hc q=>by
 have h1:(0:Int)<j:=hc.1
 have h2:j.natAbs<2 ^ 200:=by have:=hc.2;lia
 have h3:=aq h2
 exact floordiv_int (by lia) (by rw[Int.fdiv_eq_ediv_of_nonneg i (by lia)];exact q) (.inl (PyProof.noPylong_of_log2 (by lia)))
def Tb:zS X (binaryOp .Mult) (rI sM λ i j=>.int (i*j)):=pb λ _ _ _ _ _ _ _ hc q=>mul_int q (PySem.IntMulOk.of_bits (Ym hc.1) (Ym hc.2))
variable {ta tb:zp}
def nh (ha:PD X a ta) (hb:PD X b tb):PD X (.BinOp a .FloorDiv b pos) (yn (fI uM λ i j=>.int (i/j)) ta tb):=sY Tj (fI.fits λ _ _ _=>by simp only[zg]) fI.mo ha hb
def i7 (ha:PD X a ta) (hb:PD X b tb):PD X (.BinOp a .Mult b pos) (yn (fI sM λ i j=>.int (i*j)) ta tb):=sY Tb (fI.fits λ _ _ _=>by simp only[zg]) fI.mo ha hb
end
end L3
namespace L5
open PySem PySem.Spec L2 L3
open PyProof.Rows hiding St
structure Xm (mg:Str->Option Value):Prop extends Bq mg where
 abs:mg "abs"=none
@[simp] noncomputable def fT:List T->Option T
 | [.int i]=>some (.int (if i<0 then -i else i))
 | _=>none
def Zj:uw zE fT tf:=λ S Z ys z ds Q hz hv e hq=>by
 unfold fT at e
 split at e
 ·cases e
  obtain⟨d,rfl,h1⟩:=u5 hv
  cases h1.int
  exact hq _ S (.refl S) (Cl.of (λ _=>nofun) wx)
 ·cases e
@[simp] def xW:T->T->Option T:=ql uM λ i j=>.int (i/j)
@[simp] def vz:T->T->Option T:=ql sM λ i j=>.int (i*j)
def ph {fa fb:Ev->Option T}{ta tb:zp}(ha:yr fa ta) (hb:yr fb tb):xi (zc xW fa fb) (yn (fI uM λ i j=>.int (i/j)) ta tb):=w6 (nK (λ _ _ _=>wx) λ _ _ _=>nofun) ha hb
def lZ {fa fb:Ev->Option T}{ta tb:zp}(ha:yr fa ta) (hb:yr fb tb):xi (zc vz fa fb) (yn (fI sM λ i j=>.int (i*j)) ta tb):=w6 (nK (λ _ _ _=>wx) λ _ _ _=>nofun) ha hb
end L5
namespace L3
open PySem PySem.Spec L2
open PyProof.Rows hiding St
section
variable {X:Cx}{e:Expr}{es:List Expr}{tA:zY}{pos p:Pos}
def za (i:Nat) {x:Str}(hN:X.N[i]?=some x:=by rfl) (hv:m7 X.env.scope x:=by first | exact Or.inl rfl | exact Or.inr (Or.inl rfl) | exact Or.inr (Or.inr rfl)) (hd:(x == ("__debug__":Str))=false:=by decide) (AW:(x == ("__classdict__":Str))=false:=by decide):PD X (.Name x pos) (ym i):=UC i (pv i hN hv hd AW)
def ya {x:Str}{k k':Nat}{ps:List Str}{sp:wa}(F:FD X.prog X.w X.K X.mg X.base x k ps sp) (hr:zV k' X.A) (ha:xh X (e::es) tA) (hk:k<=k':=by decide) (hg:Gl X x:=by rfl) (AZ:(x == ("__debug__":Str))=false:=by decide)
  (he:starEach (e::es) X.env=(false,eval e X.env)::starEach es X.env:=by rfl) (Ah:(backTo pos (starEach es X.env)).any (·.1)=false:=by rfl):PD X (.Call (.Name x p) (e::es) [] pos) (kM sp tA):=UP F (hr.mono hk) ha hg AZ he Ah
end
def yo {N P:List Str}{sc:Scope}(h1:sc.kind=.function:=by rfl) (h2:sc.isCoroutine=false:=by rfl) (h3:sc.isGenerator=false:=by rfl) (h4:N.Nodup:=by decide +kernel) (h5:N.take P.length=P:=by rfl) (h6:∀ x∈P,sc.names.lookup x=some .local\/sc.names.lookup x=some .cell:=by decide +kernel) (h7:∀ y∈sc.names,y.2≠.free:=by decide +kernel):zW N P sc:=⟨h1,h2,h3,h4,h5,h6,h7⟩
def vd (l:List Str) (h:l.Nodup:=by decide +kernel):l.Nodup:=h
end L3
namespace L5
open L2 L3
def y8 {R:Rk}{g:Sm}{t:yg}(h:yh R g t:=by
 repeat' first
  | (with_reducible first | exact vx _ | apply Rp | apply Sk | apply SU)
  | (with_reducible first | exact bL _ | refine w6 (R:=xJ) Zg ?_ ?_ | refine iO (R:=xJ) ?_ | apply bO | apply bP | apply bQ)
  | ((try first | refine yY.fr ?_ | refine yY.fe ?_);with_reducible first | exact yU _ | refine w6 (R:=zE) (by with_reducible first | exact good_add | exact gC | exact Zi | exact Pe | exact Pd | exact gD | exact gF | exact QY | exact Zf) ?_ ?_ | refine iO (R:=zE) ?_ | refine bR (R:=zE) (by with_reducible first | exact Pc | exact QU | exact Pb | exact Q_ | exact QZ | exact QX | exact QV | exact Pa | exact Zj) ?_ | apply TZ | apply Sd | apply n4 | apply SW | apply bN | exact Rn _ | exact Se _ | exact So | apply Sy | apply SR | apply Su | refine Rf (by with_reducible first | exact gC | exact gD | exact gF) (by with_reducible first | exact gC | exact gD | exact gF) ?_ ?_ ?_ | apply rg | exact Rb _ | apply SO | apply ph | apply lZ)
  | (refine yY.er ?_;with_reducible first | exact bL _ | refine w6 (R:=xJ) Zg ?_ ?_ | refine iO (R:=xJ) ?_ | apply bO | apply bP | apply bQ)
  | (with_reducible first | apply tT | apply ny | apply bH | exact bF | apply T3 | apply iK | apply bI | apply iJ | apply Tv | exact nv _ | apply T7 | apply T5 | apply Tx | apply T6 | exact T9 _ | apply T8 | apply T4 | apply Tz | apply T2 | apply Tw | apply bJ)
  | (refine mD.s ?_;with_reducible first | apply bJ)
  | exact bG _
  | (with_reducible first | exact lX | apply lY | exact bK | apply TV | apply bM | apply Sb | apply SY | apply SX | apply Ra | exact T_ | exact iM _ | exact TJ | apply TK | exact TN | apply TQ | apply iL | apply TF | apply TB | apply TC | apply TH)
  | (first | exact TU _ | apply TL | apply TR)
  | exact yh.fv (nv _)
  | exact yh.fv (bG _)
  | exact Bool.false):yh R g t:=h
end L5
namespace RN
open L5
abbrev Bd:=List (Int×Int)
def yO (b c:Bd):Prop:=∀ q,yk b q=true->yk c q=true
def yO.refl (b:Bd):yO b b:=λ _ h=>h
def yO.of {b c:Bd}(h:∀ p∈b,∃ r∈c,r.1<=p.1/\r.2<=p.2):yO b c:=λ q x=>by
 obtain⟨p,hp,h1,h2⟩:=xg.mp x
 obtain⟨r,hr,h3,h4⟩:=h p hp
 exact xg.mpr ⟨r,hr,by lia,by lia⟩
def yO.at {b c:Bd}(h:yO b c) {p:Int×Int}(hp:p∈b):∃ r∈c,r.1<=p.1/\r.2<=p.2:=xg.mp (h p (xg.mpr ⟨p,hp,AK _,AK _⟩))
structure Gd (A B:Int) (b:Bd):Prop where
 km:vo b
 vZ:∀ p∈b,(0<=p.1/\p.1<=A)/\0<=p.2/\p.2<=B
noncomputable def xI:Bd:=[(0,0)]
theorem Gd.xI {A B:Int}(hA:0<=A) (hB:0<=B):Gd A B xI:=⟨by unfold RN.xI vo;simp,λ p hp=>by
 unfold RN.xI at hp;cases AM.mp hp;exact⟨⟨AK _,hA⟩,AK _,hB⟩⟩
def Gd.Qd {A B:Int}{b:Bd}(h:Gd A B b):yO b RN.xI:=yO.of λ p hp=>⟨(0,0),by unfold RN.xI;simp,(h.vZ p hp).1.1,(h.vZ p hp).2.1⟩
theorem Gd.eq {A B:Int}{b c:Bd}(h:Gd A B b) (h':Gd A B c) (x:yO b c) (y:yO c b):b=c:=vo.eq h.km h'.km λ q=>by
 rw[BU];exact⟨x q,y q⟩
def Gd.least {A B:Int}{ps:Bd}(h:∀ p∈ps,(0<=p.1/\p.1<=A)/\0<=p.2/\p.2<=B):Gd A B (wO ps):=⟨gh ps,λ p hp=>h p (Qb hp)⟩
def ay {ps qs:Bd}(h:∀ p∈ps,∃ r∈qs,r.1<=p.1/\r.2<=p.2):yO (wO ps) (wO qs):=λ q x=>by
 rw[kg] at x ⊢;exact yO.of h q x
theorem aN:∀ {b:Bd}{lo hi:Int},vo b->(∀ p∈b,lo<=p.1/\p.1<=hi)->(b.length:Int)<=hi+1-lo\/b=[]
 | [],_,_,_,_=>.inr rfl
 | p::b,lo,hi,h,hb=>by
  have h1:=Bn.mp h
  have hp:=hb p Am
  refine .inl ?_
  rcases aN (lo:=p.1+1) (hi:=hi) h1.2 (λ q hq=>⟨by have:=(h1.1 q hq).1;lia,(hb q (Ao _ hq)).2⟩) with x | x
  ·rw[AR];lia
  ·subst x;simp;lia
theorem aM:∀ {b:Bd}{lo hi:Int},vo b->(∀ p∈b,lo<=p.2/\p.2<=hi)->(b.length:Int)<=hi+1-lo\/b=[]
 | [],_,_,_,_=>.inr rfl
 | p::b,lo,hi,h,hb=>by
  have h1:=Bn.mp h
  have hp:=hb p Am
  refine .inl ?_
  rcases aM (lo:=lo) (hi:=p.2-1) h1.2 (λ q hq=>⟨(hb q (Ao _ hq)).1,by have:=(h1.1 q hq).2;lia⟩) with x | x
  ·rw[AR];lia
  ·subst x;simp;lia
def Gd.pk {A B:Int}{b:Bd}(h:Gd A B b) (hA:0<=A):(b.length:Int)<=A+1:=by
 rcases aN (lo:=0) (hi:=A) h.km (λ p hp=>(h.vZ p hp).1) with x | x
 ·lia
 ·subst x;simp;lia
def Gd.R_ {A B:Int}{b:Bd}(h:Gd A B b) (hB:0<=B):(b.length:Int)<=B+1:=by
 rcases aM (lo:=0) (hi:=B) h.km (λ p hp=>(h.vZ p hp).2) with x | x
 ·lia
 ·subst x;simp;lia
noncomputable def xR (x:Int):Int:=if x>0 then x else 0
def iX (x:Int):0<=xR x:=by unfold xR;split <;> lia
def iW {x y:Int}(h:x<=y):xR x<=xR y:=by unfold xR;split <;> split <;> lia
def RB {x g:Int}(h:0<=x) (hg:0<=g):xR (x-g)<=x:=by unfold xR;split <;> lia
def xH (a b:Int) (p:Int×Int):Int×Int:=(xR (p.1-a),xR (p.2-b))
noncomputable def vA (A B:Int) (p:Int×Int):Bool:=decide (p.1<=A)&&decide (p.2<=B)
def m5 (A B a b:Int) (bd:Bd):Bd:=wO ((bd.map (xH a b)).filter (vA A B))
def Nc (A B a b:Int) (bd:Bd):Gd A B (m5 A B a b bd):=Gd.least λ p hp=>by
 obtain⟨h1,h2⟩:=A_.mp hp
 obtain⟨q,_,rfl⟩:=An.mp h1
 have h3:(xH a b q).1<=A/\(xH a b q).2<=B:=by simpa [vA] using h2
 exact⟨⟨iX _,h3.1⟩,iX _,h3.2⟩
def Y0 (A B a b:Int) {bd bd':Bd}(h:yO bd bd'):yO (m5 A B a b bd) (m5 A B a b bd'):=ay λ p hp=>by
 obtain⟨h1,h2⟩:=A_.mp hp
 obtain⟨q,hq,rfl⟩:=An.mp h1
 obtain⟨r,hr,r1,r2⟩:=h.at hq
 have h3:(xH a b q).1<=A/\(xH a b q).2<=B:=by simpa [vA] using h2
 have m1:(xH a b r).1<=(xH a b q).1:=iW (by lia)
 have m2:(xH a b r).2<=(xH a b q).2:=iW (by lia)
 exact⟨xH a b r,A_.mpr ⟨An.mpr ⟨r,hr,rfl⟩,by simp[vA];lia⟩,m1,m2⟩
def ui (b c:Bd):Bd:=wO (b++c)
def PQ (b c:Bd) (q:Int×Int):yk (ui b c) q=(yk b q||yk c q):=by unfold ui;rw[kg,Om]
def PO {A B:Int}{b c:Bd}(h:Gd A B b) (h':Gd A B c):Gd A B (ui b c):=Gd.least λ p hp=>by
 rcases AU.mp hp with x | x
 ·exact h.vZ p x
 ·exact h'.vZ p x
noncomputable def ke (p q:Int×Int):Int×Int:=(if q.1>p.1 then q.1 else p.1,if q.2>p.2 then q.2 else p.2)
def vE (b c:Bd):Bd:=wO (b.flatMap λ p=>c.map (ke p))
def Yj (b c:Bd) (q:Int×Int):yk (vE b c) q=(yk b q&&yk c q):=by
 unfold vE
 rw[kg,BU,BZ,xg,xg,xg]
 constructor
 ·rintro⟨p,hp,h1,h2⟩
  obtain⟨x,hx,hp⟩:=Ck.mp hp
  obtain⟨y,hy,rfl⟩:=An.mp hp
  unfold ke at h1 h2
  dsimp only at h1 h2
  refine⟨⟨x,hx,?_,?_⟩,⟨y,hy,?_,?_⟩⟩ <;> (first | (split at h1 <;> lia) | (split at h2 <;> lia))
 ·rintro⟨⟨x,hx,h1,h2⟩,⟨y,hy,h3,h4⟩⟩
  refine⟨ke x y,Ck.mpr ⟨x,hx,An.mpr ⟨y,hy,rfl⟩⟩,?_,?_⟩
  ·show (if y.1>x.1 then y.1 else x.1)<=q.1
   split <;> lia
  ·show (if y.2>x.2 then y.2 else x.2)<=q.2
   split <;> lia
def OQ {A B:Int}{b c:Bd}(h:Gd A B b) (h':Gd A B c):Gd A B (vE b c):=Gd.least λ p hp=>by
 obtain⟨x,hx,hp⟩:=Ck.mp hp
 obtain⟨y,hy,rfl⟩:=An.mp hp
 have a1:=h.vZ x hx
 have a2:=h'.vZ y hy
 unfold ke
 dsimp only
 refine⟨⟨?_,?_⟩,?_,?_⟩ <;> split <;> lia
def sd (bs:List Bd):Bd:=bs.foldl ui []
def kN (bs:List Bd):Bd:=bs.foldl vE xI
theorem ZD:∀ (bs:List Bd) (b:Bd) (q:Int×Int),yk (bs.foldl ui b) q=true↔yk b q=true\/∃ c∈bs,yk c q=true
 | [],b,q=>by simp
 | c::bs,b,q=>by
  rw[Dr,ZD bs,PQ,Bool.or_eq_true]
  constructor
  ·rintro ((h | h) | ⟨d,hd,h⟩)
   ·exact .inl h
   ·exact .inr ⟨c,Am,h⟩
   ·exact .inr ⟨d,Ao _ hd,h⟩
  ·rintro (h | ⟨d,hd,h⟩)
   ·exact .inl (.inl h)
   ·rcases Ak.mp hd with e | e
    ·subst e;exact .inl (.inr h)
    ·exact .inr ⟨d,e,h⟩
theorem kD {A B:Int}:∀ (bs:List Bd) (b:Bd),Gd A B b->(∀ c∈bs,Gd A B c)->Gd A B (bs.foldl ui b)
 | [],b,h,_=>h
 | c::bs,b,h,hb=>kD bs _ (PO h (hb c Am)) λ d hd=>hb d (Ao _ hd)
def Gd.nil {A B:Int}:Gd A B []:=⟨by unfold vo;simp,λ p hp=>by cases hp⟩
theorem Yk:∀ (bs:List Bd) (b:Bd) (q:Int×Int),yk (bs.foldl vE b) q=true↔yk b q=true/\∀ c∈bs,yk c q=true
 | [],b,q=>by simp
 | c::bs,b,q=>by
  rw[Dr,Yk bs,Yj,BZ]
  constructor
  ·rintro⟨⟨h1,h2⟩,h3⟩
   exact⟨h1,λ d hd=>by
    rcases Ak.mp hd with e | e
    ·subst e;exact h2
    ·exact h3 d e⟩
  ·rintro⟨h1,h2⟩
   exact⟨⟨h1,h2 c Am⟩,λ d hd=>h2 d (Ao _ hd)⟩
theorem fF {A B:Int}:∀ (bs:List Bd) (b:Bd),Gd A B b->(∀ c∈bs,Gd A B c)->Gd A B (bs.foldl vE b)
 | [],b,h,_=>h
 | c::bs,b,h,hb=>fF bs _ (OQ h (hb c Am)) λ d hd=>hb d (Ao _ hd)
noncomputable def tP (pu:Bool) (g t:Int):Int×Int:=if pu=true then (t,g) else (g,t)
noncomputable def wR (pu:Bool) (p:Int×Int):Int:=if pu=true then p.2 else p.1
noncomputable def tX (pu:Bool) (p:Int×Int):Int:=if pu=true then p.1 else p.2
noncomputable def xY (pu:Bool) (zN give get:Int):Nat->Int->Int->Bd
 | 0,_,_=>[]
 | n+1,g,t=>if g<=zN then tP pu g t::xY pu zN give get n (g+give) (xR (t-get)) else []
def VE {pu:Bool}{g t g' t':Int}(h:g'<=g) (h':t'<=t):(tP pu g' t').1<=(tP pu g t).1/\(tP pu g' t').2<=(tP pu g t).2:=by
 cases pu
 ·exact⟨h,h'⟩
 ·exact⟨h',h⟩
theorem Yf (pu:Bool) (zN give get:Int):∀ (n:Nat) (g t g' t':Int),g'<=g->t'<=t->∀ e∈xY pu zN give get n g t,∃ r∈xY pu zN give get n g' t',r.1<=e.1/\r.2<=e.2
 | 0,_,_,_,_,_,_,e,he=>by cases he
 | n+1,g,t,g',t',h1,h2,e,he=>by
  unfold xY at he ⊢
  split at he
  ·rw[if_pos (by lia)]
   rcases Ak.mp he with x | x
   ·subst x;exact⟨_,Am,VE h1 h2⟩
   ·obtain⟨r,hr,r1⟩:=Yf pu zN give get n _ _ (g' + give) (xR (t'-get)) (by lia) (iW (by lia)) e x
    exact⟨r,Ao _ hr,r1⟩
  ·cases he
theorem fB (pu:Bool) (zN give get most:Int) (hg:1<=give) (hgt:0<=get):∀ (n:Nat) (g t:Int),0<=g->0<=t->t<=most->∀ e∈xY pu zN give get n g t,(0<=wR pu e/\wR pu e<=zN)/\0<=tX pu e/\tX pu e<=most
 | 0,_,_,_,_,_,e,he=>by cases he
 | n+1,g,t,h1,h2,h3,e,he=>by
  unfold xY at he
  split at he
  ·rcases Ak.mp he with x | x
   ·subst x
    cases pu <;> exact⟨⟨h1,by assumption⟩,h2,h3⟩
   ·exact fB pu zN give get most hg hgt n _ _ (by lia) (iX _) (Int.le_trans (RB h2 hgt) h3) e x
  ·cases he
theorem Yg (pu:Bool) (zN give get:Int) (hg:1<=give):∀ (n:Nat) (g t:Int),g<=zN+1->((xY pu zN give get n g t).length:Int)<=zN+1-g
 | 0,g,t,h=>by simp[xY];lia
 | n+1,g,t,h=>by
  unfold xY
  split
  ·rw[AR]
   by_cases hh:g+give<=zN+1
   ·have:=Yg pu zN give get hg n (g+give) (xR (t-get)) hh
    lia
   ·have e:xY pu zN give get n (g+give) (xR (t-get))=[]:=by
     cases n with
     | zero=>rfl
     | succ n=>unfold xY;rw[if_neg (by lia)]
    rw[e];simp;lia
  ·simp;lia
structure Wy where
 f:Nat
 t:Nat
 a:Int
 b:Int
structure Sl where
 p:Nat
 pu:Bool
 gv:Int
 gt:Int
structure zD where
 A:Int
 B:Int
 os:List Bool
 ws:List Wy
 ss:List Sl
structure zD.Ok (F:zD):Prop where
 a0:0<=F.A
 a1:F.A<=12
 b0:0<=F.B
 b1:F.B<=12
 n1:1<=F.os.length
 n8:F.os.length<=8
 ws:∀ w∈F.ws,w.f<F.os.length/\w.t<F.os.length
 rW:F.ws.length<=60
 ss:∀ s∈F.ss,1<=s.gv/\0<=s.gt
 sl:F.ss=[]\/(F.A+1)*(F.B+1)<64
 s8:F.ss.length<=60
noncomputable def zD.zN (F:zD) (pu:Bool):Int:=if pu=true then F.B else F.A
def yL (F:zD) (s:Sl) (p:Int×Int):Bd:=xY s.pu (F.zN s.pu) s.gv s.gt 100 (wR s.pu p) (tX s.pu p)
def md (F:zD) (s:Sl) (bd:Bd):Bd:=wO (bd.flatMap (yL F s))
def Oy (F:zD) (s:Sl) {b c:Bd}(h:yO b c):yO (md F s b) (md F s c):=ay λ p hp=>by
 obtain⟨x,hx,hp⟩:=Ck.mp hp
 obtain⟨r,hr,r1,r2⟩:=h.at hx
 obtain⟨e,he,e1⟩:=Yf s.pu (F.zN s.pu) s.gv s.gt 100 (wR s.pu x) (tX s.pu x) (wR s.pu r) (tX s.pu r) (by unfold wR;split <;> assumption) (by unfold tX;split <;> assumption) p hp
 exact⟨e,Ck.mpr ⟨r,hr,he⟩,e1⟩
def Ox {F:zD}{s:Sl}(hs:1<=s.gv/\0<=s.gt) {p:Int×Int}(hp:(0<=p.1/\p.1<=F.A)/\0<=p.2/\p.2<=F.B):∀ e∈yL F s p,(0<=e.1/\e.1<=F.A)/\0<=e.2/\e.2<=F.B:=λ e he=>by
 obtain⟨p,pu,gv,gt⟩:=s
 unfold yL zD.zN at he
 cases pu with
 | true=>exact (fB true F.B gv gt F.A hs.1 hs.2 100 _ _ hp.2.1 hp.1.1 hp.1.2 e he).symm
 | false=>exact fB false F.A gv gt F.B hs.1 hs.2 100 _ _ hp.1.1 hp.2.1 hp.2.2 e he
def Oz {F:zD}{s:Sl}(hs:1<=s.gv/\0<=s.gt) {b:Bd}(h:Gd F.A F.B b):Gd F.A F.B (md F s b):=Gd.least λ p hp=>by
 obtain⟨x,hx,hp⟩:=Ck.mp hp
 exact Ox hs (h.vZ x hx) p hp
def wW (F:zD) (last:List Bd) (p:Nat):List Bd:=(F.ws.filter λ w=>decide (w.f=p)).map λ w=>m5 F.A F.B w.a w.b (last.getD w.t [])
noncomputable def zD.stall (F:zD) (p:Nat):Option Sl:=F.ss.find? λ s=>decide (s.p=p)
def yT (F:zD) (last:List Bd) (p:Nat):Bd:=
 if F.os.getD p false=true then match F.stall p with
  | none=>sd (wW F last p)
  | some s=>md F s (sd (wW F last p))
 else kN (wW F last p)
def fR (F:zD) (last:List Bd) (p:Nat):∀ c∈wW F last p,Gd F.A F.B c:=λ c hc=>by
 obtain⟨w,_,rfl⟩:=An.mp hc
 exact Nc ..
def b_ {F:zD}(ok:F.Ok) (last:List Bd) (p:Nat):Gd F.A F.B (yT F last p):=by
 unfold yT
 have h1:Gd F.A F.B (sd (wW F last p)):=kD _ _ Gd.nil (fR F last p)
 split
 ·split
  ·exact h1
  ·rename_i s e
   exact Oz (ok.ss s (List.mem_of_find?_eq_some e)) h1
 ·exact fF _ _ (Gd.xI ok.a0 ok.b0) (fR F last p)
def R6 (F:zD) {l m:List Bd}(p:Nat) (h:∀ w∈F.ws,w.f=p->yO (l.getD w.t []) (m.getD w.t [])):yO (yT F l p) (yT F m p):=by
 have h1:yO (sd (wW F l p)) (sd (wW F m p)):=λ q hq=>by
  unfold sd at hq ⊢
  rw[ZD] at hq ⊢
  rcases hq with x | ⟨c,hc,x⟩
  ·exact .inl x
  ·obtain⟨w,hw,rfl⟩:=An.mp hc
   obtain⟨w1,w2⟩:=A_.mp hw
   exact .inr ⟨_,An.mpr ⟨w,hw,rfl⟩,Y0 _ _ _ _ (h w w1 (by simpa using w2)) q x⟩
 unfold yT
 split
 ·split
  ·exact h1
  ·exact Oy F _ h1
 ·intro q hq
  unfold kN at hq ⊢
  rw[Yk] at hq ⊢
  refine⟨hq.1,λ c hc=>?_⟩
  obtain⟨w,hw,rfl⟩:=An.mp hc
  obtain⟨w1,w2⟩:=A_.mp hw
  exact Y0 _ _ _ _ (h w w1 (by simpa using w2)) q (hq.2 _ (An.mpr ⟨w,hw,rfl⟩))
def R5 (F:zD) {l m:List Bd}(p:Nat) (h:∀ w∈F.ws,w.f=p->l.getD w.t []=m.getD w.t []):yT F l p=yT F m p:=by
 have:wW F l p=wW F m p:=by
  unfold wW
  refine CK λ w hw=>?_
  obtain⟨w1,w2⟩:=A_.mp hw
  rw[h w w1 (by simpa using w2)]
 unfold yT;rw[this]
noncomputable def box:List (Int×Int):=(List.range 13).flatMap λ(i:Nat)=>(List.range 13).map λ(j:Nat)=>((i:Int),(j:Int))
def mu (b:Bd):Nat:=box.countP (yk b)
def OP {p:Int×Int}(h:(0<=p.1/\p.1<=12)/\0<=p.2/\p.2<=12):p∈box:=by
 obtain⟨x,y⟩:=p
 dsimp only at h
 refine Ck.mpr ⟨x.toNat,AO.mpr (by lia),An.mpr ⟨y.toNat,AO.mpr (by lia),?_⟩⟩
 rw[Dz h.1.1,Dz h.2.1]
theorem Ya {α:Type}{p q:α->Bool}:∀ {l:List α},(∀ x,q x=true->p x=true)->(∃ x∈l,p x=true/\q x=false)->l.countP q<l.countP p
 | [],_,⟨x,hx,_⟩=>by cases hx
 | a::l,h,⟨x,hx,h1,h2⟩=>by
  have hle:l.countP q<=l.countP p:=List.countP_mono_left λ y _=>h y
  rw[List.countP_cons,List.countP_cons]
  rcases Ak.mp hx with e | e
  ·subst e;rw[if_neg (by rw[h2];decide),if_pos h1];lia
  ·have:=Ya h ⟨x,e,h1,h2⟩
   by_cases c:q a=true
   ·rw[if_pos c,if_pos (h a c)];lia
   ·rw[if_neg c];split <;> lia
def RE {A B:Int}(hA:A<=12) (hB:B<=12) {b c:Bd}(hb:Gd A B b) (hc:Gd A B c) (h:yO b c) (Aj:b≠c):mu b<mu c:=by
 refine Ya h ?_
 by_cases x:∃ p∈c,yk b p=false
 ·obtain⟨p,hp,e⟩:=x
  have q:=hc.vZ p hp
  exact⟨p,OP ⟨⟨q.1.1,by lia⟩,q.2.1,by lia⟩,xg.mpr ⟨p,hp,AK _,AK _⟩,e⟩
 ·exact absurd (hb.eq hc h (yO.of λ p hp=>by
   cases e:yk b p with
   | true=>exact xg.mp e
   | false=>exact absurd ⟨p,hp,e⟩ x)) Aj
def RF (b:Bd):mu b<=169:=by
 have:box.length=169:=by decide
 rw[<- this];exact List.countP_le_length
def v5 (l:List Bd):Nat:=(l.map mu).sum
theorem aa:∀ (l:List Bd),v5 l<=169*l.length
 | []=>by simp[v5]
 | b::l=>by
  have h1:=aa l
  have h2:=RF b
  unfold v5 at h1 ⊢
  rw[Aq,List.sum_cons,AR];lia
theorem iZ {A B:Int}(hA:A<=12) (hB:B<=12):∀ {l m:List Bd},l.length=m.length->(∀ b∈l,Gd A B b)->(∀ b∈m,Gd A B b)->(∀ i,yO (l.getD i []) (m.getD i []))->l≠m->v5 l<v5 m
 | [],[],_,_,_,_,h=>absurd rfl h
 | [],_::_,h,_,_,_,_=>by simp at h
 | _::_,[],h,_,_,_,_=>by simp at h
 | b::l,c::m,hl,gb,gc,h,Aj=>by
  have hl':l.length=m.length:=by simpa using hl
  have h0:yO b c:=h 0
  have hs:∀ i,yO (l.getD i []) (m.getD i []):=λ i=>by simpa using h (i+1)
  have key:v5 l<=v5 m:=by
   by_cases e:l=m
   ·rw[e];exact Af _
   ·exact BI (iZ hA hB hl' (λ x hx=>gb x (Ao _ hx)) (λ x hx=>gc x (Ao _ hx)) hs e)
  show (List.map mu (b::l)).sum<(List.map mu (c::m)).sum
  rw[Aq,List.sum_cons,Aq,List.sum_cons]
  by_cases e:b=c
  ·subst e
   have:l≠m:=λ q=>Aj (by rw[q])
   have:=iZ hA hB hl' (λ x hx=>gb x (Ao _ hx)) (λ x hx=>gc x (Ao _ hx)) hs this
   unfold v5 at this;lia
  ·have:=RE hA hB (gb b Am) (gc c Am) h0 e
   unfold v5 at key;lia
noncomputable def uC (F:zD) (fresh:List Nat) (p:Nat):Bool:=F.ws.any λ w=>decide (w.f=p)&&fresh.contains w.t
def zT (F:zD) (last:List Bd) (fresh:List Nat):List Bd:=(List.range last.length).map λ p=>if uC F fresh p=true then yT F last p else last.getD p []
noncomputable def xf (last following:List Bd):List Nat:=(List.range following.length).filter λ p=>decide (following.getD p []≠last.getD p [])
def sT (F:zD):Nat->List (List Bd)->List Bd->List Nat->Option (List (List Bd))
 | 0,_,_,_=>none
 | n+1,told,last,fresh=>if fresh=[] then some (told++[last]) else
   let fo:=zT F last fresh
   let fr:=xf last fo
   if fr=[] then some (told++[last]) else sT F n (told++[last]) fo fr
structure St (F:zD) (last:List Bd) (fresh:List Nat):Prop where
 len:last.length=F.os.length
 gd:∀ b∈last,Gd F.A F.B b
 fr:∀ p<F.os.length,uC F fresh p=false->(∃ w∈F.ws,w.f=p)->yT F last p=last.getD p []
 le:∀ p<F.os.length,(∃ w∈F.ws,w.f=p)->yO (yT F last p) (last.getD p [])
def Zn {α:Type}(f:Nat->α) (n p:Nat) (d:α) (h:p<n):((List.range n).map f).getD p d=f p:=by
 rw[Bk,Ax,List.getElem?_range h];rfl
def rm (F:zD) (last:List Bd) (fresh:List Nat):(zT F last fresh).length=last.length:=by unfold zT;simp
def St.at {F:zD}{last:List Bd}{fresh:List Nat}(s:St F last fresh) {p:Nat}(hp:p<F.os.length) (hw:∃ w∈F.ws,w.f=p):(zT F last fresh).getD p []=yT F last p:=by
 unfold zT
 rw[Zn _ _ _ _ (by rw[s.len];exact hp)]
 split
 ·rfl
 ·rename_i h;exact (s.fr p hp (by simpa using h) hw).symm
def QQ {F:zD}{fresh:List Nat}{p:Nat}(h:uC F fresh p=true):∃ w∈F.ws,w.f=p:=by
 unfold uC at h
 obtain⟨w,h1,h2⟩:=Bj.mp h
 exact⟨w,h1,by simp at h2;exact h2.1⟩
def St.no {F:zD}{last:List Bd}{fresh:List Nat}(s:St F last fresh) {p:Nat}(hp:p<F.os.length) (hw:¬ ∃ w∈F.ws,w.f=p):(zT F last fresh).getD p []=last.getD p []:=by
 unfold zT
 rw[Zn _ _ _ _ (by rw[s.len];exact hp),if_neg (λ h=>hw (QQ h))]
def St.Ye {F:zD}{last:List Bd}{fresh:List Nat}(s:St F last fresh) (p:Nat):yO ((zT F last fresh).getD p []) (last.getD p []):=by
 by_cases hp:p<F.os.length
 ·by_cases hw:∃ w∈F.ws,w.f=p
  ·rw[s.at hp hw];exact s.le p hp hw
  ·rw[s.no hp hw];exact yO.refl _
 ·have h1:(zT F last fresh).getD p []=[]:=by
   rw[Bk,List.getElem?_eq_none (by rw[rm,s.len];lia)];rfl
  rw[h1];intro q x;cases x
def St.next {F:zD}(ok:F.Ok) {last:List Bd}{fresh:List Nat}(s:St F last fresh):St F (zT F last fresh) (xf last (zT F last fresh)) where
 len:=by rw[rm,s.len]
 gd:=λ b hb=>by
  unfold zT at hb
  obtain⟨p,hp,rfl⟩:=An.mp hb
  split
  ·exact b_ ok last p
  ·have Al:=AO.mp hp
   rw[Bk,A5 Al]
   exact s.gd _ (C3 Al)
 fr:=λ p hp hn hw=>by
  rw[s.at hp hw]
  refine R5 F p λ w w1 w2=>?_
  have hwt:=(ok.ws w w1).2
  by_cases e:(zT F last fresh).getD w.t []=last.getD w.t []
  ·exact e
  ·have:uC F (xf last (zT F last fresh)) p=true:=by
    unfold uC
    refine Bj.mpr ⟨w,w1,?_⟩
    have:w.t∈xf last (zT F last fresh):=by
     unfold xf
     exact A_.mpr ⟨AO.mpr (by rw[rm,s.len];exact hwt),by simpa using e⟩
    simp[w2,this]
   rw[this] at hn;cases hn
 le:=λ p hp hw=>by
  rw[s.at hp hw]
  exact R6 F p λ w w1 w2=>s.Ye w.t
def Pl {last fo:List Bd}(hl:fo.length=last.length) (h:xf last fo≠[]):fo≠last:=λ e=>h (by
 subst e;unfold xf;simp)
def start (F:zD):List Bd:=List.replicate F.os.length xI
theorem St.start {F:zD}(ok:F.Ok):St F (start F) (List.range F.os.length) where
 len:=by unfold RN.start;simp
 gd:=λ b hb=>by rw[List.eq_of_mem_replicate hb];exact Gd.xI ok.a0 ok.b0
 fr:=λ p hp hn ⟨w,w1,w2⟩=>by
  have:uC F (List.range F.os.length) p=true:=by
   unfold uC
   refine Bj.mpr ⟨w,w1,?_⟩
   have:=(ok.ws w w1).2
   simp[w2,this]
  rw[this] at hn;cases hn
 le:=λ p hp hw=>by
  have e:(RN.start F).getD p []=xI:=by
   unfold RN.start
   rw[Bk,Dx,if_pos hp];rfl
  rw[e]
  exact (b_ ok _ p).Qd
theorem c9 {F:zD}(ok:F.Ok):∀ (n:Nat) (told:List (List Bd)) (last:List Bd) (fresh:List Nat),St F last fresh->v5 last<n->
  ∃ more last',sT F n told last fresh=some (told++last::more)/\(∀ r∈last::more,r.length=F.os.length/\∀ b∈r,Gd F.A F.B b)/\(last::more).getLast?=some last'/\more.length<=v5 last
 | 0,_,_,_,_,h=>by lia
 | n+1,told,last,fresh,s,h=>by
  unfold sT
  split
  ·exact⟨[],last,rfl,λ r hr=>by cases AM.mp hr;exact⟨s.len,s.gd⟩,rfl,AI _⟩
  ·dsimp only
   split
   ·exact⟨[],last,rfl,λ r hr=>by cases AM.mp hr;exact⟨s.len,s.gd⟩,rfl,AI _⟩
   ·rename_i hf
    have s':=s.next ok
    have Al:v5 (zT F last fresh)<v5 last:=iZ ok.a1 ok.b1 (rm ..) s'.gd s.gd s.Ye (Pl (rm ..) hf)
    obtain⟨more,last',e1,e2,e3,e4⟩:=c9 ok n (told++[last]) _ _ s' (by lia)
    refine⟨zT F last fresh::more,last',by rw[e1];simp,λ r hr=>?_,by rw[List.getLast?_cons_cons];exact e3,by rw[AR];lia⟩
    rcases Ak.mp hr with e | e
    ·subst e;exact⟨s.len,s.gd⟩
    ·exact e2 r e
noncomputable def y9 (F:zD):Nat->List Bd
 | 0=>start F
 | k+1=>(List.range F.os.length).map λ p=>yT F (y9 F k) p
theorem kl (F:zD):∀ k,(y9 F k).length=F.os.length
 | 0=>by unfold y9 start;simp
 | k+1=>by unfold y9;simp
def R4 {F:zD}{last:List Bd}{fresh:List Nat}(s:St F last fresh) (hw:∀ p<F.os.length,∃ w∈F.ws,w.f=p):zT F last fresh=(List.range F.os.length).map λ p=>yT F last p:=by
 refine BD (by rw[rm,s.len];simp) λ i h1 h2=>?_
 have hi:i<F.os.length:=by simpa using h2
 have e:=s.at hi (hw i hi)
 rw[Bk,A5 h1] at e
 simpa using e
def Pm {last fo:List Bd}(hl:fo.length=last.length) (h:xf last fo=[]):fo=last:=by
 refine BD hl λ i h1 h2=>?_
 have:i∉xf last fo:=by rw[h];simp
 unfold xf at this
 rw[A_] at this
 have e:fo.getD i []=last.getD i []:=Classical.byContradiction λ Aj=>this ⟨AO.mpr h1,by simpa using Aj⟩
 rw[Bk,A5 h1,Bk,A5 h2] at e
 simpa using e
theorem cA {F:zD}(ok:F.Ok) (hw:∀ p<F.os.length,∃ w∈F.ws,w.f=p):∀ (n:Nat) (told:List (List Bd)) (k:Nat) (fresh:List Nat) (res:List (List Bd)),St F (y9 F k) fresh->fresh≠[]->told=(List.range k).map (y9 F)->
  sT F n told (y9 F k) fresh=some res->∃ m,res=(List.range (m+1)).map (y9 F)/\y9 F (m+1)=y9 F m
 | 0,_,_,_,_,_,_,_,h=>by cases h
 | n+1,told,k,fresh,res,s,hf,ht,h=>by
  unfold sT at h
  rw[if_neg hf] at h
  dsimp only at h
  have e:zT F (y9 F k) fresh=y9 F (k+1):=R4 s hw
  have et:told++[y9 F k]=(List.range (k+1)).map (y9 F):=by rw[ht,List.range_succ,BH];rfl
  rw[e,et] at h
  split at h
  ·rename_i Aw
   cases h
   exact⟨k,rfl,Pm (by rw[kl,kl]) Aw⟩
  ·rename_i Aw
   have s':=s.next ok
   rw[e] at s'
   exact cA ok hw n _ (k+1) _ res s' Aw rfl h
noncomputable def um (pu:Bool) (w:Wy):Wy:=if pu=true then ⟨w.f,w.t,0,w.b⟩ else ⟨w.f,w.t,w.a,0⟩
def Yz (pu:Bool) (w:Wy):(um pu w).f=w.f/\(um pu w).t=w.t:=by cases pu <;> exact⟨rfl,rfl⟩
structure Xp (pu:Bool) (F G:zD):Prop where
 A:G.A=F.A
 B:G.B=F.B
 os:G.os=F.os
 s1:F.ss=[]
 s2:G.ss=[]
 to:∀ w∈F.ws,um pu w∈G.ws
 fro:∀ v∈G.ws,∃ w∈F.ws,v=um pu w
def fQ (pu:Bool) (b:Bd):Option Int:=b.head?.map (wR pu)
end RN
namespace yt
open PySem L2 L3 L5
def jf:Sm:=
 (retS (pO (instS "int" (zf 0)) (bS (instS "bool" (zf 0)))))
def oa:List T->Option T:=ye ["thing"] 1 jf
def eF:Sm:=
 (retS (zx uA (zb (zc zq (zf 0) (cS (.int 1))) zi)))
def qE:List T->Option T:=ye ["floor"] 1 eF
def da:Sm:=
 (retS (pO (zc gK (zc zq (zf 0) (cS (.int 0))) (zc zq (zf 1) (cS (.int 0)))) (zc gK (zc zq (zf 0) (cS (.int 1))) (zc zq (zf 1) (cS (.int 1))))))
def mX:List T->Option T:=ye ["pair","other"] 2 da
def pL:Sm:=
 (xU (kE (rG (xr (zf 1))) (yP (zc rn (zc zq (zf 2) (cS (.int 1))) (zc zq (zc zq (zf 1) (ka (cS (.int 1)))) (cS (.int 1)))))) (xZ 1 (zr 2)) xP)
def eK:Sm:=
 (zv (uH 1 (xu zi))
 (zv (vg [2] (xw (zx qN (zb (zf 0) zi))) (zF 2) pL)
 (retS (zx sQ (zb (zf 1) zi)))))
def sI:List T->Option T:=ye ["pairs","least","pair"] 1 eK
def rN:Sm:=
 (zv (xZ 4 (gs (yP (zc (yb false) (zf 3) (cS (.int 0)))) (tupS (zb (zr 5) (zb (zr 6) zi))) (tupS (zb (zr 6) (zb (zr 5) zi)))))
 (zv (yc 5 (zc yp (zf 5) (zc zq (zf 1) (cS (.int 2)))))
 (yc 6 (zx pj (zb (cS (.int 0)) (zb (zc tI (zf 6) (zc zq (zf 1) (cS (.int 3)))) zi))))))
def eG:Sm:=
 (zv (yc 3 (zc zq (zf 1) (cS (.int 1))))
 (zv (uH 4 (xu zi))
 (zv (yc 5 (zc zq (zf 2) (zf 3)))
 (zv (yc 6 (zc zq (zf 2) (zc tI (cS (.int 1)) (zf 3))))
 (zv (oo 1000000 [] (yP (zc rq (zf 5) (zc zq (zf 0) (zf 3)))) rN)
 (tN 4))))))
def mL:List T->Option T:=ye ["brims","stall","pair","purse","pairs","given","got"] 3 eG
def jc:Sm:=
 (zv (xU (yP (zc (yb false) (zf 1) (cS (.int 0)))) (retS (tupS (zb (zc zq (zf 0) (cS (.int 0))) (zb (zc zq (zf 0) (cS (.int 1))) (zb (zc zq (zf 0) (cS (.int 2))) (zb (cS (.int 0)) zi)))))) xP)
 (retS (tupS (zb (zc zq (zf 0) (cS (.int 0))) (zb (zc zq (zf 0) (cS (.int 1))) (zb (cS (.int 0)) (zb (zc zq (zf 0) (cS (.int 3))) zi)))))))
def pU:List T->Option T:=ye ["way","purse"] 2 jc
def eQ:Sm:=
 (zv (xU (yP (zc rn (zf 1) (zx uA (zb (zf 0) zi)))) (retS (zc zq (zf 0) (zf 1))) xP)
 (retS (cS (.int 0))))
def uJ:List T->Option T:=ye ["_law_script","_law_k"] 2 eQ
def Yt:Sm:=
 (zv (xZ 2 (zc yv (zf 3) (zc xj (cS (.int 10)) (cS (.int 6)))))
 (yc 3 (zc xW (zf 3) (zc xj (cS (.int 10)) (cS (.int 6))))))
def Ys:Sm:=
 (zv (yc 3 (zc yv (zc yp (zc yp (zc vz (zf 3) (cS (.int 52027))) (zc xW (zf 3) (zc xj (cS (.int 10)) (cS (.int 22))))) (zc vz (cS (.int 13)) (zf 4))) (zc yp (zc xj (cS (.int 10)) (cS (.int 45))) (cS (.int 9)))))
 (xZ 2 (zc xW (zc vz (zf 3) (zc yp (zc xW (zf 3) (zc xj (cS (.int 10)) (cS (.int 23)))) (cS (.int 7)))) (zc xj (cS (.int 10)) (cS (.int 9))))))
def Xn:Sm:=
 (zv (uH 2 (xu zi))
 (zv (yc 3 (zx fT (zb (zc xW (zf 0) (cS (.int 2))) zi)))
 (zv (xU (yP (zc (yb false) (zc yv (zf 0) (cS (.int 2))) (cS (.int 1)))) (zv (vg [4] (ve tM (zb (zf 1) zi)) (zF 4) Yt)
 (tN 2)) xP)
 (zv (yc 3 (zc yp (zc yv (zf 3) (zc yp (zc xj (cS (.int 10)) (cS (.int 45))) (cS (.int 9)))) (cS (.int 77003))))
 (zv (vg [4] (ve tM (zb (zf 1) zi)) (zF 4) Ys)
 (tN 2))))))
def pX:List T->Option T:=ye ["_law_cell","_law_count","_law_found","_law_number","_law_k"] 2 Xn
def eR:Sm:=
 (retS (zx nB (zb (cS (.int 12)) (zb (zc yp (zc tI (zc yv (zc yv (zf 0) (cS (.int 25))) (zc yp (zc uU (cS (.int 2)) (zf 1)) (cS (.int 1)))) (zf 1)) (zc yv (zc vh (zf 0) (cS (.int 25))) (cS (.int 2)))) zi))))
def p_:List T->Option T:=ye ["_law_number","_law_most"] 2 eR
def eM:Sm:=
 (retS (zc zq (xu (zb (tupS (zb (cS (.int 4)) (zb (cS (.int 5)) zi))) (zb (tupS (zb (cS (.int 3)) (zb (cS (.int 5)) zi))) (zb (tupS (zb (cS (.int 4)) (zb (cS (.int 4)) zi))) (zb (tupS (zb (cS (.int 2)) (zb (cS (.int 6)) zi))) (zb (tupS (zb (cS (.int 5)) (zb (cS (.int 3)) zi))) (zb (tupS (zb (cS (.int 3)) (zb (cS (.int 4)) zi))) (zb (tupS (zb (cS (.int 1)) (zb (cS (.int 8)) zi))) (zb (tupS (zb (cS (.int 4)) (zb (cS (.int 3)) zi))) (zb (tupS (zb (cS (.int 8)) (zb (cS (.int 2)) zi))) (zb (tupS (zb (cS (.int 2)) (zb (cS (.int 5)) zi))) zi))))))))))) (zc yv (zf 0) (cS (.int 10)))))
def mO:List T->Option T:=ye ["_law_number"] 1 eM
def eP:Sm:=
 (zv (yc 1 (xu (zb (uB (xF "NoCount") (zf 0)) (zb (uB (xF "NoChange") (zf 0)) (zb (uB (xF "NoFloor") (zf 0)) zi)))))
 (zv (yc 1 (zc yp (zf 1) (xu (zb (uB (xF "NoMore") (zf 0)) (zb (uB (xF "NoName") (zf 0)) (zb (uB (xF "NoPair") (zf 0)) zi))))))
 (retS (zc yp (zf 1) (xu (zb (uB (xF "NoPlace") (zf 0)) (zb (uB (xF "NoRow") (zf 0)) (zb (uB (xF "NoWay") (zf 0)) zi))))))))
def jb:List T->Option T:=ye ["_law_caught","_law_some"] 1 eP
def eN:Sm:=
 (zv (xU (kE (yP (zc (yb true) (instS "bool" (zf 0)) (instS "bool" (zf 1)))) (yP (zc (yb true) (instS "int" (zf 0)) (instS "int" (zf 1))))) (retS (cS (.bl false))) xP)
 (retS (zc (yb false) (zf 0) (zf 1))))
def ja:List T->Option T:=ye ["_law_one","_law_other"] 2 eN
def lg:Sm:=
 (retS (pO (zx oa (zb (zr 0) zi)) (fC rq rq (zf 1) (zf 0) (zf 2))))
def tD:List T->Option T:=ye ["thing","least","most"] 3 lg
def fE:Ev->Option T:=
 xS [none] (xw (zf 0)) (zF 0) sj (tupS (zb (zc zq (zf 0) (cS (.int 0))) (zb (cS (.int 0)) (zb (zc zq (zf 0) (cS (.int 1))) zi))))
def fD:Ev->Option T:=
 xS [none] (xw (zf 1)) (zF 0) sj (tupS (zb (zc zq (zf 0) (cS (.int 0))) (zb (cS (.int 1)) (zb (zc zq (zf 0) (cS (.int 1))) zi))))
def mx:Sm:=
 (zv (ZH 3 (zf 6) (zx nB (zb (zf 7) (zb (ZK 3 (zf 6) (zr 7)) zi))))
 (xU (yP (zc (yb false) (fh 3) (cS (.int 2)))) (xZ 4 (tupS (zb (zr 5) (zb (zx pj (zb (fj 3 (cS (.int 0))) (zb (fj 3 (cS (.int 1))) zi))) zi)))) xP))
def eW:Sm:=
 (zv (yc 2 (zc yp fE fD))
 (zv (ZI 3)
 (zv (uH 4 (xu zi))
 (zv (vg [5,6,7] (xw (zx qN (zb (zf 2) zi))) (vO 3 (xA (zF 5) (xA (zF 6) (xA (zF 7) uT)))) mx)
 (gL 4 (retS (zx sI (zb (zr 4) zi))))))))
def mT:List T->Option T:=ye ["border","other","steps","lows","shared","first","side","second"] 2 eW
def eU:Sm:=
 (retS (zx sI (zb (zc yp (zx listS (zb (zf 0) zi)) (zx listS (zb (zf 1) zi))) zi)))
def mR:List T->Option T:=ye ["border","other"] 2 eU
def mm:Ev->Option T:=
 xS [none,some 1] (xw (zf 2)) (zF 0) sj (tupS (zb (zx pj (zb (cS (.int 0)) (zb (zc tI (zc zq (zf 0) (cS (.int 0))) (zc zq (zf 1) (cS (.int 2)))) zi))) (zb (zx pj (zb (cS (.int 0)) (zb (zc tI (zc zq (zf 0) (cS (.int 1))) (zc zq (zf 1) (cS (.int 3)))) zi))) zi)))
def mf:Ev->Option T:=
 xS [none,some 0] (xw (zf 3)) (zF 0) (xr (zx mX (zb (zr 1) (zb (zr 0) zi)))) (zr 0)
def e_:Sm:=
 (zv (yc 3 mm)
 (retS (zx sI (zb mf zi))))
def mW:List T->Option T:=ye ["brims","way","border","pairs"] 3 e_
def ml:Ev->Option T:=
 xS [none,some 1] (xw (zc zq (zf 0) (cS (.int 2)))) (zF 0) sj (zx pU (zb (zr 0) (zb (zr 1) zi)))
def eT:Sm:=
 (zv (yc 2 (zx vQ (zb ml zi)))
 (retS (tupS (zb (zc zq (zf 0) (cS (.int 0))) (zb (zc zq (zf 0) (cS (.int 1))) (zb (zx sQ (zb (zf 2) zi)) (zb (tupS zi) zi)))))))
def mQ:List T->Option T:=ye ["floor","purse","ways"] 2 eT
def eL:Sm:=
 (retS (tupS (zb (zr 0) (zb (zc yv (zc yv (zf 2) (cS (.int 8))) (zf 1)) (zb (zx p_ (zb (zc yv (zc vh (zf 2) (cS (.int 8))) (cS (.int 50))) (zb (zr 3) zi))) (zb (zx p_ (zb (zc yv (zc vh (zf 2) (cS (.int 400))) (cS (.int 50))) (zb (zr 3) zi))) zi))))))
def rQ:List T->Option T:=ye ["_law_place","_law_many","_law_number","_law_size"] 4 eL
def eV:Sm:=
 (xU (rG (xr (zx tD (zb (zr 1) (zb (cS (.int 0)) (zb (zc tI (zx qE (zb (zr 0) zi)) (cS (.int 1))) zi)))))) (jY "NoPlace" "place" (zr 1)) xP)
def mS:List T->Option T:=ye ["floor","place"] 2 eV
def my:Sm:=
 (yc 1 (zx mR (zb (zr 1) (zb (zr 2) zi))))
def eY:Sm:=
 (zv (yc 1 (tupS zi))
 (zv (vg [2] (xw (zr 0)) (zF 2) my)
 (retS (zr 1))))
def mU:List T->Option T:=ye ["borders","joined","border"] 1 eY
def mz:Sm:=
 (yc 1 (zx mT (zb (zr 1) (zb (zr 2) zi))))
def eZ:Sm:=
 (zv (yc 1 (tupS (zb (tupS (zb (cS (.int 0)) (zb (cS (.int 0)) zi))) zi)))
 (zv (vg [2] (xw (zr 0)) (zF 2) mz)
 (retS (zr 1))))
def mV:List T->Option T:=ye ["borders","joined","border"] 1 eZ
def mv:Sm:=
 (xZ 6 (zx rQ (zb (zr 8) (zb (zr 4) (zb (zc zq (zf 3) (zc yp (zc yp (cS (.int 3)) (zc uU (cS (.int 4)) (zf 8))) (zf 11))) (zb (zr 10) zi))))))
def qt:Sm:=
 (zv (yc 9 (zc zq (zf 3) (zc yp (cS (.int 2)) (zc uU (cS (.int 4)) (zf 8)))))
 (zv (xZ 5 (zc zq (xu (zb (cS (.str "keeper")) (zb (cS (.str "taker")) zi))) (zc yv (zf 9) (cS (.int 2)))))
 (zv (yc 10 (zc zq (xu (zb (cS (.int 2)) (zb (cS (.int 3)) (zb (cS (.int 3)) (zb (cS (.int 12)) zi))))) (zc yv (zc vh (zf 9) (cS (.int 2))) (cS (.int 4)))))
 (zv (vg [11] (ve tM (zb (zc yp (cS (.int 1)) (zc yv (zc vh (zf 9) (cS (.int 8))) (cS (.int 3)))) zi)) (zF 11) mv)
 (xU (kF (yP (zc (yb false) (zc zq (zf 5) (zf 8)) (cS (.str "keeper")))) (yP (zc (yb false) (zc yv (zc vh (zf 9) (cS (.int 24))) (cS (.int 3))) (cS (.int 0))))) (xZ 7 (tupS (zb (zr 8) (zb (zc yv (zc vh (zf 9) (cS (.int 72))) (cS (.int 2))) (zb (zc yp (cS (.int 1)) (zc yv (zc vh (zf 9) (cS (.int 144))) (cS (.int 4)))) (zb (zc yv (zc vh (zf 9) (cS (.int 576))) (cS (.int 5))) zi)))))) xP)))))
def mq:Sm:=
 (xZ 6 (zx rQ (zb (zc yv (zc yv (zc vh (zc zq (zf 3) (cS (.int 0))) (cS (.int 64))) (cS (.int 8))) (zf 4)) (zb (zr 4) (zb (zc zq (zf 3) (zc yp (cS (.int 34)) (zf 11))) (zb (cS (.int 3)) zi))))))
def eO:Sm:=
 (zv (yc 3 (zx pX (zb (zr 0) (zb (cS (.int 43)) zi))))
 (zv (yc 4 (zc yp (cS (.int 1)) (zc yv (zc zq (zf 3) (cS (.int 0))) (zf 1))))
 (zv (uH 5 (xu zi))
 (zv (uH 6 (xu zi))
 (zv (uH 7 (xu zi))
 (zv (vg [8,9,10,11] (ve tM (zb (zf 4) zi)) (zF 8) qt)
 (zv (xU (yP (zc (yb false) (zc yv (zc vh (zc zq (zf 3) (cS (.int 0))) (cS (.int 8))) (cS (.int 8))) (cS (.int 1)))) (vg [11] (ve tM (zb (zx nB (zb (cS (.int 9)) (zb (zc tI (cS (.int 24)) (zx uA (zb (zf 6) zi))) zi))) zi)) (zF 11) mq) xP)
 (zv (yc 12 (tupS (zb (zc yv (zc zq (zf 3) (cS (.int 1))) (zc yp (zf 2) (cS (.int 1)))) (zb (zc yv (zc vh (zc zq (zf 3) (cS (.int 1))) (cS (.int 13))) (zc yp (zf 2) (cS (.int 1)))) zi))))
 (retS (tupS (zb (zr 12) (zb (zx sQ (zb (zf 5) zi)) (zb (zx sQ (zb (zx vQ (zb (zf 6) zi)) zi)) (zb (zx sQ (zb (zf 7) zi)) zi))))))))))))))
def pY:List T->Option T:=ye ["_law_cell","_law_most","_law_brim","_law_xs","_law_many","_law_owners","_law_ways","_law_stalls","_law_place","_law_number","_law_size","_law_k","_law_brims"] 3 eO
def mh:Ev->Option T:=
 xS [none,none,some 1] (ve rF (zb (zc zq (zf 0) (cS (.int 2))) zi)) (vO 2 (xA (zF 0) (xA (zF 1) uT))) (yP (zc (yb false) (zc zq (zf 1) (cS (.int 0))) (zf 2))) (zr 0)
def eC:Sm:=
 (zv (fg (zx (iV mS) (zb (zr 0) (zb (zr 1) zi))))
 (retS mh))
def mK:List T->Option T:=ye ["floor","place"] 2 eC
def pK:Sm:=
 (xU (yP (zc (yb false) (zc zq (zf 2) (cS (.int 0))) (zf 1))) (retS (zr 2)) xP)
def eD:Sm:=
 (zv (fg (zx (iV mS) (zb (zr 0) (zb (zr 1) zi))))
 (zv (vg [2] (xw (zc zq (zf 0) (cS (.int 3)))) (zF 2) pK)
 (retS (cS .zj))))
def qD:List T->Option T:=ye ["floor","place","stall"] 2 eD
def m4:Sm:=
 (gY 4 (zx mL (zb (zc zq (zf 0) (cS (.int 0))) (zb (zr 3) (zb (zr 5) zi)))))
def jg:Sm:=
 (zv (yc 3 (zx qD (zb (zr 0) (zb (zr 1) zi))))
 (zv (xU (yP (zc (qk false) (zf 3) (cS .zj))) (retS (zr 2)) xP)
 (zv (uH 4 (xu zi))
 (zv (vg [5] (xw (zr 2)) (zF 5) m4)
 (gL 4 (retS (zx sI (zb (zr 4) zi))))))))
def oh:List T->Option T:=ye ["floor","place","border","stall","pairs","pair"] 3 jg
def mj:Ev->Option T:=
 xS [none,some 0] (xw (zx mK (zb (zr 0) (zb (zr 1) zi)))) (zF 0) sj (zc zq (zc zq (zf 1) (cS (.int 2))) (zf 0))
def me:Ev->Option T:=
 xS [none,some 0,some 2] (xw (zf 3)) (zF 0) sj (zx mW (zb (zc zq (zf 1) (cS (.int 0))) (zb (zr 0) (zb (zc zq (zf 2) (zc zq (zf 0) (cS (.int 1)))) zi))))
def eJ:Sm:=
 (zv (yc 3 mj)
 (zv (yc 4 me)
 (zv (xU (yP (zc (yb false) (zc zq (zc zq (zf 0) (cS (.int 1))) (zf 1)) (cS (.str "keeper")))) (retS (zx oh (zb (zr 0) (zb (zr 1) (zb (zx mU (zb (zr 4) zi)) zi))))) xP)
 (retS (zx mV (zb (zr 4) zi))))))
def mM:List T->Option T:=ye ["floor","place","last","ways","ahead"] 3 eJ
def mi:Ev->Option T:=
 xS [none,some 2] (xw (zc zq (zf 0) (cS (.int 2)))) (zF 0) (yP (zc (p9 false) (zc zq (zf 0) (cS (.int 1))) (zf 1))) (zc zq (zf 0) (cS (.int 0)))
def mr:Sm:=
 (ah 3 (zf 4) (zx mM (zb (zr 0) (zb (zr 4) (zb (zr 1) zi)))))
def eI:Sm:=
 (zv (uH 3 (zx listS (zb (zf 1) zi)))
 (zv (vg [4] (xw (zx vQ (zb mi zi))) (zF 4) mr)
 (tN 3)))
def pW:List T->Option T:=ye ["floor","last","fresh","following","place"] 3 eI
def pG:Ev->Option T:=
 xS [none,none,some 3] (ve rF (zb (zf 4) zi)) (vO 2 (xA (zF 0) (xA (zF 1) uT))) (yP (zc (yb true) (zf 1) (zc zq (zf 2) (zf 0)))) (zr 0)
def uF:Sm:=
 (zv (yc 3 (zc zq (zf 1) (ka (cS (.int 1)))))
 (zv (yc 4 (zx pW (zb (zr 0) (zb (zr 3) (zb (zr 2) zi)))))
 (zv (yc 2 pG)
 (xU (xr (zf 2)) (xZ 1 (zr 4)) xP))))
def eE:Sm:=
 (zv (uH 1 (xu (zb (zc uU (xu (zb (tupS (zb (tupS (zb (cS (.int 0)) (zb (cS (.int 0)) zi))) zi)) zi)) (zx qE (zb (zr 0) zi))) zi)))
 (zv (yc 2 (zx nD (zb (zx qE (zb (zr 0) zi)) zi)))
 (zv (oo 1000000 [3,4] (xr (zf 2)) uF)
 (tN 1))))
def pV:List T->Option T:=ye ["floor","told","fresh","last","following"] 1 eE
def eX:Sm:=
 (retS (zc zq (zx pV (zb (zr 0) zi)) (ka (cS (.int 1)))))
def og:List T->Option T:=ye ["floor"] 1 eX
def pJ:Ev->Option T:=
 xS [none,some 1] (xw (zx og (zb (zx mQ (zb (zr 0) (zb (zr 1) zi))) zi))) (zF 0) sj (gs (xr (zf 0)) (zc zq (zc zq (zf 0) (cS (.int 0))) (zf 1)) (cS .zj))
def jh:Sm:=
 (zv (xU (rG (xr (zx tD (zb (zr 1) (zb (cS (.int 0)) (zb (cS (.int 1)) zi)))))) (jY "NoCount" "told" (zr 1)) xP)
 (cB (zx sQ (zb pJ zi))))
def oj:List T->Option T:=ye ["floor","purse"] 2 jh
def je:Sm:=
 (zv (yc 2 (cS .zj))
 (zv (yc 3 (cS .zj))
 (zv (dN 4 3 (dm 2 oj (zb (zr 0) (zb (zr 1) zi))))
 (retS (tupS (zb (zr 2) (zb (zr 3) zi)))))))
def pZ:List T->Option T:=ye ["_law_floor_here","_law_purse","_law_found","_law_caught","e"] 2 je
def pH:Ev->Option T:=
 xS [none] (ve tM (zb (cS (.int 9)) zi)) (zF 0) sj (zc (yb false) (zf 0) (cS (.int 0)))
def jd:Sm:=
 (zv (js (zx pZ (zb (zr 0) (zb (zr 1) zi))) (vO 2 (xA (zF 2) (xA (zF 3) uT))))
 (zv (xU (kF (xr (instS "int" (zf 1))) (kF (rG (xr (instS "bool" (zf 1)))) (yP (fC rq rq (cS (.int 0)) (zf 1) (cS (.int 1)))))) (retS (pO (zc (qk false) (zf 3) (cS .zj)) (pO (instS "tuple" (zf 2)) (zc (yb false) (zx uA (zb (zf 2) zi)) (zx uA (zb (zc zq (zf 0) (cS (.int 1))) zi)))))) xP)
 (zv (xU (kE (rG (xr (uB (λ _=>true) (zf 3)))) (yP (zc (yb true) (zx jb (zb (zr 3) zi)) pH))) (retS (cS (.bl false))) xP)
 (retS (zx ja (zb (Zu "told" (zf 3)) (zb (zr 1) zi)))))))
def rR:List T->Option T:=ye ["_law_floor_here","_law_purse","_law_found","_law_caught"] 2 jd
def pN:Sm:=
 (zv (yc 6 (zx uJ (zb (zr 0) (zb (zr 5) zi))))
 (xU (rG (xr (zx rR (zb (zr 3) (zb (zc zq (xu (zb (cS (.int 0)) (zb (cS (.int 1)) (zb (zc zq (zf 4) (zc yv (zc vh (zf 6) (cS (.int 3))) (cS (.int 12)))) zi)))) (zc yv (zf 6) (cS (.int 3)))) zi))))) (retS (cS (.bl false))) xP))
def eS:Sm:=
 (zv (js (zx mO (zb (zx uJ (zb (zr 0) (zb (cS (.int 0)) zi))) zi)) (vO 2 (xA (zF 1) (xA (zF 2) uT))))
 (zv (yc 3 (zx pY (zb (zx uJ (zb (zr 0) (zb (cS (.int 1)) zi))) (zb (zr 1) (zb (zr 2) zi)))))
 (zv (yc 4 (xu (zb (cS (.int 2)) (zb (zc tI (cS (.int 0)) (cS (.int 1))) (zb (zc xj (cS (.int 10)) (cS (.int 40))) (zb (cS (.bl true)) (zb (cS (.bl false)) (zb (cS .zj) (zb (cS (.str "0")) (zb (cS (.str "a")) (zb (tupS (zb (cS (.int 0)) zi)) (zb (xu (zb (cS (.int 1)) zi)) (zb (tupS (zb (cS (.int 0)) (zb (cS (.int 1)) zi))) (zb (cS (.int 12)) zi))))))))))))))
 (zv (vg [5,6] (ve oK (zb (cS (.int 2)) (zb (zx pj (zb (cS (.int 3)) (zb (zx nB (zb (zx uA (zb (zf 0) zi)) (zb (cS (.int 20)) zi))) zi))) zi))) (zF 5) pN)
 (retS (cS (.bl true)))))))
def qF:List T->Option T:=ye ["_law_script","_law_most","_law_brim","_law_floor_here","_law_odd","_law_k","_law_cell"] 1 eS
def WC (ps:List (Int×Int)) (h:ps.length<64):qN [.lst (ps.map zt)]=some (.lst ((tK ps).map zt)):=by
 show (vS (ps.map zt)).bind _=_
 rw[Ve,BJ,if_pos ⟨by simpa using h,λ r hr=>by obtain⟨p,_,rfl⟩:=An.mp hr;simp[vq]⟩,<- dZ,AQ]
 rfl
def QS {qs p:List (Int×Int)}{x:Int×Int}(hr:∀ r,qs++yC r (qs.getLast?.map (·.2))=yC (p++r) none) (hb:tq (qs.getLast?.map (·.2)) x.2=true) (r:List (Int×Int)):
  (qs++[x])++yC r ((qs++[x]).getLast?.map (·.2))=yC (p++[x]++r) none:=by
 have:=hr (x::r)
 rw[show yC (x::r) (qs.getLast?.map (·.2))=x::yC r (some x.2) by rw[yC,if_pos hb]] at this
 simpa using this
def QT {qs p:List (Int×Int)}{x:Int×Int}(hr:∀ r,qs++yC r (qs.getLast?.map (·.2))=yC (p++r) none) (hb:tq (qs.getLast?.map (·.2)) x.2=false) (r:List (Int×Int)):
  qs++yC r (qs.getLast?.map (·.2))=yC (p++[x]++r) none:=by
 have:=hr (x::r)
 rw[show yC (x::r) (qs.getLast?.map (·.2))=yC r (qs.getLast?.map (·.2)) by rw[yC,if_neg (by rw[hb];nofun)]] at this
 simpa using this
def k_ (ps:List (Int×Int)) (hl:ps.length<64):sI [.lst (ps.map zt)]=some (.tup ((wO ps).map zt)):=by
 obtain⟨J',h1,qs,h2,h3,h4⟩:=uX (is:=[2]) (g:=zF 2) (b:=pL) zt (λ p J=>∃ qs:List (Int×Int),J=[some (.im (.lst (ps.map zt))),some (.own (.lst (qs.map zt))),none]/\qs.length<=p.length/\
   ∀ r,qs++yC r (qs.getLast?.map (·.2))=yC (p++r) none) (tK ps) [some (.im (.lst (ps.map zt))),some (.own (.lst [])),none] ⟨[],by simp,by simp,λ r=>by simp⟩ (by
  rintro p x q e J ⟨qs,rfl,hq,hr⟩
  have hlen:p.length<64:=by
   have:=congrArg List.length e
   rw[(j0 ps).length_eq] at this
   simp at this;lia
  have app:tq (qs.getLast?.map (·.2)) x.2=true->∃ qs':List (Int×Int),yA [2] [some (.im (.lst (ps.map zt))),some (.own (.lst (qs.map zt++[zt x]))),some (.im (zt x))]=[some (.im (.lst (ps.map zt))),some (.own (.lst (qs'.map zt))),none]/\qs'.length<=(p++[x]).length/\∀ r,qs'++yC r (qs'.getLast?.map (·.2))=yC (p++[x]++r) none:=λ hb=>
   ⟨qs++[x],by simp,by simp;lia,QS hr hb⟩
  rcases List.eq_nil_or_concat qs with rfl | ⟨init,l,rfl⟩
  ·refine⟨_,?_,app (by simp[tq])⟩
   simp[turn,pL]
  ·simp only[List.concat_eq_append] at *
   by_cases hb:x.2<l.2
   ·refine⟨_,?_,app (by simp[tq,hb])⟩
    simp at hq
    simp[turn,pL,zt,hb,rn]
    lia
   ·refine⟨[some (.im (.lst (ps.map zt))),some (.own (.lst ((init++[l]).map zt))),some (.im (zt x))],?_,init++[l],by simp,by simp at hq ⊢;lia,QT hr (by simp[tq];lia)⟩
    simp[turn,pL,zt,hb,rn])
 have h5:=h4 []
 simp[yC] at h5
 unfold sI eK
 simp[WC ps hl,h1,h2,h5,wO]
def N3 (b o:List (Int×Int)) (hl:b.length+o.length<64):mR [.tup (b.map zt),.tup (o.map zt)]=some (.tup ((wO (b++o)).map zt)):=by
 have h:=k_ (b++o) (by simpa using hl)
 rw[BH] at h
 have:b.length+o.length<=16777216:=by lia
 unfold mR eU
 simp[h,this]
noncomputable def r0 (p:Int×Int):List Int:=[p.1,0,p.2]
noncomputable def r1 (p:Int×Int):List Int:=[p.1,1,p.2]
noncomputable def yR (l:Option Int) (v:Int):Int:=match l with
 | none=>v
 | some m=>if m<v then m else v
noncomputable def vU (l:Option Int) (sh:List (Int×Int)) (f:Int->Int×Int):List (Int×Int):=match l with
 | some m=>sh++[f m]
 | none=>sh
structure Sw (b o:List (Int×Int)) (p:List (List Int)) (l0 l1:Option Int) (sh:List (Int×Int)):Prop where
 hV:∀ x,r0 x∈p->∃ m,l0=some m/\m<=x.2
 hJ:∀ x,r1 x∈p->∃ m,l1=some m/\m<=x.2
 fM:∀ m,l0=some m->∃ x,r0 x∈p/\x.2=m
 fL:∀ m,l1=some m->∃ x,r1 x∈p/\x.2=m
 len:sh.length<=p.length
 snd:∀ s∈sh,(∃ x,r0 x∈p/\x.1<=s.1/\x.2<=s.2)/\∃ x,r1 x∈p/\x.1<=s.1/\x.2<=s.2
 all:∀ x y,r0 x∈p->r1 y∈p->∃ s∈sh,(s.1<=x.1\/s.1<=y.1)/\(s.2<=x.2\/s.2<=y.2)
def lM {x y:Int×Int}(h:r0 x=r0 y):x=y:=by
 unfold r0 at h;injection h with h1 h2;injection h2 with _ h2;injection h2 with h2 _;exact Prod.ext h1 h2
def lL {x y:Int×Int}(h:r1 x=r1 y):x=y:=by
 unfold r1 at h;injection h with h1 h2;injection h2 with _ h2;injection h2 with h2 _;exact Prod.ext h1 h2
def qT {x y:Int×Int}(h:r0 x=r1 y):False:=by
 unfold r0 r1 at h;injection h with h1 h2;injection h2 with h2 _;lia
def uV {p:List (List Int)}{a x:List Int}(h:a∈p++[x]):a∈p\/a=x:=by simpa using h
def Sw.W3 {b o:List (Int×Int)}{p:List (List Int)}{l0 l1:Option Int}{sh:List (Int×Int)}(h:Sw b o p l0 l1 sh) (x:Int×Int) (hx:∀ y,r0 y∈p->y.1<=x.1) (hy:∀ y,r1 y∈p->y.1<=x.1):
  Sw b o (p++[r0 x]) (some (yR l0 x.2)) l1 (vU l1 sh λ m=>(x.1,if m>yR l0 x.2 then m else yR l0 x.2)):=by
 have lo:yR l0 x.2<=x.2/\∀ m,l0=some m->yR l0 x.2<=m:=by
  unfold yR
  cases l0 with
  | none=>exact⟨AK _,nofun⟩
  | some m=>dsimp only;split <;> refine⟨by lia,λ m' e=>?_⟩ <;> cases e <;> lia
 have la:∃ y,r0 y∈p++[r0 x]/\y.2=yR l0 x.2:=by
  unfold yR
  cases l0 with
  | none=>exact⟨x,by simp,rfl⟩
  | some m=>
   dsimp only
   split
   ·obtain⟨y,h1,h2⟩:=h.fM m rfl
    exact⟨y,by simp[h1],h2⟩
   ·exact⟨x,by simp,rfl⟩
 have snd':∀ s∈sh,(∃ x',r0 x'∈p++[r0 x]/\x'.1<=s.1/\x'.2<=s.2)/\∃ x',r1 x'∈p++[r0 x]/\x'.1<=s.1/\x'.2<=s.2:=λ s hs=>by
  obtain⟨⟨a,a1,a2⟩,c,c1,c2⟩:=h.snd s hs
  exact⟨⟨a,by simp[a1],a2⟩,c,by simp[c1],c2⟩
 refine⟨λ y hm=>?_,λ y hm=>?_,λ m e=>?_,λ m e=>?_,?_,λ s hs=>?_,λ y z hm hz=>?_⟩
 ·rcases uV hm with q | q
  ·obtain⟨m,e,q2⟩:=h.hV y q
   exact⟨_,rfl,by have:=lo.2 m e;lia⟩
  ·cases lM q;exact⟨_,rfl,lo.1⟩
 ·rcases uV hm with q | q
  ·exact h.hJ y q
  ·exact (qT q.symm).elim
 ·cases e;exact la
 ·obtain⟨y,q1,q2⟩:=h.fL m e
  exact⟨y,by simp[q1],q2⟩
 ·have:=h.len
  cases l1 <;> simp[vU] <;> lia
 ·cases l1 with
  | none=>exact snd' s hs
  | some m=>
   rcases AU.mp hs with q | q
   ·exact snd' s q
   ·obtain rfl:s=_:=by simpa using q
    obtain⟨y,y1,y2⟩:=la
    obtain⟨z,z1,z2⟩:=h.fL m rfl
    have DW:=hy z z1
    refine⟨⟨y,y1,?_,by dsimp only;split <;> lia⟩,z,by simp[z1],DW,by dsimp only;split <;> lia⟩
    rcases uV y1 with w | w
    ·exact hx y w
    ·cases lM w;exact AK _
 ·have hz':r1 z∈p:=by
   rcases uV hz with q | q
   ·exact q
   ·exact (qT q.symm).elim
  rcases uV hm with q | q
  ·obtain⟨s,s1,s2⟩:=h.all y z q hz'
   refine⟨s,?_,s2⟩
   cases l1 <;> simp[vU,s1]
  ·cases lM q
   obtain⟨m,e,hm⟩:=h.hJ z hz'
   subst e
   refine⟨_,AN _ Am,.inl (AK _),?_⟩
   have:=lo.1
   dsimp only
   split <;> lia
def Sw.swap {b o:List (Int×Int)}{p:List (List Int)}{l0 l1:Option Int}{sh:List (Int×Int)}(x:Int×Int) (h:Sw b o p l0 l1 sh) (hx:∀ y,r0 y∈p->y.1<=x.1) (hy:∀ y,r1 y∈p->y.1<=x.1):
  Sw b o (p++[r1 x]) l0 (some (yR l1 x.2)) (vU l0 sh λ m=>(x.1,if yR l1 x.2>m then yR l1 x.2 else m)):=by
 have lo:yR l1 x.2<=x.2/\∀ m,l1=some m->yR l1 x.2<=m:=by
  unfold yR
  cases l1 with
  | none=>exact⟨AK _,nofun⟩
  | some m=>dsimp only;split <;> refine⟨by lia,λ m' e=>?_⟩ <;> cases e <;> lia
 have la:∃ y,r1 y∈p++[r1 x]/\y.2=yR l1 x.2:=by
  unfold yR
  cases l1 with
  | none=>exact⟨x,by simp,rfl⟩
  | some m=>
   dsimp only
   split
   ·obtain⟨y,h1,h2⟩:=h.fL m rfl
    exact⟨y,by simp[h1],h2⟩
   ·exact⟨x,by simp,rfl⟩
 have snd':∀ s∈sh,(∃ x',r0 x'∈p++[r1 x]/\x'.1<=s.1/\x'.2<=s.2)/\∃ x',r1 x'∈p++[r1 x]/\x'.1<=s.1/\x'.2<=s.2:=λ s hs=>by
  obtain⟨⟨a,a1,a2⟩,c,c1,c2⟩:=h.snd s hs
  exact⟨⟨a,by simp[a1],a2⟩,c,by simp[c1],c2⟩
 refine⟨λ y hm=>?_,λ y hm=>?_,λ m e=>?_,λ m e=>?_,?_,λ s hs=>?_,λ y z hm hz=>?_⟩
 ·rcases uV hm with q | q
  ·exact h.hV y q
  ·exact (qT q).elim
 ·rcases uV hm with q | q
  ·obtain⟨m,e,q2⟩:=h.hJ y q
   exact⟨_,rfl,by have:=lo.2 m e;lia⟩
  ·cases lL q;exact⟨_,rfl,lo.1⟩
 ·obtain⟨y,q1,q2⟩:=h.fM m e
  exact⟨y,by simp[q1],q2⟩
 ·cases e;exact la
 ·have:=h.len
  cases l0 <;> simp[vU] <;> lia
 ·cases l0 with
  | none=>exact snd' s hs
  | some m=>
   rcases AU.mp hs with q | q
   ·exact snd' s q
   ·obtain rfl:s=_:=by simpa using q
    obtain⟨y,y1,y2⟩:=la
    obtain⟨z,z1,z2⟩:=h.fM m rfl
    have DW:=hx z z1
    refine⟨⟨z,by simp[z1],DW,by dsimp only;split <;> lia⟩,y,y1,?_,by dsimp only;split <;> lia⟩
    rcases uV y1 with w | w
    ·exact hy y w
    ·cases lL w;exact AK _
 ·have hm':r0 y∈p:=by
   rcases uV hm with q | q
   ·exact q
   ·exact (qT q).elim
  rcases uV hz with q | q
  ·obtain⟨s,s1,s2⟩:=h.all y z hm' q
   refine⟨s,?_,s2⟩
   cases l0 <;> simp[vU,s1]
  ·cases lL q
   obtain⟨m,e,hm⟩:=h.hV y hm'
   subst e
   refine⟨_,AN _ Am,.inr (AK _),?_⟩
   have:=lo.1
   dsimp only
   split <;> lia
structure Lw (d:List (Key×T)) (l0 l1:Option Int):Prop where
 v0:yW d (.inl 0)=l0.map T.int
 v1:yW d (.inl 1)=l1.map T.int
 len:d.length=(if l0.isSome then 1 else 0)+if l1.isSome then 1 else 0
def Lw.Vy {d:List (Key×T)}{l0 l1:Option Int}(h:Lw d l0 l1) (v:Int):Lw (vT d (.inl 0) (.int v)) (some v) l1:=by
 refine⟨by rw[lh];simp,by rw[lh];simpa using h.v1,?_⟩
 rw[ax,h.v0,h.len]
 cases l0 <;> cases l1 <;> simp
def Lw.Vx {d:List (Key×T)}{l0 l1:Option Int}(h:Lw d l0 l1) (v:Int):Lw (vT d (.inl 1) (.int v)) l0 (some v):=by
 refine⟨by rw[lh];simpa using h.v0,by rw[lh];simp,?_⟩
 rw[ax,h.v1,h.len]
 cases l0 <;> cases l1 <;> simp
def kz {rows p q:List (List Int)}{x:List Int}(e:L4.xt rows=p++x::q) {a:List Int}(ha:a∈p) {i j:Int}{as xs:List Int}(h1:a=i::as) (h2:x=j::xs):i<=j:=by
 have h:=L4.jz rows
 rw[e,List.pairwise_append] at h
 have:=h.2.2 a ha x Am
 subst h1 h2
 rw[HT.rp] at this
 by_cases c:j=i
 ·lia
 ·rw[if_neg c] at this
  have:=of_decide_eq_false this
  lia
def N8 (b o:List (Int×Int)) (hl:b.length+o.length<64):∃ sh:List (Int×Int),mT [.tup (b.map zt),.tup (o.map zt)]=some (.tup ((wO sh).map zt))/\sh.length<64/\∀ q,yk sh q=(yk b q&&yk o q):=by
 let a0:W:=.im (.tup (b.map zt))
 let a1:W:=.im (.tup (o.map zt))
 let rows:=b.map r0++o.map r1
 let a2:W:=.im (.lst (rows.map zO))
 have hlen:rows.length<64:=by simp[rows];exact hl
 have hs:qN [.lst (rows.map zO)]=some (.lst ((L4.xt rows).map zO)):=by
  show ((vS (rows.map zO)).bind λ rs=>_)=_
  rw[ia,BJ,if_pos ⟨hlen,λ r hr=>by
   rcases AU.mp hr with h | h <;> obtain⟨_,_,rfl⟩:=An.mp h <;> simp[r0,r1]⟩]
 have plen:(L4.xt rows).length=rows.length:=(L4.tJ rows).length_eq
 obtain⟨J1,h1,d,l0,l1,sh,e1,w1,s1⟩:=uX (is:=[5,6,7]) (g:=vO 3 (xA (zF 5) (xA (zF 6) (xA (zF 7) uT)))) (b:=mx) zO (λ p J=>∃ d l0 l1 sh,J=[some a0,some a1,some a2,some (.own (.zI d)),some (.own (.lst (sh.map zt))),none,none,none]/\Lw d l0 l1/\Sw b o p l0 l1 sh) (L4.xt rows) [some a0,some a1,some a2,some (.own (.zI [])),some (.own (.lst [])),none,none,none]
  ⟨[],none,none,[],by simp,⟨rfl,rfl,rfl⟩,⟨nofun,nofun,nofun,nofun,by simp,nofun,nofun⟩⟩ (by
  rintro p x q e J ⟨d,l0,l1,sh,rfl,hw,BM⟩
  have hx:x∈rows:=(L4.tJ rows).mem_iff.mp (by rw[e];simp)
  have Ah:p.length<64:=by
   have:=congrArg List.length e
   rw[plen] at this;simp at this;lia
  have Bl:sh.length<16777216:=by have:=BM.len;lia
  have Cj:d.length<16777216:=by rw[hw.len];split <;> split <;> lia
  rcases AU.mp hx with hm | hm
  ·obtain⟨y,_,rfl⟩:=An.mp hm
   have st:=BM.W3 y (λ z hz=>kz e hz rfl rfl) (λ z hz=>kz e hz rfl rfl)
   have hw':=hw.Vy (yR l0 y.2)
   refine⟨[some a0,some a1,some a2,some (.own (.zI (vT d (.inl 0) (.int (yR l0 y.2))))),some (.own (.lst ((vU l1 sh λ m=>(y.1,if m>yR l0 y.2 then m else yR l0 y.2)).map zt))),some (.im (.int y.1)),some (.im (.int 0)),some (.im (.int y.2))],?_,_,_,_,_,(by simp),hw',st⟩
   have hr:zO (r0 y)=.tup [.int y.1,.int 0,.int y.2]:=rfl
   have v0:=hw'.v0
   have v1:=hw'.v1
   have ln:=hw'.len
   cases l0 <;> cases l1 <;> simp[turn,mx,hr,hw.v0,Cj,Bl,yR,vU,yb,dep,eqT] at v0 v1 ln ⊢ <;> simp[v0,v1,ln,zt,vU]
  ·obtain⟨y,_,rfl⟩:=An.mp hm
   have st:=BM.swap y (λ z hz=>kz e hz rfl rfl) (λ z hz=>kz e hz rfl rfl)
   have hw':=hw.Vx (yR l1 y.2)
   refine⟨[some a0,some a1,some a2,some (.own (.zI (vT d (.inl 1) (.int (yR l1 y.2))))),some (.own (.lst ((vU l0 sh λ m=>(y.1,if yR l1 y.2>m then yR l1 y.2 else m)).map zt))),some (.im (.int y.1)),some (.im (.int 1)),some (.im (.int y.2))],?_,_,_,_,_,(by simp),hw',st⟩
   have hr:zO (r1 y)=.tup [.int y.1,.int 1,.int y.2]:=rfl
   have v0:=hw'.v0
   have v1:=hw'.v1
   have ln:=hw'.len
   cases l0 <;> cases l1 <;> simp[turn,mx,hr,hw.v1,Cj,Bl,yR,vU,yb,dep,eqT] at v0 v1 ln ⊢ <;> simp[v0,v1,ln,zt,vU])
 have DB:sh.length<64:=by have:=s1.len;lia
 refine⟨sh,?_,DB,λ q=>?_⟩
 ·subst e1
  have hc1:fE [some a0,some a1,none,none,none,none,none,none]=some (.lst ((b.map r0).map zO)):=by
   rw[AQ]
   exact qh zt (zO ∘ r0) b (by simp[a0]) (by lia) λ y _=>by simp[zt,zO,r0]
  have hc2:fD [some a0,some a1,none,none,none,none,none,none]=some (.lst ((o.map r1).map zO)):=by
   rw[AQ]
   exact qh zt (zO ∘ r1) o (by simp[a1]) (by lia) λ y _=>by simp[zt,zO,r1]
  have hF:=k_ sh DB
  have z:b.length+o.length<=16777216:=by lia
  simp only[a0,a1,a2,rows,BH] at hc1 hc2 hs h1
  unfold mT eW
  simp[hc1,hc2,z,hs,h1,hF] at hc1 hc2 hs h1 ⊢
  simp[hc1,hc2,z,hs,h1,hF]
 ·have m0:∀ x,r0 x∈L4.xt rows↔x∈b:=λ x=>by
   rw[(L4.tJ rows).mem_iff]
   constructor
   ·intro h
    rcases AU.mp h with h | h <;> obtain⟨y,hy,e⟩:=An.mp h
    ·cases lM e;exact hy
    ·exact (qT e.symm).elim
   ·exact λ h=>Cy _ (List.mem_map_of_mem h)
  have m1:∀ x,r1 x∈L4.xt rows↔x∈o:=λ x=>by
   rw[(L4.tJ rows).mem_iff]
   constructor
   ·intro h
    rcases AU.mp h with h | h <;> obtain⟨y,hy,e⟩:=An.mp h
    ·exact (qT e).elim
    ·cases lL e;exact hy
   ·exact λ h=>AN _ (List.mem_map_of_mem h)
  rw[BU,BZ,xg,xg,xg]
  constructor
  ·rintro⟨s,hs,g1,g2⟩
   obtain⟨⟨x,x1,x2,x3⟩,y,y1,y2,y3⟩:=s1.snd s hs
   exact⟨⟨x,(m0 x).mp x1,by lia,by lia⟩,y,(m1 y).mp y1,by lia,by lia⟩
  ·rintro⟨⟨x,x1,x2,x3⟩,y,y1,y2,y3⟩
   obtain⟨s,s1,g1,g2⟩:=s1.all x y ((m0 x).mpr x1) ((m1 y).mpr y1)
   exact⟨s,s1,by lia,by lia⟩
theorem fk {α:Type}(enc:α->T) (n:Nat) (h:∀ x,dep (enc x)<=n):∀ xs:List α,x8 (xs.map enc)<=n
 | []=>by simp[x8]
 | x::xs=>by
  have:=h x
  have:=fk enc n h xs
  simp only[Aq,x8]
  lia
def Oc (p:Int×Int):dep (zt p)<=1:=by simp[zt,dep,x8]
def ZM (ps:List (Int×Int)):dep (.tup (ps.map zt))<=60:=by
 have:=fk zt 1 Oc ps
 simp only[dep]
 lia
end yt
namespace yt
open PySem L2 L3 L5 RN
def bT (b:Bd):T:=.tup (b.map zt)
def rT (r:List Bd):T:=.lst (r.map bT)
noncomputable def kt (b:Bool):T:=if b=true then .str "keeper" else .str "taker"
noncomputable def zX (w:Wy):T:=.tup [.int w.f,.int w.t,.int w.a,.int w.b]
noncomputable def yQ (b:Bool):Int:=if b=true then 1 else 0
def xC (s:Sl):T:=.tup [.int s.p,.int (yQ s.pu),.int s.gv,.int s.gt]
def zA (F:zD):T:=.tup [.tup [.int F.A,.int F.B],.tup (F.os.map kt),.tup (F.ws.map zX),.tup (F.ss.map xC)]
def eq_int (i j:Int) (neg:Bool):yb neg (.int i) (.int j)=some (.bl (cond neg (!decide (i=j)) (decide (i=j)))):=by
 simp[yb,dep,eqT];cases neg <;> simp[Bool.beq_eq_decide_eq]
def YH (F:zD):qE [zA F]=some (.int F.os.length):=by
 simp[qE,eF,zA]
def ND (q p:Int×Int):mX [zt q,zt p]=some (.bl (wU q p)):=by
 by_cases h1:p.1<=q.1 <;> by_cases h2:p.2<=q.2 <;> simp[mX,da,zt,wU,h1,h2]
def NC (A B:Int) (w:Wy) (bd:Bd) (hl:bd.length<64):mW [.tup [.int A,.int B],zX w,bT bd]=some (bT (m5 A B w.a w.b bd)):=by
 have h1:mm [some (.im (.tup [.int A,.int B])),some (.im (zX w)),some (.im (bT bd)),none]=some (.lst ((bd.map (xH w.a w.b)).map zt)):=by
  rw[AQ]
  unfold mm
  refine qh zt _ bd (by simp[bT]) (by lia) λ p _=>?_
  simp[zt,zX,xH,xR,pA]
 have h2:mf [some (.im (.tup [.int A,.int B])),some (.im (zX w)),some (.im (bT bd)),some (.im (.lst ((bd.map (xH w.a w.b)).map zt)))]=some (.lst (((bd.map (xH w.a w.b)).filter (vA A B)).map zt)):=by
  have:=kh zt (λ p=>if vA A B p=true then some (zt p) else none) (pick:=[none,some 0]) (it:=xw (zf 3)) (g:=zF 0) (c:=xr (zx mX (zb (zr 1) (zb (zr 0) zi)))) (f:=zr 0) (J:=[some (.im (.tup [.int A,.int B])),some (.im (zX w)),some (.im (bT bd)),some (.im (.lst ((bd.map (xH w.a w.b)).map zt)))]) (bd.map (xH w.a w.b)) (by simp) (by simp;lia) (λ p _=>by
   have e:T.tup [.int A,.int B]=zt (A,B):=rfl
   have ga:wU (A,B) p=vA A B p:=rfl
   simp only[tU,e]
   simp[ND,ga]
   cases vA A B p <;> simp)
  unfold mf
  rw[this,show ∀ l:List (Int×Int),l.filterMap (λ p=>if vA A B p=true then some (zt p) else none)=(l.filter (vA A B)).map zt from λ l=>by
   induction l with
   | nil=>rfl
   | cons a l ih=>by_cases h:vA A B a=true <;> simp[Cz,h,ih]]
 have h3:=k_ ((bd.map (xH w.a w.b)).filter (vA A B)) (Nat.lt_of_le_of_lt (Dl _ _) (by simpa using hl))
 unfold mW e_
 generalize mm=d1 at h1 ⊢
 generalize mf=d2 at h2 ⊢
 generalize sI=ff at h3 ⊢
 generalize (bd.map (xH w.a w.b)).map zt=L1 at h1 h2
 generalize (((bd.map (xH w.a w.b)).filter (vA A B)).map zt)=L2 at h2 h3
 simp[h1,h2,h3]
 rfl
def N2 (b c:Bd) (hl:b.length+c.length<64):mR [bT b,bT c]=some (bT (ui b c)):=N3 b c hl
def N7 (b c:Bd) (hl:b.length+c.length<64):mT [bT b,bT c]=some (bT (vE b c)):=by
 obtain⟨sh,h1,_,h2⟩:=N8 b c hl
 have:wO sh=vE b c:=vo.eq (gh _) (gh _) λ q=>by
  rw[kg,h2,<- Yj]
 rw[<- this];exact h1
def N1 {A B:Int}(hA:0<=A/\A<=12) (bs:List Bd) (h:∀ b∈bs,Gd A B b):mU [.lst (bs.map bT)]=some (bT (sd bs)):=by
 obtain⟨J',h1,h2⟩:=uX (is:=[2]) (g:=zF 2) (b:=my) bT (λ p J=>J=[some (.im (.lst (bs.map bT))),some (.im (bT (p.foldl ui []))),none]) bs [some (.im (.lst (bs.map bT))),some (.im (bT [])),none] rfl (by
  rintro p x q e J rfl
  have g1:Gd A B (p.foldl ui []):=kD p [] Gd.nil λ c hc=>h c (by rw[e];simp[hc])
  have g2:Gd A B x:=h x (by rw[e];simp)
  have l1:=g1.pk hA.1
  have l2:=g2.pk hA.1
  refine⟨[some (.im (.lst (bs.map bT))),some (.im (bT (ui (p.foldl ui []) x))),some (.im (bT x))],?_,by simp⟩
  simp[turn,my,N2 (p.foldl ui []) x (by lia)])
 subst h2
 unfold mU eY
 generalize my=bb at h1 ⊢
 have e:bT []=.tup []:=rfl
 rw[e] at h1
 simp[h1,sd]
def N6 {A B:Int}(hA:0<=A/\A<=12) (hB:0<=B) (bs:List Bd) (h:∀ b∈bs,Gd A B b):mV [.lst (bs.map bT)]=some (bT (kN bs)):=by
 obtain⟨J',h1,h2⟩:=uX (is:=[2]) (g:=zF 2) (b:=mz) bT (λ p J=>J=[some (.im (.lst (bs.map bT))),some (.im (bT (p.foldl vE xI))),none]) bs [some (.im (.lst (bs.map bT))),some (.im (bT xI)),none] rfl (by
  rintro p x q e J rfl
  have g1:Gd A B (p.foldl vE xI):=fF p xI (Gd.xI hA.1 hB) λ c hc=>h c (by rw[e];simp[hc])
  have g2:Gd A B x:=h x (by rw[e];simp)
  have l1:=g1.pk hA.1
  have l2:=g2.pk hA.1
  refine⟨[some (.im (.lst (bs.map bT))),some (.im (bT (vE (p.foldl vE xI) x))),some (.im (bT x))],?_,by simp⟩
  simp[turn,mz,N7 (p.foldl vE xI) x (by lia)])
 subst h2
 unfold mV eZ
 generalize mz=bb at h1 ⊢
 have e:bT xI=.tup [.tup [.int 0,.int 0]]:=rfl
 rw[e] at h1
 simp[h1,kN]
theorem aj {α:Type}{is:List Nat}{g:T->Ev->Option Ev}{b:Sm}(enc ret:α->T) (test:α->Bool) (J0:Ev):∀ (xs:List α) (J:Ev),yA is J=J0->
  (∀ x∈xs,∃ J',yA is J'=J0/\turn g b (enc x) J0=some (if test x=true then .rt (ret x) else .nx J'))->
  xv is g b (xs.map enc) J=some (match xs.find? test with | some x=>.rt (ret x) | none=>.nx J0)
 | [],J,h,_=>by rw[BA,List.find?_nil,xv,h]
 | x::xs,J,h,ht=>by
  rw[Aq,hX,h]
  obtain⟨J',h1,h2⟩:=ht x Am
  rw[h2,Cp]
  by_cases c:test x=true
  ·rw[if_pos c,c];rfl
  ·rw[if_neg c]
   rw[Bool.not_eq_true] at c
   rw[c]
   exact aj enc ret test J0 xs J' h1 λ y hy=>ht y (Ao _ hy)
def YE (i a b:Int):tD [.int i,.int a,.int b]=some (.bl (decide (a<=i)&&decide (i<=b))):=by
 have h:oa [.int i]=some (.bl true):=by simp[oa,jf,wC]
 by_cases h1:a<=i <;> by_cases h2:i<=b <;> simp[tD,lg,h,h1,h2]
def YI (F:zD) (p:Nat) (h:p<F.os.length):mS [zA F,.int p]=some .zj:=by
 have h1:=YE p 0 ((F.os.length:Int)-1)
 rw[show decide ((0:Int)<=p)=true from zaD (by lia),show decide ((p:Int)<=(F.os.length:Int)-1)=true from zaD (by lia)] at h1
 have h2:=YH F
 unfold mS eV
 generalize zA F=fl at *
 simp[h1,h2]
def Ow (pu:Bool) (A B:Int) (sp gv gt:Int) (x y:Int) (hg:1<=gv) (b0 b1:T) (hb:zq b0 (.int (yQ pu))=some (.int (if pu=true then B else A))) (hs2:zq b1 (.int 2)=some (.int gv)) (hs3:zq b1 (.int 3)=some (.int gt)) (pr:T):
  ∀ (n m:Nat) (g t:Int) (acc:Bd),(if pu=true then B else A)+1-g<=n->n<m->acc.length+n<=1000->
  ∃ g' t',wc [] (yP (zc rq (zf 5) (zc zq (zf 0) (zf 3)))) rN m [some (.im b0),some (.im b1),some (.im pr),some (.im (.int (yQ pu))),some (.own (.lst (acc.map zt))),some (.im (.int g)),some (.im (.int t))]
   = some (.nx [some (.im b0),some (.im b1),some (.im pr),some (.im (.int (yQ pu))),some (.own (.lst ((acc++xY pu (if pu=true then B else A) gv gt n g t).map zt))),some (.im (.int g')),some (.im (.int t'))]):=by
 have BR:∀ (m:Nat) (g t:Int) (acc:Bd),¬ g<=(if pu=true then B else A)->wc [] (yP (zc rq (zf 5) (zc zq (zf 0) (zf 3)))) rN (m+1) [some (.im b0),some (.im b1),some (.im pr),some (.im (.int (yQ pu))),some (.own (.lst (acc.map zt))),some (.im (.int g)),some (.im (.int t))]
   = some (.nx [some (.im b0),some (.im b1),some (.im pr),some (.im (.int (yQ pu))),some (.own (.lst (acc.map zt))),some (.im (.int g)),some (.im (.int t))]):=λ m g t acc hn=>by
  unfold wc
  simp only[zq] at hb
  simp[hb,hn]
 intro n
 induction n with
 | zero=>
  intro m g t acc h1 h2 h3
  obtain⟨m,rfl⟩:∃ k,m=k+1:=⟨m-1,by lia⟩
  refine⟨g,t,?_⟩
  rw[BR m g t acc (by lia)]
  simp[xY]
 | succ n ih=>
  intro m g t acc h1 h2 h3
  obtain⟨m,rfl⟩:∃ k,m=k+1:=⟨m-1,by lia⟩
  by_cases hc:g<=(if pu=true then B else A)
  ·obtain⟨g',t',e⟩:=ih m (g+gv) (xR (t-gt)) (acc++[tP pu g t]) (by lia) (by lia) (by simp;lia)
   refine⟨g',t',?_⟩
   have hb1:rN [some (.im b0),some (.im b1),some (.im pr),some (.im (.int (yQ pu))),some (.own (.lst (acc.map zt))),some (.im (.int g)),some (.im (.int t))]=some (.nx [some (.im b0),some (.im b1),some (.im pr),some (.im (.int (yQ pu))),some (.own (.lst ((acc++[tP pu g t]).map zt))),some (.im (.int (g+gv))),some (.im (.int (xR (t-gt))))]):=by
    simp only[zq] at hs2 hs3
    have hl:acc.length<16777216:=by lia
    unfold rN
    cases pu <;> simp[yQ,eq_int,hs2,hs3,hl,pA,xR,tP,zt]
   unfold wc
   simp only[zq] at hb
   generalize rN=bb at *
   have e2:xY pu (if pu=true then B else A) gv gt (n+1) g t=tP pu g t::xY pu (if pu=true then B else A) gv gt n (g+gv) (xR (t-gt)):=by
    rw[xY,if_pos hc]
   rw[e2]
   simp only[List.append_assoc,List.singleton_append] at e
   simp[hb,hc,hb1]
   simpa using e
  ·refine⟨g,t,?_⟩
   rw[BR m g t acc hc,xY,if_neg hc,Cw]
def N5 {F:zD}(ok:F.Ok) (s:Sl) (hs:1<=s.gv/\0<=s.gt) (p:Int×Int) (h0:0<=p.1/\0<=p.2):mL [.tup [.int F.A,.int F.B],xC s,zt p]=some (.lst ((yL F s p).map zt)):=by
 obtain⟨sp,pu,gv,gt⟩:=s
 have a1:=ok.a1
 have b1:=ok.b1
 obtain⟨g',t',h⟩:=Ow pu F.A F.B sp gv gt p.1 p.2 hs.1 (.tup [.int F.A,.int F.B]) (xC ⟨sp,pu,gv,gt⟩) (by cases pu <;> simp[yQ]) (by simp[xC]) (by simp[xC]) (zt p) 100 1000000 (wR pu p) (tX pu p) [] (by cases pu <;> simp[wR] <;> lia) (by decide) (by simp)
 unfold mL eG oo
 generalize hb:rN=bb at h ⊢
 unfold yL zD.zN
 simp only[BA,List.nil_append] at h
 cases pu <;> simp[xC,yQ,zt,wR,tX] at h ⊢ <;> simp[h]
def Nt (F:zD) (p:Nat) (h:p<F.os.length) (hl:F.ss.length<=60):qD [zA F,.int p]=some (match F.stall p with | some s=>xC s | none=>.zj):=by
 have hl':=aj (is:=[2]) (g:=zF 2) (b:=pK) xC xC (λ s=>decide (s.p=p)) [some (.im (zA F)),some (.im (.int p)),none] F.ss [some (.im (zA F)),some (.im (.int p)),none] (by simp) λ s _=>⟨[some (.im (zA F)),some (.im (.int p)),some (.im (xC s))],by simp,by
  by_cases c:s.p=p
  ·simp[turn,pK,xC,eq_int,c]
  ·have c':¬ ((s.p:Int)=(p:Int)):=by lia
   simp[turn,pK,xC,eq_int,c,c']⟩
 have h1:=YI F p h
 have h2:zq (zA F) (.int 3)=some (.tup (F.ss.map xC)):=by simp[zA]
 unfold qD eD
 generalize pK=bb at *
 generalize zA F=fl at *
 simp only[zq] at h2
 unfold zD.stall
 generalize F.ss.find? _=o at *
 simp[h1,h2,hl']
 cases o <;> simp
theorem Z8:∀ (ws:List Wy) (k:Nat),rE k (ws.map zX)=(ws.zipIdx k).map λ wi=>T.tup [.int (wi.2:Int),zX wi.1]
 | [],k=>rfl
 | w::ws,k=>by
  rw[Aq,rE,Z8 ws (k+1),List.zipIdx_cons,Aq]
theorem ji (f:Wy->Bool):∀ (ws:List Wy) (k:Nat),((ws.zipIdx k).filter λ wi=>f wi.1).map (λ wi=>wi.1)=ws.filter f
 | [],k=>rfl
 | w::ws,k=>by
  rw[List.zipIdx_cons,List.filter_cons,List.filter_cons]
  by_cases c:f w=true
  ·rw[if_pos (by exact c),if_pos c,Aq,ji f ws]
  ·rw[if_neg (by exact c),if_neg c,ji f ws]
def Np (F:zD) (p:Nat) (h:p<F.os.length) (hl:F.ws.length<=60):mK [zA F,.int p]=some (.lst (((F.ws.zipIdx).filter λ wi=>decide (wi.1.f=p)).map λ wi=>T.int (wi.2:Int))):=by
 have hc:mh [some (.im (zA F)),some (.im (.int p))]=some (.lst (((F.ws.zipIdx).filter λ wi=>decide (wi.1.f=p)).map λ wi=>T.int (wi.2:Int))):=by
  have:=kh (λ wi:Wy×Nat=>T.tup [.int (wi.2:Int),zX wi.1]) (λ wi=>if wi.1.f=p then some (T.int (wi.2:Int)) else none) (pick:=[none,none,some 1]) (it:=ve rF (zb (zc zq (zf 0) (cS (.int 2))) zi)) (g:=vO 2 (xA (zF 0) (xA (zF 1) uT))) (c:=yP (zc (yb false) (zc zq (zf 1) (cS (.int 0))) (zf 2))) (f:=zr 0) (J:=[some (.im (zA F)),some (.im (.int p))]) (F.ws.zipIdx) (by
   rw[<- Z8]
   simp[zA]) (by simp;lia) (λ wi _=>by
   by_cases c:wi.1.f=p
   ·simp[zX,eq_int,c]
   ·have c':¬ ((wi.1.f:Int)=(p:Int)):=by lia
    simp[zX,eq_int,c,c'])
  unfold mh
  rw[this]
  congr 2
  induction F.ws.zipIdx with
  | nil=>rfl
  | cons a l ih=>by_cases c:a.1.f=p <;> simp[Cz,c,ih]
 have h1:=YI F p h
 unfold mK eC
 generalize mh=cc at *
 generalize zA F=fl at *
 generalize List.map (λ wi:Wy×Nat=>T.int (wi.2:Int)) _=LL at *
 simp[h1,hc]
theorem Z6:∀ (b c:Bd),xm (b.map zt) (c.map zt)=decide (b=c)
 | [],[]=>by simp[xm]
 | [],_::_=>by simp[xm]
 | _::_,[]=>by simp[xm]
 | p::b,q::c=>by
  have h:=Z6 b c
  have e:eqT (zt p) (zt q)=decide (p=q):=by
   obtain⟨p1,p2⟩:=p
   obtain⟨q1,q2⟩:=q
   by_cases h1:p1=q1 <;> by_cases h2:p2=q2 <;> simp[zt,eqT,xm,h1,h2]
  rw[Aq,Aq,xm,e,h]
  by_cases h1:p=q <;> by_cases h2:b=c <;> simp[h1,h2]
def R7 (b c:Bd):yb true (bT b) (bT c)=some (.bl (decide (b≠c))):=by
 have h1:dep (bT b)<=60:=ZM b
 have h2:dep (bT c)<=60:=ZM c
 unfold yb
 rw[if_pos ⟨h1,h2⟩]
 show some (T.bl (!(xm (b.map zt) (c.map zt))))=_
 rw[Z6]
 by_cases h:b=c <;> simp[h]
def aH (l:List Bd) (p:Nat) (h:p<l.length):zq (rT l) (.int p)=some (bT (l.getD p [])):=by
 show L2.zQ (l.map bT) (p:Int)=_
 refine uG ?_
 rw[Ax,A5 h,Bk,A5 h];rfl
def N4 {F:zD}(ok:F.Ok) (p:Nat) (hp:p<F.os.length) (b:Bd) (hb:Gd F.A F.B b):oh [zA F,.int p,bT b]=some (bT (match F.stall p with | none=>b | some s=>md F s b)):=by
 have h1:=Nt F p hp ok.s8
 cases hs:F.stall p with
 | none=>
  rw[hs] at h1
  unfold oh jg
  generalize qD=f1 at h1 ⊢
  generalize zA F=fl at *
  generalize bT b=bb at *
  have is1:qk false .zj .zj=some (.bl true):=rfl
  simp[h1,is1]
 | some s=>
  rw[hs] at h1
  replace h1:qD [zA F,.int p]=some (xC s):=h1
  have AY:s∈F.ss:=List.mem_of_find?_eq_some hs
  have hsz:=ok.ss s AY
  have h64:(F.A+1)*(F.B+1)<64:=by
   rcases ok.sl with x | x
   ·rw[x] at AY;cases AY
   ·exact x
  have a0:=ok.a0
  have b0:=ok.b0
  have D9:∀ x∈b,((yL F s x).length:Int)<=F.zN s.pu+1:=λ x hx=>by
   have q:=hb.vZ x hx
   have:=Yg s.pu (F.zN s.pu) s.gv s.gt hsz.1 100 (wR s.pu x) (tX s.pu x) (by unfold zD.zN wR;split <;> lia)
   have g0:0<=wR s.pu x:=by unfold wR;split <;> lia
   unfold yL;lia
  have Az:∀ q:Bd,(∀ x∈q,x∈b)->((q.flatMap (yL F s)).length:Int)<=q.length*(F.zN s.pu+1):=λ q=>by
   induction q with
   | nil=>intro _;simp
   | cons x q ih=>
    intro hq
    have i1:=ih λ y hy=>hq y (Ao _ hy)
    have i2:=D9 x (hq x Am)
    rw[List.flatMap_cons,B2,AR,Int.natCast_add,Int.natCast_add,Int.add_mul]
    lia
  have hlen:(b.flatMap (yL F s)).length<64:=by
   have h2:=Az b λ _ h=>h
   have l1:=hb.pk a0
   have l2:=hb.R_ b0
   have:((b.flatMap (yL F s)).length:Int)<64:=by
    refine Int.lt_of_le_of_lt h2 (Int.lt_of_le_of_lt ?_ h64)
    unfold zD.zN
    split
    ·exact zc0 l1 (by lia)
    ·rw[Int.mul_comm (F.A+1)]
     exact zc0 l2 (by lia)
   lia
  have hbr:zq (zA F) (.int 0)=some (.tup [.int F.A,.int F.B]):=by simp[zA]
  obtain⟨J',h2,h3⟩:=uX (is:=[5]) (g:=zF 5) (b:=m4) zt (λ q J=>J=[some (.im (zA F)),some (.im (.int p)),some (.im (bT b)),some (.im (xC s)),some (.own (.lst ((q.flatMap (yL F s)).map zt))),none]) b [some (.im (zA F)),some (.im (.int p)),some (.im (bT b)),some (.im (xC s)),some (.own (.lst [])),none] rfl (by
   rintro q x r e J rfl
   have hx:x∈b:=by rw[e];simp
   have q1:=hb.vZ x hx
   have hF:=N5 ok s hsz x ⟨q1.1.1,q1.2.1⟩
   have hl2:(q.flatMap (yL F s)).length+(yL F s x).length<=16777216:=by
    have e2:(b.flatMap (yL F s)).length=(q.flatMap (yL F s)).length+((yL F s x).length+(r.flatMap (yL F s)).length):=by rw[e];simp
    lia
   refine⟨[some (.im (zA F)),some (.im (.int p)),some (.im (bT b)),some (.im (xC s)),some (.own (.lst (((q++[x]).flatMap (yL F s)).map zt))),some (.im (zt x))],?_,by simp⟩
   have e3:((q++[x]).flatMap (yL F s)).map zt=(q.flatMap (yL F s)).map zt++(yL F s x).map zt:=by simp
   rw[e3]
   unfold turn m4
   have l3:((q.flatMap (yL F s)).map zt).length+((yL F s x).map zt).length<=16777216:=by simpa using hl2
   generalize mL=ff at *
   generalize (q.flatMap (yL F s)).map zt=L1 at *
   generalize (yL F s x).map zt=L2 at *
   generalize zA F=fl at *
   simp only[zq] at hbr
   simp[hbr,hF,l3])
  subst h3
  have hF:=k_ (b.flatMap (yL F s)) hlen
  have nn:qk false (xC s) .zj=some (.bl false):=rfl
  unfold oh jg
  generalize m4=bb at *
  generalize sI=ff at *
  generalize qD=f1 at *
  generalize (b.flatMap (yL F s)).map zt=L1 at *
  have hbT:wK (bT b)=some (b.map zt):=rfl
  generalize bT b=bt at *
  generalize zA F=fl at *
  generalize xC s=st at *
  simp[h1,nn,hbT,h2,hF]
  rfl
def Nx {F:zD}(ok:F.Ok) (p:Nat) (hp:p<F.os.length) (l:List Bd) (hl:l.length=F.os.length) (hg:∀ b∈l,Gd F.A F.B b):mM [zA F,.int p,rT l]=some (bT (yT F l p)):=by
 have h1:=Np F p hp ok.rW
 have hw2:zq (zA F) (.int 2)=some (.tup (F.ws.map zX)):=by simp[zA]
 have hw0:zq (zA F) (.int 0)=some (.tup [.int F.A,.int F.B]):=by simp[zA]
 have hw1:zq (zA F) (.int 1)=some (.tup (F.os.map kt)):=by simp[zA]
 have c1:mj [some (.im (zA F)),some (.im (.int p)),some (.im (rT l)),none,none]=some (.lst ((F.ws.filter λ w=>decide (w.f=p)).map zX)):=by
  rw[<- ji (λ w=>decide (w.f=p)) F.ws 0,AQ]
  unfold mj
  refine qh (λ wi:Wy×Nat=>T.int (wi.2:Int)) _ ((F.ws.zipIdx).filter λ wi=>decide (wi.1.f=p)) ?_ (Bp (Dl _ _) (by rw[List.length_zipIdx];have:=ok.rW;lia)) λ wi Ci=>?_
  ·generalize mK=ff at *
   simp[h1]
  ·have hm:=(A_.mp Ci).1
   have hg:=List.mem_zipIdx_iff_getElem?.mp hm
   have:L2.zQ (F.ws.map zX) (wi.2:Int)=some (zX wi.1):=by
    exact uG (by rw[Ax,hg];rfl)
   generalize zA F=fl at *
   simp only[zq] at hw2
   simp[hw2,this]
 have c2:me [some (.im (zA F)),some (.im (.int p)),some (.im (rT l)),some (.im (.lst ((F.ws.filter λ w=>decide (w.f=p)).map zX))),none]=some (.lst ((wW F l p).map bT)):=by
  unfold wW
  rw[AQ]
  unfold me
  refine qh zX _ (F.ws.filter λ w=>decide (w.f=p)) (by simp) (Bp (Dl _ _) (by have:=ok.rW;lia)) λ w hw=>?_
  have hm:=(A_.mp hw).1
  have ht:w.t<l.length:=by rw[hl];exact (ok.ws w hm).2
  have e1:=aH l w.t ht
  have gb:Gd F.A F.B (l.getD w.t []):=by
   rw[Bk,A5 ht]
   exact hg _ (C3 ht)
  have l13:=gb.pk ok.a0
  have a12:=ok.a1
  have hF:=NC F.A F.B w (l.getD w.t []) (by lia)
  have e2:zq (zX w) (.int 1)=some (.int (w.t:Int)):=by simp[zX]
  obtain⟨bd,A6⟩:∃ bd,l.getD w.t []=bd:=⟨_,rfl⟩
  rw[A6] at e1 gb hF
  have Eu:(l[w.t]?).getD []=bd:=by rw[<- A6,Bk]
  generalize mW=ff at *
  generalize zA F=fl at *
  generalize rT l=rt at *
  generalize zX w=wt at *
  simp only[zq] at hw0 e1 e2
  simp[hw0,e1,e2,hF,Eu]
 have gah:=fR F l p
 have c3:=N1 ⟨ok.a0,ok.a1⟩ (wW F l p) gah
 have c4:=N6 ⟨ok.a0,ok.a1⟩ ok.b0 (wW F l p) gah
 have c5:=N4 ok p hp (sd (wW F l p)) (kD _ _ Gd.nil gah)
 have ho:L2.zQ (F.os.map kt) (p:Int)=some (kt (F.os.getD p false)):=by
  refine uG ?_
  rw[Ax,A5 hp,Bk,A5 hp];rfl
 have hk:∀ b:Bool,yb false (kt b) (.str "keeper")=some (.bl b):=λ b=>by cases b <;> rfl
 unfold mM eJ
 generalize mj=d1 at *
 generalize me=d2 at *
 generalize mU=f1 at *
 generalize mV=f2 at *
 generalize oh=f3 at *
 generalize ((F.ws.filter λ w=>decide (w.f=p)).map zX)=L1 at *
 generalize zA F=fl at *
 generalize rT l=rt at *
 unfold yT
 have hk':=hk (F.os.getD p false)
 generalize F.os.getD p false=kb at *
 generalize kt kb=ktb at *
 generalize (T.str "keeper")=ks at *
 simp only[zq] at hw1
 cases kb with
 | true=>
  simp[c1,c2,hw1,ho,hk',c3,c5]
  all_goals (cases F.stall p <;> rfl)
 | false=>simp[c1,c2,hw1,ho,hk',c4]
theorem gS {α β:Type}(c:α->Bool) (g:α->β):∀ l:List α,l.filterMap (λ x=>if c x=true then some (g x) else none)=(l.filter c).map g
 | []=>rfl
 | a::l=>by by_cases h:c a=true <;> simp[Cz,h,gS c g l]
def QI (t:Nat) (fr:List Nat):p9 false (.int t) (.lst (fr.map λ(k:Nat)=>T.int (k:Int)))=some (.bl (fr.contains t)):=by
 have d1:x8 (fr.map λ(k:Nat)=>T.int (k:Int))<=60:=by
  refine fk _ 60 (λ x=>?_) fr
  simp[dep]
 have d0:dep (.int (t:Int))<=60:=by simp[dep]
 unfold p9
 show (if dep (.int (t:Int))<=60/\x8 (fr.map λ(k:Nat)=>T.int (k:Int))<=60 then _ else _)=_
 rw[if_pos ⟨d0,d1⟩]
 show some (T.bl ((fr.map λ(k:Nat)=>T.int (k:Int)).any λ x=>eqT x (.int t)))=_
 congr 2
 rw[BU,Bj,List.contains_iff_mem]
 constructor
 ·rintro⟨x,hx,h⟩
  obtain⟨k,hk,rfl⟩:=An.mp hx
  have:(k:Int)=(t:Int):=by simpa [eqT] using h
  have:k=t:=by lia
  subst this;exact hk
 ·intro h
  exact⟨_,An.mpr ⟨t,h,rfl⟩,by simp[eqT]⟩
def Nw {F:zD}(ok:F.Ok) (last:List Bd) (fr:List Nat) (hl:last.length=F.os.length) (hg:∀ b∈last,Gd F.A F.B b):
  pW [zA F,rT last,.lst (fr.map λ(k:Nat)=>T.int (k:Int))]=some (rT (zT F last fr)):=by
 have hw2:zq (zA F) (.int 2)=some (.tup (F.ws.map zX)):=by simp[zA]
 have c1:mi [some (.im (zA F)),some (.im (rT last)),some (.im (.lst (fr.map λ(k:Nat)=>T.int (k:Int)))),some (.own (.lst (last.map bT))),none]=some (.lst (((F.ws.filter λ w=>fr.contains w.t).map λ w=>(w.f:Int)).map T.int)):=by
  have:=kh zX (λ w=>if fr.contains w.t=true then some (T.int (w.f:Int)) else none) (pick:=[none,some 2]) (it:=xw (zc zq (zf 0) (cS (.int 2)))) (g:=zF 0) (c:=yP (zc (p9 false) (zc zq (zf 0) (cS (.int 1))) (zf 1))) (f:=zc zq (zf 0) (cS (.int 0))) (J:=[some (.im (zA F)),some (.im (rT last)),some (.im (.lst (fr.map λ(k:Nat)=>T.int (k:Int)))),some (.own (.lst (last.map bT))),none]) F.ws (by
    generalize zA F=fl at *
    simp only[zq] at hw2
    simp[hw2]) (by have:=ok.rW;lia) (λ w _=>by
   have hi:=QI w.t fr
   generalize (T.lst (fr.map λ(k:Nat)=>T.int (k:Int)))=ft at *
   generalize fr.contains w.t=cb at *
   cases cb <;> simp[zX,hi])
  unfold mi
  rw[this]
  rw[gS (λ w:Wy=>fr.contains w.t) (λ w:Wy=>T.int (w.f:Int)),AQ];rfl
 have hss:vQ [.lst (((F.ws.filter λ w=>fr.contains w.t).map λ w=>(w.f:Int)).map T.int)]=some (.lst ((wu ((F.ws.filter λ w=>fr.contains w.t).map λ w=>(w.f:Int))).map T.int)):=by
  show (match vY (((F.ws.filter λ w=>fr.contains w.t).map λ w=>(w.f:Int)).map T.int) with | some ns=>_ | none=>_)=_
  rw[a_]
  refine if_pos ?_
  have:=Dl (λ w:Wy=>fr.contains w.t) F.ws
  have:=ok.rW
  simp only[Au];lia
 have AY:∀ k∈wu ((F.ws.filter λ w=>fr.contains w.t).map λ w=>(w.f:Int)),∃ p:Nat,k=(p:Int)/\p<F.os.length/\uC F fr p=true:=λ k hk=>by
  obtain⟨w,hw,rfl⟩:=An.mp (kc.mp hk)
  obtain⟨w1,w2⟩:=A_.mp hw
  exact⟨w.f,rfl,(ok.ws w w1).1,Bj.mpr ⟨w,w1,by simpa using w2⟩⟩
 have D0:∀ p:Nat,uC F fr p=true->(p:Int)∈wu ((F.ws.filter λ w=>fr.contains w.t).map λ w=>(w.f:Int)):=λ p h=>by
  obtain⟨w,w1,w2⟩:=Bj.mp h
  have w3:w.f=p/\fr.contains w.t=true:=by simpa using w2
  exact kc.mpr (An.mpr ⟨w,A_.mpr ⟨w1,w3.2⟩,by rw[w3.1]⟩)
 generalize wu ((F.ws.filter λ w=>fr.contains w.t).map λ w=>(w.f:Int))=up at *
 have ft:∃ t,(T.lst (fr.map λ(k:Nat)=>T.int (k:Int)))=t:=⟨_,rfl⟩
 obtain⟨J',h1,h2⟩:=uX (is:=[4]) (g:=zF 4) (b:=mr) T.int (λ pre J=>J=[some (.im (zA F)),some (.im (rT last)),some (.im (.lst (fr.map λ(k:Nat)=>T.int (k:Int)))),some (.own (.lst (((List.range last.length).map λ(p:Nat)=>if (p:Int)∈pre then yT F last p else last.getD p []).map bT))),none]) up
   [some (.im (zA F)),some (.im (rT last)),some (.im (.lst (fr.map λ(k:Nat)=>T.int (k:Int)))),some (.own (.lst (last.map bT))),none] (by
  have e:(List.range last.length).map (λ(p:Nat)=>if (p:Int)∈([]:List Int) then yT F last p else last.getD p [])=last:=by
   refine BD (by simp) λ i h1 h2=>?_
   simp[h2]
  rw[e];rfl) (by
  rintro pre k q e J rfl
  obtain⟨p,rfl,hp,hw⟩:=AY k (by rw[e];simp)
  have hF:=Nx ok p hp last hl hg
  refine⟨[some (.im (zA F)),some (.im (rT last)),some (.im (.lst (fr.map λ(k:Nat)=>T.int (k:Int)))),some (.own (.lst (((List.range last.length).map λ(i:Nat)=>if (i:Int)∈pre++[(p:Int)] then yT F last i else last.getD i []).map bT))),some (.im (.int p))],?_,by simp⟩
  have D4:(((List.range last.length).map λ(i:Nat)=>if (i:Int)∈pre then yT F last i else last.getD i []).map bT).set p (bT (yT F last p))=((List.range last.length).map λ(i:Nat)=>if (i:Int)∈pre++[(p:Int)] then yT F last i else last.getD i []).map bT:=by
   refine BD (by simp) λ i h1 h2=>?_
   rw[List.getElem_set]
   simp only[List.getElem_map,DQ,AU,AM]
   by_cases c:p=i
   ·subst c;simp
   ·have c':¬ ((i:Int)=(p:Int)):=by lia
    simp[c,c']
  have BP:wQ (((List.range last.length).map λ(i:Nat)=>if (i:Int)∈pre then yT F last i else last.getD i []).map bT).length (p:Int)=some p:=by
   unfold wQ
   simp only[Au,Cg]
   rw[if_pos (by lia),if_pos (by lia),Cm]
  rw[<- D4]
  unfold turn mr
  generalize mM=ff at *
  generalize (((List.range last.length).map λ(i:Nat)=>if (i:Int)∈pre then yT F last i else last.getD i []).map bT)=LL at *
  generalize zA F=fl at *
  generalize rT last=rl at *
  generalize (T.lst (fr.map λ(k:Nat)=>T.int (k:Int)))=ftt at *
  simp[hF,BP])
 subst h2
 have fin:((List.range last.length).map λ(p:Nat)=>if (p:Int)∈up then yT F last p else last.getD p [])=zT F last fr:=by
  unfold zT
  refine CK λ p hp=>?_
  by_cases c:uC F fr p=true
  ·rw[if_pos c,if_pos (D0 p c)]
  ·rw[if_neg c,if_neg λ h=>c (by obtain⟨p',e,_,h'⟩:=AY _ h;exact (show p'=p by lia)▸h')]
 rw[fin] at h1
 have hlist:listS [rT last]=some (.lst (last.map bT)):=rfl
 unfold pW eI
 generalize mi=cc at *
 generalize mr=bb at *
 generalize (((F.ws.filter λ w=>fr.contains w.t).map λ w=>(w.f:Int)).map T.int)=L1 at *
 generalize hup:up.map T.int=L2 at *
 generalize last.map bT=L3 at *
 generalize zA F=fl at *
 have CA:wK (rT last)=some L3:=by simpa using hlist
 generalize rT last=rl at *
 generalize (T.lst (fr.map λ(k:Nat)=>T.int (k:Int)))=ftt at *
 simp[CA,c1,hss,h1,rT]
theorem Z9 {α:Type}(enc:α->T) (d:α) (fo:List α):∀ (l:List α) (k:Nat),(∀ i,l.getD i d=fo.getD (k+i) d)->rE k (l.map enc)=(List.range l.length).map λ(p:Nat)=>T.tup [.int ((k+p:Nat):Int),enc (fo.getD (k+p) d)]
 | [],k,_=>rfl
 | b::l,k,h=>by
  have h0:=h 0
  rw[Aq,rE,Z9 enc d fo l (k+1) λ i=>by have:=h (i+1);rw[show k+1+i=k+(i+1) from by lia];simpa using this]
  rw[AR,C0,Aq,AQ]
  have e:b=fo.getD k d:=by simpa using h0
  congr 1
  ·rw[e];rfl
  ·refine CK λ p _=>?_
   simp only[Function.comp]
   rw[show k+1+p=k+Nat.succ p from by lia]
noncomputable def yX (fr:List Nat):T:=.lst (fr.map λ(k:Nat)=>T.int (k:Int))
def OO (a:T) (b c:Option L5.W) (last fo:List Bd) (hl:fo.length=last.length) (h16:fo.length<=10000):pG [some (.im a),b,c,some (.im (rT last)),some (.im (rT fo))]=some (yX (xf last fo)):=by
 have:=kh (λ p:Nat=>T.tup [.int (p:Int),bT (fo.getD p [])]) (λ p=>if decide (fo.getD p []≠last.getD p [])=true then some (T.int (p:Int)) else none) (pick:=[none,none,some 3]) (it:=ve rF (zb (zf 4) zi)) (g:=vO 2 (xA (zF 0) (xA (zF 1) uT))) (c:=yP (zc (yb true) (zf 1) (zc zq (zf 2) (zf 0)))) (f:=zr 0) (J:=[some (.im a),b,c,some (.im (rT last)),some (.im (rT fo))]) (List.range fo.length) (by
   have:=Z9 bT [] fo fo 0 λ i=>by rw[Nat.zero_add]
   simp only[Nat.zero_add] at this
   have e:rF [rT fo]=some (rE 0 (fo.map bT)):=rfl
   rw[<- this]
   generalize rF=en at *
   simp[e]) (by simp;lia) (λ p hp=>by
  have hp':p<last.length:=by rw[<- hl];exact AO.mp hp
  have h1:=aH last p hp'
  have h2:=R7 (fo.getD p []) (last.getD p [])
  generalize fo.getD p []=x at *
  generalize last.getD p []=y at *
  generalize rT last=rl at *
  generalize decide (x≠y)=d at *
  simp only[zq] at h1
  cases d <;> simp[h1,h2])
 unfold pG
 rw[this,gS (λ p:Nat=>decide (fo.getD p []≠last.getD p [])) (λ p:Nat=>T.int (p:Int))]
 rfl
theorem c8 {F:zD}(ok:F.Ok):∀ (n:Nat) (pre:List (List Bd)) (last:List Bd) (fr:List Nat) (res:List (List Bd)),St F last fr->sT F n pre last fr=some res->pre.length+n<=10000->∀ (m:Nat),n<m->∀ x3 x4:Option L5.W,
  ∃ fr',wc [3,4] (xr (zf 2)) uF m [some (.im (zA F)),some (.own (.lst ((pre++[last]).map rT))),some (.im (yX fr)),x3,x4]=some (.nx [some (.im (zA F)),some (.own (.lst (res.map rT))),some (.im fr'),none,none])
 | 0,_,_,_,_,_,h,_,_,_,_,_=>by cases h
 | n+1,pre,last,fr,res,s,h,hn,m,hm,x3,x4=>by
  have BR:∀ (m:Nat) (told:List (List Bd)) (x3 x4:Option L5.W),wc [3,4] (xr (zf 2)) uF (m+1) [some (.im (zA F)),some (.own (.lst (told.map rT))),some (.im (yX [])),x3,x4]=some (.nx [some (.im (zA F)),some (.own (.lst (told.map rT))),some (.im (yX [])),none,none]):=λ m told x3 x4=>by
   unfold wc
   simp[yX]
  obtain⟨m,rfl⟩:∃ k,m=k+1:=⟨m-1,by lia⟩
  unfold sT at h
  by_cases Aw:fr=[]
  ·rw[if_pos Aw] at h
   cases h
   subst Aw
   exact⟨_,BR m _ x3 x4⟩
  ·rw[if_neg Aw] at h
   dsimp only at h
   have hlen:=s.len
   have n8:=ok.n8
   have hF:=Nw ok last fr s.len s.gd
   have hlast:zq (.lst ((pre++[last]).map rT)) (.int (-1))=some (rT last):=by
    show L2.zQ ((pre++[last]).map rT) (-1)=_
    rw[BH]
    exact fJ _ _
   have hc:=λ b c=>OO (zA F) b c last (zT F last fr) (rm ..) (by rw[rm,s.len];lia)
   have Aj:sR (yX fr)=some true:=by
    cases fr with
    | nil=>exact absurd rfl Aw
    | cons a l=>rfl
   have hb:∃ told',uF [some (.im (zA F)),some (.own (.lst ((pre++[last]).map rT))),some (.im (yX fr)),none,none]=some (.nx [some (.im (zA F)),some (.own (.lst (told'.map rT))),some (.im (yX (xf last (zT F last fr)))),some (.im (rT last)),some (.im (rT (zT F last fr)))])/\told'=if xf last (zT F last fr)=[] then pre++[last] else pre++[last]++[zT F last fr]:=by
    have hl2:((pre++[last]).map rT).length<16777216:=by simp;lia
    by_cases hf:xf last (zT F last fr)=[]
    ·refine⟨pre++[last],?_,by rw[if_pos hf]⟩
     have ht:sR (yX (xf last (zT F last fr)))=some false:=by rw[hf];rfl
     unfold uF
     generalize pG=cc at *
     generalize pW=ff at *
     generalize (pre++[last]).map rT=L1 at *
     generalize yX (xf last (zT F last fr))=f2 at *
     unfold yX at *
     simp only[zq] at hlast
     generalize (T.lst (fr.map λ(k:Nat)=>T.int (k:Int)))=f1 at *
     generalize rT (zT F last fr)=r2 at *
     generalize rT last=r1 at *
     simp only[wK] at hlast
     simp[-sR,hlast,hF,hc,ht]
    ·refine⟨pre++[last]++[zT F last fr],?_,by rw[if_neg hf]⟩
     have ht:sR (yX (xf last (zT F last fr)))=some true:=by
      cases e:xf last (zT F last fr) with
      | nil=>exact absurd e hf
      | cons a l=>rfl
     have e2:(pre++[last]++[zT F last fr]).map rT=(pre++[last]).map rT++[rT (zT F last fr)]:=by simp
     rw[e2]
     unfold uF
     generalize pG=cc at *
     generalize pW=ff at *
     generalize (pre++[last]).map rT=L1 at *
     generalize yX (xf last (zT F last fr))=f2 at *
     unfold yX at *
     simp only[zq] at hlast
     generalize (T.lst (fr.map λ(k:Nat)=>T.int (k:Int)))=f1 at *
     generalize rT (zT F last fr)=r2 at *
     generalize rT last=r1 at *
     simp only[wK] at hlast
     simp[-sR,hlast,hF,hc,ht,hl2]
   obtain⟨told',hb1,hb2⟩:=hb
   have key:∀ R,wc [3,4] (xr (zf 2)) uF m [some (.im (zA F)),some (.own (.lst (told'.map rT))),some (.im (yX (xf last (zT F last fr)))),some (.im (rT last)),some (.im (rT (zT F last fr)))]=R->wc [3,4] (xr (zf 2)) uF (m+1) [some (.im (zA F)),some (.own (.lst ((pre++[last]).map rT))),some (.im (yX fr)),x3,x4]=R:=λ R e=>by
    rw[wc]
    generalize hbb:uF=bb at *
    generalize CS:wc [3,4] (xr (zf 2)) bb m=lw at *
    have hf:yA [3,4] [some (.im (zA F)),some (.own (.lst ((pre++[last]).map rT))),some (.im (yX fr)),x3,x4]=[some (.im (zA F)),some (.own (.lst ((pre++[last]).map rT))),some (.im (yX fr)),none,none]:=rfl
    rw[hf]
    have ht:xr (zf 2) [some (.im (zA F)),some (.own (.lst ((pre++[last]).map rT))),some (.im (yX fr)),none,none]=some true:=by
     generalize yX fr=f1 at *
     simp[-sR,Aj]
    rw[ht,BJ,if_pos rfl,hb1,BJ]
    exact e
   by_cases hf:xf last (zT F last fr)=[]
   ·rw[if_pos hf] at h hb2
    cases h
    subst hb2
    rw[hf] at key
    obtain⟨m,rfl⟩:∃ k,m=k+1:=⟨m-1,by lia⟩
    exact⟨_,key _ (BR m _ _ _)⟩
   ·rw[if_neg hf] at h hb2
    subst hb2
    obtain⟨fr',e⟩:=c8 ok n (pre++[last]) (zT F last fr) (xf last (zT F last fr)) res (s.next ok) h (by simp;lia) m (by lia) (some (.im (rT last))) (some (.im (rT (zT F last fr))))
    exact⟨fr',key _ e⟩
def Nv {F:zD}(ok:F.Ok):∃ more,pV [zA F]=some (.lst ((RN.start F::more).map rT))/\(∀ r∈RN.start F::more,r.length=F.os.length/\∀ b∈r,Gd F.A F.B b)/\more.length<=2000/\sT F 2000 [] (RN.start F) (List.range F.os.length)=some (RN.start F::more):=by
 have hmu:=aa (RN.start F)
 have Bl:(RN.start F).length=F.os.length:=by unfold RN.start;simp
 have n8:=ok.n8
 have n1:=ok.n1
 obtain⟨more,last',e1,e2,_,e4⟩:=c9 ok 2000 [] (RN.start F) (List.range F.os.length) (St.start ok) (by lia)
 obtain⟨fr',e⟩:=c8 ok 2000 [] (RN.start F) (List.range F.os.length) _ (St.start ok) e1 (by simp) 1000000 (by decide) none none
 refine⟨more,?_,e2,by lia,e1⟩
 have hp:=YH F
 have Ay:rT (RN.start F)=.lst (List.replicate F.os.length (.tup [.tup [.int 0,.int 0]])):=by
  unfold rT RN.start
  rw[List.map_replicate];rfl
 have hmul:uU (.lst [.tup [.tup [.int 0,.int 0]]]) (.int F.os.length)=some (rT (RN.start F)):=by
  rw[Ay]
  unfold uU
  dsimp only
  rw[if_pos ⟨by simp,by lia,by lia,RW (by simp;lia)⟩]
  have:∀ n:Nat,(List.replicate n [T.tup [.tup [.int 0,.int 0]]]).flatten=List.replicate n (.tup [.tup [.int 0,.int 0]]):=λ n=>by
   induction n with
   | zero=>rfl
   | succ n ih=>rw[BS,BS,Cb,ih];rfl
  rw[Cm,this]
 have B3:nD [.int F.os.length]=some (yX (List.range F.os.length)):=by
  show (if 0<=(F.os.length:Int)/\(F.os.length:Int)<=16777216 then some (T.lst (rangeT 0 (F.os.length:Int).toNat)) else none)=_
  rw[if_pos ⟨by lia,by lia⟩]
  show some (T.lst ((List.range (F.os.length:Int).toNat).map λ(k:Nat)=>T.int (0+(k:Int))))=_
  rw[Cm]
  unfold yX
  simp
 unfold pV eE oo
 generalize uF=bb at *
 generalize qE=ff at *
 generalize nD=lr at *
 simp only[List.nil_append,Aq,BA] at e
 generalize yX (List.range F.os.length)=f1 at *
 rw[Aq]
 generalize rT (RN.start F)=r0 at *
 generalize zA F=fl at *
 generalize CS:wc [3,4] (xr (zf 2)) bb 1000000=lw at *
 generalize uU=mw at *
 simp[hp,hmul,B3,e]
def n6 (i j:Int):uU (.int i) (.int j)=if vM i j then some (.int (i*j)) else none:=rfl
def QF {r:List Int}{rs:List (List Int)}:vY ((r::rs).map zO)=none:=rfl
def W7 (rs:List (List Int)) (h0:rs≠[]) (hl:rs.length<64) (hn:∀ r∈rs,r≠[]):vQ [.lst (rs.map zO)]=some (.lst ((L4.xt (wA rs)).map zO)):=by
 cases rs with
 | nil=>exact absurd rfl h0
 | cons r rs=>
  show (match vY ((r::rs).map zO) with
   | some ns=>if ns.length<64 then some (T.lst ((wu ns).map T.int)) else none
   | none=>l9 [T.lst ((r::rs).map zO)])=_
  rw[QF]
  show (vS ((r::rs).map zO)).bind _=_
  rw[ia,BJ,if_pos ⟨hl,hn⟩]
def bD {f:T->T->Option T}{fa fb:Ev->Option T}{J:Ev}{x y:T}{r:Option T}(h1:fa J=some x) (h2:fb J=some y) (h:f x y=r):zc f fa fb J=r:=by
 show (fa J).bind _=r;rw[h1];show (fb J).bind _=r;rw[h2];exact h
def VF (n:Nat) (h:n<=1000):xj (.int 10) (.int (n:Int))=some (.int (10 ^ n)):=by
 have hc:sL 10 (n:Int):=⟨by lia,by lia,by decide⟩
 show (if sL 10 (n:Int) then some (T.int (10 ^ (n:Int).toNat)) else none)=_
 rw[if_pos hc,Cm]
def oU (n:Nat) (h:n<=1000) (J:Ev):zc xj (cS (.int 10)) (cS (.int (n:Int))) J=some (.int (10 ^ n)):=bD rfl rfl (VF n h)
def W2 (c:Int) (n:Nat) (hn:n<=100) (o6:Ev->Option T) (q6:Int) (h6:∀ J,o6 J=some (.int q6)) (g6:0<q6/\q6<2 ^ 200) (num0:Int):
  ∃ (v:Int) (xs:List Int),xv [4] (zF 4) (zv (xZ 2 (zc yv (zf 3) o6)) (yc 3 (zc xW (zf 3) o6))) ((List.range n).map λ(k:Nat)=>T.int (0+(k:Int))) [some (.im (.int c)),some (.im (.int n)),some (.own (.lst [])),some (.im (.int num0)),none]
   = some (.nx [some (.im (.int c)),some (.im (.int n)),some (.own (.lst (xs.map T.int))),some (.im (.int v)),none])/\xs.length=n:=by
 obtain⟨J',h1,v,xs,h2,h3⟩:=uX (is:=[4]) (g:=zF 4) (b:=(zv (xZ 2 (zc yv (zf 3) o6)) (yc 3 (zc xW (zf 3) o6)))) (λ k:Nat=>T.int (0+(k:Int))) (λ p J=>∃ (v:Int) (xs:List Int),J=[some (.im (.int c)),some (.im (.int n)),some (.own (.lst (xs.map T.int))),some (.im (.int v)),none]/\xs.length=p.length)
   (List.range n) [some (.im (.int c)),some (.im (.int n)),some (.own (.lst [])),some (.im (.int num0)),none] ⟨num0,[],rfl,rfl⟩ (by
  rintro p k q e J ⟨v,xs,rfl,r1⟩
  have hp:p.length<n:=by have:=congrArg List.length e;simp at this;lia
  have hl:(xs.map T.int).length<16777216:=by simp;lia
  have d6:uM v q6:=g6
  have p6:=g6.1
  refine⟨[some (.im (.int c)),some (.im (.int n)),some (.own (.lst ((xs++[v%q6]).map T.int))),some (.im (.int (v/q6))),some (.im (.int (0+(k:Int))))],?_,v/q6,xs++[v%q6],by simp,by simp[r1]⟩
  have e2:(xs++[v%q6]).map T.int=xs.map T.int++[.int (v%q6)]:=by simp
  rw[e2]
  generalize xs.map T.int=L at *
  generalize (0+(k:Int))=kk at *
  simp[turn,h6,hl,d6,p6])
 subst h2
 exact⟨v,xs,h1,by simpa using h3⟩
def W0 (c:Int) (n:Nat) (hn:n<=100) (oM o22 o23 o9:Ev->Option T) (M q22 q23 q9:Int) (hM:∀ J,oM J=some (.int M)) (h22:∀ J,o22 J=some (.int q22)) (h23:∀ J,o23 J=some (.int q23)) (h9:∀ J,o9 J=some (.int q9))
  (gM:0<M/\M<2 ^ 180) (g22:0<q22/\q22<2 ^ 200) (g23:0<q23/\q23<2 ^ 200) (g9:0<q9/\q9<2 ^ 200) (num0:Int) (Eb:0<=num0/\num0<2 ^ 181):
  ∃ (v:Int) (xs:List Int),xv [4] (zF 4) (zv (yc 3 (zc yv (zc yp (zc yp (zc vz (zf 3) (cS (.int 52027))) (zc xW (zf 3) o22)) (zc vz (cS (.int 13)) (zf 4))) oM)) (xZ 2 (zc xW (zc vz (zf 3) (zc yp (zc xW (zf 3) o23) (cS (.int 7)))) o9))) ((List.range n).map λ(k:Nat)=>T.int (0+(k:Int))) [some (.im (.int c)),some (.im (.int n)),some (.own (.lst [])),some (.im (.int num0)),none]
   = some (.nx [some (.im (.int c)),some (.im (.int n)),some (.own (.lst (xs.map T.int))),some (.im (.int v)),none])/\xs.length=n:=by
 obtain⟨J',h1,v,xs,h2,h3,h4⟩:=uX (is:=[4]) (g:=zF 4) (b:=(zv (yc 3 (zc yv (zc yp (zc yp (zc vz (zf 3) (cS (.int 52027))) (zc xW (zf 3) o22)) (zc vz (cS (.int 13)) (zf 4))) oM)) (xZ 2 (zc xW (zc vz (zf 3) (zc yp (zc xW (zf 3) o23) (cS (.int 7)))) o9)))) (λ k:Nat=>T.int (0+(k:Int)))
   (λ p J=>∃ (v:Int) (xs:List Int),J=[some (.im (.int c)),some (.im (.int n)),some (.own (.lst (xs.map T.int))),some (.im (.int v)),none]/\xs.length=p.length/\0<=v/\v<2 ^ 181)
   (List.range n) [some (.im (.int c)),some (.im (.int n)),some (.own (.lst [])),some (.im (.int num0)),none] ⟨num0,[],rfl,rfl,Eb⟩ (by
  rintro p k q e J ⟨v,xs,rfl,r1,r2,r3⟩
  have hp:p.length<n:=by have:=congrArg List.length e;simp at this;lia
  have hk:k<n:=AO.mp (by rw[e];simp)
  have hl:(xs.map T.int).length<16777216:=by simp;lia
  generalize hu:(v*52027+v/q22+13*(0+(k:Int)))%M=u
  have u0:0<=u:=by rw[<- hu];exact BG _ (by lia)
  have u1:u<M:=by rw[<- hu];exact BF _ gM.1
  have d22:uM v q22:=g22
  have m1:sM v 52027:=⟨by lia,by decide⟩
  have m2:sM 13 (0+(k:Int)):=⟨by decide,by lia⟩
  have pM:=gM.1
  have d23:uM u q23:=g23
  have w0:0<=u/q23:=Int.ediv_nonneg u0 (by lia)
  have w1:u/q23<=u:=Int.ediv_le_self _ u0
  have m3:sM u (u/q23+7):=⟨by lia,by lia⟩
  have d9:uM (u*(u/q23+7)) q9:=g9
  refine⟨[some (.im (.int c)),some (.im (.int n)),some (.own (.lst ((xs++[u*(u/q23+7)/q9]).map T.int))),some (.im (.int u)),some (.im (.int (0+(k:Int))))],?_,u,xs++[u*(u/q23+7)/q9],by simp,by simp[r1],u0,by lia⟩
  have e2:(xs++[u*(u/q23+7)/q9]).map T.int=xs.map T.int++[.int (u*(u/q23+7)/q9)]:=by simp
  rw[e2]
  generalize xs.map T.int=L at *
  generalize (0+(k:Int))=kk at *
  simp[turn,hM,h22,h23,h9,hl,d22,m1,m2,pM,hu,d23,m3,d9])
 subst h2
 exact⟨v,xs,h1,by simpa using h3⟩
def Ng (i:Int):0<=(if i<0 then -i else i):=by split <;> lia
def Nr (c:Int) (n:Nat) (hn:n<=100):∃ xs:List Int,pX [.int c,.int n]=some (.lst (xs.map T.int))/\xs.length=n:=by
 obtain⟨q6,h6,g6⟩:∃ q:Int,(∀ J,zc xj (cS (.int 10)) (cS (.int 6)) J=some (.int q))/\0<q/\q<2 ^ 200:=⟨_,oU 6 (by decide),by decide +kernel⟩
 obtain⟨q9,h9,g9⟩:∃ q:Int,(∀ J,zc xj (cS (.int 10)) (cS (.int 9)) J=some (.int q))/\0<q/\q<2 ^ 200:=⟨_,oU 9 (by decide),by decide +kernel⟩
 obtain⟨q22,h22,g22⟩:∃ q:Int,(∀ J,zc xj (cS (.int 10)) (cS (.int 22)) J=some (.int q))/\0<q/\q<2 ^ 200:=⟨_,oU 22 (by decide),by decide +kernel⟩
 obtain⟨q23,h23,g23⟩:∃ q:Int,(∀ J,zc xj (cS (.int 10)) (cS (.int 23)) J=some (.int q))/\0<q/\q<2 ^ 200:=⟨_,oU 23 (by decide),by decide +kernel⟩
 obtain⟨M,hM,gM⟩:∃ q:Int,(∀ J,zc yp (zc xj (cS (.int 10)) (cS (.int 45))) (cS (.int 9)) J=some (.int q))/\0<q/\q<2 ^ 180:=⟨10 ^ 45+9,fun J=>bD (oU 45 (by decide) J) rfl rfl,by decide +kernel⟩
 have hr:=oO n (by lia)
 unfold pX Xn Yt Ys
 have a0:=Ng (c/2)
 generalize ha:(if c/2<0 then -(c/2) else c/2)=num at *
 have hnm0:0<=num%M:=BG _ (by lia)
 have hnm1:num%M<M:=BF _ gM.1
 have pM:=gM.1
 have d2:uM c 2:=⟨by decide,by decide⟩
 obtain⟨v1,xs1,e1,l1⟩:=W2 c n hn _ q6 h6 g6 num
 obtain⟨v2,xs2,e2,l2⟩:=W0 c n hn _ _ _ _ M q22 q23 q9 hM h22 h23 h9 gM g22 g23 g9 (num%M+77003) ⟨by lia,by lia⟩
 generalize zc yp (zc xj (cS (.int 10)) (cS (.int 45))) (cS (.int 9))=oM at *
 generalize zc xj (cS (.int 10)) (cS (.int 6))=o6 at *
 generalize zc xj (cS (.int 10)) (cS (.int 9))=o9 at *
 generalize zc xj (cS (.int 10)) (cS (.int 22))=o22 at *
 generalize zc xj (cS (.int 10)) (cS (.int 23))=o23 at *
 generalize hb1:(zv (xZ 2 (zc yv (zf 3) o6)) (yc 3 (zc xW (zf 3) o6)))=b1 at *
 generalize hb2:(zv (yc 3 (zc yv (zc yp (zc yp (zc vz (zf 3) (cS (.int 52027))) (zc xW (zf 3) o22)) (zc vz (cS (.int 13)) (zf 4))) oM)) (xZ 2 (zc xW (zc vz (zf 3) (zc yp (zc xW (zf 3) o23) (cS (.int 7)))) o9)))=b2 at *
 by_cases h:c%2=1
 ·refine⟨xs1,?_,l1⟩
  generalize xs1.map T.int=L1 at *
  generalize (List.range n).map (λ(k:Nat)=>T.int (0+(k:Int)))=R at *
  simp[d2,ha,h,hr,e1,eq_int]
 ·refine⟨xs2,?_,l2⟩
  generalize xs2.map T.int=L2' at *
  generalize (List.range n).map (λ(k:Nat)=>T.int (0+(k:Int)))=R at *
  simp[d2,ha,h,hr,hM,pM,e2,eq_int]
def YJ (x:Int) (m:Nat) (h:m<=100):∃ y,p_ [.int x,.int m]=some (.int y):=by
 have m1:vM 2 (m:Int):=.inl ⟨by decide,by decide⟩
 have m2:(0:Int)<2*(m:Int)+1:=by lia
 have d:xM x 25:=⟨by decide,by decide⟩
 exact⟨_,by simp[p_,eR,n6,m1,m2,d];rfl⟩
def uz (many:Nat) (r:List Int):Prop:=∃ (f t:Nat) (a b:Int),r=[(f:Int),(t:Int),a,b]/\f<many/\t<many
def YG (place many:Nat) (num:Int) (sz:Nat) (hp:place<many) (hs:sz<=100):∃ r,(uz many r/\r.head?=some (place:Int))/\rQ [.int place,.int many,.int num,.int sz]=some (zO r):=by
 have d8:xM num 8:=⟨by decide,by decide⟩
 have d400:xM num 400:=⟨by decide,by decide⟩
 obtain⟨a,ha⟩:=YJ (num/8%50) sz hs
 obtain⟨b,hb⟩:=YJ (num/400%50) sz hs
 have C9:(0:Int)<many:=by lia
 have t0:0<=num%8%many:=BG _ (by lia)
 have t1:num%8%many<many:=BF _ C9
 have hm':0<many:=by lia
 refine⟨[(place:Int),((num%8%many).toNat:Int),a,b],⟨⟨place,(num%8%many).toNat,a,b,rfl,hp,by lia⟩,rfl⟩,?_⟩
 rw[Dz t0]
 have hr:zO [(place:Int),num%8%many,a,b]=.tup [.int place,.int (num%8%many),.int a,.int b]:=rfl
 rw[hr]
 unfold rQ eL
 generalize p_=fa at *
 simp[d8,d400,ha,hb,hm']
def nF {xs:List Int}{j:Nat}(h:j<xs.length):∃ v,L2.zQ (xs.map T.int) (j:Int)=some (.int v):=⟨xs.getD j 0,uG (by simp[h])⟩
def Qm (b:Bool):yb false (kt b) (.str "keeper")=some (.bl b):=by
 have h:(("taker":Str) == ("keeper":Str))=false:=by decide
 cases b
 ·show yb false (.str "taker") (.str "keeper")=_
  simp[yb,dep,eqT,h]
 ·show yb false (.str "keeper") (.str "keeper")=_
  simp[yb,dep,eqT]
def Yv (b:Sm) (n many pl:Nat) (E:List T->Option L5.W->Ev) (hE:∀ r x,yA [11] (E r x)=E r none) (hn:n<=100)
  (ht:∀ k<n,∀ rows:List T,rows.length<=1000->∃ r,(uz many r/\r.head?=some (pl:Int))/\turn (zF 11) b (.int (0+(k:Int))) (E rows none)=some (.nx (E (rows++[zO r]) (some (.im (.int (0+(k:Int))))))))
  (rows:List (List Int)) (hl:rows.length<=100) (hr:∀ r∈rows,uz many r):
  ∃ rows':List (List Int),xv [11] (zF 11) b ((List.range n).map λ(k:Nat)=>T.int (0+(k:Int))) (E (rows.map zO) none)=some (.nx (E (rows'.map zO) none))/\rows'.length=rows.length+n/\(∀ r∈rows',uz many r)/\(∀ r∈rows,r∈rows')/\(0<n->∃ r∈rows',r.head?=some (pl:Int)):=by
 obtain⟨J',h1,rows',h2,h3,h4,h5,h6⟩:=uX (is:=[11]) (g:=zF 11) (b:=b) (λ k:Nat=>T.int (0+(k:Int))) (λ p J=>∃ rows':List (List Int),J=E (rows'.map zO) none/\rows'.length=rows.length+p.length/\(∀ r∈rows',uz many r)/\(∀ r∈rows,r∈rows')/\(0<p.length->∃ r∈rows',r.head?=some (pl:Int)))
   (List.range n) (E (rows.map zO) none) ⟨rows,hE _ _,rfl,hr,λ _ h=>h,λ h=>absurd h (by simp)⟩ (by
  rintro p k q e J ⟨rows',rfl,u1,u2,u3,u4⟩
  have hp:p.length<n:=by have:=congrArg List.length e;simp at this;lia
  have hk:k<n:=AO.mp (by rw[e];simp)
  obtain⟨r,⟨v1,v3⟩,v2⟩:=ht k hk (rows'.map zO) (by simp;lia)
  refine⟨_,v2,rows'++[r],by rw[hE];simp,by simp only[B2,List.length_singleton,u1];lia,λ r' hr'=>?_,λ r' h=>Cy _ (u3 r' h),λ _=>⟨r,by simp,v3⟩⟩
  rcases AU.mp hr' with h | h
  ·exact u2 r' h
  ·cases AM.mp h;exact v1)
 subst h2
 exact⟨rows',h1,by simpa using h3,h4,h5,λ h=>h6 (by simpa using h)⟩
def VH (c mo br:T) (xs:List Int) (hx:xs.length=43) (many:Nat) (hm:many<=8) (os:List Bool) (rows:List (List Int)) (sts:List T) (k:Nat) (hk:k<many) (ho:os.length=k) (hrl:rows.length<=3*k) (hr:∀ r∈rows,uz many r) (hs:sts.length<=k):
  ∃ (b:Bool) (rows':List (List Int)) (sts':List T) (nu sz:Int),turn (zF 8) qt (.int (0+(k:Int))) [some (.im c),some (.im mo),some (.im br),some (.im (.lst (xs.map T.int))),some (.im (.int many)),some (.own (.lst (os.map kt))),some (.own (.lst (rows.map zO))),some (.own (.lst sts)),none,none,none,none,none]
   = some (.nx [some (.im c),some (.im mo),some (.im br),some (.im (.lst (xs.map T.int))),some (.im (.int many)),some (.own (.lst ((os++[b]).map kt))),some (.own (.lst (rows'.map zO))),some (.own (.lst sts')),some (.im (.int (0+(k:Int)))),some (.im (.int nu)),some (.im (.int sz)),none,none])
   /\ rows'.length<=3*(k+1)/\(∀ r∈rows',uz many r)/\(∀ r∈rows,r∈rows')/\(∃ r∈rows',r.head?=some (k:Int))/\sts'.length<=k+1:=by
 obtain⟨v,hv⟩:=nF (xs:=xs) (j:=2+4*k) (by lia)
 have hv':L2.zQ (xs.map T.int) (2+4*(k:Int))=some (.int v):=hv
 obtain⟨b,hb⟩:∃ b:Bool,L2.zQ [T.str "keeper",T.str "taker"] (v%2)=some (kt b):=by
  rcases Int.emod_two_eq v with h | h <;> rw[h]
  ·exact⟨true,rfl⟩
  ·exact⟨false,rfl⟩
 obtain⟨sz,hsz,sz1⟩:∃ sz:Nat,L2.zQ [T.int 2,T.int 3,T.int 3,T.int 12] (v/2%4)=some (.int (sz:Int))/\sz<=12:=by
  have h0:0<=v/2%4:=BG _ (by decide)
  have h1:v/2%4<4:=BF _ (by decide)
  generalize v/2%4=z at *
  obtain h | h | h | h:z=0\/z=1\/z=2\/z=3:=by lia
  all_goals subst h
  ·exact⟨2,rfl,by decide⟩
  ·exact⟨3,rfl,by decide⟩
  ·exact⟨3,rfl,by decide⟩
  ·exact⟨12,rfl,by decide⟩
 obtain⟨n1,hn1,n0,n3⟩:∃ n:Nat,1+v/8%3=(n:Int)/\0<n/\n<=3:=⟨(1+v/8%3).toNat,by lia,by lia,by lia⟩
 obtain⟨rows',g1,g2,g3,g4,g5⟩:=Yv mv n1 many k (λ rs x=>[some (.im c),some (.im mo),some (.im br),some (.im (.lst (xs.map T.int))),some (.im (.int many)),some (.own (.lst ((os++[b]).map kt))),some (.own (.lst rs)),some (.own (.lst sts)),some (.im (.int (k:Int))),some (.im (.int v)),some (.im (.int sz)),x,none]) (λ _ _=>rfl) (by lia)
  (λ k' hk' rs hrs=>by
   obtain⟨v2,hv2⟩:=nF (xs:=xs) (j:=3+4*k+k') (by lia)
   have hv2':L2.zQ (xs.map T.int) (3+4*(k:Int)+(0+(k':Int)))=some (.int v2):=by rw[<- hv2];congr 1;lia
   obtain⟨r,hr1,hr2⟩:=YG k many v2 sz hk (by lia)
   refine⟨r,hr1,?_⟩
   have m1:vM 4 (k:Int):=.inl ⟨by decide,by decide⟩
   have CB:rs.length<16777216:=by lia
   unfold turn mv
   generalize rQ=fw at *
   generalize xs.map T.int=XL at *
   generalize (os++[b]).map kt=OL at *
   generalize zO r=rr at *
   generalize (0+(k':Int))=kk at *
   generalize hk4:(k:Int)=kI at *
   simp[n6,m1,hv2',hr2,CB])
  rows (by lia) hr
 have B3:=oO n1 (by lia)
 have D8:(os.map kt).length<16777216:=by simp;lia
 have BP:L2.zQ ((os++[b]).map kt) (k:Int)=some (kt b):=uG (by rw[BH,Cv (by simp;lia)];simp[ho])
 have Ay:sts.length<16777216:=by lia
 have Ej:=Qm b
 have m1:vM 4 (k:Int):=.inl ⟨by decide,by decide⟩
 have d2:xM v 2:=⟨by decide,by decide⟩
 have d8:xM v 8:=⟨by decide,by decide⟩
 have d24:xM v 24:=⟨by decide,by decide⟩
 have d72:xM v 72:=⟨by decide,by decide⟩
 have d144:xM v 144:=⟨by decide,by decide⟩
 have d576:xM v 576:=⟨by decide,by decide⟩
 have fin:∀ sts':List T,(if b=true/\v/24%3=0 then sts++[.tup [.int k,.int (v/72%2),.int (1+v/144%4),.int (v/576%5)]] else sts)=sts'->turn (zF 8) qt (.int (0+(k:Int))) [some (.im c),some (.im mo),some (.im br),some (.im (.lst (xs.map T.int))),some (.im (.int many)),some (.own (.lst (os.map kt))),some (.own (.lst (rows.map zO))),some (.own (.lst sts)),none,none,none,none,none]
   = some (.nx [some (.im c),some (.im mo),some (.im br),some (.im (.lst (xs.map T.int))),some (.im (.int many)),some (.own (.lst ((os++[b]).map kt))),some (.own (.lst (rows'.map zO))),some (.own (.lst sts')),some (.im (.int (0+(k:Int)))),some (.im (.int v)),some (.im (.int sz)),none,none]):=λ sts' he=>by
  have e2:(os++[b]).map kt=os.map kt++[kt b]:=by simp
  unfold turn qt
  rw[e2] at g1 BP ⊢
  simp only[Int.zero_add] at g1 B3 ⊢
  generalize mv=bb at *
  generalize (List.range n1).map (λ(k:Nat)=>T.int (k:Int))=RR at *
  generalize rows'.map zO=L2' at *
  generalize rows.map zO=L1' at *
  generalize xs.map T.int=XL at *
  generalize os.map kt=OL at *
  generalize (T.str "taker")=s2 at *
  generalize hs1:(T.str "keeper")=s1 at *
  generalize kt b=kb at *
  generalize hkI:(k:Int)=kI at *
  generalize DE:yb=ee at *
  have hee0:ee false (.int (v/24%3)) (.int 0)=some (.bl (decide (v/24%3=0))):=by rw[<- DE];exact eq_int _ _ _
  by_cases hb1:b=true
  ·subst hb1
   by_cases hz:v/24%3=0
   ·rw[if_pos ⟨rfl,hz⟩] at he
    subst he
    rw[hz] at hee0
    simp[n6,m1,hv',hb,D8,d2,hsz,d8,hn1,B3,g1,BP,Ej,d24,hee0,hz,Ay,d72,d144,d576]
   ·rw[if_neg (λ h=>hz h.2)] at he
    subst he
    simp[n6,m1,hv',hb,D8,d2,hsz,d8,hn1,B3,g1,BP,Ej,d24,hee0,hz]
  ·have hb2:b=false:=by simpa using hb1
   subst hb2
   rw[if_neg (λ h=>hb1 h.1)] at he
   subst he
   simp[n6,m1,hv',hb,D8,d2,hsz,d8,hn1,B3,g1,BP,Ej]
 refine⟨b,rows',_,v,sz,fin _ rfl,by lia,g3,g4,g5 n0,?_⟩
 split
 ·simp;lia
 ·lia
noncomputable def qJ (w:Wy):List Int:=[(w.f:Int),(w.t:Int),w.a,w.b]
def dq {w v:Wy}(h:qJ w=qJ v):w=v:=by
 obtain⟨f,t,a,b⟩:=w
 obtain⟨f',t',a',b'⟩:=v
 simp only[qJ,List.cons.injEq,and_true] at h
 obtain⟨h1,h2,rfl,rfl⟩:=h
 have e1:f=f':=by lia
 have e2:t=t':=by lia
 subst e1 e2;rfl
theorem c7 {many:Nat}:∀ l:List (List Int),(∀ r∈l,uz many r)->∃ ws:List Wy,l=ws.map qJ/\∀ w∈ws,w.f<many/\w.t<many
 | [],_=>⟨[],rfl,nofun⟩
 | r::l,h=>by
  obtain⟨ws,e1,e2⟩:=c7 l λ x hx=>h x (Ao _ hx)
  obtain⟨f,t,a,b,rfl,hf,ht⟩:=h r Am
  refine⟨⟨f,t,a,b⟩::ws,by rw[e1];rfl,λ w hw=>?_⟩
  rcases Ak.mp hw with x | x
  ·subst x;exact⟨hf,ht⟩
  ·exact e2 w x
def dU {many:Nat}(rs:List (List Int)) (h0:rs≠[]) (hl:rs.length<64) (hw:∀ r∈rs,uz many r):
  ∃ ws:List Wy,vQ [.lst (rs.map zO)]=some (.lst (ws.map zX))/\ws.length<=rs.length/\(∀ w∈ws,w.f<many/\w.t<many)/\∀ w:Wy,w∈ws↔qJ w∈rs:=by
 have hn:∀ r∈rs,r≠[]:=λ r hr=>by obtain⟨f,t,a,b,rfl,_⟩:=hw r hr;simp
 have hm:∀ r,r∈L4.xt (wA rs)↔r∈rs:=λ r=>by rw[(L4.tJ _).mem_iff,nC]
 obtain⟨ws,e1,e2⟩:=c7 (many:=many) (L4.xt (wA rs)) λ r hr=>hw r ((hm r).mp hr)
 refine⟨ws,?_,?_,e2,λ w=>?_⟩
 ·rw[W7 rs h0 hl hn,e1,AQ];rfl
 ·have:=congrArg List.length e1
  rw[(L4.tJ _).length_eq,Au] at this
  have:=iR rs
  lia
 ·rw[<- hm,e1]
  constructor
  ·exact λ h=>An.mpr ⟨w,h,rfl⟩
  ·intro h
   obtain⟨v,hv,e⟩:=An.mp h
   rw[<- dq e];exact hv
def W8 {many:Nat}(ws:List Wy) (φ:Wy->Wy) (h0:ws≠[]) (hl:ws.length<64) (hb:∀ w∈ws,w.f<many/\w.t<many) (hφ:∀ w,(φ w).f=w.f/\(φ w).t=w.t):
  ∃ ws':List Wy,vQ [.lst (ws.map λ w=>zX (φ w))]=some (.lst (ws'.map zX))/\ws'.length<=ws.length/\(∀ w∈ws',w.f<many/\w.t<many)/\∀ w:Wy,w∈ws'↔∃ v∈ws,φ v=w:=by
 obtain⟨ws',e1,e2,e3,e4⟩:=dU (many:=many) (ws.map λ w=>qJ (φ w)) (by simpa using h0) (by simpa using hl) λ r hr=>by
  obtain⟨w,hw,rfl⟩:=An.mp hr
  have:=hb w hw
  have:=hφ w
  exact⟨(φ w).f,(φ w).t,(φ w).a,(φ w).b,rfl,by lia,by lia⟩
 refine⟨ws',?_,by simpa using e2,e3,λ w=>?_⟩
 ·rw[<- e1,AQ];rfl
 ·rw[e4]
  constructor
  ·intro h
   obtain⟨v,hv,e⟩:=An.mp h
   exact⟨v,hv,dq e⟩
  ·rintro⟨v,hv,rfl⟩
   exact An.mpr ⟨v,hv,rfl⟩
structure sH (F:zD):Prop where
 ok:F.Ok
 ss:F.ss=[]
 way:∀ x<F.os.length,∃ w∈F.ws,w.f=x
def sH.ne {F:zD}(h:sH F):F.ws≠[]:=λ e=>by
 obtain⟨w,hw,_⟩:=h.way 0 h.ok.n1
 rw[e] at hw;cases hw
def Ny (c:Int) (most zN:Nat) (h1:1<=most) (h8:most<=8) (hb:zN<=12):
  ∃ (F:zD) (st:T),pY [.int c,.int most,.int zN]=some (.tup [.tup [.int F.A,.int F.B],.tup (F.os.map kt),.tup (F.ws.map zX),st])/\sH F:=by
 obtain⟨xs,DA,hx⟩:=Nr c 43 (by decide)
 have C4:pX [.int c,.int 43]=some (.lst (xs.map T.int)):=DA
 obtain⟨v0,hv0⟩:=nF (xs:=xs) (j:=0) (by lia)
 obtain⟨v1,hv1⟩:=nF (xs:=xs) (j:=1) (by lia)
 have hv0':L2.zQ (xs.map T.int) 0=some (.int v0):=hv0
 have hv1':L2.zQ (xs.map T.int) 1=some (.int v1):=hv1
 have Ee:(0:Int)<most:=by lia
 have hmoN:0<most:=h1
 obtain⟨many,hmany,m1,m8⟩:∃ n:Nat,1+v0%most=(n:Int)/\1<=n/\n<=8:=by
  have:=BG v0 (b:=(most:Int)) (by lia)
  have:=BF v0 Ee
  exact⟨(1+v0%most).toNat,by lia,by lia,by lia⟩
 obtain⟨J',g1,os,rows,sts,g2,g3,g4,g5,g6,g7⟩:=uX (is:=[8,9,10,11]) (g:=zF 8) (b:=qt) (λ k:Nat=>T.int (0+(k:Int)))
   (λ p J=>∃ (os:List Bool) (rows:List (List Int)) (sts:List T),J=[some (.im (.int c)),some (.im (.int most)),some (.im (.int zN)),some (.im (.lst (xs.map T.int))),some (.im (.int many)),some (.own (.lst (os.map kt))),some (.own (.lst (rows.map zO))),some (.own (.lst sts)),none,none,none,none,none]
    /\ os.length=p.length/\rows.length<=3*p.length/\(∀ r∈rows,uz many r)/\(∀ x∈p,∃ r∈rows,r.head?=some (x:Int))/\sts.length<=p.length)
   (List.range many) [some (.im (.int c)),some (.im (.int most)),some (.im (.int zN)),some (.im (.lst (xs.map T.int))),some (.im (.int many)),some (.own (.lst [])),some (.own (.lst [])),some (.own (.lst [])),none,none,none,none,none] ⟨[],[],[],rfl,rfl,by simp,nofun,nofun,by simp⟩ (by
  rintro p k q e J ⟨os,rows,sts,rfl,r1,r2,r3,r4,r5⟩
  have hk:k<many:=AO.mp (by rw[e];simp)
  have hpk:p.length=k:=by
   have h2:=congrArg (λ l=>l[p.length]?) e
   simp only[Cv (Af _),Nat.sub_self,List.getElem?_cons_zero] at h2
   obtain⟨h3,h4⟩:=AD.mp h2
   simpa using h4
  obtain⟨b,rows',sts',nu,sz,t1,t2,t3,t4,t5,t6⟩:=VH (.int c) (.int most) (.int zN) xs hx many m8 os rows sts k hk (by lia) (by lia) r3 (by lia)
  refine⟨_,t1,os++[b],rows',sts',rfl,by simp[r1],by simp;lia,t3,λ x hx=>?_,by simp;lia⟩
  rcases AU.mp hx with h | h
  ·obtain⟨r,y1,y2⟩:=r4 x h
   exact⟨r,t4 r y1,y2⟩
  ·cases AM.mp h
   exact t5)
 subst g2
 rw[Cg] at g3 g4 g7
 obtain⟨n9,hn9,n9'⟩:∃ n:Nat,(if 24-(rows.length:Int)<9 then 24-(rows.length:Int) else 9)=(n:Int)/\n<=9:=by
  split
  ·exact⟨24-rows.length,by lia,by lia⟩
  ·exact⟨9,rfl,by lia⟩
 obtain⟨pl,Ah,pl1⟩:∃ n:Nat,v0/64%8%many=(n:Int)/\n<many:=by
  have:=BG (v0/64%8) (b:=(many:Int)) (by lia)
  have:=BF (v0/64%8) (b:=(many:Int)) (by lia)
  exact⟨(v0/64%8%many).toNat,by lia,by lia⟩
 have d64:xM v0 64:=⟨by decide,by decide⟩
 have C9:0<many:=m1
 obtain⟨rows2,k1,k2,k3,k4,_⟩:=Yv mq n9 many pl (λ rs x=>[some (.im (.int c)),some (.im (.int most)),some (.im (.int zN)),some (.im (.lst (xs.map T.int))),some (.im (.int many)),some (.own (.lst (os.map kt))),some (.own (.lst rs)),some (.own (.lst sts)),none,none,none,x,none]) (λ _ _=>rfl) (by lia)
  (λ k' hk' rs hrs=>by
   obtain⟨v2,hv2⟩:=nF (xs:=xs) (j:=34+k') (by lia)
   have hv2':L2.zQ (xs.map T.int) (34+(0+(k':Int)))=some (.int v2):=by rw[<- hv2];congr 1;lia
   obtain⟨r,hr1,hr2⟩:=YG pl many v2 3 pl1 (by lia)
   have hr2':rQ [.int pl,.int many,.int v2,.int 3]=some (zO r):=hr2
   refine⟨r,hr1,?_⟩
   have CB:rs.length<16777216:=by lia
   unfold turn mq
   generalize rQ=fw at *
   generalize xs.map T.int=XL at *
   generalize os.map kt=OL at *
   generalize zO r=rr at *
   generalize (0+(k':Int))=kk at *
   simp[hv0',d64,C9,Ah,hv2',hr2',CB])
  rows (by lia) g5
 have fin:∃ rows3:List (List Int),(if v0/8%8=1 then rows2 else rows)=rows3/\rows3≠[]/\rows3.length<=60/\(∀ r∈rows3,uz many r)/\∀ x<many,∃ r∈rows3,r.head?=some (x:Int):=by
  refine⟨_,rfl,?_⟩
  have hx:∀ x<many,∃ r∈rows,r.head?=some (x:Int):=λ x hx=>g6 x (AO.mpr hx)
  have hx2:∀ x<many,∃ r∈rows2,r.head?=some (x:Int):=λ x hh=>by
   obtain⟨r,y1,y2⟩:=hx x hh
   exact⟨r,k4 r y1,y2⟩
  split
  ·refine⟨λ e=>?_,by lia,k3,hx2⟩
   obtain⟨r,y,_⟩:=hx2 0 C9
   rw[e] at y;cases y
  ·refine⟨λ e=>?_,by lia,g5,hx⟩
   obtain⟨r,y,_⟩:=hx 0 C9
   rw[e] at y;cases y
 obtain⟨rows3,e3,r0,r1,r2,r3⟩:=fin
 obtain⟨ws,w1,w2,w3,w4⟩:=dU rows3 r0 (by lia) r2
 have DF:(0:Int)<(zN:Int)+1:=by lia
 have A0:=BG v1 (b:=(zN:Int)+1) (by lia)
 have A1:=BF v1 DF
 have B0:=BG (v1/13) (b:=(zN:Int)+1) (by lia)
 have B1:=BF (v1/13) DF
 refine⟨⟨v1%((zN:Int)+1),v1/13%((zN:Int)+1),os,ws,[]⟩,.tup sts,?_,⟨⟨A0,by dsimp only;lia,B0,by dsimp only;lia,by dsimp only;lia,by dsimp only;lia,λ w hw=>by dsimp only;rw[g3];exact w3 w hw,by dsimp only;lia,nofun,.inl rfl,by simp⟩,rfl,λ x hx=>?_⟩⟩
 ·have B3:=oO many (by lia)
  have hrg9:=oO n9 (by lia)
  have d8:xM v0 8:=⟨by decide,by decide⟩
  have d13:xM v1 13:=⟨by decide,by decide⟩
  have hlen:uA [.lst (rows.map zO)]=some (.int rows.length):=by simp
  have Ef:(os.map kt).length<=16777216:=by simp;lia
  have hls:sts.length<=16777216:=by lia
  have CS:(ws.map zX).length<=16777216:=by simp;lia
  have hq:=eq_int (v0/8%8) 1 false
  unfold pY eO
  dsimp only
  generalize qt=bb2 at *
  generalize mq=bb3 at *
  generalize pX=fs at *
  generalize xs.map T.int=XL at *
  generalize (List.range many).map (λ(k:Nat)=>T.int (0+(k:Int)))=R1 at *
  generalize (List.range n9).map (λ(k:Nat)=>T.int (0+(k:Int)))=R9 at *
  generalize os.map kt=OL at *
  by_cases h:v0/8%8=1
  ·rw[if_pos h] at e3
   subst e3
   rw[h] at hq
   generalize ws.map zX=WL at *
   generalize hrr:rows.map zO=RR at *
   generalize rows2.map zO=RR2 at *
   have BW:RR.length=rows.length:=by rw[<- hrr,Au]
   generalize yb=ee at *
   generalize vQ=sv at *
   simp[C4,hv0',Ee,hmoN,hmany,B3,g1,d8,hq,h,BW,hn9,hrg9,k1,hv1',DF,d13,w1,Ef,hls,CS]
  ·rw[if_neg h] at e3
   subst e3
   generalize ws.map zX=WL at *
   generalize rows.map zO=RR at *
   generalize yb=ee at *
   generalize vQ=sv at *
   simp[C4,hv0',Ee,hmoN,hmany,B3,g1,d8,hq,h,hv1',DF,d13,w1,Ef,hls,CS]
 ·dsimp only at hx
  rw[g3] at hx
  obtain⟨r,y1,y2⟩:=r3 x hx
  obtain⟨f,t,a,b,rfl,hf,ht⟩:=r2 r y1
  refine⟨⟨f,t,a,b⟩,(w4 _).mpr y1,?_⟩
  have:(f:Int)=(x:Int):=by simpa using y2
  dsimp only;lia
def N9 {F:zD}{pre:List (List Bd)}{lst:List Bd}(hr:pV [zA F]=some (.lst ((pre++[lst]).map rT))):og [zA F]=some (rT lst):=by
 have BP:L2.zQ ((pre++[lst]).map rT) (-1)=some (rT lst):=by
  rw[BH]
  exact fJ
 unfold og eX
 generalize (pre++[lst]).map rT=L at *
 generalize pV=f1 at *
 generalize zA F=fl at *
 simp[hr,BP]
def NA {F:zD}(h:sH F):∃ m,og [zA F]=some (rT (y9 F m))/\y9 F (m+1)=y9 F m/\∀ b∈y9 F m,Gd F.A F.B b:=by
 have ok:=h.ok
 obtain⟨more,hr,hn,hm,hR⟩:=Nv ok
 have n1:=ok.n1
 have Aj:List.range F.os.length≠[]:=λ h=>by
  have h2:=congrArg List.length h
  rw[Cg] at h2
  rw[h2] at n1
  exact absurd n1 (by decide)
 obtain⟨m,e,Ay⟩:=cA ok h.way 2000 [] 0 (List.range F.os.length) _ (St.start ok) Aj rfl hR
 have e':RN.start F::more=(List.range m).map (y9 F)++[y9 F m]:=by rw[e,List.range_succ,BH];rfl
 rw[e'] at hr hn
 exact⟨m,N9 hr,Ay,(hn (y9 F m) (by simp)).2⟩
def Nq (pu:Bool) (w:Wy):pU [zX w,.int (yQ pu)]=some (zX (um pu w)):=by
 cases pu
 ·simp[pU,jc,zX,um,yQ,eq_int]
 ·simp[pU,jc,zX,um,yQ,eq_int]
def yS (F:zD) (st:T):T:=.tup [.tup [.int F.A,.int F.B],.tup (F.os.map kt),.tup (F.ws.map zX),st]
def Nz {F:zD}(h:sH F) (st:T) (pu:Bool):∃ G:zD,mQ [yS F st,.int (yQ pu)]=some (zA G)/\sH G/\Xp pu F G:=by
 have ok:=h.ok
 have rW:=ok.rW
 obtain⟨ws',e1,e2,e3,e4⟩:=W8 (many:=F.os.length) F.ws (um pu) h.ne (by lia) ok.ws (Yz pu)
 refine⟨⟨F.A,F.B,F.os,ws',[]⟩,?_,⟨⟨ok.a0,ok.a1,ok.b0,ok.b1,ok.n1,ok.n8,e3,by dsimp only;lia,nofun,.inl rfl,by simp⟩,rfl,λ x hx=>?_⟩,⟨rfl,rfl,rfl,h.ss,rfl,λ w hw=>(e4 _).mpr ⟨w,hw,rfl⟩,λ v hv=>by
  obtain⟨w,hw,rfl⟩:=(e4 v).mp hv
  exact⟨w,hw,rfl⟩⟩⟩
 ·have hc:ml [some (.im (yS F st)),some (.im (.int (yQ pu))),none]=some (.lst (F.ws.map λ w=>zX (um pu w))):=by
   unfold ml
   refine qh zX (λ w=>zX (um pu w)) F.ws (by simp[yS]) (by lia) λ w _=>?_
   have:=Nq pu w
   generalize pU=fw at *
   generalize yS F st=fl at *
   simp[tU,this]
  have i0:zq (yS F st) (.int 0)=some (.tup [.int F.A,.int F.B]):=rfl
  have i1:zq (yS F st) (.int 1)=some (.tup (F.os.map kt)):=rfl
  have CS:(ws'.map zX).length<=16777216:=by simp;lia
  unfold mQ eT
  rw[show zA ⟨F.A,F.B,F.os,ws',[]⟩=.tup [.tup [.int F.A,.int F.B],.tup (F.os.map kt),.tup (ws'.map zX),.tup []] from rfl]
  generalize ml=cc at *
  generalize ws'.map zX=WL at *
  generalize (F.ws.map λ w=>zX (um pu w))=SL at *
  generalize F.os.map kt=OL at *
  generalize yS F st=fl at *
  generalize zq=ix at *
  generalize vQ=sv at *
  simp[i0,i1,hc,e1,CS]
 ·obtain⟨w,hw,hf⟩:=h.way x hx
  exact⟨um pu w,(e4 _).mpr ⟨w,hw,rfl⟩,by rw[(Yz pu w).1];exact hf⟩
def sr (pu:Bool) (b:Bd):T:=match fQ pu b with
 | none=>.zj
 | some x=>.int x
def NB {F:zD}(h:sH F) (st:T) (pu:Bool):∃ (G:zD) (m:Nat),oj [yS F st,.int (yQ pu)]=some (.tup ((y9 G m).map (sr pu)))/\Xp pu F G/\y9 G (m+1)=y9 G m/\∀ b∈y9 G m,Gd F.A F.B b:=by
 obtain⟨G,g1,g2,g3⟩:=Nz h st pu
 obtain⟨m,b1,b2,b3⟩:=NA g2
 rw[g3.A,g3.B] at b3
 refine⟨G,m,?_,g3,b2,b3⟩
 have hlen:(y9 G m).length<=16777216:=by rw[kl];have:=g2.ok.n8;lia
 have hc:pJ [some (.im (yS F st)),some (.im (.int (yQ pu)))]=some (.lst ((y9 G m).map (sr pu))):=by
  unfold pJ
  refine qh bT (sr pu) (y9 G m) ?_ hlen λ b _=>?_
  ·generalize og=fb at *
   generalize mQ=ff at *
   generalize yS F st=fl at *
   generalize zA G=gl at *
   simp[g1,b1,rT]
  ·cases b with
   | nil=>
    generalize yS F st=fl at *
    simp[tU,bT,sr,fQ]
   | cons p b=>
    generalize yS F st=fl at *
    cases pu <;> simp[tU,bT,sr,fQ,zt,yQ,wR]
 have Ci:tD [.int (yQ pu),.int 0,.int 1]=some (.bl true):=by rw[YE];cases pu <;> rfl
 have hl2:((y9 G m).map (sr pu)).length<=16777216:=by simpa using hlen
 unfold oj jh
 generalize pJ=cc at *
 generalize tD=fi at *
 generalize (y9 G m).map (sr pu)=AL at *
 generalize yS F st=fl at *
 simp[Ci,hc,hl2]
end yt
namespace yt
open PySem L2 L3 L5
def ej (ns:List Int) (k:Nat):∃ v,uJ [wL ns,.int (k:Int)]=some (.int v):=by
 unfold uJ eQ wL
 by_cases h:k<ns.length
 ·have e:L2.zQ (ns.map T.int) (k:Int)=some (.int (ns.getD k 0)):=uG (by simp[h])
  exact⟨_,by simp[h,e,rn];rfl⟩
 ·exact⟨0,by simp[h,rn]⟩
def Nu (c:Int):∃ most zN:Nat,mO [.int c]=some (.tup [.int most,.int zN])/\(1<=most/\most<=8)/\zN<=12:=by
 have h0:0<=c%10:=BG _ (by decide)
 have h1:c%10<10:=BF _ (by decide)
 have key:∀ z:Int,0<=z->z<10->∃ most zN:Nat,L2.zQ [T.tup [.int 4,.int 5],T.tup [.int 3,.int 5],T.tup [.int 4,.int 4],T.tup [.int 2,.int 6],T.tup [.int 5,.int 3],T.tup [.int 3,.int 4],T.tup [.int 1,.int 8],T.tup [.int 4,.int 3],T.tup [.int 8,.int 2],T.tup [.int 2,.int 5]] z=some (.tup [.int most,.int zN])/\(1<=most/\most<=8)/\zN<=12:=λ z a b=>by
  obtain h | h | h | h | h | h | h | h | h | h:z=0\/z=1\/z=2\/z=3\/z=4\/z=5\/z=6\/z=7\/z=8\/z=9:=by lia
  all_goals subst h
  ·exact⟨4,5,rfl,by decide,by decide⟩
  ·exact⟨3,5,rfl,by decide,by decide⟩
  ·exact⟨4,4,rfl,by decide,by decide⟩
  ·exact⟨2,6,rfl,by decide,by decide⟩
  ·exact⟨5,3,rfl,by decide,by decide⟩
  ·exact⟨3,4,rfl,by decide,by decide⟩
  ·exact⟨1,8,rfl,by decide,by decide⟩
  ·exact⟨4,3,rfl,by decide,by decide⟩
  ·exact⟨8,2,rfl,by decide,by decide⟩
  ·exact⟨2,5,rfl,by decide,by decide⟩
 obtain⟨most,zN,e,r⟩:=key _ h0 h1
 refine⟨most,zN,?_,r⟩
 unfold mO eM
 simp[e]
end yt
namespace yt
open PySem L2 L3 L5 RN
noncomputable def wh (t:T) (a b:Int):Bool:=match t with
 | .int i=>decide (a<=i)&&decide (i<=b)
 | _=>false
def YF (t:T) (he:xx t=false):oa [t]=some (.bl (match t with | .int _=>true | _=>false)):=by
 cases t with
 | err _ _ _=>cases he
 | _=>simp[oa,jf,wC]
def Nn (t:T) (a b:Int) (he:xx t=false):tD [t,.int a,.int b]=some (.bl (wh t a b)):=by
 cases t with
 | int i=>
  unfold tD lg wh
  by_cases h1:a<=i <;> by_cases h2:i<=b <;> simp[YF _ he,h1,h2]
 | err _ _ _=>cases he
 | _=>simp[tD,lg,wh,YF _ he]
def Vi (J:Ev):pH J=some (.lst [.bl true,.bl false,.bl false,.bl false,.bl false,.bl false,.bl false,.bl false,.bl false]):=by
 have r:=oO 9 (by decide)
 rw[show List.range 9=[0,1,2,3,4,5,6,7,8] from rfl,show ((9:Nat):Int)=9 from rfl] at r
 unfold pH xS
 simp[r,rM,eq_int]
def N0 (y:T):jb [.err "NoCount" "told" y]=some (.lst [.bl true,.bl false,.bl false,.bl false,.bl false,.bl false,.bl false,.bl false,.bl false]):=by
 have k0:xF "NoFloor" "NoCount"=false:=by decide
 have k1:xF "NoMore" "NoCount"=false:=by decide
 have k2:xF "NoPlace" "NoCount"=false:=by decide
 have k3:xF "NoPair" "NoCount"=false:=by decide
 have k4:xF "NoWay" "NoCount"=false:=by decide
 have k5:xF "NoChange" "NoCount"=false:=by decide
 have k6:xF "NoCount" "NoCount"=true:=by decide
 have k7:xF "NoName" "NoCount"=false:=by decide
 have k8:xF "NoRow" "NoCount"=false:=by decide
 unfold jb eP
 simp[k0,k1,k2,k3,k4,k5,k6,k7,k8]
def OX (f w:T) (he:xx w=false) (h:wh w 0 1=false):pZ [f,w]=some (.tup [.zj,.err "NoCount" "told" w]):=by
 have h1:=Nn w 0 1 he
 rw[h] at h1
 have h2:oj [f,w]=some (.err "NoCount" "told" w):=by
  unfold oj jh
  generalize pJ=cc
  simp[h1]
 unfold pZ je
 simp[h2]
def OW (f w:T) (he:xx w=false) (hd:dep w<=60) (Bg:w≠.yE) (h:wh w 0 1=false):rR [f,w]=some (.bl true):=by
 have h1:=OX f w he h
 have h2:=N0 w
 have h3:=Vi
 have e:yb false w w=some (.bl true):=by unfold yb;rw[if_pos ⟨hd,hd⟩,kC];rfl
 have e2:∀ b:Bool,yb true (.bl b) (.bl b)=some (.bl false):=λ b=>by cases b <;> rfl
 have e3:yb true (.lst [.bl true,.bl false,.bl false,.bl false,.bl false,.bl false,.bl false,.bl false,.bl false]) (.lst [.bl true,.bl false,.bl false,.bl false,.bl false,.bl false,.bl false,.bl false,.bl false])=some (.bl false):=rfl
 have hs:ja [w,w]=some (.bl true):=by
  unfold ja eN
  cases w with
  | err _ _ _=>cases he
  | yE=>exact absurd rfl Bg
  | _=>simp[wC,e,e2]
 unfold rR jd
 generalize pH=cc at *
 cases w with
 | err _ _ _=>cases he
 | yE=>exact absurd rfl Bg
 | int i=>
  have hi:¬ (0<=i/\i<=1):=by simpa [wh] using h
  by_cases c:0<=i
  ·have c2:¬ i<=1:=λ z=>hi ⟨c,z⟩
   simp[wC,h1,h2,h3,hs,e3,c,c2]
  ·simp[wC,h1,h2,h3,hs,e3,c]
 | _=>simp[wC,h1,h2,h3,hs,e3]
def Ze {F:zD}(h:sH F) (st:T) (pu:Bool):rR [yS F st,.int (yQ pu)]=some (.bl true):=by
 obtain⟨G,m,a1,a2,_,_⟩:=NB h st pu
 have hl:((y9 G m).map (sr pu)).length=(F.os.map kt).length:=by rw[Au,Au,kl,a2.os]
 have w1:zq (yS F st) (.int 1)=some (.tup (F.os.map kt)):=rfl
 generalize yS F st=f at *
 generalize (y9 G m).map (sr pu)=L at *
 generalize F.os.map kt=O at *
 simp only[zq] at w1
 have h2:pZ [f,.int (yQ pu)]=some (.tup [.tup L,.zj]):=by
  unfold pZ je
  simp[a1]
 have e:yb false (.int (O.length:Int)) (.int (O.length:Int))=some (.bl true):=by unfold yb;rw[kC];rfl
 have i1:qk false .zj .zj=some (.bl true):=rfl
 unfold rR jd
 generalize pH=cc at *
 cases pu
 ·rw[show yQ false=0 from rfl] at *
  simp[wC,h2,w1,hl,e,i1]
 ·rw[show yQ true=1 from rfl] at *
  simp[wC,h2,w1,hl,e,i1]
noncomputable def w9:List T:=[.int 2,.int (-1),.int (10 ^ 40),.bl true,.bl false,.zj,.str "0",.str "a",.tup [.int 0],.lst [.int 1],.tup [.int 0,.int 1],.int 12]
def Ru:∀ w∈w9,xx w=false/\dep w<=60/\w≠.yE/\wh w 0 1=false:=by
 intro w hw
 simp only[w9,Ak,B_,or_false] at hw
 rcases hw with rfl | rfl | rfl | rfl | rfl | rfl | rfl | rfl | rfl | rfl | rfl | rfl <;> exact⟨rfl,by simp[dep,x8],nofun,by rfl⟩
def Qh (ns:List Int) {F:zD}(h:sH F) (st:T) (mo br:T) (k:Nat):
  ∃ J',yA [5,6] J'=[some (.im (wL ns)),some (.im mo),some (.im br),some (.im (yS F st)),some (.im (.lst w9)),none,none]
   /\ turn (zF 5) pN (.int (2+(k:Int))) [some (.im (wL ns)),some (.im mo),some (.im br),some (.im (yS F st)),some (.im (.lst w9)),none,none]=some (.nx J'):=by
 obtain⟨v,hv⟩:=ej ns (2+k)
 have hv':uJ [wL ns,.int (2+(k:Int))]=some (.int v):=by rw[<- hv];congr 3
 have d3:xM v 3:=⟨by decide,by decide⟩
 have n0:0<=v/3%12:=BG _ (by decide)
 have n1:v/3%12<12:=BF _ (by decide)
 obtain⟨w,hw,aw⟩:∃ w,w∈w9/\L2.zQ w9 (v/3%12)=some w:=by
  obtain⟨j,hj⟩:∃ j:Nat,(j:Int)=v/3%12:=⟨(v/3%12).toNat,by lia⟩
  have hl:j<w9.length:=by show j<12;lia
  exact⟨w9[j],C3 hl,by rw[<- hj];exact uG (by simp[hl])⟩
 obtain⟨o1,o2,o3,o4⟩:=Ru w hw
 have r0:=Ze h st false
 have r1:=Ze h st true
 have r2:=OW (yS F st) w o1 o2 o3 o4
 rw[show yQ false=0 from rfl] at r0
 rw[show yQ true=1 from rfl] at r1
 obtain⟨z,hz,az⟩:∃ z,rR [yS F st,z]=some (.bl true)/\L2.zQ [T.int 0,.int 1,w] (v%3)=some z:=by
  obtain c | c | c:v%3=0\/v%3=1\/v%3=2:=by lia
  ·rw[c];exact⟨_,r0,rfl⟩
  ·rw[c];exact⟨_,r1,rfl⟩
  ·rw[c];exact⟨_,r2,rfl⟩
 refine⟨[some (.im (wL ns)),some (.im mo),some (.im br),some (.im (yS F st)),some (.im (.lst w9)),some (.im (.int (2+(k:Int)))),some (.im (.int v))],rfl,?_⟩
 unfold turn pN
 generalize w9=O at *
 generalize uJ=fc at *
 generalize rR=fr at *
 generalize yS F st=fl at *
 generalize wL ns=sc at *
 generalize (2+(k:Int))=kk at *
 simp[hv',d3,aw,az,hz]
def Qi:∀ ns:List Int,ns.length<=63->qF [.lst (ns.map T.int)]=some (.bl true):=λ ns Bf=>by
 show qF [wL ns]=_
 obtain⟨v,hv⟩:=ej ns 0
 have hv':uJ [wL ns,.int 0]=some (.int v):=hv
 obtain⟨u,hu⟩:=ej ns 1
 have hu':uJ [wL ns,.int 1]=some (.int u):=hu
 obtain⟨most,zN,hs,hm,hb⟩:=Nu v
 obtain⟨F,st,f1,f2⟩:=Ny u most zN hm.1 hm.2 hb
 have f1':pY [.int u,.int most,.int zN]=some (yS F st):=f1
 obtain⟨n,hn,hnl⟩:∃ n:Nat,((n:Int)=if (if (20:Int)<ns.length then 20 else (ns.length:Int))>3 then (if (20:Int)<ns.length then 20 else (ns.length:Int)) else 3)/\n<=20:=by
  by_cases c:20<ns.length
  ·exact⟨20,by split <;> split <;> lia,by lia⟩
  ·by_cases c3:3<ns.length
   ·exact⟨ns.length,by split <;> split <;> lia,by lia⟩
   ·exact⟨3,by split <;> split <;> lia,by lia⟩
 have hr:=Vg 2 n (by decide) (by lia)
 rw[show ((2:Nat):Int)=2 from rfl,hn] at hr
 have hloop:=ak (is:=[5,6]) (g:=zF 5) (b:=pN) (λ k:Nat=>T.int (2+(k:Int))) (λ _=>false) (.bl false)
  [some (.im (wL ns)),some (.im (.int most)),some (.im (.int zN)),some (.im (yS F st)),some (.im (.lst w9)),none,none] (List.range (n-2))
  [some (.im (wL ns)),some (.im (.int most)),some (.im (.int zN)),some (.im (yS F st)),some (.im (.lst w9)),none,none] rfl λ k _=>by
   obtain⟨J',r1,r2⟩:=Qh ns f2 st (.int most) (.int zN) k
   exact⟨J',r1,by rw[if_neg (by decide)];exact r2⟩
 have Ex:(List.range (n-2)).any (λ _=>false)=false:=by simp
 rw[Ex,if_neg (by decide)] at hloop
 have hlen:uA [wL ns]=some (.int (ns.length:Int)):=by simp[wL]
 have p40:sL 10 40:=⟨by decide,by decide,by decide⟩
 have lo:[T.int 2,.int (-1),.int (10 ^ 40),.bl true,.bl false,.zj,.str "0",.str "a",.tup [.int 0],.lst [.int 1],.tup [.int 0,.int 1],.int 12]=w9:=rfl
 have ll:w9.length<=16777216:=by simp[w9]
 unfold qF eS
 generalize w9=O at *
 generalize pN=bb at *
 generalize uJ=fc at *
 generalize mO=fz at *
 generalize pY=fo at *
 generalize yS F st=fl at *
 generalize (List.range (n-2)).map (λ(k:Nat)=>T.int (2+(k:Int)))=RR at *
 generalize wL ns=sc at *
 generalize uA=le at *
 generalize oK=rr at *
 simp[-Int.reducePow,hv',hu',hs,f1',p40,lo,ll,hlen,hr,hloop]
end yt
namespace PySem.W.Fast
def tw10735571660432218966:=0
def te11828651182971663425:=0
def tw17526517738028551037:=0
def tw15881203502388687927:=0
def tw1437686513283544828:=0
def tw987604072241502838:=0
def tw8765983891477600452:=0
def tw5585215708424109080:=0
def tw6781554288666686481:=0
def tw11433304705945966824:=0
def tw3607696450854728747:=0
def tw3118164905664635194:=0
def tw7569993412625969817:=0
def tw189645775259991395:=0
def tw17190147425165478446:=0
def tw12262421857589288348:=0
def tw7873101679295202996:=0
def tw18224338806804596257:=0
def tw15317747774415354446:=0
def tw1096037236723282341:=0
def tw7796612231752889551:=0
def tw5970376992720799904:=0
def tw10996175322932420548:=0
def tw11039841456981417827:=0
def tw7978003024701776567:=0
def tw2883412930856940489:=0
def tw10668004818655800474:=0
def tw9325518552956765119:=0
def tw10521859174032801638:=0
def tw16468114635810357389:=0
def tw18400368927893660786:=0
def tw4651255186898805272:=0
def tw1954729298526517566:=0
def tw10129717556377770704:=0
def tw14139020504115422899:=0
def tw17407883792691671408:=0
def tw13677733690411315101:=0
def tw1894338579857955789:=0
def tw2281777539065091539:=0
def tw16441831099177782156:=0
def tw1414355748165361015:=0
def tw16263533769882026934:=0
def tw16178472859778434322:=0
def tw5528202065102130455:=0
def tw4851242089398718359:=0
def tw8604174641674656046:=0
def tw479108186403662441:=0
def tw5322985047113871424:=0
def tw5808414146805912115:=0
def tw472469909866642990:=0
def tw13141890621293615178:=0
def tw7274180744447709305:=0
def tw17984655699192638291:=0
def tw11565313432170133400:=0
def tw4140722972671634103:=0
def tw1078658484310177918:=0
def tw754840463137961629:=0
def tw5705229263305277748:=0
def tw5814219096433222085:=0
def tw15504050681295948932:=0
def tw12899772590171692824:=0
def tw4078025386130548839:=0
def tw16372803864702728946:=0
def tw13010130524728917272:=0
def tw4901638627623663530:=0
def tw12941853918096650547:=0
def tw14310463960029334153:=0
def tw3599604735479615654:=0
def tw13313032789861018482:=0
def tw9314655677746881829:=0
def tw3389544940297288477:=0
def tw12578596576442133659:=0
def tw2938221928664540641:=0
def tw11174625611248759966:=0
def tw226162336087297518:=0
def tw6838563045563466201:=0
def tw6635633928688825205:=0
def tw6948204203447254757:=0
def tw8692976936622432341:=0
def tw6092795465987900812:=0
def tw16013508649998982330:=0
def tw14427575137213206265:=0
def tw4979522467761873504:=0
def tw11195729567320016216:=0
def tw13093841333228204404:=0
def tw5114062941433181021:=0
def tw315102225631220350:=0
def tw7547470149173447018:=0
def tw13110648858546984385:=0
def tw16779657212471134563:=0
def tw17718363191411442463:=0
def tw3207648106803391373:=0
def tw11390013208415529226:=0
def tw99065969293778120:=0
def tw11898072625198505397:=0
def tw6618399285745037443:=0
def tw3945738512080110622:=0
def tw2162397981308031902:=0
def tw3560902285262225905:=0
def tw14175186618074331515:=0
def tw8134748878519813514:=0
def tw15473269144781854232:=0
def tw8609017336410881591:=0
def tw2900688950890139665:=0
def tw18212771342709086758:=0
def tw16972689420459639308:=0
def tw14943217846402950173:=0
def tw7345757660897357334:=0
def tw3710681982205436108:=0
def tw8285593730749517211:=0
def tw18023990216930221702:=0
def tw4079955679176588757:=0
def tw8096995840117569952:=0
def tw8698226766311212150:=0
def tw15096061141478026354:=0
def tw15512012241328235050:=0
def tw401974678682201066:=0
def tw2002016973380481348:=0
def tw323431459874797165:=0
def tw15502010562776226468:=0
def tw10729609050354796749:=0
def tw12256561541283045994:=0
def tw2635862508966586900:=0
def tw18437157929020453402:=0
def tw7148449458131163268:=0
def tw6355068382140129016:=0
def tw15759997810445092575:=0
def tw2149086976554878169:=0
def tw2849103579678181833:=0
def tw491953045890084037:=0
def tw11722111666296031730:=0
def tw5141144811622362566:=0
def tw11831403128806807436:=0
def tw2772403577260870732:=0
def tw4374111958978046931:=0
def tw9661053916097299358:=0
def tw3379227303914359177:=0
def tw2691756998648619746:=0
def tw499469118942222332:=0
def tw10416706807775768495:=0
def tw9588018705777770602:=0
def tw4490184805731298264:=0
def tw6054858680745761839:=0
def tw3721618529345144802:=0
def tw8952087557615773565:=0
def tw2486442379467398564:=0
def tw11540801465979072857:=0
def tw5124732563103625520:=0
def tw5874869030722590752:=0
def tw15062546194079939256:=0
def tw4962261493115650396:=0
def tw11036547943930870765:=0
def tw17789377748645886132:=0
def tw17750201106763428562:=0
def tw7945061363891797314:=0
def tw15694658691293195601:=0
def tw7945517039415862792:=0
def tw484601350321714203:=0
def tw428442158677463941:=0
def tw5530158292103287984:=0
def tw10997421252984750814:=0
def tw5608026566366428504:=0
def tw5856825054063946165:=0
def tw7211440168695974089:=0
def tw18253532746094941837:=0
def tw6170243221557764821:=0
def tw1221253661494771790:=0
def tw17712161421314647042:=0
def tw5774561406139099825:=0
def tw15499677423452364956:=0
def tw16598372341210354749:=0
def tw2489321915424190397:=0
def tw8009980089069478212:=0
def tw15518117293581741148:=0
def tw15044105820485395352:=0
def tw5778404240350238167:=0
def tw7875714047257658275:=0
def tw8951081264676085333:=0
def tw13933515635880931414:=0
def tw721026228606501627:=0
def tw10012538922204715201:=0
def tw7469351054473295703:=0
def tw16507970706914691116:=0
def tw17120237305499831445:=0
def tw11892868179261737964:=0
def tw10121213383097732091:=0
def tw3929028685982220286:=0
def tw4299898343570016657:=0
def tw12483139474720209694:=0
def tw2903740805753631640:=0
def tw710902302882077757:=0
def tw7972644502805520228:=0
def tw220975668933728473:=0
def tw4413463010292197199:=0
def tw14368207523054804081:=0
def tw2169841259055991277:=0
def tw4589657591570609356:=0
def tw17984822951006367388:=0
def tw6283929299765690348:=0
def tw18417403520834266335:=0
def tw17066428409188594233:=0
def tw7775554916165590306:=0
def tw13726903070033832163:=0
def tw7068700376946095234:=0
def tw7954753995906571477:=0
def tw1352160756463794878:=0
def tw5597313976828441184:=0
def tw6016113435181907646:=0
def tw14685303164114149012:=0
def tw15446047577417876517:=0
def tw3929732108902278614:=0
def tw3488545752468026574:=0
def tw14109448603132295092:=0
def tw7061623930750551951:=0
def tw4338092207401465824:=0
def tw770402913461049593:=0
def tw7164636540109163314:=0
def tw15810447430787035328:=0
def tw9597325769053883162:=0
def tw14995432068076230409:=0
def tw13645226636158812242:=0
def tw6138097750697423249:=0
def tw5423163889057915064:=0
def tw11449573060952736125:=0
def tw1906670484527474808:=0
def tw12711578906994008236:=0
def tw2774496312745846928:=0
def tw11723804396599596671:=0
def tw10683617803360443636:=0
def tw14132703431555737129:=0
def tw16981982313105476490:=0
def tw4453232335942050435:=0
def tw10793485402869412238:=0
def tw1954053895221510438:=0
def tw17164115625593105193:=0
def tw15670209844853277911:=0
def tw18207817940060681324:=0
def tw6112603245163537246:=0
def tw12896944659435384609:=0
def tw16780497374767085322:=0
def tw5414984535671095835:=0
def tw14324253775682307043:=0
def tw15328572383136994689:=0
def tw12253721871737074246:=0
def tw1384912695002123631:=0
def tw8402573016435290481:=0
def tw15630191419674936747:=0
def tw10039262441599539361:=0
def tw15986104000490879180:=0
def tw1890288876313424940:=0
def tw1112599029803303489:=0
def tw8848597047222722540:=0
def tw4124587915003838731:=0
def tw17141931438035443665:=0
def tw13562262707706729975:=0
def tw15486603566421644671:=0
def tw2153808158673587127:=0
def tw10359402642676072155:=0
def tw17988401731436622521:=0
def tw13433002196640819055:=0
def tw15244777714418015227:=0
def tw12645622397140958126:=0
def tw12407126454161879959:=0
def tw4762927292226455418:=0
def tw18191996417149839001:=0
def tw4076574793730235781:=0
def tw17351656386524508429:=0
def tw11006556523146479324:=0
def tw1215540181017048560:=0
def tw17467837263956233387:=0
def tw1178254863166596561:=0
def tw5013197045232579687:=0
def tw7181810509001530863:=0
def tw5645816842712410577:=0
def tw14270664451839452097:=0
def tw4721685972631415855:=0
def tw5174333045525409751:=0
def tw13903361959010537035:=0
def tw6595837207739501396:=0
def tw14007672233837208667:=0
def tw12051092484250744845:=0
def tw10016775503212982006:=0
def tw15080651704754824979:=0
def tw15393616107519979257:=0
def tw16103398948797533154:=0
def tw15031053078499733645:=0
def tw10479510489448585045:=0
def tw7103460322185951479:=0
def tw15447654646340142180:=0
def tw13642241974780014343:=0
def tw8378666067094732678:=0
def tw15363996707626845105:=0
def tw10310848285537409396:=0
def tw17690775470974821091:=0
def tw17372424039299991525:=0
def tw15906819731345530295:=0
def tw14816422231622502392:=0
def tw1418285427768713063:=0
def tw42359624007457228:=0
def tw3025486409755475341:=0
def tw13962151623816150291:=0
def tw5959330572729056327:=0
def tw8319107921340235773:=0
def tw6560434725897847832:=0
def tw7889837650389524355:=0
def tw15547940018079915442:=0
def tw10160651067472080316:=0
def tw1361033674399918012:=0
def tw402525131300434922:=0
def tw3043524877106485716:=0
def tw4147395807053421249:=0
def tw14357797677834802516:=0
def tw2023751776221272434:=0
def tw1731644676449303891:=0
def tw4675309128081763740:=0
def tw12917823224206375176:=0
def tw3620889535724181298:=0
def tw2244101914133843321:=0
def tw9602167893609725739:=0
def tw17194773328214884053:=0
def tw7792862091678849367:=0
def tw10874105329824511551:=0
def tw3006752642876219677:=0
def tw7359872526048489973:=0
def tw3419577659795897078:=0
def tw13667548669519334394:=0
def tw653626055507761249:=0
def tw7479357797340543512:=0
def tw4271215056637013415:=0
def tw9517499115718859941:=0
def tw7707041117792822485:=0
def tw13222570131361358872:=0
def tw12249846225496641458:=0
def tw1911885996179852594:=0
def tw12574661940099005263:=0
def tw2301910749772370476:=0
def tw1670695912520992812:=0
def tw7578807242533587201:=0
def tw5041697427971469143:=0
def tw15008483442114507912:=0
def tw3807910564931503522:=0
def tw14401763387997221985:=0
def tw9019681665189698748:=0
def tw17570661252405820018:=0
def tw16023234440556017379:=0
def tw10068591723272916155:=0
def tw2754931794712842053:=0
def tw16625679393265585394:=0
def tw8885861947663578043:=0
def tw12656482990353417400:=0
def tw11036243402892972972:=0
def tw12174515034729478807:=0
def tw17056027340932032074:=0
def tw14412727712811061877:=0
def tw15950299251794549203:=0
def tw50061215504569920:=0
def tw10689060865099647828:=0
def tw7543518175710029313:=0
def tw8786904233832928894:=0
def tw11795901110558593086:=0
def tw7208702272357275668:=0
def tw9363880108738730760:=0
def tw1847959988525789694:=0
def tw5598239047225064696:=0
def tw12565791451221903924:=0
def tw355415794456328908:=0
def tw11469618867883149860:=0
def tw7696061225510335916:=0
def tw1280121174326302460:=0
def tw12856162075180629796:=0
def tw10458603578634133779:=0
def tw15918615280035515613:=0
def tw4572684481280087434:=0
def tw15211236341393132853:=0
def tw13031162311989997311:=0
def tw5782034332586900691:=0
def tw9475937261340039726:=0
def tw14435641944573342594:=0
def tw9082865803065295639:=0
def tw3592427840141306512:=0
def tw7421162947214572646:=0
def tw83753686351292387:=0
def tw11435929854053133165:=0
def tw15357616930295062597:=0
def tw17145697569640582316:=0
def tw5046674185511403444:=0
def tw9991910563912622604:=0
def tw8445964362378992858:=0
end PySem.W.Fast
namespace yt
open PySem L2 L3 L5
open PyProof.Rows hiding St
def top (i:Nat):Stmt:=PySem.Challenge.pw_purseborder_k53_no_such_purse.main.body.getD i (.Pass ⟨0,0,0,0⟩)
abbrev jQ:Stmt:=top 13
abbrev jP:Stmt:=top 14
abbrev jC:Stmt:=top 15
abbrev jS:Stmt:=top 16
abbrev lE:Stmt:=top 17
abbrev jB:Stmt:=top 18
abbrev jX:Stmt:=top 20
abbrev jE:Stmt:=top 21
abbrev oE:Stmt:=top 22
abbrev jR:Stmt:=top 23
abbrev oG:Stmt:=top 25
abbrev jD:Stmt:=top 26
abbrev jW:Stmt:=top 27
abbrev jU:Stmt:=top 28
abbrev jV:Stmt:=top 29
abbrev oB:Stmt:=top 30
abbrev lG:Stmt:=top 31
abbrev lF:Stmt:=top 32
abbrev jT:Stmt:=top 34
abbrev jA:Stmt:=top 36
abbrev lI:Stmt:=top 37
abbrev lJ:Stmt:=top 38
abbrev jL:Stmt:=top 40
abbrev jG:Stmt:=top 41
abbrev jN:Stmt:=top 42
abbrev jF:Stmt:=top 43
abbrev jJ:Stmt:=top 44
abbrev jH:Stmt:=top 45
abbrev jK:Stmt:=top 46
abbrev jI:Stmt:=top 47
abbrev jM:Stmt:=top 48
abbrev lH:Stmt:=top 49
abbrev jO:Stmt:=top 50
abbrev gq:Stmt:=(Yc (top 4)).getD 0 (.Pass ⟨0,0,0,0⟩)
abbrev gr:Stmt:=(Yc (top 8)).getD 0 (.Pass ⟨0,0,0,0⟩)
def Q1:mI "told" gr:=⟨yo,⟨_,_,_,_,rfl,λ _=>rfl⟩,λ _ _ _ _ _ _ _ _=>wo λ _ _=>rfl⟩
def Q0:mI "place" gq:=⟨yo,⟨_,_,_,_,rfl,λ _=>rfl⟩,λ _ _ _ _ _ _ _ _=>wo λ _ _=>rfl⟩
def WW:zW ["thing"] ["thing"] (zu jQ):=yo
def WO:zW ["floor"] ["floor"] (zu jC):=yo
def W_:zW ["pair","other"] ["pair","other"] (zu jX):=yo
def j7:zW ["pairs","least","pair"] ["pairs"] (zu jE):=yo
def r_:zW ["brims","stall","pair","purse","pairs","given","got"] ["brims","stall","pair"] (zu jD):=yo
def WN:zW ["way","purse"] ["way","purse"] (zu jA):=yo
def WT:zW ["_law_script","_law_k"] ["_law_script","_law_k"] (zu jL):=yo
def sS:zW ["_law_cell","_law_count","_law_found","_law_number","_law_k"] ["_law_cell","_law_count"] (zu jG):=yo
def WU:zW ["_law_number","_law_most"] ["_law_number","_law_most"] (zu jN):=yo
def WR:zW ["_law_number"] ["_law_number"] (zu jH):=yo
def j9:zW ["_law_caught","_law_some"] ["_law_caught"] (zu jK):=yo
def WS:zW ["_law_one","_law_other"] ["_law_one","_law_other"] (zu jI):=yo
def WV:zW ["thing","least","most"] ["thing","least","most"] (zu jP):=yo
def qb:zW ["border","other","steps","lows","shared","first","side","second"] ["border","other"] (zu oE):=yo
def WX:zW ["border","other"] ["border","other"] (zu jR):=yo
def cy:zW ["brims","way","border","pairs"] ["brims","way","border"] (zu oG):=yo
def cx:zW ["floor","purse","ways"] ["floor","purse"] (zu lI):=yo
def WQ:zW ["_law_place","_law_many","_law_number","_law_size"] ["_law_place","_law_many","_law_number","_law_size"] (zu jF):=yo
def WY:zW ["floor","place"] ["floor","place"] (zu jS):=yo
def lB:zW ["borders","joined","border"] ["borders"] (zu jU):=yo
def lC:zW ["borders","joined","border"] ["borders"] (zu jV):=yo
def vR:zW ["_law_cell","_law_most","_law_brim","_law_xs","_law_many","_law_owners","_law_ways","_law_stalls","_law_place","_law_number","_law_size","_law_k","_law_brims"] ["_law_cell","_law_most","_law_brim"] (zu jJ):=yo
def WM:zW ["floor","place"] ["floor","place"] (zu lE):=yo
def cw:zW ["floor","place","stall"] ["floor","place"] (zu jB):=yo
def lD:zW ["floor","place","border","stall","pairs","pair"] ["floor","place","border"] (zu jW):=yo
def j6:zW ["floor","place","last","ways","ahead"] ["floor","place","last"] (zu oB):=yo
def j5:zW ["floor","last","fresh","following","place"] ["floor","last","fresh"] (zu lG):=yo
def qR:zW ["floor","told","fresh","last","following"] ["floor"] (zu lF):=yo
def WZ:zW ["floor"] ["floor"] (zu jT):=yo
def Va:zW ["floor","purse"] ["floor","purse"] (zu lJ):=yo
def oA:zW ["_law_floor_here","_law_purse","_law_found","_law_caught","e"] ["_law_floor_here","_law_purse"] (zu jM):=yo
def j8:zW ["_law_floor_here","_law_purse","_law_found","_law_caught"] ["_law_floor_here","_law_purse"] (zu lH):=yo
def qa:zW ["_law_script","_law_most","_law_brim","_law_floor_here","_law_odd","_law_k","_law_cell"] ["_law_script"] (zu jO):=yo
section
variable (P:Program)(w:World)(K:Ab)(mg:Str->Option Value)(base:Heap)
abbrev Xb:=FD P w K mg base "is_whole" 1 ["thing"] (zM zE oa)
abbrev e7:=FD P w K mg base "places_of" 1 ["floor"] (zM zE qE)
abbrev Xk:=FD P w K mg base "at_or_above" 1 ["pair","other"] (zM zE mX)
abbrev mZ:=FD P w K mg base "least_pairs" 1 ["pairs"] (zM zE sI)
abbrev YO:=FD P w K mg base "pairs_ahead_of_changes" 1 ["brims","stall","pair"] (zM zE mL)
abbrev YL:=FD P w K mg base "way_alone" 1 ["way","purse"] (zM zE pU)
abbrev YZ:=FD P w K mg base "_law_cell_at" 1 ["_law_script","_law_k"] (zM xJ uJ)
abbrev YT:=FD P w K mg base "_law_stirred" 1 ["_law_cell","_law_count"] (zM zE pX)
abbrev Xa:=FD P w K mg base "_law_amount" 1 ["_law_number","_law_most"] (zM zE p_)
abbrev YU:=FD P w K mg base "_law_sized" 1 ["_law_number"] (zM xJ mO)
abbrev YY:=FD P w K mg base "_law_flags" 1 ["_law_caught"] (zM zE jb)
abbrev YV:=FD P w K mg base "_law_same" 1 ["_law_one","_law_other"] (zM zE ja)
abbrev e9:=FD P w K mg base "is_whole_within" 2 ["thing","least","most"] (zM zE tD)
abbrev Xe:=FD P w K mg base "both" 2 ["border","other"] (zM zE mT)
abbrev Xd:=FD P w K mg base "either" 2 ["border","other"] (zM zE mR)
abbrev Xi:=FD P w K mg base "border_ahead_of_way" 2 ["brims","way","border"] (zM zE mW)
abbrev Xc:=FD P w K mg base "floor_alone" 2 ["floor","purse"] (zM zE mQ)
abbrev YS:=FD P w K mg base "_law_way" 2 ["_law_place","_law_many","_law_number","_law_size"] (zM zE rQ)
abbrev eA:=uK P w K mg base "check_place" 3 ["floor","place"] (zM zE mS)
abbrev Xg:=FD P w K mg base "border_of_either" 3 ["borders"] (zM xJ mU)
abbrev Xh:=FD P w K mg base "border_of_all" 3 ["borders"] (zM xJ mV)
abbrev YX:=FD P w K mg base "_law_floor" 3 ["_law_cell","_law_most","_law_brim"] (zM zE pY)
abbrev YK:=FD P w K mg base "ways_from" 4 ["floor","place"] (zM zE mK)
abbrev YM:=FD P w K mg base "stall_at" 4 ["floor","place"] (zM xJ qD)
abbrev Xj:=FD P w K mg base "border_ahead_of_changes" 5 ["floor","place","border"] (zM xJ oh)
abbrev YR:=FD P w K mg base "next_border" 6 ["floor","place","last"] (zM xJ mM)
abbrev YQ:=FD P w K mg base "next_round" 7 ["floor","last","fresh"] (zM zE pW)
abbrev YN:=FD P w K mg base "rounds" 8 ["floor"] (zM zE pV)
abbrev Xf:=FD P w K mg base "borders" 9 ["floor"] (zM xJ og)
abbrev Xl:=uK P w K mg base "alone" 10 ["floor","purse"] (zM zE oj)
abbrev Y_:=FD P w K mg base "_law_asked" 11 ["_law_floor_here","_law_purse"] (zM zE pZ)
abbrev YW:=FD P w K mg base "_law_right" 12 ["_law_floor_here","_law_purse"] (zM zE rR)
variable {K mg}(T:Bt mg)(U:Xm mg)
include T U
theorem SN (F:Fy K mg "is_whole" jQ):Xb P w K mg base:=
 yD (k:=0) F WW rfl (λ _ _ _ _ _ _=>sk λ _=>rfl) λ f Ad A outer s H E hr=>⟨_,
  (zH (yf (nj (lU T (za 0)) (lR (UD (lV T (za 0))))))),
  (by unfold jf;exact y8)⟩
theorem Si (F:Fy K mg "places_of" jC):e7 P w K mg base:=
 yD (k:=0) F WO rfl (λ _ _ _ _ _ _=>sk λ _=>rfl) λ f Ad A outer s H E hr=>⟨_,
  (zH (yf (qZ T.len (ze (zB (za 0) zh) zo)))),
  (by unfold eF;exact y8)⟩
theorem Ro (F:Fy K mg "at_or_above" jX):Xk P w K mg base:=
 yD (k:=0) F W_ rfl (λ _ _ _ _ _ _=>wo λ _ _=>rfl) λ f Ad A outer s H E hr=>⟨_,
  (zH (yf (nj (b5 (zB (za 0) zh) (zB (za 1) zh)) (lR (b5 (zB (za 0) zh) (zB (za 1) zh)))))),
  (by unfold da;exact y8)⟩
theorem Sv (F:Fy K mg "least_pairs" jE):mZ P w K mg base:=
 yD (k:=0) F j7 rfl (λ _ _ _ _ _ _=>sk λ _=>rfl) λ f Ad A outer s H E hr=>⟨_,
  (zy (z_ 1 j7.nd (xE zo))
  (zy (vu za7 rfl (wz (bw T.sorted (ze (za 0) zo))) (yy 2 j7.nd) (zH (wN (vJ.pt (i3 (qV (u7 (za 1))) (iz (bo hr (zB (za 2) zh) (zB (zB (za 1) (i6 zh)) zh))))) (zH (vv (uR (za 1) (za 2)))) wM)))
  (zH (yf (qY T.tuple (ze (za 1) zo)))))),
  (by unfold eK pL;exact y8)⟩
theorem Sj (F:Fy K mg "pairs_ahead_of_changes" jD):YO P w K mg base:=
 yD (k:=0) F r_ rfl (λ _ _ _ _ _ _=>qu λ _ _ _=>rfl) λ f Ad A outer s H E hr=>⟨_,
  (zy (z_ 3 r_.nd (zB (za 1) zh))
  (zy (z_ 4 r_.nd (xE zo))
  (zy (z_ 5 r_.nd (zB (za 2) (za 3)))
  (zy (z_ 6 r_.nd (zB (za 2) (sW zh (za 3))))
  (zy (bp za7 (Uy (za 5) (zB (za 0) (za 3))) (zy (vv (uR (za 4) (bz (uQ hr (za 3) zh) (y7 (ze (za 5) (ze (za 6) zo))) (y7 (ze (za 6) (ze (za 5) zo))))))
  (zy (z_ 5 r_.nd (xc (za 5) (zB (za 1) zh)))
  (zH (z_ 6 r_.nd (ng T.max (ze zh (ze (sW (za 6) (zB (za 1) zh)) zo))))))))
  (zH (yf (za 4)))))))),
  (by unfold eG rN;exact y8)⟩
theorem TY (F:Fy K mg "way_alone" jA):YL P w K mg base:=
 yD (k:=0) F WN rfl (λ _ _ _ _ _ _=>wo λ _ _=>rfl) λ f Ad A outer s H E hr=>⟨_,
  (zy (wN (uQ hr (za 1) zh) (zH (yf (y7 (ze (zB (za 0) zh) (ze (zB (za 0) zh) (ze (zB (za 0) zh) (ze zh zo))))))) wM)
  (zH (yf (y7 (ze (zB (za 0) zh) (ze (zB (za 0) zh) (ze zh (ze (zB (za 0) zh) zo)))))))),
  (by unfold jc;exact y8)⟩
theorem SG (F:Fy K mg "_law_cell_at" jL):YZ P w K mg base:=
 yD (k:=0) F WT rfl (λ _ _ _ _ _ _=>wo λ _ _=>rfl) λ f Ad A outer s H E hr=>⟨_,
  (zy (wN (bo hr (za 1) (qZ T.len (ze (za 0) zo))) (zH (yf (zB (za 0) (za 1)))) wM)
  (zH (yf zh))),
  (by unfold eQ;exact y8)⟩
theorem S7 (F:Fy K mg "_law_stirred" jG):YT P w K mg base:=
 yD (k:=0) F sS rfl (λ _ _ _ _ _ _=>wo λ _ _=>rfl) λ f Ad A outer s H E hr=>⟨_,
  (zy (z_ 2 sS.nd (xE zo))
  (zy (z_ 3 sS.nd (US U.abs (ze (nh (za 0) zh) zo)))
  (zy (wN (uQ hr (yK (za 0) zh) zh) (zy (vu za7 rfl (qX T.range (ze (za 1) zo)) (yy 4 sS.nd) (zy (vv (uR (za 2) (yK (za 3) (sX zh zh))))
  (zH (z_ 3 sS.nd (nh (za 3) (sX zh zh))))))
  (zH (yf (za 2)))) wM)
  (zy (z_ 3 sS.nd (xc (yK (za 3) (xc (sX zh zh) zh)) zh))
  (zy (vu za7 rfl (qX T.range (ze (za 1) zo)) (yy 4 sS.nd) (zy (z_ 3 sS.nd (yK (xc (xc (i7 (za 3) zh) (nh (za 3) (sX zh zh))) (i7 zh (za 4))) (xc (sX zh zh) zh)))
  (zH (vv (uR (za 2) (nh (i7 (za 3) (xc (nh (za 3) (sX zh zh)) zh)) (sX zh zh)))))))
  (zH (yf (za 2)))))))),
  (tT (bI 2 (bN bK))
  (tT (ny 3 ((bR Zj (lY ((ph (vx 0) ((yU _)).fr)).fr lX))).fe)
  (tT (bH (bM (w6 Zi ((n4 (vx 0) ((yU _)).fr)).fr ((yU _)).fr).fr) (tT (iJ (iL (b:=true) (lY (vx 1) lX)) (iM 4) (tT (iK 2 ((n4 (vx 3) ((rg ((yU _)).fr ((yU _)).fr)).fr)).fe)
  (ny 3 ((ph (vx 3) ((rg ((yU _)).fr ((yU _)).fr)).fr)).fe)))
  (nv 2)) bF)
  (tT (ny 3 ((w6 good_add ((n4 (vx 3) ((w6 good_add ((rg ((yU _)).fr ((yU _)).fr)).fr ((yU _)).fr)).fr)).fr ((yU _)).fr)).fe)
  (tT (iJ (iL (b:=true) (lY (vx 1) lX)) (iM 4) (tT (ny 3 ((n4 ((w6 good_add ((w6 good_add ((lZ (vx 3) ((yU _)).fr)).fr ((ph (vx 3) ((rg ((yU _)).fr ((yU _)).fr)).fr)).fr)).fr ((lZ ((yU _)).fr (vx 4))).fr)).fr ((w6 good_add ((rg ((yU _)).fr ((yU _)).fr)).fr ((yU _)).fr)).fr)).fe)
  (iK 2 ((ph ((lZ (vx 3) ((w6 good_add ((ph (vx 3) ((rg ((yU _)).fr ((yU _)).fr)).fr)).fr ((yU _)).fr)).fr)).fr ((rg ((yU _)).fr ((yU _)).fr)).fr)).fe)))
  (nv 2))))))⟩
theorem SJ (F:Fy K mg "_law_amount" jN):Xa P w K mg base:=
 yD (k:=0) F WU rfl (λ _ _ _ _ _ _=>wo λ _ _=>rfl) λ f Ad A outer s H E hr=>⟨_,
  (zH (yf (lT T.min (ze zh (ze (xc (sW (yK (yK (za 0) zh) (xc (lS zh (za 1)) zh)) (za 1)) (yK (vw (za 0) zh) zh)) zo))))),
  (by unfold eR;exact y8)⟩
theorem S8 (F:Fy K mg "_law_sized" jH):YU P w K mg base:=
 yD (k:=0) F WR rfl (λ _ _ _ _ _ _=>sk λ _=>rfl) λ f Ad A outer s H E hr=>⟨_,
  (zH (yf (zB (xE (ze (y7 (ze zh (ze zh zo))) (ze (y7 (ze zh (ze zh zo))) (ze (y7 (ze zh (ze zh zo))) (ze (y7 (ze zh (ze zh zo))) (ze (y7 (ze zh (ze zh zo))) (ze (y7 (ze zh (ze zh zo))) (ze (y7 (ze zh (ze zh zo))) (ze (y7 (ze zh (ze zh zo))) (ze (y7 (ze zh (ze zh zo))) (ze (y7 (ze zh (ze zh zo))) zo))))))))))) (yK (za 0) zh)))),
  (by unfold eM;exact y8)⟩
theorem SE (F:Fy K mg "_law_flags" jK) (o_NoChange:Og K mg "NoChange") (o_NoCount:Og K mg "NoCount") (o_NoFloor:Og K mg "NoFloor") (o_NoMore:Og K mg "NoMore") (o_NoName:Og K mg "NoName") (o_NoPair:Og K mg "NoPair") (o_NoPlace:Og K mg "NoPlace") (o_NoRow:Og K mg "NoRow") (o_NoWay:Og K mg "NoWay"):YY P w K mg base:=
 yD (k:=0) F j9 rfl (λ _ _ _ _ _ _=>sk λ _=>rfl) λ f Ad A outer s H E hr=>⟨_,
  (zy (z_ 1 j9.nd (xE (ze (tR o_NoCount T (za 0)) (ze (tR o_NoChange T (za 0)) (ze (tR o_NoFloor T (za 0)) zo)))))
  (zy (z_ 1 j9.nd (xc (za 1) (xE (ze (tR o_NoMore T (za 0)) (ze (tR o_NoName T (za 0)) (ze (tR o_NoPair T (za 0)) zo))))))
  (zH (yf (xc (za 1) (xE (ze (tR o_NoPlace T (za 0)) (ze (tR o_NoRow T (za 0)) (ze (tR o_NoWay T (za 0)) zo))))))))),
  (by unfold eP;exact y8)⟩
theorem S9 (F:Fy K mg "_law_same" jI):YV P w K mg base:=
 yD (k:=0) F WS rfl (λ _ _ _ _ _ _=>wo λ _ _=>rfl) λ f Ad A outer s H E hr=>⟨_,
  (zy (wN (vJ.pt (i3 (lO hr (lV T (za 0)) (lV T (za 1))) (iz (lO hr (lU T (za 0)) (lU T (za 1)))))) (zH (yf q_)) wM)
  (zH (yf (iC hr (za 0) (za 1))))),
  (by unfold eN;exact y8)⟩
theorem SM (F:Fy K mg "is_whole_within" jP) (G_is_whole:Xb P w K mg base):e9 P w K mg base:=
 yD (k:=1) F WV rfl (λ _ _ _ _ _ _=>qu λ _ _ _=>rfl) λ f Ad A outer s H E hr=>⟨_,
  (zH (yf (nj (ya G_is_whole hr (ze (za 0) zo)) (lR (UO nr nr fit_le fit_le xl.mo xl.mo (za 1) (za 0) (za 2)))))),
  (by unfold lg;exact y8)⟩
theorem Rg (F:Fy K mg "both" oE) (G_least_pairs:mZ P w K mg base):Xe P w K mg base:=
 yD (k:=1) F qb rfl (λ _ _ _ _ _ _=>wo λ _ _=>rfl) λ f Ad A outer s H E hr=>⟨_,
  (zy (z_ 2 qb.nd (xc (s_ (N':=["pair"]) (pick:=[none]) (uk (N:=["border","other","steps","lows","shared","first","side","second"]) (esc:=zu oE)) rfl (wz (za 0)) (λ _ _ _ _ _=>(yy 0 (vd ["pair"]))) (λ _ _ _ _ _=>sV) (λ _ _ _ _ _=>(y7 (ze (zB (za 0) zh) (ze zh (ze (zB (za 0) zh) zo)))))) (s_ (N':=["pair"]) (pick:=[none]) (uk (N:=["border","other","steps","lows","shared","first","side","second"]) (esc:=zu oE)) rfl (wz (za 1)) (λ _ _ _ _ _=>(yy 0 (vd ["pair"]))) (λ _ _ _ _ _=>sV) (λ _ _ _ _ _=>(y7 (ze (zB (za 0) zh) (ze zh (ze (zB (za 0) zh) zo))))))))
  (zy (z_ 3 qb.nd UM)
  (zy (z_ 4 qb.nd (xE zo))
  (zy (vu za7 rfl (wz (bw T.sorted (ze (za 2) zo))) (o_ (n:=3) (u9 (yy 5 qb.nd) (u9 (yy 6 qb.nd) (u9 (yy 7 qb.nd) oZ)))) (zy (U6 hr (za 3) (za 6) (lT T.min (ze (za 7) (ze (UN hr (za 3) (za 6) (za 7)) zo))))
  (zH (wN (uQ hr (UL T.len (ze (za 3) zo)) zh) (zH (vv (uR (za 4) (y7 (ze (za 5) (ze (ng T.max (ze (b6 hr (za 3) zh) (ze (b6 hr (za 3) zh) zo))) zo)))))) wM))))
  (zH (yf (ya G_least_pairs hr (ze (za 4) zo)))))))),
  (by unfold eW mx fD fE;exact y8)⟩
theorem S_ (F:Fy K mg "either" jR) (G_least_pairs:mZ P w K mg base):Xd P w K mg base:=
 yD (k:=1) F WX rfl (λ _ _ _ _ _ _=>wo λ _ _=>rfl) λ f Ad A outer s H E hr=>⟨_,
  (zH (yf (ya G_least_pairs hr (ze (xc (i8 T.list (ze (za 0) zo)) (i8 T.list (ze (za 1) zo))) zo)))),
  (by unfold eU;exact y8)⟩
theorem Rl (F:Fy K mg "border_ahead_of_way" oG) (G_least_pairs:mZ P w K mg base) (G_at_or_above:Xk P w K mg base):Xi P w K mg base:=
 yD (k:=1) F cy rfl (λ _ _ _ _ _ _=>qu λ _ _ _=>rfl) λ f Ad A outer s H E hr=>⟨_,
  (zy (lP (i:=3) (N':=["pair","way"]) (pick:=[none,some 1]) (uk (N:=["brims","way","border","pairs"]) (esc:=zu oG)) rfl (wz (za 2)) (λ _ _ _ _ _=>(yy 0 (vd ["pair","way"]))) (λ _ _ _ _ _=>sV) (λ _ _ _ _ _=>(y7 (ze (ng T.max (ze zh (ze (sW (zB (za 0) zh) (zB (za 1) zh)) zo))) (ze (ng T.max (ze zh (ze (sW (zB (za 0) zh) (zB (za 1) zh)) zo))) zo)))) cy.nd rfl (by first | exact Or.inl rfl | exact Or.inr rfl))
  (zH (yf (ya G_least_pairs hr (ze (s_ (N':=["pair","brims"]) (pick:=[none,some 0]) (uk (N:=["brims","way","border","pairs"]) (esc:=zu oG)) rfl (wz (za 3)) (λ _ _ _ _ _=>(yy 0 (vd ["pair","brims"]))) (λ _ _ _ _ _=>lQ (u7 (ya G_at_or_above hr (ze (za 1) (ze (za 0) zo))))) (λ _ _ _ _ _=>(za 0))) zo))))),
  (by unfold e_ mf mm;exact y8)⟩
theorem SV (F:Fy K mg "floor_alone" lI) (G_way_alone:YL P w K mg base):Xc P w K mg base:=
 yD (k:=1) F cx rfl (λ _ _ _ _ _ _=>wo λ _ _=>rfl) λ f Ad A outer s H E hr=>⟨_,
  (zy (z_ 2 cx.nd (i5 hr T.sorted U.set (ze (s_ (N':=["way","purse"]) (pick:=[none,some 1]) (uk (N:=["floor","purse","ways"]) (esc:=zu lI)) rfl (wz (zB (za 0) zh)) (λ _ _ _ _ _=>(yy 0 (vd ["way","purse"]))) (λ _ _ _ _ _=>sV) (λ _ _ _ _ _=>(ya G_way_alone hr (ze (za 0) (ze (za 1) zo))))) zo)))
  (zH (yf (y7 (ze (zB (za 0) zh) (ze (zB (za 0) zh) (ze (qY T.tuple (ze (za 2) zo)) (ze (y7 zo) zo)))))))),
  (by unfold eT ml;exact y8)⟩
theorem Sz (F:Fy K mg "_law_way" jF) (G_law_amount:Xa P w K mg base):YS P w K mg base:=
 yD (k:=1) F WQ rfl (λ _ _ _ _ _ _=>Na λ _ _ _ _=>rfl) λ f Ad A outer s H E hr=>⟨_,
  (zH (yf (y7 (ze (za 0) (ze (yK (yK (za 2) zh) (za 1)) (ze (ya G_law_amount hr (ze (yK (vw (za 2) zh) zh) (ze (za 3) zo))) (ze (ya G_law_amount hr (ze (yK (vw (za 2) zh) zh) (ze (za 3) zo))) zo))))))),
  (by unfold eL;exact y8)⟩
theorem Rc (F:Fy K mg "check_place" jS) (i_NoPlace:mJ K mg "NoPlace" "place" gq) (G_is_whole_within:e9 P w K mg base) (G_places_of:e7 P w K mg base):eA P w K mg base:=
 Zw (k:=2) F WY rfl (λ _ _ _ _ _ _=>wo λ _ _=>rfl) λ f Ad A outer s H E hr=>⟨_,
  (oY (bh (qV (u7 (ya G_is_whole_within hr (ze (za 1) (ze zh (ze (sW (ya G_places_of hr (ze (za 0) zo)) zh) zo)))))) (oY (bf i_NoPlace Q0 hr (za 1))) bg)),
  (by unfold eV;exact y8)⟩
theorem Ri (F:Fy K mg "border_of_either" jU) (G_either:Xd P w K mg base):Xg P w K mg base:=
 yD (k:=2) F lB rfl (λ _ _ _ _ _ _=>sk λ _=>rfl) λ f Ad A outer s H E hr=>⟨_,
  (zy (z_ 1 lB.nd (y7 zo))
  (zy (vu za7 rfl (wz (za 0)) (yy 2 lB.nd) (zH (z_ 1 lB.nd (ya G_either hr (ze (za 1) (ze (za 2) zo))))))
  (zH (yf (za 1))))),
  (by unfold eY my;exact y8)⟩
theorem Rj (F:Fy K mg "border_of_all" jV) (G_both:Xe P w K mg base):Xh P w K mg base:=
 yD (k:=2) F lC rfl (λ _ _ _ _ _ _=>sk λ _=>rfl) λ f Ad A outer s H E hr=>⟨_,
  (zy (z_ 1 lC.nd (y7 (ze (y7 (ze zh (ze zh zo))) zo)))
  (zy (vu za7 rfl (wz (za 0)) (yy 2 lC.nd) (zH (z_ 1 lC.nd (ya G_both hr (ze (za 1) (ze (za 2) zo))))))
  (zH (yf (za 1))))),
  (by unfold eZ mz;exact y8)⟩
theorem SD (F:Fy K mg "_law_floor" jJ) (G_law_stirred:YT P w K mg base) (G_law_way:YS P w K mg base):YX P w K mg base:=
 yD (k:=2) F vR rfl (λ _ _ _ _ _ _=>qu λ _ _ _=>rfl) λ f Ad A outer s H E hr=>⟨_,
  (zy (z_ 3 vR.nd (ya G_law_stirred hr (ze (za 0) (ze zh zo))))
  (zy (z_ 4 vR.nd (xc zh (yK (zB (za 3) zh) (za 1))))
  (zy (z_ 5 vR.nd (xE zo))
  (zy (z_ 6 vR.nd (xE zo))
  (zy (z_ 7 vR.nd (xE zo))
  (zy (vu za7 rfl (qX T.range (ze (za 4) zo)) (yy 8 vR.nd) (zy (z_ 9 vR.nd (zB (za 3) (xc zh (lS zh (za 8)))))
  (zy (vv (uR (za 5) (zB (xE (ze nc (ze nc zo))) (yK (za 9) zh))))
  (zy (z_ 10 vR.nd (zB (xE (ze zh (ze zh (ze zh (ze zh zo))))) (yK (vw (za 9) zh) zh)))
  (zy (vu za7 rfl (qX T.range (ze (xc zh (yK (vw (za 9) zh) zh)) zo)) (yy 11 vR.nd) (zH (vv (uR (za 6) (ya G_law_way hr (ze (za 8) (ze (za 4) (ze (zB (za 3) (xc (xc zh (lS zh (za 8))) (za 11))) (ze (za 10) zo)))))))))
  (zH (wN (vJ.pt (i4 (uQ hr (zB (za 5) (za 8)) nc) (bj (uQ hr (yK (vw (za 9) zh) zh) zh)))) (zH (vv (uR (za 7) (y7 (ze (za 8) (ze (yK (vw (za 9) zh) zh) (ze (xc zh (yK (vw (za 9) zh) zh)) (ze (yK (vw (za 9) zh) zh) zo)))))))) wM)))))))
  (zy (wN (uQ hr (yK (vw (zB (za 3) zh) zh) zh) zh) (zH (vu za7 rfl (qX T.range (ze (lT T.min (ze zh (ze (sW zh (qZ T.len (ze (za 6) zo))) zo))) zo)) (yy 11 vR.nd) (zH (vv (uR (za 6) (ya G_law_way hr (ze (yK (yK (vw (zB (za 3) zh) zh) zh) (za 4)) (ze (za 4) (ze (zB (za 3) (xc zh (za 11))) (ze zh zo)))))))))) wM)
  (zy (z_ 12 vR.nd (y7 (ze (yK (zB (za 3) zh) (xc (za 2) zh)) (ze (yK (vw (zB (za 3) zh) zh) (xc (za 2) zh)) zo))))
  (zH (yf (y7 (ze (za 12) (ze (qY T.tuple (ze (za 5) zo)) (ze (qY T.tuple (ze (i5 hr T.sorted U.set (ze (za 6) zo)) zo)) (ze (qY T.tuple (ze (za 7) zo)) zo))))))))))))))),
  (by unfold eO mq qt mv;exact y8)⟩
theorem TX (F:Fy K mg "ways_from" lE) (G_check_place:eA P w K mg base):YK P w K mg base:=
 yD (k:=3) F WM rfl (λ _ _ _ _ _ _=>wo λ _ _=>rfl) λ f Ad A outer s H E hr=>⟨_,
  (zy (vv (ya (uK.no G_check_place) hr (ze (za 0) (ze (za 1) zo))))
  (zH (yf (s_ (N':=["number","way","place"]) (pick:=[none,none,some 1]) (uk (N:=["floor","place"]) (esc:=zu lE)) rfl (bu U.enumerate (ze (zB (za 0) zh) zo)) (λ _ _ _ _ _=>(o_ (n:=2) (u9 (yy 0 (vd ["number","way","place"])) (u9 (yy 1 (vd ["number","way","place"])) oZ)))) (λ _ _ _ _ _=>lQ (uQ hr (zB (za 1) zh) (za 2))) (λ _ _ _ _ _=>(za 0)))))),
  (by unfold eC mh;exact y8)⟩
theorem Sf (F:Fy K mg "stall_at" jB) (G_check_place:eA P w K mg base):YM P w K mg base:=
 yD (k:=3) F cw rfl (λ _ _ _ _ _ _=>wo λ _ _=>rfl) λ f Ad A outer s H E hr=>⟨_,
  (zy (vv (ya (uK.no G_check_place) hr (ze (za 0) (ze (za 1) zo))))
  (zy (vu za7 rfl (wz (zB (za 0) zh)) (yy 2 cw.nd) (zH (wN (uQ hr (zB (za 2) zh) (za 1)) (zH (yf (za 2))) wM)))
  (zH (yf qd)))),
  (by unfold eD pK;exact y8)⟩
theorem Rm (F:Fy K mg "border_ahead_of_changes" jW) (G_stall_at:YM P w K mg base) (G_least_pairs:mZ P w K mg base) (G_pairs_ahead_of_changes:YO P w K mg base):Xj P w K mg base:=
 yD (k:=4) F lD rfl (λ _ _ _ _ _ _=>qu λ _ _ _=>rfl) λ f Ad A outer s H E hr=>⟨_,
  (zy (z_ 3 lD.nd (ya G_stall_at hr (ze (za 0) (ze (za 1) zo))))
  (zy (wN (Uz (za 3) qd) (zH (yf (za 2))) wM)
  (zy (z_ 4 lD.nd (xE zo))
  (zy (vu za7 rfl (wz (za 2)) (yy 5 lD.nd) (zH (vv (UE (za 4) (ya G_pairs_ahead_of_changes hr (ze (zB (za 0) zh) (ze (za 3) (ze (za 5) zo))))))))
  (zH (yf (ya G_least_pairs hr (ze (za 4) zo)))))))),
  (by unfold jg m4;exact y8)⟩
theorem Ss {u_KEEPER:Value}(F:Fy K mg "next_border" oB) (g_KEEPER:mg "KEEPER"=some u_KEEPER) (r_KEEPER:L2.RelV (.str "keeper") u_KEEPER) (G_border_of_all:Xh P w K mg base) (G_border_ahead_of_way:Xi P w K mg base) (G_border_ahead_of_changes:Xj P w K mg base) (G_ways_from:YK P w K mg base) (G_border_of_either:Xg P w K mg base):YR P w K mg base:=
 yD (k:=5) F j6 rfl (λ _ _ _ _ _ _=>qu λ _ _ _=>rfl) λ f Ad A outer s H E hr=>⟨_,
  (zy (lP (i:=3) (N':=["number","floor"]) (pick:=[none,some 0]) (uk (N:=["floor","place","last","ways","ahead"]) (esc:=zu oB)) rfl (wz (ya G_ways_from hr (ze (za 0) (ze (za 1) zo)))) (λ _ _ _ _ _=>(yy 0 (vd ["number","floor"]))) (λ _ _ _ _ _=>sV) (λ _ _ _ _ _=>(zB (zB (za 1) zh) (za 0))) j6.nd rfl (by first | exact Or.inl rfl | exact Or.inr rfl))
  (zy (lP (i:=4) (N':=["way","floor","last"]) (pick:=[none,some 0,some 2]) (uk (N:=["floor","place","last","ways","ahead"]) (esc:=zu oB)) rfl (wz (za 3)) (λ _ _ _ _ _=>(yy 0 (vd ["way","floor","last"]))) (λ _ _ _ _ _=>sV) (λ _ _ _ _ _=>(ya G_border_ahead_of_way hr (ze (zB (za 1) zh) (ze (za 0) (ze (zB (za 2) (zB (za 0) zh)) zo))))) j6.nd rfl (by first | exact Or.inl rfl | exact Or.inr rfl))
  (zy (wN (uQ hr (zB (zB (za 0) zh) (za 1)) (UI g_KEEPER r_KEEPER)) (zH (yf (ya G_border_ahead_of_changes hr (ze (za 0) (ze (za 1) (ze (ya G_border_of_either hr (ze (za 4) zo)) zo)))))) wM)
  (zH (yf (ya G_border_of_all hr (ze (za 4) zo))))))),
  (by unfold eJ me mj;exact y8)⟩
theorem Sq (F:Fy K mg "next_round" lG) (G_next_border:YR P w K mg base):YQ P w K mg base:=
 yD (k:=6) F j5 rfl (λ _ _ _ _ _ _=>qu λ _ _ _=>rfl) λ f Ad A outer s H E hr=>⟨_,
  (zy (z_ 3 j5.nd (i8 T.list (ze (za 1) zo)))
  (zy (vu za7 rfl (wz (i5 hr T.sorted U.set (ze (s_ (N':=["way","fresh"]) (pick:=[none,some 2]) (uk (N:=["floor","last","fresh","following","place"]) (esc:=zu lG)) rfl (wz (zB (za 0) zh)) (λ _ _ _ _ _=>(yy 0 (vd ["way","fresh"]))) (λ _ _ _ _ _=>lQ (U0 hr (zB (za 0) zh) (za 1))) (λ _ _ _ _ _=>(zB (za 0) zh))) zo))) (yy 4 j5.nd) (zH (U5 (za 3) (za 4) (ya G_next_border hr (ze (za 0) (ze (za 4) (ze (za 1) zo)))))))
  (zH (yf (za 3))))),
  (by unfold eI mr mi;exact y8)⟩
theorem Sg (F:Fy K mg "rounds" lF) (G_next_round:YQ P w K mg base) (G_places_of:e7 P w K mg base):YN P w K mg base:=
 yD (k:=7) F qR rfl (λ _ _ _ _ _ _=>sk λ _=>rfl) λ f Ad A outer s H E hr=>⟨_,
  (zy (z_ 1 qR.nd (xE (ze (lS (xE (ze (y7 (ze (y7 (ze zh (ze zh zo))) zo)) zo)) (ya G_places_of hr (ze (za 0) zo))) zo)))
  (zy (z_ 2 qR.nd (UG T.list T.range (ze (ya G_places_of hr (ze (za 0) zo)) zo)))
  (zy (bp za7 (u7 (za 2)) (zy (z_ 3 qR.nd (zB (za 1) (i6 zh)))
  (zy (z_ 4 qR.nd (ya G_next_round hr (ze (za 0) (ze (za 3) (ze (za 2) zo)))))
  (zy (lP (i:=2) (N':=["place","border","last"]) (pick:=[none,none,some 3]) (uk (N:=["floor","told","fresh","last","following"]) (esc:=zu lF)) rfl (bu U.enumerate (ze (za 4) zo)) (λ _ _ _ _ _=>(o_ (n:=2) (u9 (yy 0 (vd ["place","border","last"])) (u9 (yy 1 (vd ["place","border","last"])) oZ)))) (λ _ _ _ _ _=>lQ (lO hr (za 1) (zB (za 2) (za 0)))) (λ _ _ _ _ _=>(za 0)) qR.nd rfl (by first | exact Or.inl rfl | exact Or.inr rfl))
  (zH (wN (u7 (za 2)) (zH (vv (uR (za 1) (za 4)))) wM))))))
  (zH (yf (za 1)))))),
  (by unfold eE uF pG;exact y8)⟩
theorem Rh (F:Fy K mg "borders" jT) (G_rounds:YN P w K mg base):Xf P w K mg base:=
 yD (k:=8) F WZ rfl (λ _ _ _ _ _ _=>sk λ _=>rfl) λ f Ad A outer s H E hr=>⟨_,
  (zH (yf (zB (ya G_rounds hr (ze (za 0) zo)) (i6 zh)))),
  (by unfold eX;exact y8)⟩
theorem Rq (F:Fy K mg "alone" lJ) (i_NoCount:mJ K mg "NoCount" "told" gr) (G_is_whole_within:e9 P w K mg base) (G_borders:Xf P w K mg base) (G_floor_alone:Xc P w K mg base):Xl P w K mg base:=
 Zw (k:=9) F Va rfl (λ _ _ _ _ _ _=>wo λ _ _=>rfl) λ f Ad A outer s H E hr=>⟨_,
  (Uw (bh (qV (u7 (ya G_is_whole_within hr (ze (za 1) (ze zh (ze zh zo)))))) (oY (bf i_NoCount Q1 hr (za 1))) bg)
  (oY (Uv (qY T.tuple (ze (s_ (N':=["border","purse"]) (pick:=[none,some 1]) (uk (N:=["floor","purse"]) (esc:=zu lJ)) rfl (wz (ya G_borders hr (ze (ya G_floor_alone hr (ze (za 0) (ze (za 1) zo))) zo))) (λ _ _ _ _ _=>(yy 0 (vd ["border","purse"]))) (λ _ _ _ _ _=>sV) (λ _ _ _ _ _=>(bz (u7 (za 0)) (zB (zB (za 0) zh) (za 1)) qd))) zo))))),
  (by unfold jh pJ;exact y8)⟩
theorem SH (F:Fy K mg "_law_asked" jM) (G_alone:Xl P w K mg base):Y_ P w K mg base:=
 yD (k:=10) F oA rfl (λ _ _ _ _ _ _=>wo λ _ _=>rfl) λ f Ad A outer s H E hr=>⟨_,
  (zy (z_ 2 oA.nd qd)
  (zy (z_ 3 oA.nd qd)
  (zy (U3 4 3 oA.nd (oY (Ux (i:=2) G_alone oA.nd hr (ze (za 0) (ze (za 1) zo)))))
  (zH (yf (y7 (ze (za 2) (ze (za 3) zo)))))))),
  (by unfold je;exact y8)⟩
theorem SA (F:Fy K mg "_law_right" lH) (hVE:mg "ValueError"=none) (G_law_asked:Y_ P w K mg base) (G_law_same:YV P w K mg base) (G_law_flags:YY P w K mg base):YW P w K mg base:=
 yD (k:=11) F j8 rfl (λ _ _ _ _ _ _=>wo λ _ _=>rfl) λ f Ad A outer s H E hr=>⟨_,
  (zy (bq (ya G_law_asked hr (ze (za 0) (ze (za 1) zo))) (o_ (n:=2) (u9 (yy 2 j8.nd) (u9 (yy 3 j8.nd) oZ))))
  (zy (wN (vJ.pt (i4 (u7 (lU T (za 1))) (i4 (qV (u7 (lV T (za 1)))) (bj (U1 nr nr fit_le fit_le xl.mo xl.mo zh (za 1) zh))))) (zH (yf (nj (i9 (za 3) qd) (nj (UH T (za 2)) (lR (iC hr (qZ T.len (ze (za 2) zo)) (qZ T.len (ze (zB (za 0) zh) zo)))))))) wM)
  (zy (wN (vJ.pt (i3 (qV (u7 (i9 hVE T (za 3)))) (iz (lO hr (ya G_law_flags hr (ze (za 3) zo)) (s_ (N':=["_law_k"]) (pick:=[none]) (uk (N:=["_law_floor_here","_law_purse","_law_found","_law_caught"]) (esc:=zu lH)) rfl (qX T.range (ze zh zo)) (λ _ _ _ _ _=>(yy 0 (vd ["_law_k"]))) (λ _ _ _ _ _=>sV) (λ _ _ _ _ _=>(iC hr (za 0) zh))))))) (zH (yf q_)) wM)
  (zH (yf (ya G_law_same hr (ze (UJ (za 3)) (ze (za 1) zo)))))))),
  (by unfold jd pH;exact y8)⟩
theorem SK {f:Addr}{fd:FuncData}(F:wY K "law" "law" jO f fd) (G_law_sized:YU P w K mg base) (G_law_floor:YX P w K mg base) (G_law_cell_at:YZ P w K mg base) (G_law_right:YW P w K mg base):xa P w K mg base xq 13 f fd ["_law_script"] (tH K (zM zE qF)):=
 Zr (k:=12) F qa rfl λ Ad A outer s H E hr=>⟨_,
  (zy (bq (ya G_law_sized hr (ze (ya G_law_cell_at hr (ze (za 0) (ze zh zo))) zo)) (o_ (n:=2) (u9 (yy 1 qa.nd) (u9 (yy 2 qa.nd) oZ))))
  (zy (z_ 3 qa.nd (ya G_law_floor hr (ze (ya G_law_cell_at hr (ze (za 0) (ze zh zo))) (ze (za 1) (ze (za 2) zo)))))
  (zy (z_ 4 qa.nd (xE (ze zh (ze (sW zh zh) (ze (sX zh zh) (ze q_ (ze q_ (ze qd (ze nc (ze nc (ze (y7 (ze zh zo)) (ze (xE (ze zh zo)) (ze (y7 (ze zh (ze zh zo))) (ze zh zo))))))))))))))
  (zy (vu za7 rfl (U7 T.range (ze zh (ze (ng T.max (ze zh (ze (lT T.min (ze (qZ T.len (ze (za 0) zo)) (ze zh zo))) zo))) zo))) (yy 5 qa.nd) (zy (z_ 6 qa.nd (ya G_law_cell_at hr (ze (za 0) (ze (za 5) zo))))
  (zH (wN (qV (u7 (ya G_law_right hr (ze (za 3) (ze (zB (xE (ze zh (ze zh (ze (zB (za 4) (yK (vw (za 6) zh) zh)) zo)))) (yK (za 6) zh)) zo))))) (zH (yf q_)) wM))))
  (zH (yf q_)))))),
  (by unfold eS pN;exact y8)⟩
end
def all_mk {l:PySem.W.OpenLaw}{w:World}{K:Ab}{h:Heap}{mg:Str->Option Value}{fa:Addr}(X:K.In h) (G:h.Ns mainGlobals mg) (Er:mg "law"=some (.ref fa))
  (h0:Fx K "is_whole" jQ) (h1:Fx K "is_whole_within" jP) (h2:Fx K "places_of" jC) (h3:Fx K "check_place" jS) (h4:Fx K "ways_from" lE) (h5:Fx K "stall_at" jB) (h6:Fx K "at_or_above" jX) (h7:Fx K "least_pairs" jE) (h8:Fx K "both" oE) (h9:Fx K "either" jR) (h10:Fx K "border_ahead_of_way" oG) (h11:Fx K "pairs_ahead_of_changes" jD) (h12:Fx K "border_ahead_of_changes" jW) (h13:Fx K "border_of_either" jU) (h14:Fx K "border_of_all" jV) (h15:Fx K "next_border" oB) (h16:Fx K "next_round" lG) (h17:Fx K "rounds" lF) (h18:Fx K "borders" jT) (h19:Fx K "way_alone" jA) (h20:Fx K "floor_alone" lI) (h21:Fx K "alone" lJ) (h22:Fx K "_law_cell_at" jL) (h23:Fx K "_law_stirred" jG) (h24:Fx K "_law_amount" jN) (h25:Fx K "_law_way" jF) (h26:Fx K "_law_floor" jJ) (h27:Fx K "_law_sized" jH) (h28:Fx K "_law_flags" jK) (h29:Fx K "_law_same" jI) (h30:Fx K "_law_asked" jM) (h31:Fx K "_law_right" lH) (h32:Fx K "law" jO)
  (g_KEEPER:Cn K "KEEPER" (.str "keeper"))
  (i_NoCount:Ei K "NoCount" "told" gr)
  (i_NoPlace:Ei K "NoPlace" "place" gq)
  (o_NoChange:Ec K "NoChange")
  (o_NoCount:Ec K "NoCount")
  (o_NoFloor:Ec K "NoFloor")
  (o_NoMore:Ec K "NoMore")
  (o_NoName:Ec K "NoName")
  (o_NoPair:Ec K "NoPair")
  (o_NoPlace:Ec K "NoPlace")
  (o_NoRow:Ec K "NoRow")
  (o_NoWay:Ec K "NoWay")
  (hVE:PySem.W.nsIn K mainGlobals "ValueError"=some none)
  (y0:PySem.W.nsIn K mainGlobals "set"=some none) (y1:PySem.W.nsIn K mainGlobals "zip"=some none) (y2:PySem.W.nsIn K mainGlobals "enumerate"=some none) (y3:PySem.W.nsIn K mainGlobals "abs"=some none)
  (z0:PySem.W.nsIn K mainGlobals "len"=some none) (z1:PySem.W.nsIn K mainGlobals "range"=some none) (z2:PySem.W.nsIn K mainGlobals "any"=some none) (z3:PySem.W.nsIn K mainGlobals "all"=some none) (z4:PySem.W.nsIn K mainGlobals "sorted"=some none) (z5:PySem.W.nsIn K mainGlobals "isinstance"=some none) (z6:PySem.W.nsIn K mainGlobals "bool"=some none) (z7:PySem.W.nsIn K mainGlobals "int"=some none) (z8:PySem.W.nsIn K mainGlobals "str"=some none) (z9:PySem.W.nsIn K mainGlobals "list"=some none) (z10:PySem.W.nsIn K mainGlobals "tuple"=some none) (z11:PySem.W.nsIn K mainGlobals "max"=some none) (z12:PySem.W.nsIn K mainGlobals "min"=some none):
  ∃ fd:FuncData,(∀ (s:Shared) (v:Value),BindsTo s fd ⟨[v],[]⟩ [("_law_script",v)])/\∀ base:Heap,K.In base->base.Ns mainGlobals mg->xa l.prog w K mg base xq 13 fa fd ["_law_script"] (tH K (zM zE qF)):=by
 have T:Bt mg:=⟨A3 X G z0,A3 X G z1,A3 X G z2,A3 X G z3,A3 X G z4,A3 X G z5,A3 X G z6,A3 X G z7,A3 X G z8,A3 X G z9,A3 X G z10,A3 X G z11,A3 X G z12⟩
 have U:Xm mg:=⟨⟨A3 X G y0,A3 X G y1,A3 X G y2⟩,A3 X G y3⟩
 obtain⟨u_KEEPER,g_KEEPER,r_KEEPER⟩:=g_KEEPER.mk X G
 replace i_NoCount:=i_NoCount.mk X G
 replace i_NoPlace:=i_NoPlace.mk X G
 replace o_NoChange:=o_NoChange.mk X G
 replace o_NoCount:=o_NoCount.mk X G
 replace o_NoFloor:=o_NoFloor.mk X G
 replace o_NoMore:=o_NoMore.mk X G
 replace o_NoName:=o_NoName.mk X G
 replace o_NoPair:=o_NoPair.mk X G
 replace o_NoPlace:=o_NoPlace.mk X G
 replace o_NoRow:=o_NoRow.mk X G
 replace o_NoWay:=o_NoWay.mk X G
 replace hVE:=A3 X G hVE
 obtain⟨fd,Fl,hb⟩:=h32.law X G Er λ _ _ _ _ _ _ _ _=>.of_eq rfl
 refine⟨fd,hb,λ base _ _=>?_⟩
 have G_is_whole:=SN l.prog w base T U (h0.mk X G)
 have G_places_of:=Si l.prog w base T U (h2.mk X G)
 have G_at_or_above:=Ro l.prog w base T U (h6.mk X G)
 have G_least_pairs:=Sv l.prog w base T U (h7.mk X G)
 have G_pairs_ahead_of_changes:=Sj l.prog w base T U (h11.mk X G)
 have G_way_alone:=TY l.prog w base T U (h19.mk X G)
 have G_law_cell_at:=SG l.prog w base T U (h22.mk X G)
 have G_law_stirred:=S7 l.prog w base T U (h23.mk X G)
 have G_law_amount:=SJ l.prog w base T U (h24.mk X G)
 have G_law_sized:=S8 l.prog w base T U (h27.mk X G)
 have G_law_flags:=SE l.prog w base T U (h28.mk X G) o_NoChange o_NoCount o_NoFloor o_NoMore o_NoName o_NoPair o_NoPlace o_NoRow o_NoWay
 have G_law_same:=S9 l.prog w base T U (h29.mk X G)
 have G_is_whole_within:=SM l.prog w base T U (h1.mk X G) G_is_whole
 have G_both:=Rg l.prog w base T U (h8.mk X G) G_least_pairs
 have G_either:=S_ l.prog w base T U (h9.mk X G) G_least_pairs
 have G_border_ahead_of_way:=Rl l.prog w base T U (h10.mk X G) G_least_pairs G_at_or_above
 have G_floor_alone:=SV l.prog w base T U (h20.mk X G) G_way_alone
 have G_law_way:=Sz l.prog w base T U (h25.mk X G) G_law_amount
 have G_check_place:=Rc l.prog w base T U (h3.mk X G) i_NoPlace G_is_whole_within G_places_of
 have G_border_of_either:=Ri l.prog w base T U (h13.mk X G) G_either
 have G_border_of_all:=Rj l.prog w base T U (h14.mk X G) G_both
 have G_law_floor:=SD l.prog w base T U (h26.mk X G) G_law_stirred G_law_way
 have G_ways_from:=TX l.prog w base T U (h4.mk X G) G_check_place
 have G_stall_at:=Sf l.prog w base T U (h5.mk X G) G_check_place
 have G_border_ahead_of_changes:=Rm l.prog w base T U (h12.mk X G) G_stall_at G_least_pairs G_pairs_ahead_of_changes
 have G_next_border:=Ss l.prog w base T U (h15.mk X G) g_KEEPER r_KEEPER G_border_of_all G_border_ahead_of_way G_border_ahead_of_changes G_ways_from G_border_of_either
 have G_next_round:=Sq l.prog w base T U (h16.mk X G) G_next_border
 have G_rounds:=Sg l.prog w base T U (h17.mk X G) G_next_round G_places_of
 have G_borders:=Rh l.prog w base T U (h18.mk X G) G_rounds
 have G_alone:=Rq l.prog w base T U (h21.mk X G) i_NoCount G_is_whole_within G_borders G_floor_alone
 have G_law_asked:=SH l.prog w base T U (h30.mk X G) G_alone
 have G_law_right:=SA l.prog w base T U (h31.mk X G) hVE G_law_asked G_law_same G_law_flags
 exact SK l.prog w base T U Fl G_law_sized G_law_floor G_law_cell_at G_law_right
def walk {l:PySem.W.OpenLaw}{q:Program}{loose:List Str}{XP:(Str->Option Value)->Heap->Prop}{YP:World->Heap->Prop}{d:DefRec}{K:Params->Ab}(hn:l.most=some 63) (Dj:d.params.defaults=[])
  (hY:∀ (w:World) (h:Heap),YP w h->(K w.params).In h)
  (F:∀ (w:World) (mg:Str->Option Value) (fa:Addr) (h:Heap),(K w.params).In h->h.Ns mainGlobals mg->mg d.name=some (.ref fa)->
   ∃ fd:FuncData,(∀ (s:Shared) (u:Value),BindsTo s fd ⟨[u],[]⟩ [("_law_script",u)])/\∀ base:Heap,(K w.params).In base->base.Ns mainGlobals mg->xa l.prog w (K w.params) mg base xq 13 fa fd ["_law_script"] (tH (K w.params) (zM zE qF))):
  PySem.W.WalkO q loose XP YP l.row.toRowW d [] (λ f vs=>PySem.call f vs):=
 L2.XF (n:=63) (k:=13) (x:="_law_script") (CX:=λ _=>xq) (sp:=λ w=>tH (K w.params) (zM zE qF)) hn (by decide) Dj ⟨rfl,by decide,by decide⟩ hY F (λ _ _ a ns hl hO hS=>Qk Qi hO hS hl) λ _ _ _ _ _ z=>z
end yt
open PySem PySem.W PyProof.Rows
set_option maxHeartbeats 0 in
theorem PySem.Challenge.cw_purseborder_k53_no_such_purse_holds : PySem.Challenge.rw_purseborder_k53_no_such_purse.Holds := by
 w_on;o_law;k_head;(case hw=>w_witness2)
 k_fill
 refine yt.walk (l:=PySem.Challenge.rw_purseborder_k53_no_such_purse) rfl rfl (λ w h Y=>PySem.W.kIn_of Y) ?F
 case F=>
  intro w mg fa h KX G C_
  refine' yt.all_mk KX G C_ ?_ ?_ ?_ ?_ ?_ ?_ ?_ ?_ ?_ ?_ ?_ ?_ ?_ ?_ ?_ ?_ ?_ ?_ ?_ ?_ ?_ ?_ ?_ ?_ ?_ ?_ ?_ ?_ ?_ ?_ ?_ ?_ ?_ ?_ ?_ ?_ ?_ ?_ ?_ ?_ ?_ ?_ ?_ ?_ ?_ ?_ ?_ ?_ ?_ ?_ ?_ ?_ ?_ ?_ ?_ ?_ ?_ ?_ ?_ ?_ ?_ ?_ ?_
  all_goals first | exact L3.Ei.i (by k_is) (by k_is) (by k_is) (by k_is) (by kernel_rfl) (by k_is) (by k_is) (by k_is) (by k_is) (by k_is) (by k_is) | exact L3.Ec.i (by k_is) (by k_is) (by k_is) (by k_is) (by kernel_rfl) | exact L5.Fx.i (by k_is) (by k_is) (by k_is) (by k_is) | k_is | exact L5.Cn.i (by k_is) (by exact⟨_,rfl⟩)
